import Derived.Test.YtakpoihdghihmaaGreatDoorU08
import Derived.Test.YtakpoihdghihmaaGreatDoorUShelf
set_option linter.all false
set_option maxRecDepth 99999
set_option maxHeartbeats 0
namespace Go.Proofs.YtakpoihdghihmaaGreatDoor
open Go.RowKit Go.Shelf
def EN(x y:Nat):Nat:=x*y/Z
def YH(x y:Nat):Nat:=x*y%Z
variable{over x y:Nat}
def IW(x y:Nat)(a:x<Z)(b:y<Z)(w:World):Calls Tryz.prog 197 #[.int .u64 (x:Nat),.int .u64 (y:Nat)] w λe c=>e=.returned (.tuple #[.int .u64 (EN x y:Nat),.int .u64 (YH x y:Nat)])/\c=w:=
 Tryz.bits_Mul64 x y a b w
def Rw(a:x<Z)(b:y<Z):x*y<=340282366920938463426481119284349108225:=by
 unfold Z at a b;have:=Ci (show x<=18446744073709551615 by omega) (show y<=18446744073709551615 by omega);omega
theorem Zw{r:Nat}(a:x<Z)(b:y<Z)(d:r<Z)(c:over<Z):
 EN x y+Xn (YH x y) over 0<Z/\EN x y+Xn (YH x y) over 0+Xn r (YQ (YH x y) over 0) 0<Z/\YQ r (YQ (YH x y) over 0) 0<Z/\
 YQ r (YQ (YH x y) over 0) 0+Z*(EN x y+Xn (YH x y) over 0+Xn r (YQ (YH x y) over 0) 0)=r+x*y+over:=by
 have hp:=Rw a b;grind[EN,YH,Xn,YQ,Z]
def XZ(xs bs:m4)(ro wd i over:Nat)(q:m4):Prop:=
 q.length=i/\DJ Z q/\over<Z/\val Z q+Z^i*over=val Z ((xs.drop ro).take i)+val Z (bs.take i)*wd
def XZ.start(xs bs:m4)(ro wd:Nat):XZ xs bs ro wd 0 0 []:=⟨J,DJ.nil _,by unfold Z;omega,by simp[val]⟩
theorem XZ.step{xs bs:m4}{ro wd i:Nat}{q:m4}(h:XZ xs bs ro wd i over q)(d a:Nat)(e:d<Z)(f:a<Z)(k:d+Z*a=xs[ro+i]?.getD 0+bs[i]?.getD 0*wd+over):XZ xs bs ro wd (i+1) a (q++[d]):=by
 obtain⟨b,c,g,j⟩:=h;refine⟨by simp;omega,c.append (DJ.cons e (DJ.nil _)),f,?_⟩;rw[YM,b,Js,Js,List.getElem?_drop,AU,Cm,Cp,Cp];grind
def Oq(c ro len cap:Nat)(xs:m4)(a:nJ)(cb:Nat)(bs:m4)(wd:Nat)(w:World)
(F:DO w c xs)(L:DJ Z xs)(ai:ro+len<=xs.length)(ad:len<=cap)(t:Row .u64 w (.slice a len cb) bs)(H:DJ Z bs)(u:∀p,a=some p->0<len->p.block≠c)(v:wd<Z):
 Calls Tryz.prog 167 #[.slice (some ⟨c,ro,none⟩) len cap,.slice a len cb,.int .u64 (wd:Nat)] w λe n=>
  ∃over q,e=.returned (.int .u64 (over:Nat))/\XZ xs bs ro wd len over q/\DO n c (DW xs ro len q)/\w.grownBy n (some c):=by
 obtain⟨hl,ae,U,ah,f⟩:=Ju t;have P:=Hid.o (p:=Hid (len=bs.length)) hl;have A:=Hid.o (p:=Hid (∀j,j<len->∃b m,a=some ⟨b,m,none⟩/\b<w.heap.size/\w.cell? ⟨b,m+j,none⟩=some (.int .u64 (bs[j]?.getD 0:Nat)))) f;have B:=Hid.o (p:=Hid (∀p,a=some p->0<len->p.block≠c)) u;clear f hl u t;go_enter Tryz.func167,Tryz.ntmps167
 go_wp2;go_loopw [7,15] (λov l wr=>∃(i over:Nat) (q:m4),l=.int .i64 i/\ov=.int .u64 (over:Nat)/\i<=len/\over<Z/\Hid (XZ xs bs ro wd i over q)/\DO wr c (DW xs ro i q)/\w.grownBy wr (some c)) (λ_ l _=>len-(intOf l).toNat)
 case atStart=>exact⟨0,0,[],J,J,Ap _,by unfold Z;omega,XZ.start _ _ _ _,by rw[mid_zero];exact F,YV _ _⟩
 case round=>
  obtain⟨i,over,q,rfl,rfl,X,K,k,g,hg⟩:=hrel;by_cases I:i<len
  . obtain⟨b,m,rfl,G,f⟩:=A.o i I;have C:=B.o _ J O;have hq:=k.o.1;have T:=(BQ (w:=w) (hg.block b G λe=>C (by cases e;rfl))).trans f;have V:wr.cell? ⟨c,ro+i,none⟩=some (.int .u64 (xs[ro+i]?.getD 0:Nat)):=by rw[<-IV hq O];exact g.cell (by rw[J4 hq O];omega)
    have W:=g.frozen (ro+i);have s:=H.getD uo i;have E:=L.getD uo (ro+i);obtain⟨M,y,N,z⟩:=Zw s v E K;have o:=Hid.o (p:=Hid _) (k.o.step _ _ N y z);have Q:=Hid.o (p:=Hid (q.length=i)) hq;have D:=Hid.o (p:=Hid (∀d,(DW xs ro i q).set (ro+i) d=DW xs ro (i+1) (q++[d]))) λd=>Iz hq O d;clear f hq z;generalize bs[i]?.getD 0=x at *;generalize xs[ro+i]?.getD 0=r at *;have R:=Mf (YH x wd) over;have S:=Mf r (YQ (YH x wd) over 0);unfold Z at M y;go_wp2_with(first
     |(go_at_call 197;refine(IW _ _ s v _).mono ?_;rintro e n ⟨rfl,rfl⟩))
    exact⟨⟨i+1,EN x wd+Xn (YH x wd) over 0+Xn r (YQ (YH x wd) over 0) 0,q++[YQ r (YQ (YH x wd) over 0) 0],DG,DG,O,o.o.2.2.1,o,by rw[<-D.o];exact g.set _ _,Jf hg (JH _ _ _ _)⟩,by simp[intOf];omega⟩
  . obtain rfl:i=len:=O
    go_wp2;go_ret;exact⟨over,q,J,k.o,g,hg⟩
