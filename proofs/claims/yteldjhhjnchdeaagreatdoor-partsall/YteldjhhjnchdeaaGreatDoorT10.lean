import Derived.Test.YteldjhhjnchdeaaGreatDoorT08
import Derived.Test.YteldjhhjnchdeaaGreatDoorTShelf
set_option linter.all false
set_option maxRecDepth 99999
set_option maxHeartbeats 0
namespace Go.Proofs.YteldjhhjnchdeaaGreatDoor
open Go.RowKit Go.Shelf
def XQ(x y:Nat):Nat:=x*y/Z
def Yw(x y:Nat):Nat:=x*y%Z
variable{over x y:Nat}
def Hw(x y:Nat)(a:x<Z)(b:y<Z)(w:World):Calls Tryz.prog 183 #[.int .u64 (x:Nat),.int .u64 (y:Nat)] w λe c=>e=.returned (.tuple #[.int .u64 (XQ x y:Nat),.int .u64 (Yw x y:Nat)])/\c=w:=
 Tryz.bits_Mul64 x y a b w
def QG(a:x<Z)(b:y<Z):x*y<=340282366920938463426481119284349108225:=by
 unfold Z at a b;have:=A9 (show x<=18446744073709551615 by omega) (show y<=18446744073709551615 by omega);omega
theorem WR{r:Nat}(a:x<Z)(b:y<Z)(d:r<Z)(c:over<Z):
 XQ x y+Y9 (Yw x y) over 0<Z/\XQ x y+Y9 (Yw x y) over 0+Y9 r (YF (Yw x y) over 0) 0<Z/\YF r (YF (Yw x y) over 0) 0<Z/\
 YF r (YF (Yw x y) over 0) 0+Z*(XQ x y+Y9 (Yw x y) over 0+Y9 r (YF (Yw x y) over 0) 0)=r+x*y+over:=by
 have hp:=QG a b;grind[XQ,Yw,Y9,YF,Z]
def XK(xs bs:kQ)(ro wd i over:Nat)(q:kQ):Prop:=
 q.length=i/\DM Z q/\over<Z/\val Z q+Z^i*over=val Z ((xs.drop ro).take i)+val Z (bs.take i)*wd
def XK.start(xs bs:kQ)(ro wd:Nat):XK xs bs ro wd 0 0 []:=⟨J,DM.nil _,by unfold Z;omega,by simp[val]⟩
theorem XK.step{xs bs:kQ}{ro wd i:Nat}{q:kQ}(h:XK xs bs ro wd i over q)(d a:Nat)(e:d<Z)(f:a<Z)(k:d+Z*a=xs[ro+i]?.getD 0+bs[i]?.getD 0*wd+over):XK xs bs ro wd (i+1) a (q++[d]):=by
 obtain⟨b,c,g,j⟩:=h;refine⟨by simp;omega,c.append (DM.cons e (DM.nil _)),f,?_⟩;rw[YA,b,Jr,Jr,List.getElem?_drop,AR,Cc,Ch,Ch];grind
def Nw(c ro len cap:Nat)(xs:kQ)(a:kR)(cb:Nat)(bs:kQ)(wd:Nat)(w:World)
(F:DP w c xs)(L:DM Z xs)(ai:ro+len<=xs.length)(ad:len<=cap)(t:Row .u64 w (.slice a len cb) bs)(H:DM Z bs)(u:∀p,a=some p->0<len->p.block≠c)(v:wd<Z):
 Calls Tryz.prog 163 #[.slice (some ⟨c,ro,none⟩) len cap,.slice a len cb,.int .u64 (wd:Nat)] w λe n=>
  ∃over q,e=.returned (.int .u64 (over:Nat))/\XK xs bs ro wd len over q/\DP n c (DY xs ro len q)/\w.grownBy n (some c):=by
 obtain⟨hl,ae,U,ah,f⟩:=Js t;have P:=Hid.o (p:=Hid (len=bs.length)) hl;have A:=Hid.o (p:=Hid (∀j,j<len->∃b m,a=some ⟨b,m,none⟩/\b<w.heap.size/\w.cell? ⟨b,m+j,none⟩=some (.int .u64 (bs[j]?.getD 0:Nat)))) f;have B:=Hid.o (p:=Hid (∀p,a=some p->0<len->p.block≠c)) u;clear f hl u t;go_enter Tryz.func163,Tryz.ntmps163
 go_wp2;go_loopw [7,15] (λov l wr=>∃(i over:Nat) (q:kQ),l=.int .i64 i/\ov=.int .u64 (over:Nat)/\i<=len/\over<Z/\Hid (XK xs bs ro wd i over q)/\DP wr c (DY xs ro i q)/\w.grownBy wr (some c)) (λ_ l _=>len-(intOf l).toNat)
 case atStart=>exact⟨0,0,[],J,J,As _,by unfold Z;omega,XK.start _ _ _ _,by rw[mid_zero];exact F,YK _ _⟩
 case round=>
  obtain⟨i,over,q,rfl,rfl,X,K,k,g,hg⟩:=hrel;by_cases I:i<len
  . obtain⟨b,m,rfl,G,f⟩:=A.o i I;have C:=B.o _ J O;have hq:=k.o.1;have T:=(BR (w:=w) (hg.block b G λe=>C (by cases e;rfl))).trans f;have V:wr.cell? ⟨c,ro+i,none⟩=some (.int .u64 (xs[ro+i]?.getD 0:Nat)):=by rw[<-Hv hq O];exact g.cell (by rw[J5 hq O];omega)
    have W:=g.frozen (ro+i);have s:=H.getD uo i;have E:=L.getD uo (ro+i);obtain⟨M,y,N,z⟩:=WR s v E K;have o:=Hid.o (p:=Hid _) (k.o.step _ _ N y z);have Q:=Hid.o (p:=Hid (q.length=i)) hq;have D:=Hid.o (p:=Hid (∀d,(DY xs ro i q).set (ro+i) d=DY xs ro (i+1) (q++[d]))) λd=>IX hq O d;clear f hq z;generalize bs[i]?.getD 0=x at *;generalize xs[ro+i]?.getD 0=r at *;have R:=Lu (Yw x wd) over;have S:=Lu r (YF (Yw x wd) over 0);unfold Z at M y;go_wp2_with(first
     |(go_at_call 183;refine(Hw _ _ s v _).mono ?_;rintro e n ⟨rfl,rfl⟩))
    exact⟨⟨i+1,XQ x wd+Y9 (Yw x wd) over 0+Y9 r (YF (Yw x wd) over 0) 0,q++[YF r (YF (Yw x wd) over 0) 0],DK,DK,O,o.o.2.2.1,o,by rw[<-D.o];exact g.set _ _,Jg hg (JE _ _ _ _)⟩,by simp[intOf];omega⟩
  . obtain rfl:i=len:=O
    go_wp2;go_ret;exact⟨over,q,J,k.o,g,hg⟩
