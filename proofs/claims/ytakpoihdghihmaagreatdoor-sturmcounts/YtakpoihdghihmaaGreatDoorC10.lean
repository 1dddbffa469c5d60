import Derived.Test.YtakpoihdghihmaaGreatDoorC08
import Derived.Test.YtakpoihdghihmaaGreatDoorCShelf
set_option maxRecDepth 100000
set_option maxHeartbeats 16000000
namespace Go.Proofs.YtakpoihdghihmaaGreatDoor
open Go.RowKit Go.Shelf
def Ep(x y:Nat):Nat:=x*y/DN
def YK(x y:Nat):Nat:=x*y%DN
variable{over x y:Nat}
theorem Io(x y:Nat)(a:x<DN)(b:y<DN)(w:World):Calls Tryz.prog 197 #[.int .u64 (x:Nat),.int .u64 (y:Nat)] w λe c=>e=.returned (.tuple #[.int .u64 (Ep x y:Nat),.int .u64 (YK x y:Nat)])/\c=w:=
 Tryz.bits_Mul64 x y a b w
theorem Ru(a:x<DN)(b:y<DN):x*y<=340282366920938463426481119284349108225:=by
 unfold DN at a b;have:=Cu (show x<=18446744073709551615 by omega) (show y<=18446744073709551615 by omega);exact Am this DO
theorem Zj{r:Nat}(a:x<DN)(b:y<DN)(d:r<DN)(c:over<DN):
 Ep x y+Xv (YK x y) over 0<DN/\Ep x y+Xv (YK x y) over 0+Xv r (YU (YK x y) over 0) 0<DN/\YU r (YU (YK x y) over 0) 0<DN/\
 YU r (YU (YK x y) over 0) 0+DN*(Ep x y+Xv (YK x y) over 0+Xv r (YU (YK x y) over 0) 0)=r+x*y+over:=by
 have hp:=Ru a b;unfold Ep YK Xv YU;generalize x*y=p at *;unfold DN at *;omega
def X9(xs bs:List Nat)(ro wd i over:Nat)(q:List Nat):Prop:=
 q.length=i/\DQ DN q/\over<DN/\val DN q+DN^i*over=val DN ((xs.drop ro).take i)+val DN (bs.take i)*wd
theorem X9.start(xs bs:List Nat)(ro wd:Nat):X9 xs bs ro wd 0 0 []:=⟨rfl,DQ.nil _,by unfold DN;omega,by simp[val]⟩
theorem X9.step{xs bs:List Nat}{ro wd i:Nat}{q:List Nat}(h:X9 xs bs ro wd i over q)(d a:Nat)(e:d<DN)(g:a<DN)(f:d+DN*a=xs[ro+i]?.getD 0+bs[i]?.getD 0*wd+over):X9 xs bs ro wd (i+1) a (q++[d]):=by
 obtain⟨b,c,k,l⟩:=h;refine⟨by simp;omega,c.append (DQ.cons e (DQ.nil _)),g,?_⟩;rw[Y1,b,Jt,Jt,CZ,AC,AZ,AA,AA];have j:DN^i*d+DN^i*(DN*a)=DN^i*(xs[ro+i]?.getD 0)+DN^i*(bs[i]?.getD 0*wd)+DN^i*over:=by
  rw[<-AB,f,AB,AB]
 omega
theorem Ow(c ro len cap:Nat)(xs:List Nat)(a:Option Addr)(cb:Nat)(bs:List Nat)(wd:Nat)(w:World)
(F:DV w c xs)(L:DQ DN xs)(af:ro+len<=xs.length)(X:len<=cap)(t:Row .u64 w (.slice a len cb) bs)(H:DQ DN bs)(u:∀p,a=some p->0<len->p.block≠c)(v:wd<DN):
 Calls Tryz.prog 167 #[.slice (some ⟨c,ro,none⟩) len cap,.slice a len cb,.int .u64 (wd:Nat)] w λe n=>
  ∃over q,e=.returned (.int .u64 (over:Nat))/\X9 xs bs ro wd len over q/\DV n c (Dd xs ro len q)/\w.grownBy n (some c):=by
 obtain⟨hl,ad,T,ae,f⟩:=Jw t;have P:=Hid.o (p:=Hid (len=bs.length)) hl;have A:=Hid.o (p:=Hid (∀j,j<len->∃b off,a=some ⟨b,off,none⟩/\b<w.heap.size/\w.cell? ⟨b,off+j,none⟩=some (.int .u64 (bs[j]?.getD 0:Nat)))) f;have B:=Hid.o (p:=Hid (∀p,a=some p->0<len->p.block≠c)) u;clear f hl u t;go_enter Tryz.func167,Tryz.ntmps167
 go_wp2;go_loopw [7,15] (λov m wr=>∃(i over:Nat) (q:List Nat),m=.int .i64 i/\ov=.int .u64 (over:Nat)/\i<=len/\over<DN/\Hid (X9 xs bs ro wd i over q)/\DV wr c (Dd xs ro i q)/\w.grownBy wr (some c))
  (λ_ m _=>len-(intOf m).toNat)
 case atStart=>exact⟨0,0,[],rfl,rfl,Az _,by unfold DN;omega,X9.start _ _ _ _,by rw[mid_zero];exact F,Y3 _ _⟩
 case round=>
  obtain⟨i,over,q,rfl,rfl,W,K,k,g,l⟩:=hrel;by_cases I:i<len
  . obtain⟨b,off,rfl,G,f⟩:=A.o i I;have C:=B.o _ rfl O;have hq:=k.o.1;have S:wr.cell? ⟨b,off+i,none⟩=some (.int .u64 (bs[i]?.getD 0:Nat)):=(BO (w:=w) (l.block b G λe=>C (by cases e;rfl))).trans f;have U:wr.cell? ⟨c,ro+i,none⟩=some (.int .u64 (xs[ro+i]?.getD 0:Nat)):=by rw[<-Im hq O];exact g.cell (by rw[J7 hq O];omega)
    have V:=g.frozen (ro+i);have s:=H.getD uo i;have E:=L.getD uo (ro+i);obtain⟨M,y,N,z⟩:=Zj s v E K;have o:=Hid.o (p:=Hid _) (k.o.step _ _ N y z);have D:=Hid.o (p:=Hid (∀d,(Dd xs ro i q).set (ro+i) d=Dd xs ro (i+1) (q++[d]))) λd=>KO hq O d;clear f hq z;generalize bs[i]?.getD 0=x at *;generalize xs[ro+i]?.getD 0=r at *;have Q:=Ml (YK x wd) over;have R:=Ml r (YU (YK x wd) over 0);unfold DN at M y;go_wp2_with(first
     |(go_at_call 197;refine(Io _ _ s v _).mono ?_;rintro e n ⟨rfl,rfl⟩))
    exact⟨⟨i+1,Ep x wd+Xv (YK x wd) over 0+Xv r (YU (YK x wd) over 0) 0,q++[YU r (YU (YK x wd) over 0) 0],Z,Z,O,o.o.2.2.1,o,by rw[<-D.o];exact g.set _ _,Ji l (JI _ _ _ _)⟩,by simp[intOf];omega⟩
  . obtain rfl:i=len:=O
    go_wp2;go_ret;exact⟨over,q,rfl,k.o,g,l⟩
