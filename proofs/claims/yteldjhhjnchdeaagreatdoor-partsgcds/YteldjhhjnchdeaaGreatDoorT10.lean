import Derived.Test.YteldjhhjnchdeaaGreatDoorT08
import Derived.Test.YteldjhhjnchdeaaGreatDoorTShelf
set_option maxRecDepth 100000
set_option maxHeartbeats 16000000
namespace Go.Proofs.YteldjhhjnchdeaaGreatDoor
open Go.RowKit Go.Shelf
def XJ(x y:Nat):Nat:=x*y/DR
def Yp(x y:Nat):Nat:=x*y%DR
variable{over x y:Nat}
theorem IC(x y:Nat)(a:x<DR)(b:y<DR)(w:World):Calls Tryz.prog 183 #[.int .u64 (x:Nat),.int .u64 (y:Nat)] w λe c=>e=.returned (.tuple #[.int .u64 (XJ x y:Nat),.int .u64 (Yp x y:Nat)])/\c=w:=
 Tryz.bits_Mul64 x y a b w
theorem Pm(a:x<DR)(b:y<DR):x*y<=340282366920938463426481119284349108225:=by
 unfold DR at a b;have:=CN (show x<=18446744073709551615 by omega) (show y<=18446744073709551615 by omega);exact As this DS
theorem VI{r:Nat}(a:x<DR)(b:y<DR)(c:r<DR)(d:over<DR):
 XJ x y+Y3 (Yp x y) over 0<DR/\XJ x y+Y3 (Yp x y) over 0+Y3 r (Yx (Yp x y) over 0) 0<DR/\Yx r (Yx (Yp x y) over 0) 0<DR/\
 Yx r (Yx (Yp x y) over 0) 0+DR*(XJ x y+Y3 (Yp x y) over 0+Y3 r (Yx (Yp x y) over 0) 0)=r+x*y+over:=by
 have hp:=Pm a b;unfold XJ Yp Y3 Yx;generalize x*y=p at *;unfold DR at *;omega
def Xz(xs bs:List Nat)(ro wd i over:Nat)(q:List Nat):Prop:=
 q.length=i/\DT DR q/\over<DR/\val DR q+DR^i*over=val DR ((xs.drop ro).take i)+val DR (bs.take i)*wd
theorem Xz.start(xs bs:List Nat)(ro wd:Nat):Xz xs bs ro wd 0 0 []:=⟨rfl,DT.nil _,by unfold DR;omega,by simp[val]⟩
theorem Xz.step{xs bs:List Nat}{ro wd i:Nat}{q:List Nat}(h:Xz xs bs ro wd i over q)(d a:Nat)(f:d<DR)(c:a<DR)(e:d+DR*a=xs[ro+i]?.getD 0+bs[i]?.getD 0*wd+over):Xz xs bs ro wd (i+1) a (q++[d]):=by
 obtain⟨b,g,l,j⟩:=h;refine⟨by simp;omega,g.append (DT.cons f (DT.nil _)),c,?_⟩;rw[YC,b,Jq,Jq,CL,AA,AP,Ay,Ay];have k:DR^i*d+DR^i*(DR*a)=DR^i*(xs[ro+i]?.getD 0)+DR^i*(bs[i]?.getD 0*wd)+DR^i*over:=by
  rw[<-Ax,e,Ax,Ax]
 omega
theorem Nr(c ro len cap:Nat)(xs:List Nat)(a:Option Addr)(cb:Nat)(bs:List Nat)(wd:Nat)(w:World)
(E:DX w c xs)(M:DT DR xs)(S:ro+len<=xs.length)(P:len<=cap)(v:Row .u64 w (.slice a len cb) bs)(K:DT DR bs)(s:∀p,a=some p->0<len->p.block≠c)(o:wd<DR):
 Calls Tryz.prog 163 #[.slice (some ⟨c,ro,none⟩) len cap,.slice a len cb,.int .u64 (wd:Nat)] w λe n=>
  ∃over q,e=.returned (.int .u64 (over:Nat))/\Xz xs bs ro wd len over q/\DX n c (Dd xs ro len q)/\w.grownBy n (some c):=by
 obtain⟨hl,N,U,O,f⟩:=Ju v;have X:=Hid.o (p:=Hid (len=bs.length)) hl;have H:=Hid.o (p:=Hid (∀j,j<len->∃b off,a=some ⟨b,off,none⟩/\b<w.heap.size/\w.cell? ⟨b,off+j,none⟩=some (.int .u64 (bs[j]?.getD 0:Nat)))) f;have A:=Hid.o (p:=Hid (∀p,a=some p->0<len->p.block≠c)) s;clear f hl s v;go_enter Tryz.func163,Tryz.ntmps163
 go_wp2;go_loopw [7,15] (λov l wr=>∃(i over:Nat) (q:List Nat),l=.int .i64 i/\ov=.int .u64 (over:Nat)/\i<=len/\over<DR/\Hid (Xz xs bs ro wd i over q)/\DX wr c (Dd xs ro i q)/\w.grownBy wr (some c))
  (λ_ l _=>len-(intOf l).toNat)
 case atStart=>exact⟨0,0,[],rfl,rfl,AK _,by unfold DR;omega,Xz.start _ _ _ _,by rw[mid_zero];exact E,YD _ _⟩
 case round=>
  obtain⟨i,over,q,rfl,rfl,R,D,m,g,k⟩:=hrel;by_cases J:i<len
  . obtain⟨b,off,rfl,G,f⟩:=H.o i J;have C:=A.o _ rfl om;have hq:=m.o.1;have Y:wr.cell? ⟨b,off+i,none⟩=some (.int .u64 (bs[i]?.getD 0:Nat)):=(BO (w:=w) (k.block b G (λe=>C (by cases e;rfl)))).trans f;have T:wr.cell? ⟨c,ro+i,none⟩=some (.int .u64 (xs[ro+i]?.getD 0:Nat)):=by rw[<-IB hq om];exact g.cell (by rw[JW hq om];omega)
    have W:=g.frozen (ro+i);have t:=K.getD uo i;have F:=M.getD uo (ro+i);obtain⟨B,y,I,z⟩:=VI t o F D;have u:=Hid.o (p:=Hid _) (m.o.step _ _ I y z);have L:=Hid.o (p:=Hid (∀d,(Dd xs ro i q).set (ro+i) d=Dd xs ro (i+1) (q++[d]))) (λd=>Ie hq om d);clear f hq z;generalize bs[i]?.getD 0=x at *;generalize xs[ro+i]?.getD 0=r at *;have Q:=Lp (Yp x wd) over;have V:=Lp r (Yx (Yp x wd) over 0);unfold DR at B y;go_wp2_with(first
     |(go_at_call 183;refine(IC _ _ t o _).mono ?_;rintro e n ⟨rfl,rfl⟩))
    exact⟨⟨i+1,XJ x wd+Y3 (Yp x wd) over 0+Y3 r (Yx (Yp x wd) over 0) 0,q++[Yx r (Yx (Yp x wd) over 0) 0],DQ,DQ,om,u.o.2.2.1,u,by rw[<-L.o];exact g.set _ _,Jh k (JC _ _ _ _)⟩,by simp[intOf];omega⟩
  . obtain rfl:i=len:=om
    go_wp2;go_ret;exact⟨over,q,rfl,m.o,g,k⟩
