import Derived.Test.YtcahejkcdcjjgaaGreatDoorT08
import Derived.Test.YtcahejkcdcjjgaaGreatDoorTShelf
set_option maxRecDepth 100000
set_option maxHeartbeats 16000000
namespace Go.Proofs.YtcahejkcdcjjgaaGreatDoor
open Go.RowKit Go.Shelf
def Xq(x y:Nat):Nat:=x*y/DN
def Yk(x y:Nat):Nat:=x*y%DN
variable{over x y:Nat}
theorem GE(x y:Nat)(b:x<DN)(a:y<DN)(w:World):Calls Tryz.prog 190 #[.int .u64 (x:Nat),.int .u64 (y:Nat)] w λe c=>e=.returned (.tuple #[.int .u64 (Xq x y:Nat),.int .u64 (Yk x y:Nat)])/\c=w:=
 Tryz.bits_Mul64 x y b a w
theorem Ns(b:x<DN)(a:y<DN):x*y<=340282366920938463426481119284349108225:=by
 unfold DN at b a;have:=Fx (show x<=18446744073709551615 by omega) (show y<=18446744073709551615 by omega);exact AE this DR
theorem R0{r:Nat}(a:x<DN)(b:y<DN)(c:r<DN)(e:over<DN):
 Xq x y+YP (Yk x y) over 0<DN/\Xq x y+YP (Yk x y) over 0+YP r (Yt (Yk x y) over 0) 0<DN/\Yt r (Yt (Yk x y) over 0) 0<DN/\
 Yt r (Yt (Yk x y) over 0) 0+DN*(Xq x y+YP (Yk x y) over 0+YP r (Yt (Yk x y) over 0) 0)=r+x*y+over:=by
 have d:=Ns a b;unfold Xq Yk YP Yt;generalize x*y=p at *;unfold DN at *;omega
def Xi(xs bs:List Nat)(ro wd i over:Nat)(q:List Nat):Prop:=
 q.length=i/\DP DN q/\over<DN/\val DN q+DN^i*over=val DN ((xs.drop ro).take i)+val DN (bs.take i)*wd
theorem Xi.start(xs bs:List Nat)(ro wd:Nat):Xi xs bs ro wd 0 0 []:=⟨rfl,DP.nil _,by unfold DN;omega,by simp[val]⟩
theorem Xi.step{xs bs:List Nat}{ro wd i:Nat}{q:List Nat}(h:Xi xs bs ro wd i over q)(d a:Nat)(b:d<DN)(c:a<DN)(f:d+DN*a=xs[ro+i]?.getD 0+bs[i]?.getD 0*wd+over):Xi xs bs ro wd (i+1) a (q++[d]):=by
 obtain⟨e,g,j,k⟩:=h;refine⟨by simp;omega,g.append (DP.cons b (DP.nil _)),c,?_⟩;rw[Yl,e,Jq,Jq,CC,AV,AR,Aw,Aw];have l:DN^i*d+DN^i*(DN*a)=DN^i*(xs[ro+i]?.getD 0)+DN^i*(bs[i]?.getD 0*wd)+DN^i*over:=by
  rw[<-Av,f,Av,Av]
 omega
theorem Ls(c ro len cap:Nat)(xs:List Nat)(a:Option Addr)(y:Nat)(bs:List Nat)(wd:Nat)(w:World)
(H:DU w c xs)(P:DP DN xs)(R:ro+len<=xs.length)(ad:len<=cap)(s:Row .u64 w (.slice a len y) bs)(E:DP DN bs)(v:∀p,a=some p->0<len->p.block≠c)(B:wd<DN):
 Calls Tryz.prog 172 #[.slice (some ⟨c,ro,none⟩) len cap,.slice a len y,.int .u64 (wd:Nat)] w λe o=>
  ∃over q,e=.returned (.int .u64 (over:Nat))/\Xi xs bs ro wd len over q/\DU o c (Da xs ro len q)/\w.grownBy o (some c):=by
 obtain⟨hl,Z,S,ae,g⟩:=Js s;have Q:=Hid.o (p:=Hid (len=bs.length)) hl;have K:=Hid.o (p:=Hid (∀j,j<len->∃b off,a=some ⟨b,off,none⟩/\b<w.heap.size/\w.cell? ⟨b,off+j,none⟩=some (.int .u64 (bs[j]?.getD 0:Nat)))) g;have F:=Hid.o (p:=Hid (∀p,a=some p->0<len->p.block≠c)) v;clear g hl v s;go_enter Tryz.func172,Tryz.ntmps172
 go_wp2;go_loopw [7,15] (λM m wr=>∃(i over:Nat) (q:List Nat),m=.int .i64 i/\M=.int .u64 (over:Nat)/\i<=len/\over<DN/\Hid (Xi xs bs ro wd i over q)/\DU wr c (Da xs ro i q)/\w.grownBy wr (some c))
  (λ_ m _=>len-(intOf m).toNat)
 case atStart=>exact⟨0,0,[],rfl,rfl,AX _,by unfold DN;omega,Xi.start _ _ _ _,by rw[mid_zero];exact H,Yw _ _⟩
 case round=>
  obtain⟨i,over,q,rfl,rfl,U,J,n,k,l⟩:=hrel;by_cases L:i<len
  . obtain⟨b,off,rfl,G,g⟩:=K.o i L;have C:=F.o _ rfl om;have f:=n.o.1;have af:wr.cell? ⟨b,off+i,none⟩=some (.int .u64 (bs[i]?.getD 0:Nat)):=(BR (w:=w) (l.block b G (λe=>C (by cases e;rfl)))).trans g;have V:wr.cell? ⟨c,ro+i,none⟩=some (.int .u64 (xs[ro+i]?.getD 0:Nat)):=by rw[<-GD f om];exact k.cell (by rw[JP f om];omega)
    have W:=k.frozen (ro+i);have z:=E.getD uo i;have I:=P.getD uo (ro+i);obtain⟨N,u,O,t⟩:=R0 z B I J;have A:=Hid.o (p:=Hid _) (n.o.step _ _ O u t);have T:=Hid.o (p:=Hid (q.length=i)) f;have D:=Hid.o (p:=Hid (∀d,(Da xs ro i q).set (ro+i) d=Da xs ro (i+1) (q++[d]))) (λd=>Gb f om d);clear g f t;generalize bs[i]?.getD 0=x at *;generalize xs[ro+i]?.getD 0=r at *;have X:=KR (Yk x wd) over;have Y:=KR r (Yt (Yk x wd) over 0);unfold DN at N u;go_wp2_with(first
     |(go_at_call 190;refine(GE _ _ z B _).mono ?_;rintro e o ⟨rfl,rfl⟩))
    exact⟨⟨i+1,Xq x wd+YP (Yk x wd) over 0+YP r (Yt (Yk x wd) over 0) 0,q++[Yt r (Yt (Yk x wd) over 0) 0],DO,DO,om,A.o.2.2.1,A,by rw[<-D.o];exact k.set _ _,Jf l (JD _ _ _ _)⟩,by simp[intOf];omega⟩
  . obtain rfl:i=len:=om
    go_wp2;go_ret;exact⟨over,q,rfl,n.o,k,l⟩
