import Derived.Test.YteldjhhjnchdeaaGreatDoorW08
import Derived.Test.YteldjhhjnchdeaaGreatDoorWShelf
set_option maxRecDepth 100000
set_option maxHeartbeats 16000000
namespace Go.Proofs.YteldjhhjnchdeaaGreatDoor
open Go.RowKit Go.Shelf
def Xk(x y:Nat):Nat:=x*y/J
def Yk(x y:Nat):Nat:=x*y%J
variable{a x y:Nat}
theorem Gh(x y:Nat)(a:x<J)(b:y<J)(w:World):Calls Tryz.prog 183 #[.int .u64 (x:Nat),.int .u64 (y:Nat)] w λe c=>e=.returned (.tuple #[.int .u64 (Xk x y:Nat),.int .u64 (Yk x y:Nat)])/\c=w:=
 Tryz.bits_Mul64 x y a b w
theorem OW(a:x<J)(b:y<J):x*y<=340282366920938463426481119284349108225:=by
 unfold J at a b;have:=CB (show x<=18446744073709551615 by omega) (show y<=18446744073709551615 by omega);exact Aw this DL
theorem TD{r:Nat}(b:x<J)(c:y<J)(e:r<J)(d:a<J):
 Xk x y+YO (Yk x y) a 0<J/\Xk x y+YO (Yk x y) a 0+YO r (Yr (Yk x y) a 0) 0<J/\Yr r (Yr (Yk x y) a 0) 0<J/\
 Yr r (Yr (Yk x y) a 0) 0+J*(Xk x y+YO (Yk x y) a 0+YO r (Yr (Yk x y) a 0) 0)=r+x*y+a:=by
 have hp:=OW b c;unfold Xk Yk YO Yr;generalize x*y=p at *;unfold J at *;omega
def Xe(xs bs:List Nat)(ro wd i a:Nat)(q:List Nat):Prop:=
 q.length=i/\DM J q/\a<J/\val J q+J^i*a=val J ((xs.drop ro).take i)+val J (bs.take i)*wd
theorem Xe.start(xs bs:List Nat)(ro wd:Nat):Xe xs bs ro wd 0 0 []:=⟨rfl,DM.nil _,by unfold J;omega,by simp[val]⟩
theorem Xe.step{xs bs:List Nat}{ro wd i:Nat}{q:List Nat}(h:Xe xs bs ro wd i a q)(d b:Nat)(f:d<J)(j:b<J)(g:d+J*b=xs[ro+i]?.getD 0+bs[i]?.getD 0*wd+a):Xe xs bs ro wd (i+1) b (q++[d]):=by
 obtain⟨c,e,l,m⟩:=h;refine⟨by simp;omega,e.append (DM.cons f (DM.nil _)),j,?_⟩;rw[Xs,c,Jv,Jv,CY,AE,AY,AH,AH];have k:J^i*d+J^i*(J*b)=J^i*(xs[ro+i]?.getD 0)+J^i*(bs[i]?.getD 0*wd)+J^i*a:=by
  rw[<-AO,g,AO,AO]
 omega
theorem MD(f ro len cap:Nat)(xs:List Nat)(a:Option Addr)(cb:Nat)(bs:List Nat)(wd:Nat)(w:World)
(G:DO w f xs)(M:DM J xs)(ah:ro+len<=xs.length)(ad:len<=cap)(u:Row .u64 w (.slice a len cb) bs)(I:DM J bs)(v:∀p,a=some p->0<len->p.block≠f)(y:wd<J):
 Calls Tryz.prog 163 #[.slice (some ⟨f,ro,none⟩) len cap,.slice a len cb,.int .u64 (wd:Nat)] w λe o=>
  ∃c q,e=.returned (.int .u64 (c:Nat))/\Xe xs bs ro wd len c q/\DO o f (DS xs ro len q)/\w.grownBy o (some f):=by
 obtain⟨hl,ae,U,af,g⟩:=JA u;have Q:=Hid.o (p:=Hid (len=bs.length)) hl;have B:=Hid.o (p:=Hid (∀j,j<len->∃b off,a=some ⟨b,off,none⟩/\b<w.heap.size/\w.cell? ⟨b,off+j,none⟩=some (.int .u64 (bs[j]?.getD 0:Nat)))) g;have C:=Hid.o (p:=Hid (∀p,a=some p->0<len->p.block≠f)) v;clear g hl v u;go_enter Tryz.func163,Tryz.ntmps163
 go_wp2;go_loopw [7,15] (λov n wr=>∃(i c:Nat) (q:List Nat),n=.int .i64 i/\ov=.int .u64 (c:Nat)/\i<=len/\c<J/\Hid (Xe xs bs ro wd i c q)/\DO wr f (DS xs ro i q)/\w.grownBy wr (some f))
  (λ_ n _=>len-(intOf n).toNat)
 case atStart=>exact⟨0,0,[],rfl,rfl,AK _,by unfold J;omega,Xe.start _ _ _ _,by rw[mid_zero];exact G,YZ _ _⟩
 case round=>
  obtain⟨i,c,q,rfl,rfl,X,L,l,k,m⟩:=hrel;by_cases K:i<len
  . obtain⟨b,off,rfl,H,g⟩:=B.o i K;have D:=C.o _ rfl Y;have hq:=l.o.1;have T:wr.cell? ⟨b,off+i,none⟩=some (.int .u64 (bs[i]?.getD 0:Nat)):=(BQ (w:=w) (m.block b H λe=>D (by cases e;rfl))).trans g;have V:wr.cell? ⟨f,ro+i,none⟩=some (.int .u64 (xs[ro+i]?.getD 0:Nat)):=by rw[<-Gg hq Y];exact k.cell (by rw[JR hq Y];omega)
    have W:=k.frozen (ro+i);have t:=I.getD uo i;have F:=M.getD uo (ro+i);obtain⟨N,z,P,A⟩:=TD t y F L;have s:=Hid.o (p:=Hid _) (l.o.step _ _ P z A);have E:=Hid.o (p:=Hid (∀d,(DS xs ro i q).set (ro+i) d=DS xs ro (i+1) (q++[d]))) λd=>Hg hq Y d;clear g hq A;generalize bs[i]?.getD 0=x at *;generalize xs[ro+i]?.getD 0=r at *;have R:=KX (Yk x wd) c;have S:=KX r (Yr (Yk x wd) c 0);unfold J at N z;go_wp2_with(first
     |(go_at_call 183;refine(Gh _ _ t y _).mono ?_;rintro e o ⟨rfl,rfl⟩))
    exact⟨⟨i+1,Xk x wd+YO (Yk x wd) c 0+YO r (Yr (Yk x wd) c 0) 0,q++[Yr r (Yr (Yk x wd) c 0) 0],O,O,Y,s.o.2.2.1,s,by rw[<-E.o];exact k.set _ _,Jl m (JJ _ _ _ _)⟩,by simp[intOf];omega⟩
  . obtain rfl:i=len:=Y
    go_wp2;go_ret;exact⟨c,q,rfl,l.o,k,m⟩
