import Derived.Test.YteldjhhjnchdeaaGreatDoorW08
import Derived.Test.YteldjhhjnchdeaaGreatDoorWShelf
set_option maxRecDepth 100000
set_option maxHeartbeats 16000000
namespace Go.Proofs.YteldjhhjnchdeaaGreatDoor
open Go.RowKit Go.Shelf
def Xo(x y:Nat):Nat:=x*y/Y
def Yl(x y:Nat):Nat:=x*y%Y
variable{a x y:Nat}
theorem Gn(x y:Nat)(a:x<Y)(b:y<Y)(w:World):Calls Tryz.prog 183 #[.int .u64 (x:Nat),.int .u64 (y:Nat)] w λe c=>e=.returned (.tuple #[.int .u64 (Xo x y:Nat),.int .u64 (Yl x y:Nat)])/\c=w:=
 Tryz.bits_Mul64 x y a b w
theorem OX(a:x<Y)(b:y<Y):x*y<=340282366920938463426481119284349108225:=by
 unfold Y at a b;have:=Cz (show x<=18446744073709551615 by omega) (show y<=18446744073709551615 by omega);exact Aw this DL
theorem TC{r:Nat}(b:x<Y)(c:y<Y)(e:r<Y)(d:a<Y):
 Xo x y+YP (Yl x y) a 0<Y/\Xo x y+YP (Yl x y) a 0+YP r (Ys (Yl x y) a 0) 0<Y/\Ys r (Ys (Yl x y) a 0) 0<Y/\
 Ys r (Ys (Yl x y) a 0) 0+Y*(Xo x y+YP (Yl x y) a 0+YP r (Ys (Yl x y) a 0) 0)=r+x*y+a:=by
 have hp:=OX b c;unfold Xo Yl YP Ys;generalize x*y=p at *;unfold Y at *;omega
def Xh(xs bs:List Nat)(ro wd i a:Nat)(q:List Nat):Prop:=
 q.length=i/\DN Y q/\a<Y/\val Y q+Y^i*a=val Y ((xs.drop ro).take i)+val Y (bs.take i)*wd
theorem Xh.start(xs bs:List Nat)(ro wd:Nat):Xh xs bs ro wd 0 0 []:=⟨rfl,DN.nil _,by unfold Y;omega,by simp[val]⟩
theorem Xh.step{xs bs:List Nat}{ro wd i:Nat}{q:List Nat}(h:Xh xs bs ro wd i a q)(d b:Nat)(f:d<Y)(j:b<Y)(g:d+Y*b=xs[ro+i]?.getD 0+bs[i]?.getD 0*wd+a):Xh xs bs ro wd (i+1) b (q++[d]):=by
 obtain⟨c,e,l,m⟩:=h;refine⟨by simp;omega,e.append (DN.cons f (DN.nil _)),j,?_⟩;rw[Xv,c,Jv,Jv,CX,AD,AY,AG,AG];have k:Y^i*d+Y^i*(Y*b)=Y^i*(xs[ro+i]?.getD 0)+Y^i*(bs[i]?.getD 0*wd)+Y^i*a:=by
  rw[<-AO,g,AO,AO]
 omega
theorem MI(f ro len cap:Nat)(xs:List Nat)(a:Option Addr)(cb:Nat)(bs:List Nat)(wd:Nat)(w:World)
(G:DO w f xs)(M:DN Y xs)(ah:ro+len<=xs.length)(ad:len<=cap)(u:Row .u64 w (.slice a len cb) bs)(I:DN Y bs)(v:∀p,a=some p->0<len->p.block≠f)(y:wd<Y):
 Calls Tryz.prog 163 #[.slice (some ⟨f,ro,none⟩) len cap,.slice a len cb,.int .u64 (wd:Nat)] w λe o=>
  ∃c q,e=.returned (.int .u64 (c:Nat))/\Xh xs bs ro wd len c q/\DO o f (DU xs ro len q)/\w.grownBy o (some f):=by
 obtain⟨hl,ae,U,af,g⟩:=JA u;have Q:=Hid.o (p:=Hid (len=bs.length)) hl;have B:=Hid.o (p:=Hid (∀j,j<len->∃b off,a=some ⟨b,off,none⟩/\b<w.heap.size/\w.cell? ⟨b,off+j,none⟩=some (.int .u64 (bs[j]?.getD 0:Nat)))) g;have C:=Hid.o (p:=Hid (∀p,a=some p->0<len->p.block≠f)) v;clear g hl v u;go_enter Tryz.func163,Tryz.ntmps163
 go_wp2;go_loopw [7,15] (λov n wr=>∃(i c:Nat) (q:List Nat),n=.int .i64 i/\ov=.int .u64 (c:Nat)/\i<=len/\c<Y/\Hid (Xh xs bs ro wd i c q)/\DO wr f (DU xs ro i q)/\w.grownBy wr (some f))
  (λ_ n _=>len-(intOf n).toNat)
 case atStart=>exact⟨0,0,[],rfl,rfl,AK _,by unfold Y;omega,Xh.start _ _ _ _,by rw[mid_zero];exact G,YZ _ _⟩
 case round=>
  obtain⟨i,c,q,rfl,rfl,X,L,l,k,m⟩:=hrel;by_cases K:i<len
  . obtain⟨b,off,rfl,H,g⟩:=B.o i K;have D:=C.o _ rfl Z;have hq:=l.o.1;have T:wr.cell? ⟨b,off+i,none⟩=some (.int .u64 (bs[i]?.getD 0:Nat)):=(BQ (w:=w) (m.block b H λe=>D (by cases e;rfl))).trans g;have V:wr.cell? ⟨f,ro+i,none⟩=some (.int .u64 (xs[ro+i]?.getD 0:Nat)):=by rw[<-Gm hq Z];exact k.cell (by rw[JR hq Z];omega)
    have W:=k.frozen (ro+i);have t:=I.getD uo i;have F:=M.getD uo (ro+i);obtain⟨N,z,P,A⟩:=TC t y F L;have s:=Hid.o (p:=Hid _) (l.o.step _ _ P z A);have E:=Hid.o (p:=Hid (∀d,(DU xs ro i q).set (ro+i) d=DU xs ro (i+1) (q++[d]))) λd=>Hj hq Z d;clear g hq A;generalize bs[i]?.getD 0=x at *;generalize xs[ro+i]?.getD 0=r at *;have R:=Kc (Yl x wd) c;have S:=Kc r (Ys (Yl x wd) c 0);unfold Y at N z;go_wp2_with(first
     |(go_at_call 183;refine(Gn _ _ t y _).mono ?_;rintro e o ⟨rfl,rfl⟩))
    exact⟨⟨i+1,Xo x wd+YP (Yl x wd) c 0+YP r (Ys (Yl x wd) c 0) 0,q++[Ys r (Ys (Yl x wd) c 0) 0],J,J,Z,s.o.2.2.1,s,by rw[<-E.o];exact k.set _ _,Jl m (JJ _ _ _ _)⟩,by simp[intOf];omega⟩
  . obtain rfl:i=len:=Z
    go_wp2;go_ret;exact⟨c,q,rfl,l.o,k,m⟩
