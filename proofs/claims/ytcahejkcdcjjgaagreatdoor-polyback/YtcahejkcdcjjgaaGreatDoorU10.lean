import Derived.Test.YtcahejkcdcjjgaaGreatDoorU08
import Derived.Test.YtcahejkcdcjjgaaGreatDoorUShelf
set_option linter.all false
set_option maxRecDepth 99999
set_option maxHeartbeats 0
namespace Go.Proofs.YtcahejkcdcjjgaaGreatDoor
open Go.RowKit Go.Shelf
def YT(x y:Nat):Nat:=x*y/O
def JZ(x y:Nat):Nat:=x*y%O
variable{over x y:Nat}
def XQ(x y:Nat)(a:x<O)(b:y<O)(w:World):Calls Tryz.prog 190 #[.int .u64 (x:Nat),.int .u64 (y:Nat)] w λe c=>e=.returned (.tuple #[.int .u64 (YT x y:Nat),.int .u64 (JZ x y:Nat)])/\c=w:=
 Tryz.bits_Mul64 x y a b w
def LN(a:x<O)(b:y<O):x*y<=340282366920938463426481119284349108225:=by
 unfold O at a b;have:=C6 (show x<=18446744073709551615 by omega) (show y<=18446744073709551615 by omega);omega
theorem Ot{r:Nat}(a:x<O)(b:y<O)(d:r<O)(c:over<O):
 YT x y+Ys (JZ x y) over 0<O/\YT x y+Ys (JZ x y) over 0+Ys r (J2 (JZ x y) over 0) 0<O/\J2 r (J2 (JZ x y) over 0) 0<O/\
 J2 r (J2 (JZ x y) over 0) 0+O*(YT x y+Ys (JZ x y) over 0+Ys r (J2 (JZ x y) over 0) 0)=r+x*y+over:=by
 have hp:=LN a b;grind[YT,JZ,Ys,J2,O]
def YN(xs bs:Ta)(ro wd i over:Nat)(q:Ta):Prop:=
 q.length=i/\B7 O q/\over<O/\val O q+O^i*over=val O ((xs.drop ro).take i)+val O (bs.take i)*wd
def YN.start(xs bs:Ta)(ro wd:Nat):YN xs bs ro wd 0 0 []:=⟨J,B7.nil _,by unfold O;omega,by simp[val]⟩
theorem YN.step{xs bs:Ta}{ro wd i:Nat}{q:Ta}(h:YN xs bs ro wd i over q)(d a:Nat)(e:d<O)(f:a<O)(k:d+O*a=xs[ro+i]?.getD 0+bs[i]?.getD 0*wd+over):YN xs bs ro wd (i+1) a (q++[d]):=by
 obtain⟨b,c,g,j⟩:=h;refine⟨by simp;omega,c.append (B7.cons e (B7.nil _)),f,?_⟩;rw[J1,b,Jl,Jl,List.getElem?_drop,Cm,A9,Ce,Ce];grind
def Ie(c ro len cap:Nat)(xs:Ta)(a:Tb)(u:Nat)(bs:Ta)(wd:Nat)(w:World)
(H:C9 w c xs)(N:B7 O xs)(ak:ro+len<=xs.length)(ah:len<=cap)(v:Row .u64 w (.slice a len u) bs)(K:B7 O bs)(y:∀p,a=some p->0<len->p.block≠c)(z:wd<O):
 Calls Tryz.prog 172 #[.slice (some ⟨c,ro,none⟩) len cap,.slice a len u,.int .u64 (wd:Nat)] w λe o=>
  ∃over q,e=.returned (.int .u64 (over:Nat))/\YN xs bs ro wd len over q/\C9 o c (DF xs ro len q)/\w.grownBy o (some c):=by
 obtain⟨hl,ai,X,aj,f⟩:=Jm v;have S:=Hid.o (p:=Hid (len=bs.length)) hl;have C:=Hid.o (p:=Hid (∀j,j<len->∃b n,a=some ⟨b,n,none⟩/\b<w.heap.size/\w.cell? ⟨b,n+j,none⟩=some (.int .u64 (bs[j]?.getD 0:Nat)))) f;have D:=Hid.o (p:=Hid (∀p,a=some p->0<len->p.block≠c)) y;clear f hl y v;go_enter Tryz.func172,Tryz.ntmps172
 go_wp2;go_loopw [7,15] (λP m wr=>∃(i over:Nat) (q:Ta),m=.int .i64 i/\P=.int .u64 (over:Nat)/\i<=len/\over<O/\Hid (YN xs bs ro wd i over q)/\C9 wr c (DF xs ro i q)/\w.grownBy wr (some c)) (λ_ m _=>len-(intOf m).toNat)
 case atStart=>exact⟨0,0,[],J,J,AL _,by unfold O;omega,YN.start _ _ _ _,by rw[mid_zero];exact H,Ya _ _⟩
 case round=>
  obtain⟨i,over,q,rfl,rfl,hi,M,l,k,hg⟩:=hrel;by_cases L:i<len
  . obtain⟨b,n,rfl,I,f⟩:=C.o i L;have E:=D.o _ J Y;have g:=l.o.1;have W:=(BO (w:=w) (hg.block b I λe=>E (by cases e;rfl))).trans f;have ad:wr.cell? ⟨c,ro+i,none⟩=some (.int .u64 (xs[ro+i]?.getD 0:Nat)):=by rw[<-XO g Y];exact k.cell (by rw[JL g Y];omega)
    have ae:=k.frozen (ro+i);have t:=K.getD uo i;have G:=N.getD uo (ro+i);obtain⟨Q,A,R,B⟩:=Ot t z G M;have s:=Hid.o (p:=Hid _) (l.o.step _ _ R A B);have T:=Hid.o (p:=Hid (q.length=i)) g;have F:=Hid.o (p:=Hid (∀d,(DF xs ro i q).set (ro+i) d=DF xs ro (i+1) (q++[d]))) λd=>FA g Y d;clear f g B;generalize bs[i]?.getD 0=x at *;generalize xs[ro+i]?.getD 0=r at *;have U:=GW (JZ x wd) over;have V:=GW r (J2 (JZ x wd) over 0);unfold O at Q A;go_wp2_with(first
     |(go_at_call 190;refine(XQ _ _ t z _).mono ?_;rintro e o ⟨rfl,rfl⟩))
    exact⟨⟨i+1,YT x wd+Ys (JZ x wd) over 0+Ys r (J2 (JZ x wd) over 0) 0,q++[J2 r (J2 (JZ x wd) over 0) 0],B5,B5,Y,s.o.2.2.1,s,by rw[<-F.o];exact k.set _ _,Je hg (Jt _ _ _ _)⟩,by simp[intOf];omega⟩
  . obtain rfl:i=len:=Y
    go_wp2;go_ret;exact⟨over,q,J,l.o,k,hg⟩
