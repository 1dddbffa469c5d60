import Derived.Test.YtcahejkcdcjjgaaGreatDoorW08
import Derived.Test.YtcahejkcdcjjgaaGreatDoorWShelf
set_option linter.all false
set_option maxRecDepth 99999
set_option maxHeartbeats 0
namespace Go.Proofs.YtcahejkcdcjjgaaGreatDoor
open Go.RowKit Go.Shelf
def Xf(x y:Nat):Nat:=x*y/Y
def Yd(x y:Nat):Nat:=x*y%Y
variable{over x y:Nat}
def FZ(x y:Nat)(a:x<Y)(b:y<Y)(w:World):Calls Tryz.prog 190 #[.int .u64 (x:Nat),.int .u64 (y:Nat)] w λe c=>e=.returned (.tuple #[.int .u64 (Xf x y:Nat),.int .u64 (Yd x y:Nat)])/\c=w:=
 Tryz.bits_Mul64 x y a b w
def NT(a:x<Y)(b:y<Y):x*y<=340282366920938463426481119284349108225:=by
 unfold Y at a b;have:=Ff (show x<=18446744073709551615 by omega) (show y<=18446744073709551615 by omega);omega
theorem Rg{r:Nat}(a:x<Y)(b:y<Y)(d:r<Y)(c:over<Y):
 Xf x y+YD (Yd x y) over 0<Y/\Xf x y+YD (Yd x y) over 0+YD r (Yj (Yd x y) over 0) 0<Y/\Yj r (Yj (Yd x y) over 0) 0<Y/\
 Yj r (Yj (Yd x y) over 0) 0+Y*(Xf x y+YD (Yd x y) over 0+YD r (Yj (Yd x y) over 0) 0)=r+x*y+over:=by
 have hp:=NT a b;grind[Xf,Yd,YD,Yj,Y]
def Y7(xs bs:Ja)(ro wd i over:Nat)(q:Ja):Prop:=
 q.length=i/\DK Y q/\over<Y/\val Y q+Y^i*over=val Y ((xs.drop ro).take i)+val Y (bs.take i)*wd
def Y7.start(xs bs:Ja)(ro wd:Nat):Y7 xs bs ro wd 0 0 []:=⟨J,DK.nil _,by unfold Y;omega,by simp[val]⟩
theorem Y7.step{xs bs:Ja}{ro wd i:Nat}{q:Ja}(h:Y7 xs bs ro wd i over q)(d a:Nat)(e:d<Y)(f:a<Y)(k:d+Y*a=xs[ro+i]?.getD 0+bs[i]?.getD 0*wd+over):Y7 xs bs ro wd (i+1) a (q++[d]):=by
 obtain⟨b,c,g,j⟩:=h;refine⟨by simp;omega,c.append (DK.cons e (DK.nil _)),f,?_⟩;rw[Ye,b,Jp,Jp,List.getElem?_drop,A9,Cc,Cg,Cg];grind
def LP(c ro len cap:Nat)(xs:Ja)(a:Zu)(u:Nat)(bs:Ja)(wd:Nat)(w:World)
(H:DO w c xs)(N:DK Y xs)(ak:ro+len<=xs.length)(ah:len<=cap)(v:Row .u64 w (.slice a len u) bs)(K:DK Y bs)(y:∀p,a=some p->0<len->p.block≠c)(z:wd<Y):
 Calls Tryz.prog 172 #[.slice (some ⟨c,ro,none⟩) len cap,.slice a len u,.int .u64 (wd:Nat)] w λe o=>
  ∃over q,e=.returned (.int .u64 (over:Nat))/\Y7 xs bs ro wd len over q/\DO o c (DU xs ro len q)/\w.grownBy o (some c):=by
 obtain⟨hl,ai,X,aj,f⟩:=Jq v;have S:=Hid.o (p:=Hid (len=bs.length)) hl;have C:=Hid.o (p:=Hid (∀j,j<len->∃b n,a=some ⟨b,n,none⟩/\b<w.heap.size/\w.cell? ⟨b,n+j,none⟩=some (.int .u64 (bs[j]?.getD 0:Nat)))) f;have D:=Hid.o (p:=Hid (∀p,a=some p->0<len->p.block≠c)) y;clear f hl y v;go_enter Tryz.func172,Tryz.ntmps172
 go_wp2;go_loopw [7,15] (λP m wr=>∃(i over:Nat) (q:Ja),m=.int .i64 i/\P=.int .u64 (over:Nat)/\i<=len/\over<Y/\Hid (Y7 xs bs ro wd i over q)/\DO wr c (DU xs ro i q)/\w.grownBy wr (some c)) (λ_ m _=>len-(intOf m).toNat)
 case atStart=>exact⟨0,0,[],J,J,AJ _,by unfold Y;omega,Y7.start _ _ _ _,by rw[mid_zero];exact H,Ym _ _⟩
 case round=>
  obtain⟨i,over,q,rfl,rfl,hi,M,l,k,hg⟩:=hrel;by_cases L:i<len
  . obtain⟨b,n,rfl,I,f⟩:=C.o i L;have E:=D.o _ J O;have g:=l.o.1;have W:=(BR (w:=w) (hg.block b I λe=>E (by cases e;rfl))).trans f;have ad:wr.cell? ⟨c,ro+i,none⟩=some (.int .u64 (xs[ro+i]?.getD 0:Nat)):=by rw[<-FY g O];exact k.cell (by rw[JO g O];omega)
    have ae:=k.frozen (ro+i);have t:=K.getD uo i;have G:=N.getD uo (ro+i);obtain⟨Q,A,R,B⟩:=Rg t z G M;have s:=Hid.o (p:=Hid _) (l.o.step _ _ R A B);have T:=Hid.o (p:=Hid (q.length=i)) g;have F:=Hid.o (p:=Hid (∀d,(DU xs ro i q).set (ro+i) d=DU xs ro (i+1) (q++[d]))) λd=>F2 g O d;clear f g B;generalize bs[i]?.getD 0=x at *;generalize xs[ro+i]?.getD 0=r at *;have U:=Is (Yd x wd) over;have V:=Is r (Yj (Yd x wd) over 0);unfold Y at Q A;go_wp2_with(first
     |(go_at_call 190;refine(FZ _ _ t z _).mono ?_;rintro e o ⟨rfl,rfl⟩))
    exact⟨⟨i+1,Xf x wd+YD (Yd x wd) over 0+YD r (Yj (Yd x wd) over 0) 0,q++[Yj r (Yj (Yd x wd) over 0) 0],DJ,DJ,O,s.o.2.2.1,s,by rw[<-F.o];exact k.set _ _,Je hg (Jy _ _ _ _)⟩,by simp[intOf];omega⟩
  . obtain rfl:i=len:=O
    go_wp2;go_ret;exact⟨over,q,J,l.o,k,hg⟩
