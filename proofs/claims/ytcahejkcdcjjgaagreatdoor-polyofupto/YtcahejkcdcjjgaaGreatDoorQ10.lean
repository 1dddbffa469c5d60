import Derived.Test.YtcahejkcdcjjgaaGreatDoorQ08
import Derived.Test.YtcahejkcdcjjgaaGreatDoorQShelf
set_option linter.all false
set_option maxRecDepth 99999
set_option maxHeartbeats 0
namespace Go.Proofs.YtcahejkcdcjjgaaGreatDoor
open Go.RowKit Go.Shelf
def YK(x y:Nat):Nat:=x*y/Y
def JZ(x y:Nat):Nat:=x*y%Y
variable{over x y:Nat}
def XO(x y:Nat)(a:x<Y)(b:y<Y)(w:World):Calls Tryz.prog 190 #[.int .u64 (x:Nat),.int .u64 (y:Nat)] w λe c=>e=.returned (.tuple #[.int .u64 (YK x y:Nat),.int .u64 (JZ x y:Nat)])/\c=w:=
 Tryz.bits_Mul64 x y a b w
def K1(a:x<Y)(b:y<Y):x*y<=340282366920938463426481119284349108225:=by
 unfold Y at a b;have:=C9 (show x<=18446744073709551615 by omega) (show y<=18446744073709551615 by omega);omega
theorem OV{r:Nat}(a:x<Y)(b:y<Y)(d:r<Y)(c:over<Y):
 YK x y+Yk (JZ x y) over 0<Y/\YK x y+Yk (JZ x y) over 0+Yk r (J3 (JZ x y) over 0) 0<Y/\J3 r (J3 (JZ x y) over 0) 0<Y/\
 J3 r (J3 (JZ x y) over 0) 0+Y*(YK x y+Yk (JZ x y) over 0+Yk r (J3 (JZ x y) over 0) 0)=r+x*y+over:=by
 have hp:=K1 a b;grind[YK,JZ,Yk,J3,Y]
def YE(xs bs:Ja)(ro wd i over:Nat)(q:Ja):Prop:=
 q.length=i/\DE Y q/\over<Y/\val Y q+Y^i*over=val Y ((xs.drop ro).take i)+val Y (bs.take i)*wd
def YE.start(xs bs:Ja)(ro wd:Nat):YE xs bs ro wd 0 0 []:=⟨J,DE.nil _,by unfold Y;omega,by simp[val]⟩
theorem YE.step{xs bs:Ja}{ro wd i:Nat}{q:Ja}(h:YE xs bs ro wd i over q)(d a:Nat)(e:d<Y)(f:a<Y)(k:d+Y*a=xs[ro+i]?.getD 0+bs[i]?.getD 0*wd+over):YE xs bs ro wd (i+1) a (q++[d]):=by
 obtain⟨b,c,g,j⟩:=h;refine⟨by simp;omega,c.append (DE.cons e (DE.nil _)),f,?_⟩;rw[J0,b,Jl,Jl,List.getElem?_drop,Cm,A9,Cf,Cf];grind
def IG(c ro len cap:Nat)(xs:Ja)(a:TR)(u:Nat)(bs:Ja)(wd:Nat)(w:World)
(H:DG w c xs)(N:DE Y xs)(ak:ro+len<=xs.length)(ah:len<=cap)(v:Row .u64 w (.slice a len u) bs)(K:DE Y bs)(y:∀p,a=some p->0<len->p.block≠c)(z:wd<Y):
 Calls Tryz.prog 172 #[.slice (some ⟨c,ro,none⟩) len cap,.slice a len u,.int .u64 (wd:Nat)] w λe o=>
  ∃over q,e=.returned (.int .u64 (over:Nat))/\YE xs bs ro wd len over q/\DG o c (DL xs ro len q)/\w.grownBy o (some c):=by
 obtain⟨hl,ai,X,aj,f⟩:=Jm v;have S:=Hid.o (p:=Hid (len=bs.length)) hl;have C:=Hid.o (p:=Hid (∀j,j<len->∃b n,a=some ⟨b,n,none⟩/\b<w.heap.size/\w.cell? ⟨b,n+j,none⟩=some (.int .u64 (bs[j]?.getD 0:Nat)))) f;have D:=Hid.o (p:=Hid (∀p,a=some p->0<len->p.block≠c)) y;clear f hl y v;go_enter Tryz.func172,Tryz.ntmps172
 go_wp2;go_loopw [7,15] (λP m wr=>∃(i over:Nat) (q:Ja),m=.int .i64 i/\P=.int .u64 (over:Nat)/\i<=len/\over<Y/\Hid (YE xs bs ro wd i over q)/\DG wr c (DL xs ro i q)/\w.grownBy wr (some c)) (λ_ m _=>len-(intOf m).toNat)
 case atStart=>exact⟨0,0,[],J,J,AH _,by unfold Y;omega,YE.start _ _ _ _,by rw[mid_zero];exact H,Yi _ _⟩
 case round=>
  obtain⟨i,over,q,rfl,rfl,hi,M,l,k,hg⟩:=hrel;by_cases L:i<len
  . obtain⟨b,n,rfl,I,f⟩:=C.o i L;have E:=D.o _ J O;have g:=l.o.1;have W:=(BS (w:=w) (hg.block b I λe=>E (by cases e;rfl))).trans f;have ad:wr.cell? ⟨c,ro+i,none⟩=some (.int .u64 (xs[ro+i]?.getD 0:Nat)):=by rw[<-XM g O];exact k.cell (by rw[JK g O];omega)
    have ae:=k.frozen (ro+i);have t:=K.getD uo i;have G:=N.getD uo (ro+i);obtain⟨Q,A,R,B⟩:=OV t z G M;have s:=Hid.o (p:=Hid _) (l.o.step _ _ R A B);have T:=Hid.o (p:=Hid (q.length=i)) g;have F:=Hid.o (p:=Hid (∀d,(DL xs ro i q).set (ro+i) d=DL xs ro (i+1) (q++[d]))) λd=>Ek g O d;clear f g B;generalize bs[i]?.getD 0=x at *;generalize xs[ro+i]?.getD 0=r at *;have U:=GG (JZ x wd) over;have V:=GG r (J3 (JZ x wd) over 0);unfold Y at Q A;go_wp2_with(first
     |(go_at_call 190;refine(XO _ _ t z _).mono ?_;rintro e o ⟨rfl,rfl⟩))
    exact⟨⟨i+1,YK x wd+Yk (JZ x wd) over 0+Yk r (J3 (JZ x wd) over 0) 0,q++[J3 r (J3 (JZ x wd) over 0) 0],sp,sp,O,s.o.2.2.1,s,by rw[<-F.o];exact k.set _ _,Je hg (JB _ _ _ _)⟩,by simp[intOf];omega⟩
  . obtain rfl:i=len:=O
    go_wp2;go_ret;exact⟨over,q,J,l.o,k,hg⟩
