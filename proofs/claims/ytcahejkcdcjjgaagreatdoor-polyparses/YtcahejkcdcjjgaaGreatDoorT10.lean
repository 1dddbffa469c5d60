import Derived.Test.YtcahejkcdcjjgaaGreatDoorT08
import Derived.Test.YtcahejkcdcjjgaaGreatDoorTShelf
set_option linter.all false
set_option maxRecDepth 99999
set_option maxHeartbeats 0
namespace Go.Proofs.YtcahejkcdcjjgaaGreatDoor
open Go.RowKit Go.Shelf
def YM(x y:Nat):Nat:=x*y/O
def J0(x y:Nat):Nat:=x*y%O
variable{over x y:Nat}
def XN(x y:Nat)(a:x<O)(b:y<O)(w:World):Calls Tryz.prog 190 #[.int .u64 (x:Nat),.int .u64 (y:Nat)] w λe c=>e=.returned (.tuple #[.int .u64 (YM x y:Nat),.int .u64 (J0 x y:Nat)])/\c=w:=
 Tryz.bits_Mul64 x y a b w
def LA(a:x<O)(b:y<O):x*y<=340282366920938463426481119284349108225:=by
 unfold O at a b;have:=C7 (show x<=18446744073709551615 by omega) (show y<=18446744073709551615 by omega);omega
theorem Oe{r:Nat}(a:x<O)(b:y<O)(d:r<O)(c:over<O):
 YM x y+Yl (J0 x y) over 0<O/\YM x y+Yl (J0 x y) over 0+Yl r (J3 (J0 x y) over 0) 0<O/\J3 r (J3 (J0 x y) over 0) 0<O/\
 J3 r (J3 (J0 x y) over 0) 0+O*(YM x y+Yl (J0 x y) over 0+Yl r (J3 (J0 x y) over 0) 0)=r+x*y+over:=by
 have hp:=LA a b;grind[YM,J0,Yl,J3,O]
def YG(xs bs:Ja)(ro wd i over:Nat)(q:Ja):Prop:=
 q.length=i/\DA O q/\over<O/\val O q+O^i*over=val O ((xs.drop ro).take i)+val O (bs.take i)*wd
def YG.start(xs bs:Ja)(ro wd:Nat):YG xs bs ro wd 0 0 []:=⟨J,DA.nil _,by unfold O;omega,by simp[val]⟩
theorem YG.step{xs bs:Ja}{ro wd i:Nat}{q:Ja}(h:YG xs bs ro wd i over q)(d a:Nat)(e:d<O)(f:a<O)(k:d+O*a=xs[ro+i]?.getD 0+bs[i]?.getD 0*wd+over):YG xs bs ro wd (i+1) a (q++[d]):=by
 obtain⟨b,c,g,j⟩:=h;refine⟨by simp;omega,c.append (DA.cons e (DA.nil _)),f,?_⟩;rw[J1,b,Jm,Jm,List.getElem?_drop,Cn,Ca,Cg,Cg];grind
def IR(c ro len cap:Nat)(xs:Ja)(a:TS)(u:Nat)(bs:Ja)(wd:Nat)(w:World)
(H:DE w c xs)(N:DA O xs)(ak:ro+len<=xs.length)(ah:len<=cap)(v:Row .u64 w (.slice a len u) bs)(K:DA O bs)(y:∀p,a=some p->0<len->p.block≠c)(z:wd<O):
 Calls Tryz.prog 172 #[.slice (some ⟨c,ro,none⟩) len cap,.slice a len u,.int .u64 (wd:Nat)] w λe o=>
  ∃over q,e=.returned (.int .u64 (over:Nat))/\YG xs bs ro wd len over q/\DE o c (DJ xs ro len q)/\w.grownBy o (some c):=by
 obtain⟨hl,ai,X,aj,f⟩:=Jn v;have S:=Hid.o (p:=Hid (len=bs.length)) hl;have C:=Hid.o (p:=Hid (∀j,j<len->∃b n,a=some ⟨b,n,none⟩/\b<w.heap.size/\w.cell? ⟨b,n+j,none⟩=some (.int .u64 (bs[j]?.getD 0:Nat)))) f;have D:=Hid.o (p:=Hid (∀p,a=some p->0<len->p.block≠c)) y;clear f hl y v;go_enter Tryz.func172,Tryz.ntmps172
 go_wp2;go_loopw [7,15] (λP m wr=>∃(i over:Nat) (q:Ja),m=.int .i64 i/\P=.int .u64 (over:Nat)/\i<=len/\over<O/\Hid (YG xs bs ro wd i over q)/\DE wr c (DJ xs ro i q)/\w.grownBy wr (some c)) (λ_ m _=>len-(intOf m).toNat)
 case atStart=>exact⟨0,0,[],J,J,AO _,by unfold O;omega,YG.start _ _ _ _,by rw[mid_zero];exact H,J6 _ _⟩
 case round=>
  obtain⟨i,over,q,rfl,rfl,hi,M,l,k,hg⟩:=hrel;by_cases L:i<len
  . obtain⟨b,n,rfl,I,f⟩:=C.o i L;have E:=D.o _ J Y;have g:=l.o.1;have W:=(BS (w:=w) (hg.block b I λe=>E (by cases e;rfl))).trans f;have ad:wr.cell? ⟨c,ro+i,none⟩=some (.int .u64 (xs[ro+i]?.getD 0:Nat)):=by rw[<-XL g Y];exact k.cell (by rw[JK g Y];omega)
    have ae:=k.frozen (ro+i);have t:=K.getD uo i;have G:=N.getD uo (ro+i);obtain⟨Q,A,R,B⟩:=Oe t z G M;have s:=Hid.o (p:=Hid _) (l.o.step _ _ R A B);have T:=Hid.o (p:=Hid (q.length=i)) g;have F:=Hid.o (p:=Hid (∀d,(DJ xs ro i q).set (ro+i) d=DJ xs ro (i+1) (q++[d]))) λd=>Eu g Y d;clear f g B;generalize bs[i]?.getD 0=x at *;generalize xs[ro+i]?.getD 0=r at *;have U:=GH (J0 x wd) over;have V:=GH r (J3 (J0 x wd) over 0);unfold O at Q A;go_wp2_with(first
     |(go_at_call 190;refine(XN _ _ t z _).mono ?_;rintro e o ⟨rfl,rfl⟩))
    exact⟨⟨i+1,YM x wd+Yl (J0 x wd) over 0+Yl r (J3 (J0 x wd) over 0) 0,q++[J3 r (J3 (J0 x wd) over 0) 0],C9,C9,Y,s.o.2.2.1,s,by rw[<-F.o];exact k.set _ _,Jd hg (Ju _ _ _ _)⟩,by simp[intOf];omega⟩
  . obtain rfl:i=len:=Y
    go_wp2;go_ret;exact⟨over,q,J,l.o,k,hg⟩
