import Derived.Test.YtcahejkcdcjjgaaGreatDoorS08
import Derived.Test.YtcahejkcdcjjgaaGreatDoorSShelf
set_option linter.all false
set_option maxRecDepth 99999
set_option maxHeartbeats 0
namespace Go.Proofs.YtcahejkcdcjjgaaGreatDoor
open Go.RowKit Go.Shelf
def YS(x y:Nat):Nat:=x*y/O
def J3(x y:Nat):Nat:=x*y%O
variable{over x y:Nat}
def XV(x y:Nat)(a:x<O)(b:y<O)(w:World):Calls Tryz.prog 190 #[.int .u64 (x:Nat),.int .u64 (y:Nat)] w λe c=>e=.returned (.tuple #[.int .u64 (YS x y:Nat),.int .u64 (J3 x y:Nat)])/\c=w:=
 Tryz.bits_Mul64 x y a b w
def NE(a:x<O)(b:y<O):x*y<=340282366920938463426481119284349108225:=by
 unfold O at a b;have:=Nat.mul_le_mul (show x<=18446744073709551615 by omega) (show y<=18446744073709551615 by omega);omega
theorem RF{r:Nat}(a:x<O)(b:y<O)(d:r<O)(c:over<O):
 YS x y+Yl (J3 x y) over 0<O/\YS x y+Yl (J3 x y) over 0+Yl r (J6 (J3 x y) over 0) 0<O/\J6 r (J6 (J3 x y) over 0) 0<O/\
 J6 r (J6 (J3 x y) over 0) 0+O*(YS x y+Yl (J3 x y) over 0+Yl r (J6 (J3 x y) over 0) 0)=r+x*y+over:=by
 have hp:=NE a b;grind[YS,J3,Yl,J6,O]
def YL(xs bs:U)(ro wd i over:Nat)(q:U):Prop:=
 q.length=i/\DR O q/\over<O/\val O q+O^i*over=val O ((xs.drop ro).take i)+val O (bs.take i)*wd
def YL.start(xs bs:U)(ro wd:Nat):YL xs bs ro wd 0 0 []:=⟨J,DR.nil _,by unfold O;omega,by simp[val]⟩
theorem YL.step{xs bs:U}{ro wd i:Nat}{q:U}(h:YL xs bs ro wd i over q)(d a:Nat)(e:d<O)(f:a<O)(k:d+O*a=xs[ro+i]?.getD 0+bs[i]?.getD 0*wd+over):YL xs bs ro wd (i+1) a (q++[d]):=by
 obtain⟨b,c,g,j⟩:=h;refine⟨by simp;omega,c.append (DR.cons e (DR.nil _)),f,?_⟩;rw[J4,b,Jk,Jk,List.getElem?_drop,AL,Ce,A9,A9];grind
def LH(c ro len cap:Nat)(xs:List Nat)(a:WO)(u:Nat)(bs:List Nat)(wd:Nat)(w:World)
(H:DU w c xs)(N:DR O xs)(ak:ro+len<=xs.length)(ah:len<=cap)(v:Row .u64 w (.slice a len u) bs)(K:DR O bs)(y:∀p,a=some p->0<len->p.block≠c)(z:wd<O):
 Calls Tryz.prog 172 #[.slice (some ⟨c,ro,none⟩) len cap,.slice a len u,.int .u64 (wd:Nat)] w λe o=>
  ∃over q,e=.returned (.int .u64 (over:Nat))/\YL xs bs ro wd len over q/\DU o c (Da xs ro len q)/\w.grownBy o (some c):=by
 obtain⟨hl,ai,X,aj,f⟩:=Jn v;have S:=Hid.o (p:=Hid (len=bs.length)) hl;have C:=Hid.o (p:=Hid (∀j,j<len->∃b n,a=some ⟨b,n,none⟩/\b<w.heap.size/\w.cell? ⟨b,n+j,none⟩=some (.int .u64 (bs[j]?.getD 0:Nat)))) f;have D:=Hid.o (p:=Hid (∀p,a=some p->0<len->p.block≠c)) y;clear f hl y v;go_enter Tryz.func172,Tryz.ntmps172
 go_wp2;go_loopw [7,15] (λP m wr=>∃(i over:Nat) (q:List Nat),m=.int .i64 i/\P=.int .u64 (over:Nat)/\i<=len/\over<O/\Hid (YL xs bs ro wd i over q)/\DU wr c (Da xs ro i q)/\w.grownBy wr (some c)) (λ_ m _=>len-(intOf m).toNat)
 case atStart=>exact⟨0,0,[],J,J,AN _,by unfold O;omega,YL.start _ _ _ _,by rw[mid_zero];exact H,Yu _ _⟩
 case round=>
  obtain⟨i,over,q,rfl,rfl,hi,M,l,k,hg⟩:=hrel;by_cases L:i<len
  . obtain⟨b,n,rfl,I,f⟩:=C.o i L;have E:=D.o _ J Z;have g:=l.o.1;have W:=(Bs (w:=w) (hg.block b I λe=>E (by cases e;rfl))).trans f;have ad:wr.cell? ⟨c,ro+i,none⟩=some (.int .u64 (xs[ro+i]?.getD 0:Nat)):=by rw[<-XT g Z];exact k.cell (by rw[JK g Z];omega)
    have ae:=k.frozen (ro+i);have t:=K.getD uo i;have G:=N.getD uo (ro+i);obtain⟨Q,A,R,B⟩:=RF t z G M;have s:=Hid.o (p:=Hid _) (l.o.step _ _ R A B);have T:=Hid.o (p:=Hid (q.length=i)) g;have F:=Hid.o (p:=Hid (∀d,(Da xs ro i q).set (ro+i) d=Da xs ro (i+1) (q++[d]))) λd=>F4 g Z d;clear f g B;generalize bs[i]?.getD 0=x at *;generalize xs[ro+i]?.getD 0=r at *;have U:=Ii (J3 x wd) over;have V:=Ii r (J6 (J3 x wd) over 0);unfold O at Q A;go_wp2_with(first
     |(go_at_call 190;refine(XV _ _ t z _).mono ?_;rintro e o ⟨rfl,rfl⟩))
    exact⟨⟨i+1,YS x wd+Yl (J3 x wd) over 0+Yl r (J6 (J3 x wd) over 0) 0,q++[J6 r (J6 (J3 x wd) over 0) 0],DQ,DQ,Z,s.o.2.2.1,s,by rw[<-F.o];exact k.set _ _,Jf hg (JA _ _ _ _)⟩,by simp[intOf];omega⟩
  . obtain rfl:i=len:=Z
    go_wp2;go_ret;exact⟨over,q,J,l.o,k,hg⟩
