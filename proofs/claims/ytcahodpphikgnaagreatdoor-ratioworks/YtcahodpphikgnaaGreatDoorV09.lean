import Derived.Test.YtcahodpphikgnaaGreatDoorV07
import Derived.Test.YtcahodpphikgnaaGreatDoorVShelf
set_option linter.all false
set_option maxRecDepth 99999
set_option maxHeartbeats 0
namespace Go.Proofs.YtcahodpphikgnaaGreatDoor
open Go.RowKit Go.Shelf
def Yu(x y:Nat):Nat:=x*y/O
def JO(x y:Nat):Nat:=x*y%O
variable{over x y:Nat}
def Y9(x y:Nat)(a:x<O)(b:y<O)(w:World):Calls Tryz.prog 119 #[.int .u64 (x:Nat),.int .u64 (y:Nat)] w λe c=>e=.returned (.tuple #[.int .u64 (Yu x y:Nat),.int .u64 (JO x y:Nat)])/\c=w:=
 Tryz.bits_Mul64 x y a b w
def Hb(a:x<O)(b:y<O):x*y<=340282366920938463426481119284349108225:=by
 unfold O at a b;have:=CX (show x<=18446744073709551615 by omega) (show y<=18446744073709551615 by omega);omega
theorem K8{r:Nat}(a:x<O)(b:y<O)(d:r<O)(c:over<O):
 Yu x y+J4 (JO x y) over 0<O/\Yu x y+J4 (JO x y) over 0+J4 r (JT (JO x y) over 0) 0<O/\JT r (JT (JO x y) over 0) 0<O/\
 JT r (JT (JO x y) over 0) 0+O*(Yu x y+J4 (JO x y) over 0+J4 r (JT (JO x y) over 0) 0)=r+x*y+over:=by
 have hp:=Hb a b;grind[Yu,JO,J4,JT,O]
def Yo(xs bs:Ja)(ro wd i over:Nat)(q:Ja):Prop:=
 q.length=i/\Bs O q/\over<O/\val O q+O^i*over=val O ((xs.drop ro).take i)+val O (bs.take i)*wd
def Yo.start(xs bs:Ja)(ro wd:Nat):Yo xs bs ro wd 0 0 []:=⟨J,Bs.nil _,by unfold O;omega,by simp[val]⟩
theorem Yo.step{xs bs:Ja}{ro wd i:Nat}{q:Ja}(h:Yo xs bs ro wd i over q)(d a:Nat)(e:d<O)(f:a<O)(k:d+O*a=xs[ro+i]?.getD 0+bs[i]?.getD 0*wd+over):Yo xs bs ro wd (i+1) a (q++[d]):=by
 obtain⟨b,c,g,j⟩:=h;refine⟨by simp;omega,c.append (Bs.cons e (Bs.nil _)),f,?_⟩;rw[JP,b,Ji,Ji,List.getElem?_drop,Ci,AV,A0,A0];grind
def Fw(c ro len cap:Nat)(xs:Ja)(a:N8)(v:Nat)(bs:Ja)(wd:Nat)(w:World)
(I:Bv w c xs)(P:Bs O xs)(aj:ro+len<=xs.length)(ae:len<=cap)(y:Row .u64 w (.slice a len v) bs)(L:Bs O bs)(z:∀p,a=some p->0<len->p.block≠c)(A:wd<O):
 Calls Tryz.prog 97 #[.slice (some ⟨c,ro,none⟩) len cap,.slice a len v,.int .u64 (wd:Nat)] w λe s=>
  ∃over q,e=.returned (.int .u64 (over:Nat))/\Yo xs bs ro wd len over q/\Bv s c (B0 xs ro len q)/\w.grownBy s (some c):=by
 obtain⟨hl,ah,X,ai,f⟩:=Jm y;have T:=Hid.o (p:=Hid (len=bs.length)) hl;have D:=Hid.o (p:=Hid (∀j,j<len->∃b o,a=some ⟨b,o,none⟩/\b<w.heap.size/\w.cell? ⟨b,o+j,none⟩=some (.int .u64 (bs[j]?.getD 0:Nat)))) f;have E:=Hid.o (p:=Hid (∀p,a=some p->0<len->p.block≠c)) z;clear f hl z y;go_enter Tryz.func97,Tryz.ntmps97
 go_wp2;go_loopw [7,15] (λQ n wr=>∃(i over:Nat) (q:Ja),n=.int .i64 i/\Q=.int .u64 (over:Nat)/\i<=len/\over<O/\Hid (Yo xs bs ro wd i over q)/\Bv wr c (B0 xs ro i q)/\w.grownBy wr (some c)) (λ_ n _=>len-(intOf n).toNat)
 case atStart=>exact⟨0,0,[],J,J,AR _,by unfold O;omega,Yo.start _ _ _ _,by rw[mid_zero];exact I,Ya _ _⟩
 case round=>
  obtain⟨i,over,q,rfl,rfl,hi,N,l,g,m⟩:=hrel;by_cases M:i<len
  . obtain⟨b,o,rfl,K,f⟩:=D.o i M;have F:=E.o _ J Y;have k:=l.o.1;have W:=(BM (w:=w) (m.block b K λe=>F (by cases e;rfl))).trans f;have aa:wr.cell? ⟨c,ro+i,none⟩=some (.int .u64 (xs[ro+i]?.getD 0:Nat)):=by rw[<-Y7 k Y];exact g.cell (by rw[JB k Y];omega)
    have ad:=g.frozen (ro+i);have u:=L.getD uo i;have H:=P.getD uo (ro+i);obtain⟨R,B,S,C⟩:=K8 u A H N;have t:=Hid.o (p:=Hid _) (l.o.step _ _ S B C);have G:=Hid.o (p:=Hid (∀d,(B0 xs ro i q).set (ro+i) d=B0 xs ro (i+1) (q++[d]))) λd=>Xw k Y d;clear f k C;generalize bs[i]?.getD 0=x at *;generalize xs[ro+i]?.getD 0=r at *;have U:=Ei (JO x wd) over;have V:=Ei r (JT (JO x wd) over 0);unfold O at R B;go_wp2_with(first
     |(go_at_call 119;refine(Y9 _ _ u A _).mono ?_;rintro e s ⟨rfl,rfl⟩))
    exact⟨⟨i+1,Yu x wd+J4 (JO x wd) over 0+J4 r (JT (JO x wd) over 0) 0,q++[JT r (JT (JO x wd) over 0) 0],Br,Br,Y,t.o.2.2.1,t,by rw[<-G.o];exact g.set _ _,Ju m (JD _ _ _ _)⟩,by simp[intOf];omega⟩
  . obtain rfl:i=len:=Y
    go_wp2;go_ret;exact⟨over,q,J,l.o,g,m⟩
