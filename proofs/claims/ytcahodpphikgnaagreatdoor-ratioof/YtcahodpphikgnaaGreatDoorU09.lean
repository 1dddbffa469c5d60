import Derived.Test.YtcahodpphikgnaaGreatDoorU07
import Derived.Test.YtcahodpphikgnaaGreatDoorUShelf
set_option linter.all false
set_option maxRecDepth 99999
set_option maxHeartbeats 0
namespace Go.Proofs.YtcahodpphikgnaaGreatDoor
open Go.RowKit Go.Shelf
def Yl(x y:Nat):Nat:=x*y/O
def JL(x y:Nat):Nat:=x*y%O
variable{over x y:Nat}
def YY(x y:Nat)(a:x<O)(b:y<O)(w:World):Calls Tryz.prog 119 #[.int .u64 (x:Nat),.int .u64 (y:Nat)] w λe c=>e=.returned (.tuple #[.int .u64 (Yl x y:Nat),.int .u64 (JL x y:Nat)])/\c=w:=
 Tryz.bits_Mul64 x y a b w
def Fj(a:x<O)(b:y<O):x*y<=340282366920938463426481119284349108225:=by
 unfold O at a b;have:=CS (show x<=18446744073709551615 by omega) (show y<=18446744073709551615 by omega);omega
theorem IP{r:Nat}(a:x<O)(b:y<O)(d:r<O)(c:over<O):
 Yl x y+J2 (JL x y) over 0<O/\Yl x y+J2 (JL x y) over 0+J2 r (JQ (JL x y) over 0) 0<O/\JQ r (JQ (JL x y) over 0) 0<O/\
 JQ r (JQ (JL x y) over 0) 0+O*(Yl x y+J2 (JL x y) over 0+J2 r (JQ (JL x y) over 0) 0)=r+x*y+over:=by
 have hp:=Fj a b;grind[Yl,JL,J2,JQ,O]
def Yg(xs bs:Ja)(ro wd i over:Nat)(q:Ja):Prop:=
 q.length=i/\Br O q/\over<O/\val O q+O^i*over=val O ((xs.drop ro).take i)+val O (bs.take i)*wd
def Yg.start(xs bs:Ja)(ro wd:Nat):Yg xs bs ro wd 0 0 []:=⟨J,Br.nil _,by unfold O;omega,by simp[val]⟩
theorem Yg.step{xs bs:Ja}{ro wd i:Nat}{q:Ja}(h:Yg xs bs ro wd i over q)(d a:Nat)(e:d<O)(f:a<O)(k:d+O*a=xs[ro+i]?.getD 0+bs[i]?.getD 0*wd+over):Yg xs bs ro wd (i+1) a (q++[d]):=by
 obtain⟨b,c,g,j⟩:=h;refine⟨by simp;omega,c.append (Br.cons e (Br.nil _)),f,?_⟩;rw[JN,b,Jh,Jh,List.getElem?_drop,Cg,AR,AZ,AZ];grind
def X3(c ro len cap:Nat)(xs:Ja)(a:MD)(v:Nat)(bs:Ja)(wd:Nat)(w:World)
(I:Bs w c xs)(P:Br O xs)(ai:ro+len<=xs.length)(ae:len<=cap)(y:Row .u64 w (.slice a len v) bs)(L:Br O bs)(z:∀p,a=some p->0<len->p.block≠c)(A:wd<O):
 Calls Tryz.prog 97 #[.slice (some ⟨c,ro,none⟩) len cap,.slice a len v,.int .u64 (wd:Nat)] w λe s=>
  ∃over q,e=.returned (.int .u64 (over:Nat))/\Yg xs bs ro wd len over q/\Bs s c (Bw xs ro len q)/\w.grownBy s (some c):=by
 obtain⟨hl,ag,X,ah,f⟩:=Jj y;have T:=Hid.o (p:=Hid (len=bs.length)) hl;have D:=Hid.o (p:=Hid (∀j,j<len->∃b o,a=some ⟨b,o,none⟩/\b<w.heap.size/\w.cell? ⟨b,o+j,none⟩=some (.int .u64 (bs[j]?.getD 0:Nat)))) f;have E:=Hid.o (p:=Hid (∀p,a=some p->0<len->p.block≠c)) z;clear f hl z y;go_enter Tryz.func97,Tryz.ntmps97
 go_wp2;go_loopw [7,15] (λQ n wr=>∃(i over:Nat) (q:Ja),n=.int .i64 i/\Q=.int .u64 (over:Nat)/\i<=len/\over<O/\Hid (Yg xs bs ro wd i over q)/\Bs wr c (Bw xs ro i q)/\w.grownBy wr (some c)) (λ_ n _=>len-(intOf n).toNat)
 case atStart=>exact⟨0,0,[],J,J,AY _,by unfold O;omega,Yg.start _ _ _ _,by rw[mid_zero];exact I,J7 _ _⟩
 case round=>
  obtain⟨i,over,q,rfl,rfl,hi,N,l,g,m⟩:=hrel;by_cases M:i<len
  . obtain⟨b,o,rfl,K,f⟩:=D.o i M;have F:=E.o _ J Y;have k:=l.o.1;have W:=(BM (w:=w) (m.block b K λe=>F (by cases e;rfl))).trans f;have aa:wr.cell? ⟨c,ro+i,none⟩=some (.int .u64 (xs[ro+i]?.getD 0:Nat)):=by rw[<-YW k Y];exact g.cell (by rw[Jz k Y];omega)
    have ad:=g.frozen (ro+i);have u:=L.getD uo i;have H:=P.getD uo (ro+i);obtain⟨R,B,S,C⟩:=IP u A H N;have t:=Hid.o (p:=Hid _) (l.o.step _ _ S B C);have G:=Hid.o (p:=Hid (∀d,(Bw xs ro i q).set (ro+i) d=Bw xs ro (i+1) (q++[d]))) λd=>Xi k Y d;clear f k C;generalize bs[i]?.getD 0=x at *;generalize xs[ro+i]?.getD 0=r at *;have U:=Ds (JL x wd) over;have V:=Ds r (JQ (JL x wd) over 0);unfold O at R B;go_wp2_with(first
     |(go_at_call 119;refine(YY _ _ u A _).mono ?_;rintro e s ⟨rfl,rfl⟩))
    exact⟨⟨i+1,Yl x wd+J2 (JL x wd) over 0+J2 r (JQ (JL x wd) over 0) 0,q++[JQ r (JQ (JL x wd) over 0) 0],Bq,Bq,Y,t.o.2.2.1,t,by rw[<-G.o];exact g.set _ _,Jp m (JB _ _ _ _)⟩,by simp[intOf];omega⟩
  . obtain rfl:i=len:=Y
    go_wp2;go_ret;exact⟨over,q,J,l.o,g,m⟩
