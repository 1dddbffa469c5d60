import Derived.Test.YtcahejkcdcjjgaaGreatDoorW18
import Derived.Test.YtcahejkcdcjjgaaGreatDoorW04
set_option linter.all false
open Go.Value renaming slice->C,int->F,pointer->I
open Go renaming undef->E,World->H
open Go.IntKind renaming u64->G,i64->M
open Go.Proofs.Tryz renaming prog->L
set_option maxRecDepth 99999
set_option maxHeartbeats 0
namespace Go.Proofs.YtcahejkcdcjjgaaGreatDoor
open List renaming replicate->Zw
open Proofs.Tryz
open Go.RowKit Go.Shelf
attribute [local go_sem] Oper.semAt_some
section
def Bn:=@IntWalk.u64_in
def BS:=@IntWalk.i64_in
variable{c ds xs:Ja}{B R V d0 d1 f g j l len n q r ro s u0:Nat}{v:Value}{w:H}
theorem Nw(h:ds.length=n+2):val Y ds=(ds[n+1]?.getD 0*Y+ds[n]?.getD 0)*Y^n+val Y (ds.take n):=by
 have a:=Jp Y ds (n+1);rw[Ac O,Jp,Cc]at a;rw[a];grind
theorem Sp(h:ds.length=n+3):val Y ds=((ds[n+2]?.getD 0*Y+ds[n+1]?.getD 0)*Y+ds[n]?.getD 0)*Y^n+val Y (ds.take n):=by
 have a:=Jp Y ds (n+2);rw[Ac O,Jp,Jp,Cc,Cc]at a;rw[a];grind
theorem Ya(h:DK Y ds)(n:Nat):val Y (ds.take n)<Y^n:=by
 have:=J7 (h.take n);grind[Ao,Au,Y]
def Ho{a:H}(h:Below B a w)(n:Nat):Below B a (w.drewN n):=h.trans ⟨J,J,J,Aa _,λ_ _=>rfl⟩
theorem Nx(a:u0<Y)(h:Xf q d0<r\/Xf q d0=r/\Yd q d0<=u0):q*d0<=r*Y+u0:=by
 grind[Xf,Yd,Y]
theorem Sr(b:u0<Y)(h:¬(Xf q d0<r))(a:¬(Xf q d0=r/\Yd q d0<=u0)):r*Y+u0<q*d0:=by
 grind[Xf,Yd,Y]
theorem Ss{u2 u1 E:Nat}(b:R=((u2*Y+u1)*Y+u0)*E+f)(d:V=(d1*Y+d0)*E+j)(i:j<E)(e:Y<=2*d1)(g:d0<Y)(c:R<V*Y)(h:d1<=u2):FA R V (Y-1):=by
 have a:d0*E+j<Y*E:=by
  have:=Ae E (show d0+1<=Y from g);grind
 refine QQ (d1:=d1) (E:=Y*E) (lo:=(u2-d1)*(Y*(Y*E))+(u1*Y+u0)*E+f) (lo2:=d0*E+j) ?_ ?_ a e c Jd
 . obtain⟨t,rfl⟩:∃t,u2=d1+t:=⟨u2-d1,O⟩;rw[b,Nat.add_sub_cancel_left];grind
 . rw[d];grind
def Su{U E:Nat}(a:R=(U*Y+u0)*E+f)(c:V=(d1*Y+d0)*E+j)(b:f<E)(d:j<E)(e:Y<=2*d1)(i:q<Y)(h:q=(U*Y+u0)/(d1*Y+d0)):FA R V q:=by
 rw[h];have hp:0<d1:=by unfold Y at e;omega
 have g:=Ch Y hp;exact QP a c b d (by rw[<-h];omega) O
def Sv(l a j:Nat)(h1:(l:Int)-1=a)(h2:(l:Int)-2=j)(b i S T ca cb u2 u1 u0 d1 d0 R V:Nat)(w:H)(hl:l<=1099511627776)
(ka:w.cell? ⟨b,i+l,none⟩=some (F G (u2:Nat)))(ak:w.cell? ⟨b,i+a,none⟩=some (F G (u1:Nat)))(aj:w.cell? ⟨b,i+j,none⟩=some (F G (u0:Nat)))
(kb:w.cell? ⟨S,T+a,none⟩=some (F G (d1:Nat)))(bg:w.cell? ⟨S,T+j,none⟩=some (F G (d0:Nat)))(W:b<w.heap.size)
(ai:u1<Y)(K:u0<Y)(ad:d1<Y)(m:d0<Y)(ae:0<d1)
(HT:Hid (d1<=u2->FA R V (Y-1)))(z:Hid (∀q:Nat,q<Y->q=((u2*Y+u1)*Y+u0)/(d1*Y+d0)->FA R V q)):
 Calls L 198 #[C (some ⟨b,i,none⟩) (l+1) ca,C (some ⟨S,T,none⟩) l cb] w λe d=>∃g,e=.returned (F G (g:Nat))/\g<Y/\FA R V g/\Bl w d:=by
 have i1:M.wrap ((l:Int)-1)=(a:Int):=by rw[h1];exact BS _ O
 have i2:M.wrap ((l:Int)-2)=(j:Int):=by rw[h2];exact BS _ O
 have j1:(a:Int)<(l:Int):=O
 have j2:(j:Int)<(l:Int):=O
 have j3:(a:Int)<(l:Int)+1:=O
 have j4:(j:Int)<(l:Int)+1:=O
 have i3:M.wrap (a:Int)=(a:Int):=BS _ O;have j5:a<l:=O
 have bc:a<l+1:=O
 have bd:a<=l:=O
 have bf:(a:Int)<=(l:Int):=O
 have j7:(l:Int)<(l:Int)+1:=O
 have j8:(0:Int)<=(l:Int):=O
 have j9:(0:Int)<=(a:Int):=O
 have az:(0:Int)<=(j:Int):=O
 have j6:j<l:=O
 go_enter func198,ntmps198
 go_upto_region 2 with fail
 go_quiet (fail)
 by_cases ah:d1<=u2
 . go_wp2_with fail
   go_ret;exact⟨Y-1,J,by unfold Y;omega,HT.o ah,Ho (BB _ w) _⟩
 . have A:=QM (B:=Y) (u:=u2*Y+u1) (u1:=u0) (d1:=d1) (d0:=d0) ae ad K (by
    have:=Ae Y (show u2+1<=d1 by omega);rw[A9,Fa]at this;omega)
   have Qd:=Z λV=>NY u2 u1 d1 O ai ad V;have Qf:=A.2.2.1;have Qe:=A.2.2.2;have f:=Z A;clear A HT;generalize hX:(u2*Y+u1)/d1=q0 at *;generalize hY:(u2*Y+u1)%d1=r0 at *;generalize hZ:u2*Y+u1=U at *;clear hX hY hZ;go_wp2_with fail
   have t:Bl w (w.drewN (nq+1)):=Ho (BB _ w) _;go_region_held3 (λd=>d.cell? ⟨b,i+l,none⟩=some (F G (u2:Nat))/\d.cell? ⟨b,i+a,none⟩=some (F G (u1:Nat))) (refine⟨?_,?_⟩<;>(first|(go_keep;done)|(simp[*];done)))
    (first|(go_at_call 164;refine(Qd.o _).mono ?_;rintro e w1 ⟨rfl,D⟩;have bj:=(D.cell (p:=⟨b,i+l,none⟩) (show b<w.heap.size from W)).trans ka;have bi:=(D.cell (p:=⟨b,i+a,none⟩) (show b<w.heap.size from W)).trans ak;have bh:=(D.cell (p:=⟨b,i+j,none⟩) (show b<w.heap.size from W)).trans aj))
   have t:Bl w w1:=Bt t D;go_wp2_with fail
   go_loopw [8,9] (λX rv wr=>∃(q r:Nat),X=F G (q:Nat)/\rv=F G (r:Nat)/\q<Y/\r<Y/\Hid (Id Y U u0 d1 d0 q r)/\wr=w1)
    (λX _ _=>(intOf X).toNat)
   case atStart=>exact⟨q0,r0,J,J,Qf,Qe,f,J⟩
   case round=>
    clear Qd f;obtain⟨q,r,rfl,rfl,c,ay,f,rfl⟩:=hrel;have k:0<d1*Y:=DH ae uo;by_cases c1:Xf q d0<r
    . have o:=Z (z.o q c (K1 f.o.1 f.o.2.1 k (Nx K (Ar c1))));clear k;go_wp2_with(first
       |(go_at_call 190;refine(FZ _ _ c m _).mono ?_;rintro e d ⟨rfl,rfl⟩))
      go_ret;exact⟨q,J,c,o.o,t⟩
    . by_cases c2:Xf q d0=r/\Yd q d0<=u0
      . have o:=Z (z.o q c (K1 f.o.1 f.o.2.1 k (Nx K (Ax c2))));obtain⟨c2,c3⟩:=c2;subst c2;clear k;go_wp2_with(first
         |(go_at_call 190;refine(FZ _ _ c m _).mono ?_;rintro e d ⟨rfl,rfl⟩))
        go_ret;exact⟨q,J,c,o.o,t⟩
      . obtain⟨g1,v,x,g4⟩:=QN f.o k (Sr K c1 c2);obtain⟨p,hp⟩:=ex (q-1:Nat);rw[hp]at v x g4;have an:(q:Int)-1=(p:Int):=O
        have ap:p<q:=O
        have aq:G.wrap (p:Int)=(p:Int):=by rw[BU];unfold Y at c;omega
        clear hp g1 f;have Q:=Is r d1;have N:=Z (z.o p);clear z;by_cases n:r+d1<Y
        . have v1:Yj r d1 0=r+d1:=by unfold Yj;rw[A6,Cf n]
          have y:YD r d1 0=0:=by unfold YD;rw[A6,A3 n]
          rw[v1,y]at Q;have P:=Z (show Id Y U u0 d1 d0 p (r+d1)from⟨v,x,g4,n⟩);clear v x v1 y k N;obtain⟨s,hs⟩:=ex (r+d1);rw[hs]at Q P n;clear hs;by_cases c3:Xf q d0=r
          . have c4:¬(Yd q d0<=u0):=λh=>c2 ⟨c3,h⟩;clear c2;go_wp2_with(first
             |(go_at_call 190;refine(FZ _ _ c m _).mono ?_;rintro e d ⟨rfl,rfl⟩))
            exact⟨⟨p,s,J,J,g4,n,P,by first|trivial|rfl⟩,by simp[intOf];omega⟩
          . clear c2;go_wp2_with(first
             |(go_at_call 190;refine(FZ _ _ c m _).mono ?_;rintro e d ⟨rfl,rfl⟩))
            exact⟨⟨p,s,J,J,g4,n,P,by first|trivial|rfl⟩,by simp[intOf];omega⟩
        . have o:=Z (N.o g4 (QO v x g4 m k O));have y:YD r d1 0=1:=by unfold YD;unfold Y at *;omega
          rw[y]at Q;generalize Yj r d1 0=s at *;clear v x y k N n;by_cases c3:Xf q d0=r
          . have c4:¬(Yd q d0<=u0):=λh=>c2 ⟨c3,h⟩;clear c2;go_wp2_with(first
             |(go_at_call 190;refine(FZ _ _ c m _).mono ?_;rintro e d ⟨rfl,rfl⟩))
            go_ret;exact⟨p,J,g4,o.o,t⟩
          . clear c2;go_wp2_with(first
             |(go_at_call 190;refine(FZ _ _ c m _).mono ?_;rintro e d ⟨rfl,rfl⟩))
            go_ret;exact⟨p,J,g4,o.o,t⟩
def Sw(a b:Zu)(n j k:Nat)(i bs:Ja)(w:H)(Q:Row G w (C a (n+3) j) i)(R:Row G w (C b (n+2) k) bs)(o:DK Y i)(f:DK Y bs)
(l:Y<=2*bs[n+1]?.getD 0)(y:val Y i<val Y bs*Y):
 Calls L 198 #[C a (n+3) j,C b (n+2) k] w λe S=>∃g,e=.returned (F G (g:Nat))/\g<Y/\FA (val Y i) (val Y bs) g/\Bl w S:=by
 obtain⟨A,U,ad,W,m⟩:=Jq Q;obtain⟨B,V,ae,X,s⟩:=Jq R;obtain⟨t,u,rfl,z,ka⟩:=m (n+2) O;obtain⟨_,_,c,_,N⟩:=m (n+1) O;cases c;obtain⟨_,_,c,_,K⟩:=m n O;cases c;obtain⟨v,x,rfl,T,kb⟩:=s (n+1) O;obtain⟨_,_,c,_,P⟩:=s n O;cases c;have d:0<Y:=by unfold Y;omega
 have p:=Sp A.symm;have r:=Nw B.symm;exact Sv (n+2) (n+1) n O O t u v x j k _ _ _ _ _ _ _ w O ka N K kb P z (o.getD d _) (o.getD d _) (f.getD d _) (f.getD d _) (by unfold Y at l;omega)
  (λh=>Ss p r (Ya f n) l (f.getD d _) y h) λq D h=>Su p r (Ya o n) (Ya f n) l D h
def DO.win{W:H}{b:Nat}(h:DO W b xs)(a len cap:Nat)(c:a+len<=xs.length)(d:len<=cap)(e:cap<=9223372036854775807)(f:len<=1099511627776):Row G W (C (some ⟨b,a,none⟩) len cap) ((xs.drop a).take len):=
 h.row a len cap c d e f
def Sx{q:Ja}(a:q.length=len)(h:ro+len<=xs.length):((DU xs ro len q).drop ro).take len=q:=by
 rw[DU,List.drop_append_of_le_length (by rw[Ai];omega),An (by rw[Ai];omega),Ah,A8 O,Ac O]
def Sy{p q:Ja}(hp:p.length=len)(h:ro+len<=xs.length):DU (DU xs ro len p) ro len q=DU xs ro len q:=by
 have a:(xs.take ro).length=ro:=by rw[Ai];omega
 rw[DU,DU,DU,A8 O,Ac O,List.drop_append,a,show ro+len-ro=len from by omega,An O,Ah,List.drop_append,hp,AX,An O,Ah,AB]
def Sz{q:Ja}(a:DK Y xs)(c:DK Y q):DK Y (DU xs ro len q):=by
 intro x b;rw[DU]at b;rcases Cs.1 b with h|h
 . exact(a.take ro) x h
 . rcases Cs.1 h with h|h
   . exact c x h
   . exact(a.drop _) x h
def S0(d ro n cap:Nat)(xs:Ja)(a:Zu)(j:Nat)(bs:Ja)(w:H)
(u:DO w d xs)(z:DK Y xs)(ai:ro+(n+3)<=xs.length)(y:n+3<=cap)(aj:cap<=9223372036854775807)(hn:n+3<=1099511627776)(l:Row G w (C a (n+2) j) bs)(m:DK Y bs)(ad:∀p,a=some p->0<n+2->p.block≠d)
(X:Y<=2*bs[n+1]?.getD 0)(W:val Y ((xs.drop ro).take (n+3))<val Y bs*Y):
 Calls L 179 #[C (some ⟨d,ro,none⟩) (n+3) cap,C a (n+2) j] w λe w'=>
  ∃q,e=.returned (F G ((val Y ((xs.drop ro).take (n+3))/val Y bs:Nat):Int))/\(q.length=n+3/\DK Y q/\val Y q=val Y ((xs.drop ro).take (n+3))%val Y bs)/\DO w' d (DU xs ro (n+3) q)/\w.grownBy w' (some d):=by
 have R:=u.win ro (n+3) cap ai y aj hn;have B:=Z (Sw _ a n cap j _ bs w R l ((z.drop ro).take _) m X W);have s:=(Jq l).1;have K:val Y bs<Y^(n+2):=by have:=J7 m;rwa[<-s]at this
 have N:val Y bs<Y^(n+3):=Ao K (Au uo O);obtain⟨an,A,t,D,T,HA,i,Qk⟩:=F1 N l ad z m u ai s;clear R X W s K N l ad z m u;go_enter func179,ntmps179
 go_upto_region 2 with(go_at_call 198;refine B.o.mono ?_;rintro e w1 ⟨g,rfl,hg,V,k⟩;have r:=Z V;clear V B)
 have S:=Z (SP d ro (n+2) cap xs a j bs g w1 (HA.o.below k) D.o i.o y (Row.below A.o k) T.o t.o hg);go_upto_if 13 with(go_at_call 199;refine S.o.mono ?_;rintro e w2 ⟨c,q,rfl,⟨hc,ah⟩,hA2,v⟩;have b:=Z ah;clear ah S)
 obtain rfl|rfl:c=0\/c=1:=O
 . have o:=Z (QR r.o (by have:=b.o.2.2;rw[Cb,A6]at this;exact this));have HE:=Z o.o.1;have HM:=Z o.o.2;clear o r;go_wp2_with fail
   go_ret;exact⟨q,by rw[<-HE.o];rfl,⟨b.o.1,b.o.2.1,HM.o⟩,hA2,Je (JN k _) v⟩
 . have Q:=Z (LK d ro (n+3) cap (DU xs ro (n+3) q) a (n+2) j bs w2 hA2 (Sz D.o b.o.2.1) (by rw[JO b.o.1 i.o];exact i.o) y O O (Row.grown (Row.below A.o k) v t.o) T.o t.o);have Ql:1<=g:=by
    rcases AQ g with h|h
    . exfalso
      have h1:=b.o.2.2;have h2:=J7 b.o.2.1;rw[b.o.1]at h2;rw[h,Cb,Nat.mul_one]at h1;omega
    . exact h
   obtain⟨p,hp⟩:=ex (g-1:Nat);have ap:(g:Int)-1=(p:Int):=O
   have aq:G.wrap (p:Int)=(p:Int):=by rw[BU];unfold Y at hg;omega
   have HP:=Z hp;clear hp Ql;go_wp2_with(go_at_call 146;refine Q.o.mono ?_;rintro e w3 ⟨c3,q3,rfl,ae,hA3,ak⟩;have f:=Z ae;clear ae Q)
   go_ret;have x:=QS r.o (P:=Y^(n+3)) (by have:=b.o.2.2;rw[Nat.mul_one]at this;exact this) (by have:=J7 b.o.2.1;rw[b.o.1]at this;exact this) (q2:=val Y q3) (c2:=c3)
    (by
     have U:=f.o.2.2.2;rw[Sx b.o.1 i.o,Ac (show bs.length<=n+3 by rw[<-Qk.o];omega)]at U;exact U)
    (by have:=J7 f.o.2.1;rw[f.o.1]at this;exact this) f.o.2.2.1
   rw[HP.o]at x;rw[Sy b.o.1 i.o]at hA3;exact⟨q3,by rw[<-x.2.1];rfl,⟨f.o.1,f.o.2.1,x.2.2⟩,hA3,Je (Je (JN k _) v) ak⟩
def Ny{bs:Ja}{d:Nat}(j:DK Y bs)(hl:bs.length=l+2)(g:bs[l+1]?.getD 0=d)(c:2^(f-1)<=d)(e:d<2^f)(m:1<=f)(k:f<=64)(hs:s=64-f):
 val Y bs*2^s<Y^(l+2)/\2^63*Y^(l+1)<=val Y bs*2^s:=by
 have o:val Y bs=val Y (bs.take (l+1))+Y^(l+1)*d:=by
  have h:=Jp Y bs (l+1);rwa[Ac O,g]at h
 have n:=Ya j (l+1);have p1:2^f*2^s=Y:=by rw[<-CC,F4];congr 1;omega
 have i:2^(f-1)*2^s=2^63:=by rw[<-CC];congr 1;omega
 constructor
 . have b:val Y bs+1<=Y^(l+1)*2^f:=by
    have:=AA (Y^(l+1)) (show d+1<=2^f from e);rw[CU,Nat.mul_one]at this;omega
   have a:=Ae (2^s) b;rw[Cg,p1,<-Cc,A9,Fa]at a;exact Ao (Nat.lt_add_of_pos_right (A4 s)) a
 . have b:Y^(l+1)*2^(f-1)<=val Y bs:=by
    have:=AA (Y^(l+1)) c;omega
   have a:=Ae (2^s) b;rw[Cg,i,AO]at a;exact a
def TA(i:DK Y c)(hl:c.length=l+3)(b:val Y c=V)(d:V<Y^(l+2))(j:2^63*Y^(l+1)<=V):
 val Y (c.take (l+2))=V/\Y<=2*(c.take (l+2))[l+1]?.getD 0:=by
 have g:=LW (B:=Y) (k:=l+2) (D:=c) O (by rw[b];exact d);have a:val Y (c.take (l+2))=V:=by
  have h:=val_append Y (c.take (l+2)) (c.drop (l+2));rw[A0,g,Cb,A6,b]at h;exact h.symm
 refine⟨a,?_⟩;rw[Cj O];have e:=Jp Y c (l+1);have m:=Ya i (l+1);rw[show l+1+1=l+2 from J,a]at e;rcases AF (c[l+1]?.getD 0) (2^63)with h|h
 . exfalso
   have f:=AA (Y^(l+1)) (show c[l+1]?.getD 0+1<=2^63 from h);rw[CU,Nat.mul_one,AO _ (2^63)]at f;omega
 . rw[F4];omega
def TB{m la:Nat}(c:m<Y^la)(d:Y^(l+1)<=n)(hl:l+1<=la):m*2^s<n*2^s*Y^(la-(l+1)):=by
 have b:Y^(l+1)*Y^(la-(l+1))=Y^la:=by rw[<-CC];congr 1;omega
 have a:=Ae (Y^(la-(l+1))) d;rw[b]at a;rw[Nat.mul_right_comm];exact Nat.mul_lt_mul_of_pos_right (Ao c a) (A4 s)
def JK{P:Program}{ops:Array Oper}{Q:Exit->Act->H->Prop}{i:Nat}{o:Oper}{K:Act->H->Prop}{a:Act}(c:ops[i]?=some o)(b:o.guard=none)
(h:∀K':Act->H->Prop,(∀a w,K a w->K' a w)->o.wp P a w K' Q):wpOp P ops Q i K a w:=by
 unfold wpOp;rw[c];simp only[Region.wanted,b,if_true];exact Ar (h K λ_ _ h=>h)
def D6{p q:Prop}(k:q)(h:Hid q->p:=by intro x;refine JK rfl rfl λK a=>?_;go_simp;refine a _ _ ?_;(repeat apply Exists.intro);refine ⟨rfl,?_⟩;exact x.o):p:=h k
def Ev(V:H)(b:Nat)(v:Value)(g len c:Nat)(a:Ja):Prop:=
 v=C (some ⟨g,0,none⟩) len len/\DO V g a/\a.length=len/\DK Y a/\val Y a=c/\b<=g
def Ev.below{V V':H}{b g len c:Nat}{v:Value}{a:Ja}(h:Ev V b v g len c a)(d:Bl V V'):Ev V' b v g len c a:=
 ⟨h.1,h.2.1.below d,h.2.2⟩
def Ev.box{V:H}{u:Value}(h:Ev V f v g len j c)(hl:0<len)(d:Boxed V B 34 (C none 0 0)):Ev (V.setCell ⟨B,0,none⟩ u) f v g len j c:=
 ⟨h.1,h.2.1.far (by
  intro e;simp only at e;obtain⟨i,b⟩:=h.2.1;rw[e,show V.heap[B]?=_ from d]at b;obtain⟨z,a,rfl⟩:∃z a,c=z::a:=by
   cases c with
    |nil=>have:=h.2.2.1;simp at this;omega
    |cons z a=>exact⟨z,a,J⟩
  simp[cellsOf]at b) u,h.2.2⟩
def Ev.ne_box{V:H}{b:Zu}{l i:Nat}(h:Ev V f v g len j c)(hl:0<len)(k:Boxed V B 34 (C b l i)):g≠B:=by
 intro e;obtain⟨m,d⟩:=h.2.1;rw[e,show V.heap[B]?=_ from k]at d;obtain⟨z,a,rfl⟩:∃z a,c=z::a:=by
  cases c with
  |nil=>have:=h.2.2.1;simp at this;omega
  |cons z a=>exact⟨z,a,J⟩
 simp[cellsOf]at d
end
section
structure SplC where
 w:World
 bs:Value
 rs:Value
 ds:Value
 qs:Value
 B9:Nat
 B10:Nat
 B11:Nat
 B12:Nat
 gR:Nat
 gZ:Nat
 gQ:Nat
 Zb:Ja
structure SplC.Apart(c:SplC):Prop where
 r0:c.gR≠c.w.heap.size
 r9:c.gR≠c.B9
 r10:c.gR≠c.B10
 r11:c.gR≠c.B11
 r12:c.gR≠c.B12
 rz:c.gR≠c.gZ
 rq:c.gR≠c.gQ
 q0:c.gQ≠c.w.heap.size
 q9:c.gQ≠c.B9
 q10:c.gQ≠c.B10
 q11:c.gQ≠c.B11
 q12:c.gQ≠c.B12
 qz:c.gQ≠c.gZ
 lr:c.w.heap.size<=c.gR
 lq:c.w.heap.size<=c.gQ
structure SplC.Holds(c:SplC)(W:World):Prop where
 b0:Boxed W c.w.heap.size 34 c.bs
 b9:Boxed W c.B9 34 c.rs
 b10:Boxed W c.B10 34 c.ds
 b11:Boxed W c.B11 34 c.qs
 b12:Boxed W c.B12 34 c.qs
 z:DO W c.gZ c.Zb
 B:Below c.w.heap.size c.w W
theorem SplC.Holds.kept{c:SplC}{W W':H}{g:Nat}(h:c.Holds W)(hg:W.grownBy W' (some g))(a:g≠c.w.heap.size)(i:g≠c.B9)(b:g≠c.B10)(d:g≠c.B11)(f:g≠c.B12)(j:g≠c.gZ)(hl:c.w.heap.size<=g):c.Holds W':=
 ⟨h.b0.kept hg (λe=>by grind),h.b9.kept hg (λe=>by grind),h.b10.kept hg (λe=>by grind),h.b11.kept hg (λe=>by grind),
  h.b12.kept hg (λe=>by grind),h.z.kept hg (λe=>by grind),below_grown h.B hg hl⟩
def SplC.Holds.drew{c:SplC}{W:H}(h:c.Holds W):c.Holds W.drew:=
 ⟨h.b0,h.b9,h.b10,h.b11,h.b12,h.z,h.B.drew⟩
variable{f:Bool}{D D' Q Q':Ja}{B:Nat}{W W' W0:H}
def SplC.own(c:SplC)(b:c.w.heap.size<=B):OwnFrom B (λ(_:Nat) W=>c.Holds W):=λk W W' row hs hg a=>
 ⟨Y8 hs.b0 hg a,Y8 hs.b9 hg a,Y8 hs.b10 hg a,Y8 hs.b11 hg a,Y8 hs.b12 hg a,Hn hs.z hg a,Nl b k W W' row hs.B hg a⟩
def Nz(c:SplC)(a V n K:Nat)(k:Nat)(W:H):Prop:=
 c.Holds W/\∃D Q,DO W c.gR D/\DO W c.gQ Q/\XT a V n K (K-k) D Q
def TC(c:SplC)(b V n K:Nat)(g:c.w.heap.size<=B):OwnFrom B (Nz c b V n K):=
 BO (c.own g) (λ_ _ _ _ hs hg a=>by obtain⟨D,Q,d,e,f⟩:=hs;exact⟨D,Q,Hn d hg a,Hn e hg a,f⟩)
structure SplM(c:SplC)(W0:World)(D D' Q Q':Ja)(e f:Bool)(W:World):Prop where
 k:KeepsOthers W0 W
 h:c.Holds W
 r:DO W c.gR (bif e then D' else D)
 q:DO W c.gQ (bif f then Q' else Q)
def SplM.drew{c:SplC}{W0 W:H}{D D' Q Q':Ja}{e f:Bool}(h:SplM c W0 D D' Q Q' e f W):SplM c W0 D D' Q Q' e f W.drew:=
 ⟨h.k.trans (KeepsOthers.drew W),h.h.drew,h.r,h.q⟩
def TD{g:Nat}{xs:Ja}(b:DO W g xs)(hg:W.grownBy W' (some g)):KeepsOthers W W':=
 KeepsOthers.of_grownBy hg λj o a c=>by cases a;exact b.other c
def SplM.any{c:SplC}(h:SplM c W0 D D' Q Q' false f W)(a:Ja):SplM c W0 D a Q Q' false f W:=⟨h.k,h.h,h.r,h.q⟩
def SplM.split{c:SplC}(h:SplM c W0 D D' Q Q' false f W)(a:c.Apart)(hg:W.grownBy W' (some c.gR))(b:DO W' c.gR D'):SplM c W0 D D' Q Q' true f W':=
 ⟨h.k.trans (TD h.r hg),h.h.kept hg a.r0 a.r9 a.r10 a.r11 a.r12 a.rz a.lr,b,h.q.kept hg λe=>by injection e with e;exact a.rq e.symm⟩
theorem SplM.store{c:SplC}{e:Bool}(h:SplM c W0 D D' Q Q' e false W)(a:c.Apart){j v:Nat}(d:Q.set j v=Q'):SplM c W0 D D' Q Q' e true (W.setCell ⟨c.gQ,j,none⟩ (F G (v:Nat))):=
 have b:=Jy W c.gQ j (F G (v:Nat))
 ⟨h.k.trans (BN _ _ _),h.h.kept b a.q0 a.q9 a.q10 a.q11 a.q12 a.qz a.lq,h.r.kept b (λe=>by injection e with e;exact a.rq e),by have:=h.q.set j v;grind⟩
def TE(a:Zu)(la ca:Nat)(t x l lb l1 cb m n d s:Nat)(w:H)(fi:lb=l+2)(h2:(lb:Int)-1=l1)(fr:t<w.heap.size)
(ra:Row G w (C a la ca) (Jb Y m))(rb:Row G w (C (some ⟨t,x,none⟩) lb cb) (Jb Y n))
(kb:w.cell? ⟨t,x+l1,none⟩=some (F G (d:Nat)))(fs:d<Y)(hs:s<=63)(HS:Hid ((64:Int)-(Lib.bitLen d:Int)=(s:Int)))(gj:lb<=la)(ft:la<1099511627776)
(fd:Hid (n*2^s<Y^(l+2)))(fe:Hid (2^63*Y^(l+1)<=n*2^s))(fo:Hid (m*2^s<n*2^s*Y^(la-(l+1)))):
 Calls L 151 #[C a la ca,C (some ⟨t,x,none⟩) lb cb] w λe w'=>∃u v,e=.returned (.tuple #[u,v])/\UN w' u (m/n)/\UN w' v (m%n)/\Bl w w':=by
 have Qc:=Z fi;have i1:M.wrap ((lb:Int)-1)=(l1:Int):=by rw[h2];exact BS _ O
 have i3:M.wrap (l1:Int)=(l1:Int):=BS _ O;have j1:(l1:Int)<(lb:Int):=O
 have j9:(0:Int)<=(l1:Int):=O
 have j2:l1<lb:=O
 have gk:¬(lb=1):=O
 have Qg:Bl w (w.alloc (.cells #[C (some ⟨t,x,none⟩) lb cb] 34)):=Ba w _;have Qf:=BJ w 34 (C (some ⟨t,x,none⟩) lb cb);obtain⟨W0,cn⟩:=ex (w.alloc (.cells #[C (some ⟨t,x,none⟩) lb cb] 34));have Qs:W0.heap.size=w.heap.size+1:=by rw[<-cn];simp
 rw[cn]at Qg Qf;have Uq:=Qf.cell;have Uz:=(Qg.cell (p:=⟨t,x+l1,none⟩) fr).trans kb;have Qr:=Z λ(V:H) (h:Bl W0 V)=>Nk a la ca (Jb Y m) s V hs (Row.below (Row.below ra Qg) h) (Jm Jd m) ft;have Qp:=Z λ(V:H) (h:Bl W0 V)=>Nk (some ⟨t,x,none⟩) lb cb (Jb Y n) s V hs (Row.below (Row.below rb Qg) h) (Jm Jd n) O;rw[Jn Jd]at Qr Qp;have Ub:=Z cn;have Ua:=Z (show ∀V:H,Calls L 176 #[F G (d:Nat)] V λe w'=>e=.returned (F M (s:Nat))/\w'=V from λV=>by
  have h:=Tryz.bits_LeadingZeros64 (d:Nat) V O (by unfold Y at fs;omega);rw[Ck,HS.o]at h;exact h)
 have gq:G.wrap (s:Int)=(s:Int):=Bn _ O;have Ur:=Z Qs;have fu:=Z h2;clear cn fi ra rb kb HS;refine(BK (n:=3)).1 ?_;refine BW func151 J trivial ?_ J;simp only[ntmps151,Ak,Af,AL,Nat.reduceAdd,Nat.reduceSub,As,At,AG,Aw,Ah,Am];refine wpIn_wide.2 ?_;go_upto_region 1 with fail
 rw[Ub.o];clear Ub Qs;go_upto_region 8 with(go_at_call 176;refine(Ua.o _).mono ?_;rintro e w' ⟨rfl,e1⟩;have e2:=e1.symm;subst e2;clear e1)
 refine JF Di [[],[],[0,1],[],[],[3,4,2],[],[6],[5,7],[],[],[9,2,5,0,1,2,9,10],[10,8,11,0,1,2,3,4,5,6,7,8,9,10,11]] Zv DP
  (λD ac V=>∃t9 bc bd bf bg bh bi cg bj bk cj:Value,ac={ tmps:=#[C a la ca,C (some ⟨t,x,none⟩) lb cb,E,I (some ⟨w.heap.size,0,none⟩),C none 0 0,C none 0 0,E,E,F G (s:Nat),t9,bc,E,E,C a la ca,F M (la:Nat),C (some ⟨t,x,none⟩) lb cb,F M (lb:Nat),.bool false,E,E,C (some ⟨t,x,none⟩) lb cb,F M (lb:Nat),.bool false,E,E,E,E,E,E,E,E,E,E,E,E,C (some ⟨t,x,none⟩) lb cb,C (some ⟨t,x,none⟩) lb cb,F M (lb:Nat),F M (l1:Nat),I (some ⟨t,x+l1,none⟩),F G (d:Nat),F M (s:Nat),F G (s:Nat),bd,bf,bg,bh,bi,cg,bj,bk,cj,E,E,E,E,E,E,E,E,E,E,E,E,E,E,E,E,E,E,E,E,E,E,E,E,E,E,E,E],defers:=[] }/\Hid (D 0=true->bd=C a la ca)/\Hid (D 1=true->bf=F G (s:Nat))/\Hid (D 2=true->∃g bm,Ev V W0.heap.size bg g (la+1) (m*2^s) bm)/\Hid (D 3=true->bh=C (some ⟨t,x,none⟩) lb cb)/\Hid (D 4=true->bi=F G (s:Nat))/\Hid (D 5=true->∃gR Zr gZ Zb,Ev V W0.heap.size bg gR (la+1) (m*2^s) Zr/\Ev V W0.heap.size cg gZ (lb+1) (n*2^s) Zb/\gR≠gZ)/\Hid (D 6=true->bj=C (some ⟨t,x,none⟩) lb cb)/\Hid (D 7=true->bk=F M (lb:Nat))/\Hid (D 8=true->∃gZ,cg=C (some ⟨gZ,0,none⟩) (lb+1) (lb+1)/\cj=C (some ⟨gZ,0,none⟩) lb (lb+1))/\Hid (D 9=true->D 11=false->∃B,t9=I (some ⟨B,0,none⟩)/\Boxed V B 34 (C none 0 0)/\W0.heap.size<=B)/\Hid (D 10=true->D 12=false->∃B,bc=I (some ⟨B,0,none⟩)/\Boxed V B 34 (C none 0 0)/\W0.heap.size<=B)/\Hid (D 9=true->D 10=true->t9≠bc)/\Hid (D 11=true->∃B,t9=I (some ⟨B,0,none⟩)/\Boxed V B 34 bg/\W0.heap.size<=B)/\Hid (D 12=true->∃B,bc=I (some ⟨B,0,none⟩)/\Boxed V B 34 cj/\W0.heap.size<=B)/\Bl W0 V)
  (E8 ⟨_,_,_,J,Z Dd,Z Dd,Z Dd,Z Dd,Z Dd,Z Dd,Z Dd,Z Dd,Z Dd,Z Dd,Z Dd,Z Dd,Z Dd,Z Dd,(BB _ W0).drew⟩) ?step8 ?fin8
 case step8=>
  rintro D a2 V i ds ah er b ai ⟨t9,bc,bd,bf,bg,bh,bi,cg,bj,bk,cj,rfl,N,P,g2,R,g4,r,S,T,U,A,y,gx,ad,ae,o⟩;have Qx:i<13:=(Ag.1 er).1;obtain rfl|rfl|rfl|rfl|rfl|rfl|rfl|rfl|rfl|rfl|rfl|rfl|rfl:=Ke i O
  all_goals
   simp only[Ap,Al,Ay]at er;subst er;clear Qx
  . clear b ah;refine D6 ?_;exact⟨Z λ_=>rfl,P,g2,R,g4,r,S,T,U,A,y,gx,ad,ae,o⟩
  . clear b ah;refine D6 ?_;exact⟨N,Z λ_=>rfl,g2,R,g4,r,S,T,U,A,y,gx,ad,ae,o⟩
  . have Ut:D 5=false:=DN ah ai;have Qb:D 11=false:=DN ah ai;have Qa:D 12=false:=DN ah ai;obtain rfl:=N.o (b 0 DJ);obtain rfl:=P.o (b 1 DJ);clear b ah;refine JK J J λK hK=>?_;go_simp;go_wp2_with(go_at_call 178;refine(Qr.o _ o).mono ?_;rintro e w5 ⟨r,Z5,rfl,⟨ef,eh,ei⟩,hA5,bz,ap⟩)
    exact E8 ⟨_,_,_,J,Z λ_=>rfl,Z λ_=>rfl,Z λ_=>⟨r,Z5,J,hA5,ef,eh,ei,AK o.size bz⟩,R,g4,Z (λh=>by simp[Ut]at h),S,T,U,Z (λh h2=>by obtain⟨B,e,q,q2⟩:=A.o h h2;exact⟨B,e,boxed_below q ap,q2⟩),Z (λh h2=>by obtain⟨B,e,q,q2⟩:=y.o h h2;exact⟨B,e,boxed_below q ap,q2⟩),gx,Z (λh=>by simp[Qb]at h),Z (λh=>by simp[Qa]at h),Bt o ap⟩
  . have k0:=(boxed_below Qf o).cell;clear b ah;refine D6 ?_;exact⟨N,P,g2,Z λ_=>rfl,g4,r,S,T,U,A,y,gx,ad,ae,o⟩
  . clear b ah;refine D6 ?_;exact⟨N,P,g2,R,Z λ_=>rfl,r,S,T,U,A,y,gx,ad,ae,o⟩
  . have Uo:D 8=false:=DN ah ai;have Qb:D 11=false:=DN ah ai;have Qa:D 12=false:=DN ah ai;obtain rfl:=R.o (b 3 DJ);obtain rfl:=g4.o (b 4 DJ);obtain⟨gR,Zr,hR⟩:=g2.o (b 2 DJ);have gg:=hR.2.1.lt;clear b ah;refine JK J J λK hK=>?_;go_simp;go_wp2_with(go_at_call 178;refine(Qp.o _ o).mono ?_;rintro e w5 ⟨r,Z5,rfl,⟨ef,eh,ei⟩,hA5,bz,ap⟩)
    exact⟨_,_,_,_,_,_,_,_,_,_,_,J,N,P,Z λ_=>⟨gR,Zr,hR.below ap⟩,Z λ_=>rfl,Z λ_=>rfl,Z λ_=>⟨gR,Zr,r,Z5,hR.below ap,⟨J,hA5,ef,eh,ei,AK o.size bz⟩,O⟩,S,T,Z (λh=>by simp[Uo]at h),Z (λh h2=>by obtain⟨B,e,q,q2⟩:=A.o h h2;exact⟨B,e,boxed_below q ap,q2⟩),Z (λh h2=>by obtain⟨B,e,q,q2⟩:=y.o h h2;exact⟨B,e,boxed_below q ap,q2⟩),gx,Z (λh=>by simp[Qb]at h),Z (λh=>by simp[Qa]at h),Bt o ap⟩
  . have k0:=(boxed_below Qf o).cell;clear b ah;refine D6 ?_;exact⟨N,P,g2,R,g4,r,Z λ_=>rfl,T,U,A,y,gx,ad,ae,o⟩
  . obtain rfl:=S.o (b 6 DJ);clear b ah;refine D6 ?_;exact⟨N,P,g2,R,g4,r,Z λ_=>rfl,Z λ_=>rfl,U,A,y,gx,ad,ae,o⟩
  . have Qa:D 12=false:=DN ah ai;obtain⟨gR,Zr,gZ,Zb,hR,hZ,az⟩:=r.o (b 5 DJ);obtain rfl:=hZ.1;obtain rfl:=T.o (b 7 DJ);have b1:(0:Int)<=(lb:Int):=O
    have b2:(lb:Int)<=(lb:Int)+1:=O
    have b3:lb<=lb+1:=O
    have b4:¬((lb:Int)+1<(lb:Int)):=O
    clear b ah;refine D6 ?_;exact⟨N,P,g2,R,g4,Z λ_=>⟨gR,Zr,gZ,Zb,hR,hZ,az⟩,S,Z λ_=>rfl,Z λ_=>⟨gZ,J,J⟩,A,y,gx,ad,Z (λh=>by simp[Qa]at h),o⟩
  . have Qb:D 11=false:=DN ah ai;have Qa:D 12=false:=DN ah ai;clear b ah;refine D6 ?_;exact⟨N,P,Z (λh=>by obtain⟨g,bm,q⟩:=g2.o h;exact⟨g,bm,q.below (Ba V _)⟩),R,g4,Z (λh=>by obtain⟨gR,Zr,gZ,Zb,q1,q2,q3⟩:=r.o h;exact⟨gR,Zr,gZ,Zb,q1.below (Ba V _),q2.below (Ba V _),q3⟩),S,T,U,Z λ_ _=>⟨_,J,BJ _ _ _,o.size⟩,Z (λh h2=>by obtain⟨B,e,q,q2⟩:=y.o h h2;exact⟨B,e,q.alloc _,q2⟩),Z (λ_ h e=>by obtain⟨B,e2,q,q2⟩:=y.o (by simpa using h) Qa;have:=q.lt;rw[e2]at e;cases e;omega),Z (λh=>by simp[Qb]at h),Z (λh=>by simp[Qa]at h),o.alloc o.size _⟩
  . have Qb:D 11=false:=DN ah ai;have Qa:D 12=false:=DN ah ai;clear b ah;refine D6 ?_;exact⟨N,P,Z (λh=>by obtain⟨g,bm,q⟩:=g2.o h;exact⟨g,bm,q.below (Ba V _)⟩),R,g4,Z (λh=>by obtain⟨gR,Zr,gZ,Zb,q1,q2,q3⟩:=r.o h;exact⟨gR,Zr,gZ,Zb,q1.below (Ba V _),q2.below (Ba V _),q3⟩),S,T,U,Z (λh h2=>by obtain⟨B,e,q,q2⟩:=A.o h h2;exact⟨B,e,q.alloc _,q2⟩),Z λ_ _=>⟨_,J,BJ _ _ _,o.size⟩,Z (λh _ e=>by obtain⟨B,e2,q,q2⟩:=A.o (by simpa using h) Qb;have:=q.lt;rw[e2]at e;cases e;omega),Z (λh=>by simp[Qb]at h),Z (λh=>by simp[Qa]at h),o.alloc o.size _⟩
  . have Qa:D 12=false:=DN ah ai;obtain⟨B,rfl,ak,ce⟩:=A.o (b 9 DJ) ai;obtain⟨gR,Zr,gZ,Zb,hR,hZ,az⟩:=r.o (b 5 DJ);have k0:=ak.cell;have f0:=ak.frozen;obtain⟨B2,bn,en,fc⟩:=y.o (b 10 DJ) Qa;have Qt:B≠B2:=λe=>gx.o (b 9 DJ) (b 10 DJ) (by rw[bn,e]);obtain rfl:=bn;obtain rfl:=hR.1;clear A ad;clear b ah;refine D6 ?_;exact⟨N,P,Z λ_=>⟨gR,Zr,hR.box O ak⟩,R,g4,Z λ_=>⟨gR,Zr,gZ,Zb,hR.box O ak,hZ.box O ak,az⟩,S,T,U,Z (λ_ h=>by simp at h),Z λ_ _=>⟨B2,J,en.kept (DA _ B _) (λe=>by injection e;omega),fc⟩,gx,Z λ_=>⟨B,J,ak.set _,ce⟩,Z (λh=>by simp[Qa]at h),o.setCell (p:=⟨B,0,none⟩) ce _⟩
  . obtain⟨B,rfl,ak,ce⟩:=y.o (b 10 DJ) ai;obtain⟨gR,Zr,gZ,Zb,hR,hZ,az⟩:=r.o (b 5 DJ);obtain⟨ff,ck,ed⟩:=U.o (b 8 DJ);have k0:=ak.cell;have f0:=ak.frozen;obtain⟨B2,bn,en,fc⟩:=ad.o (b 11 DJ);have Qt:B≠B2:=λe=>gx.o (b 9 DJ) (b 10 DJ) (by rw[bn,e]);obtain rfl:=ed;obtain rfl:=ck;obtain rfl:=bn;have Qy:=b 11 DJ;clear y ae;clear b ah;refine D6 ?_;exact⟨N,P,Z λ_=>⟨gR,Zr,hR.box O ak⟩,R,g4,Z λ_=>⟨gR,Zr,gZ,Zb,hR.box O ak,hZ.box O ak,az⟩,S,T,Z λ_=>⟨ff,J,J⟩,Z (λ_ h=>by simp[Qy]at h),Z (λ_ h=>by simp at h),gx,Z λ_=>⟨B2,J,en.kept (DA _ B _) (λe=>by injection e;omega),fc⟩,Z λ_=>⟨B,J,ak.set _,ce⟩,o.setCell (p:=⟨B,0,none⟩) ce _⟩
 rintro D a2 f an ⟨t9,bc,bd,bf,bg,bh,bi,cg,bj,bk,cj,rfl,N,P,g2,R,g4,r,S,T,U,A,y,gx,ad,ae,o⟩;obtain⟨gR,Zr,gZ,Zb,hR,hZ,az⟩:=r.o (an 5 DP);obtain⟨ff,ck,ed⟩:=U.o (an 8 DP);obtain⟨B9,rfl,bu,gp⟩:=ad.o (an 11 DP);obtain⟨B10,rfl,bt,go⟩:=ae.o (an 12 DP);obtain rfl:=ed;obtain rfl:=hR.1;have e0:=hZ.1;rw[ck]at e0;cases e0;obtain rfl:=ck;clear N P g2 R g4 r S T U A y gx ad ae an Qr Qp Ua;obtain⟨K,hK⟩:∃K:Nat,(la:Int)+1-(lb:Int)=(K:Int):=⟨la+1-lb,O⟩;have gb:M.wrap (K:Int)=(K:Int):=BS _ O;have Uw:=Ga K O f;have k9:=bu.cell;have Us:=bt.cell;have Qj:K+lb=la+1:=O
 have Qi:=Z Qj;clear Qj;go_wp2_with(go_at_call 147;refine((BK (n:=2)).1 (Hb Fence.wide _ trivial J _ _ _ _)).mono ?_;rintro e w' ⟨rfl,rfl⟩)
 refine(wpIn_wide (n:=3)).1 ?_;obtain⟨WQ,ay⟩:=ex (((f.alloc (.cells (cellsOf G (Zw K 0)).toArray 163)).alloc (.cells #[C (some ⟨f.heap.size,0,none⟩) K K] 34)).alloc (.cells #[C (some ⟨f.heap.size,0,none⟩) K K] 34));have Uv:WQ.heap.size=f.heap.size+1+1+1:=by rw[<-ay];simp
 have Qk:Bl w f:=Bt Qg o;have Qs:=Ur.o;have Um:Bl w WQ:=by rw[<-ay];exact((Qk.alloc Qk.size _).alloc (by have:=Qk.size;simp;omega) _).alloc (by have:=Qk.size;simp;omega) _
 have lR:=hR.2.1.lt;have lZ:=hZ.2.1.lt;have l9:=bu.lt;have gr:=bt.lt;have n9:gR≠B9:=λe=>hR.ne_box O bu e;have gu:gR≠B10:=λe=>hR.ne_box O bt e;have fv:=hR.2.2.2.2.2;have fw:=hZ.2.2.2.2.2;obtain⟨c,hc⟩:∃c:SplC,c=⟨w,C (some ⟨t,x,none⟩) lb cb,C (some ⟨gR,0,none⟩) (la+1) (la+1),C (some ⟨gZ,0,none⟩) lb (lb+1),C (some ⟨f.heap.size,0,none⟩) K K,B9,B10,f.heap.size+1,f.heap.size+1+1,gR,gZ,f.heap.size,Zb⟩:=⟨_,J⟩;have Ue:c.Apart:=by
  rw[hc];constructor<;>(simp only;omega)
 have Uc:c.Holds WQ:=by
  rw[hc,<-ay];have Ui:=(BJ (f.alloc (.cells (cellsOf G (Zw K 0)).toArray 163)) 34 (C (some ⟨f.heap.size,0,none⟩) K K)).alloc (.cells #[C (some ⟨f.heap.size,0,none⟩) K K] 34);have Uf:=BJ ((f.alloc (.cells (cellsOf G (Zw K 0)).toArray 163)).alloc (.cells #[C (some ⟨f.heap.size,0,none⟩) K K] 34)) 34 (C (some ⟨f.heap.size,0,none⟩) K K);simp only[A1]at Ui Uf;exact⟨(((boxed_below Qf o).alloc _).alloc _).alloc _,((bu.alloc _).alloc _).alloc _,((bt.alloc _).alloc _).alloc _,Ui,Uf,((hZ.2.1.alloc _).alloc _).alloc _,by rw[ay];exact Um⟩
 have Uh:DO WQ gR Zr:=by rw[<-ay];exact((hR.2.1.alloc _).alloc _).alloc _
 have Qz:DO WQ f.heap.size (Zw K 0):=by rw[<-ay];exact((DO.made (BC f _)).alloc _).alloc _
 have Qu:XT (m*2^s) (n*2^s) lb K K Zr (Zw K 0):=XT.start (by have:=Qi.o;rw[hR.2.2.1];omega) hR.2.2.2.1 hR.2.2.2.2.1 (by
  have h:=fo.o;rwa[show la-(l+1)=K from by have:=Qi.o;have:=Qc.o;omega]at h)
 obtain⟨f8,fk⟩:=TA hZ.2.2.2.1 (by rw[hZ.2.2.1,Qc.o]) hZ.2.2.2.2.1 fd.o fe.o;have Ux:0<n*2^s:=by
  have h:=fe.o;have:=DH (A4 63) (Fb (n:=l+1) (show 0<Y by unfold Y;omega));omega
 have Qh:n*2^s<Y^lb:=by rw[Qc.o];exact fd.o
 have Up:=hZ.2.2.2.1;have gh:=hZ.2.2.1;rw[ay];clear ay Uw bu bt Qf Uq k9 Us hR hZ o Qk Uz;refine Xe J O (gf:=174) (lb:=#[I (some ⟨f.heap.size+1+1,0,none⟩)]) J trivial (B7 func174 Zv J)
  (Ha Fence.wide _ trivial J O (f.heap.size+1+1) (some ⟨f.heap.size,0,none⟩) K K (λ_=>0) O) (λ_=>rfl)
  (Nz c (m*2^s) (n*2^s) lb K) (λ_ _ _=>False) (TC c _ _ _ _ (by rw[hc,Uv];simp only;omega)) (λc _ _ _ _ h _ _=>h.elim)
  ⟨Uc,Zr,Zw K 0,by rw[hc];exact Uh,by rw[hc];exact Qz,by rw[CX];exact Qu⟩ ?rd
  (λk=>{ tmps:=#[C a la ca,C (some ⟨t,x,none⟩) lb cb,E,I (some ⟨w.heap.size,0,none⟩),C none 0 0,C none 0 0,E,E,F G (s:Nat),I (some ⟨B9,0,none⟩),I (some ⟨B10,0,none⟩),I (some ⟨f.heap.size+1,0,none⟩),F M ((K:Int)-1-k),C a la ca,F M (la:Nat),C (some ⟨t,x,none⟩) lb cb,F M (lb:Nat),.bool false,E,E,C (some ⟨t,x,none⟩) lb cb,F M (lb:Nat),.bool false,E,E,E,E,E,E,E,E,E,E,E,E,C (some ⟨t,x,none⟩) lb cb,C (some ⟨t,x,none⟩) lb cb,F M (lb:Nat),F M (l1:Nat),I (some ⟨t,x+l1,none⟩),F G (d:Nat),F M (s:Nat),F G (s:Nat),bd,bf,C (some ⟨gR,0,none⟩) (la+1) (la+1),bh,bi,C (some ⟨gZ,0,none⟩) (lb+1) (lb+1),bj,bk,C (some ⟨gZ,0,none⟩) lb (lb+1),C (some ⟨gR,0,none⟩) (la+1) (la+1),F M ((la:Int)+1),C (some ⟨gZ,0,none⟩) lb (lb+1),F M (lb:Nat),F M (K:Nat),C (some ⟨f.heap.size,0,none⟩) K K,C (some ⟨f.heap.size,0,none⟩) K K,.func (.func 174) #[] #[I (some ⟨f.heap.size+1+1,0,none⟩)],F M ((K:Int)-1-k),F G 0,E,E,E,E,E,E,E,E,E,E,E,E,E,E,E,E,E,E],defers:=[] }) ?assign ?body ?done ?stop
 case rd=>
  rintro k W ⟨hh,D,Q,_,hQ,hL⟩;have Ud:=hh.b12;rw[hc]at Ud hQ;refine⟨Ud.cell,λhk=>⟨f.heap.size,0,J,?_⟩⟩;rw[Cn,hQ.cell (j:=K-1-k) (by rw[hL.2.2.1];omega),hL.2.2.2.2.2.2 (K-1-k) O]
 case assign=>
  intro l k W K hK;unfold XG;gi_wp2;exact hK
 case stop=>
  rintro D c k W _ _ h _;exact h.elim
 case body=>
  rintro l' k W ⟨hh,D,Q,hD,hQ,hL⟩ hk gn;have Ug:K-k=K-1-k+1:=O
  rw[Ug]at hL;have e1:((K:Int)-1-k)=((K-1-k:Nat):Int):=O
  have HI:=Z (show K-(k+1)=K-1-k by omega);have Qn:K-1-k<K:=O
  rw[e1];obtain⟨i,hi⟩:=ex (K-1-k);rw[hi]at hL Qn HI ⊢;clear Ug e1 hi;obtain⟨w1,w2,w3⟩:=hL.win Qn Qh;have Uu:=hL.1;have gc:=hL.2.2.1;have Ul:=Z (show ∀(V:H) (nn:Nat),DO V gR D->DO V gZ Zb->CallsIn (Fence.wide.inRound l') nn L 179 #[C (some ⟨gR,i,none⟩) (lb+1) (la+1-i),C (some ⟨gZ,0,none⟩) lb (lb+1)] V λe w'=>
   ∃q,e=.returned (F G ((val Y ((D.drop i).take (lb+1))/(n*2^s):Nat):Int))/\(q.length=lb+1/\DK Y q/\val Y q=val Y ((D.drop i).take (lb+1))%(n*2^s))/\DO w' gR (DU D i (lb+1) q)/\V.grownBy w' (some gR)from λV nn h1 h2=>by
   have Qj:=Qi.o;have hz:=h2.row 0 lb (lb+1) O O O O;have Qw:=S0 gR i l (la+1-i) D (some ⟨gZ,0,none⟩) (lb+1) (Zb.take (l+2)) V h1 hL.2.1 (by rw[Uu];have:=Qc.o;omega) (by have:=Qc.o;omega) O (by have:=Qc.o;omega)
    (by rw[AB,Qc.o]at hz;rw[Qc.o];exact hz) (Up.take _) (λp e _=>by cases e;exact λh=>az h.symm) fk (by rw[f8];have:=w1;rw[Qc.o]at this;exact this)
   rw[f8]at Qw;have e3:l+3=lb+1:=by rw[Qc.o]
   have e2:l+2=lb:=Qc.o.symm;rw[e3,e2]at Qw;exact Bc l' ((BK (n:=nn)).2 Qw))
  have Un:=Z λ(q:Ja) (h1:q.length=lb+1) (h2:DK Y q) (h3:val Y q=val Y ((D.drop i).take (lb+1))%(n*2^s))=>hL.step Qn Qh h1 h2 h3 Ux;obtain⟨qd,fj⟩:=ex (val Y ((D.drop i).take (lb+1))/(n*2^s));rw[fj]at Un Ul;clear fj w1 w2 w3 hL f8 fk Qu;obtain⟨H1,fx⟩:∃H1:Nat,(i:Int)+(lb:Int)=(H1:Int):=⟨i+lb,O⟩;obtain⟨aq,hH⟩:∃aq:Nat,(H1:Int)+1=(aq:Int):=⟨H1+1,O⟩;have fy:aq-i=lb+1:=O
  have ga:aq<=la+1:=by have:=Qi.o;omega
  have gi:i<=aq:=O
  have y1:(i:Int)<=(aq:Int):=O
  have y2:(aq:Int)<=(la:Int)+1:=O
  have y3:(0:Int)<=(i:Int):=O
  have y4:(i:Int)<(K:Int):=O
  have y5:M.wrap (H1:Int)=(H1:Int):=BS _ O;have y6:M.wrap (aq:Int)=(aq:Int):=BS _ O;gi_wp2_with fail
  refine YE Di [[],[],[],[],[],[],[5],[4,6],[7],[2,3,8],[],[9,10],[0,1,0,1,2,3,4,5,6,7,8,9,10,11],[12,11,11,0,1,2,3,4,5,6,7,8,9,10,11]] Zv DP
   (λDD ac V=>∃co cy cz de dh di dj dt du dw dx dz eb:Value,ac={ tmps:=#[C a la ca,C (some ⟨t,x,none⟩) lb cb,E,I (some ⟨w.heap.size,0,none⟩),C none 0 0,C none 0 0,E,E,F G (s:Nat),I (some ⟨B9,0,none⟩),I (some ⟨B10,0,none⟩),I (some ⟨f.heap.size+1,0,none⟩),F M (i:Nat),C a la ca,F M (la:Nat),C (some ⟨t,x,none⟩) lb cb,F M (lb:Nat),.bool false,E,E,C (some ⟨t,x,none⟩) lb cb,F M (lb:Nat),.bool false,E,E,E,E,E,E,E,E,E,E,E,E,C (some ⟨t,x,none⟩) lb cb,C (some ⟨t,x,none⟩) lb cb,F M (lb:Nat),F M (l1:Nat),I (some ⟨t,x+l1,none⟩),F G (d:Nat),F M (s:Nat),F G (s:Nat),bd,bf,C (some ⟨gR,0,none⟩) (la+1) (la+1),bh,bi,C (some ⟨gZ,0,none⟩) (lb+1) (lb+1),bj,bk,C (some ⟨gZ,0,none⟩) lb (lb+1),C (some ⟨gR,0,none⟩) (la+1) (la+1),F M ((la:Int)+1),C (some ⟨gZ,0,none⟩) lb (lb+1),F M (lb:Nat),F M (K:Nat),C (some ⟨f.heap.size,0,none⟩) K K,C (some ⟨f.heap.size,0,none⟩) K K,.func (.func 174) #[] #[I (some ⟨f.heap.size+1+1,0,none⟩)],F M (i:Nat),F G 0,co,cy,cz,de,dh,di,dj,dt,du,dw,dx,dz,eb,E,E,E,E,E],defers:=[] }/\Hid (DD 0=true->co=C (some ⟨f.heap.size,0,none⟩) K K)/\Hid (DD 1=true->cy=F M (i:Nat))/\Hid (DD 2=true->cz=C (some ⟨gR,0,none⟩) (la+1) (la+1))/\Hid (DD 3=true->de=F M (i:Nat))/\Hid (DD 4=true->dh=F M (i:Nat))/\Hid (DD 5=true->di=C (some ⟨t,x,none⟩) lb cb)/\Hid (DD 6=true->dj=F M (lb:Nat))/\Hid (DD 7=true->dt=F M (H1:Nat))/\Hid (DD 8=true->du=F M (aq:Nat))/\Hid (DD 9=true->dw=C (some ⟨gR,i,none⟩) (lb+1) (la+1-i))/\Hid (DD 10=true->dx=C (some ⟨gZ,0,none⟩) lb (lb+1))/\Hid (DD 11=true->dz=F G (qd:Nat))/\Hid (DD 12=true->eb=I (some ⟨f.heap.size,i,none⟩))/\∃D2,Hid (DD 11=true->∃q,(q.length=lb+1/\DK Y q/\val Y q=val Y ((D.drop i).take (lb+1))%(n*2^s))/\D2=DU D i (lb+1) q)/\SplM c W D D2 Q (Q.set i qd) (DD 11) (DD 13) V)
   (E8 ⟨_,_,_,_,_,J,Z Dd,Z Dd,Z Dd,Z Dd,Z Dd,Z Dd,Z Dd,Z Dd,Z Dd,Z Dd,Z Dd,Z Dd,Z Dd,D,Z Dd,SplM.drew ⟨DB _,hh,hD,hQ⟩⟩) ?step ?fin
  case fin=>
   rintro DD ac V an ⟨co,cy,cz,de,dh,di,dj,dt,du,dw,dx,dz,eb,rfl,N,P,g2,R,g4,r,S,T,U,A,y,ad,ae,D2,gd,z⟩;rw[an 11 DP,an 13 DP]at z;obtain⟨q,⟨et,ew,f7⟩,rfl⟩:=gd.o (an 11 DP);refine⟨z.k.from _,z.h,DU D i (lb+1) q,Q.set i qd,z.r,z.q,?_⟩;rw[HI.o];exact Un.o q et ew f7
  case step=>
   rintro DD ac V j ds aj hj b ai ⟨co,cy,cz,de,dh,di,dj,dt,du,dw,dx,dz,eb,rfl,N,P,g2,R,g4,r,S,T,U,A,y,ad,ae,D2,gd,z⟩;have Qv:j<14:=(Ag.1 hj).1;obtain rfl|rfl|rfl|rfl|rfl|rfl|rfl|rfl|rfl|rfl|rfl|rfl|rfl|rfl:=Fq j O
   all_goals
    simp only[Ap,Al,Ay]at hj;subst hj;clear Qv
   . have b11:Boxed V (f.heap.size+1) 34 (C (some ⟨f.heap.size,0,none⟩) K K):=by have:=z.h.b11;rw[hc]at this;exact this
     have k0:=b11.cell;clear b aj;refine Bd J λK2 X=>?_;go_simp;exact X _ _ (E8 ⟨_,_,_,_,_,J,Z λ_=>rfl,P,g2,R,g4,r,S,T,U,A,y,ad,ae,D2,gd,z⟩)
   . clear b aj;refine Bd J λK2 X=>?_;go_simp;exact X _ _ ⟨_,_,_,_,_,_,_,_,_,_,_,_,_,J,N,Z λ_=>rfl,g2,R,g4,r,S,T,U,A,y,ad,ae,D2,gd,z⟩
   . have b9:Boxed V B9 34 (C (some ⟨gR,0,none⟩) (la+1) (la+1)):=by have:=z.h.b9;rw[hc]at this;exact this
     have k0:=b9.cell;clear b aj;refine Bd J λK2 X=>?_;go_simp;exact X _ _ ⟨_,_,_,_,_,_,_,_,_,_,_,_,_,J,N,P,Z λ_=>rfl,R,g4,r,S,T,U,A,y,ad,ae,D2,gd,z⟩
   . clear b aj;refine Bd J λK2 X=>?_;go_simp;exact X _ _ ⟨_,_,_,_,_,_,_,_,_,_,_,_,_,J,N,P,g2,Z λ_=>rfl,g4,r,S,T,U,A,y,ad,ae,D2,gd,z⟩
   . clear b aj;refine Bd J λK2 X=>?_;go_simp;exact X _ _ ⟨_,_,_,_,_,_,_,_,_,_,_,_,_,J,N,P,g2,R,Z λ_=>rfl,r,S,T,U,A,y,ad,ae,D2,gd,z⟩
   . have b0:Boxed V w.heap.size 34 (C (some ⟨t,x,none⟩) lb cb):=by have:=z.h.b0;rw[hc]at this;exact this
     have k0:=b0.cell;clear b aj;refine Bd J λK2 X=>?_;go_simp;exact X _ _ ⟨_,_,_,_,_,_,_,_,_,_,_,_,_,J,N,P,g2,R,g4,Z λ_=>rfl,S,T,U,A,y,ad,ae,D2,gd,z⟩
   . obtain rfl:=r.o (b 5 DJ);clear b aj;refine Bd J λK2 X=>?_;go_simp;exact X _ _ ⟨_,_,_,_,_,_,_,_,_,_,_,_,_,J,N,P,g2,R,g4,Z λ_=>rfl,Z λ_=>rfl,T,U,A,y,ad,ae,D2,gd,z⟩
   . obtain rfl:=g4.o (b 4 DJ);obtain rfl:=S.o (b 6 DJ);clear b aj;refine Bd J λK2 X=>?_;go_simp;exact X _ _ ⟨_,_,_,_,_,_,_,_,_,_,_,_,_,J,N,P,g2,R,Z λ_=>rfl,r,Z λ_=>rfl,Z λ_=>rfl,U,A,y,ad,ae,D2,gd,z⟩
   . obtain rfl:=T.o (b 7 DJ);clear b aj;refine Bd J λK2 X=>?_;go_simp;exact X _ _ ⟨_,_,_,_,_,_,_,_,_,_,_,_,_,J,N,P,g2,R,g4,r,S,Z λ_=>rfl,Z λ_=>rfl,A,y,ad,ae,D2,gd,z⟩
   . obtain rfl:=g2.o (b 2 DJ);obtain rfl:=R.o (b 3 DJ);obtain rfl:=U.o (b 8 DJ);have gl:¬(la+1=i):=O
     clear b aj;refine Bd J λK2 X=>?_;go_simp;exact X _ _ ⟨_,_,_,_,_,_,_,_,_,_,_,_,_,J,N,P,Z λ_=>rfl,Z λ_=>rfl,g4,r,S,T,Z λ_=>rfl,Z λ_=>rfl,y,ad,ae,D2,gd,z⟩
   . have b10:Boxed V B10 34 (C (some ⟨gZ,0,none⟩) lb (lb+1)):=by have:=z.h.b10;rw[hc]at this;exact this
     have k0:=b10.cell;clear b aj;refine Bd J λK2 X=>?_;go_simp;exact X _ _ ⟨_,_,_,_,_,_,_,_,_,_,_,_,_,J,N,P,g2,R,g4,r,S,T,U,A,Z λ_=>rfl,ad,ae,D2,gd,z⟩
   . obtain rfl:=A.o (b 9 DJ);obtain rfl:=y.o (b 10 DJ);rw[ai]at z;have hr:DO V gR D:=by have:=z.r;rw[hc]at this;exact this
     have hz:DO V gZ Zb:=by have:=z.h.z;rw[hc]at this;exact this
     have HV:=Z z;clear z;clear b aj;refine Bd J λK2 X=>?_;go_simp;gi_wp2_with(refine⟨trivial,?_⟩;gi_at_call 179;refine(Ul.o _ _ hr hz).mono ?_;rintro e w5 ⟨q,rfl,⟨et,ew,f7⟩,hA5,bz⟩)
     exact⟨_,_,_,_,_,_,_,_,_,_,_,_,_,J,N,P,g2,R,g4,r,S,T,U,Z λ_=>rfl,Z λ_=>rfl,Z λ_=>rfl,ae,DU D i (lb+1) q,Z λ_=>⟨q,⟨et,ew,f7⟩,J⟩,SplM.split (HV.o.any _) Ue (by rw[hc];exact bz) (by rw[hc];exact hA5)⟩
   . obtain rfl:=N.o (b 0 DJ);obtain rfl:=P.o (b 1 DJ);clear b aj;refine Bd J λK2 X=>?_;go_simp;exact X _ _ (E8 ⟨_,_,_,_,_,J,Z λ_=>rfl,Z λ_=>rfl,g2,R,g4,r,S,T,U,A,y,ad,Z λ_=>rfl,D2,gd,z⟩)
   . obtain rfl:=ad.o (b 11 DJ);obtain rfl:=ae.o (b 12 DJ);rw[ai]at z;have Ql:DO V f.heap.size Q:=by have:=z.q;rw[hc]at this;exact this
     have k0:=Ql.cell (j:=i) O;have f0:=Ql.frozen i;have Qm:SplM c W D D2 Q (Q.set i qd) (DD 11) true (V.setCell ⟨f.heap.size,i,none⟩ (F G (qd:Nat))):=by have:=z.store Ue (j:=i) (v:=qd) J;rw[hc]at this ⊢;exact this
     have Qo:=Z Qm;clear Qm z;clear b aj;refine Bd J λK2 X=>?_;go_simp;exact X _ _ ⟨_,_,_,_,_,_,_,_,_,_,_,_,_,J,N,P,g2,R,g4,r,S,T,U,A,y,Z λ_=>rfl,Z λ_=>rfl,D2,gd,Qo.o⟩
 case done=>
  rintro D W hD ⟨hh,D2,Q2,an,fg,hL⟩ X;rw[AX]at hL;obtain⟨f1,f2⟩:=hL.fin J J;have b11:Boxed W (f.heap.size+1) 34 (C (some ⟨f.heap.size,0,none⟩) K K):=by have:=hh.b11;rw[hc]at this;exact this
  have b9:Boxed W B9 34 (C (some ⟨gR,0,none⟩) (la+1) (la+1)):=by have:=hh.b9;rw[hc]at this;exact this
  have Uj:Bl w W:=by have:=hh.B;rw[hc]at this;exact this
  have hr:DO W gR D2:=by have:=an;rw[hc]at this;exact this
  have Ql:DO W f.heap.size Q2:=by have:=fg;rw[hc]at this;exact this
  have Qj:=Qi.o;have Qd:Row G W (C (some ⟨f.heap.size,0,none⟩) K K) Q2:=by
   have h1:=Ql.row 0 K K (by rw[hL.2.2.1];omega) (Aa _) O O;rwa[AB,Ac (by rw[hL.2.2.1];exact Aa _)]at h1
  have Qe:Row G W (C (some ⟨gR,0,none⟩) (la+1) (la+1)) D2:=by
   have h1:=hr.row 0 (la+1) (la+1) (by rw[hL.1];omega) (Aa _) O O;rwa[AB,Ac (by rw[hL.1];omega)]at h1
  have HT:=Z (show ∀V:H,Bl W V->Calls L 132 #[C (some ⟨f.heap.size,0,none⟩) K K] V λe w'=>∃u,e=.returned u/\UN w' u (m/n)/\Bl V w' from λV h=>by
   have h1:=Yz _ Q2 V (Row.below Qd h);rw[f1]at h1;exact h1)
  have Uy:=Z (show ∀V:H,Bl W V->Calls L 180 #[C (some ⟨gR,0,none⟩) (la+1) (la+1),F G (s:Nat)] V λe w'=>∃u,e=.returned u/\UN w' u (m%n)/\Bl V w' from λV h=>by
   have h1:=Sb _ _ _ D2 s V hs (Row.below Qe h) hL.2.1;rw[f2,Nat.mul_div_cancel _ (A4 s)]at h1;exact h1)
  have gt:=b11.lt;have l9:=b9.lt;have Uk:=b11.cell;have k9:=b9.cell;clear hL f1 f2 Qd Qe hr Ql hh an fg Uc Uh Qz Qu Qj;go_upto_region 13 with fail
  have o:Bl W W.drew:=(BB _ W).drew;go_region_held3 (λw'=>w'.cell? ⟨f.heap.size+1,0,none⟩=some (C (some ⟨f.heap.size,0,none⟩) K K)/\w'.cell? ⟨B9,0,none⟩=some (C (some ⟨gR,0,none⟩) (la+1) (la+1))) (refine⟨?_,?_⟩<;>(first|(go_keep;done)|(simp[*];done)))
   (first
    |(go_at_call 132;refine(HT.o _ o).mono ?_;rintro e w5 ⟨u5,rfl,fl,ap⟩;obtain⟨ua,uc,rfl⟩:=UN.form fl;have o:=Bt o ap;have Uk:=(boxed_below b11 o).cell;have k9:=(boxed_below b9 o).cell)
    |(go_at_call 180;refine(Uy.o _ o).mono ?_;rintro e w6 ⟨u6,rfl,fm,fh⟩;obtain⟨va,vc,rfl⟩:=UN.form fm;have o:=Bt o fh;have Uk:=(boxed_below b11 o).cell;have k9:=(boxed_below b9 o).cell))
  all_goals go_wp2_with fail
  have Qq:w6.heap[D]?=some (.deferred (some [])):=(o.block D (Ab.1 X).1).trans X;refine⟨DJ,.inl ⟨_,_,J,BZ Qq,?_⟩⟩;refine⟨.tuple #[C ua (Jb Y (m/n)).length uc,C va (Jb Y (m%n)).length vc],by simp[results,results151,go_sem],_,_,J,Lb (UN.below fl fh) Qq,Lb fm Qq,?_⟩;exact below_grown (Bt Uj o) (BX _ D (.deferred none)) (by have:=Um.size;omega)
end
section
variable{a:Ja}{P d g l rc:Nat}{u:Value}{W:H}
def Lf(a:Zu)(la c:Nat)(b:Zu)(lb f m n:Nat)(w:H)(j:Row G w (C a la c) (Jb Y m))(k:Row G w (C b lb f) (Jb Y n))(hn:n≠0)(W:la<1099511627776):
 Calls L 151 #[C a la c,C b lb f] w λe o=>∃u v,e=.returned (.tuple #[u,v])/\UN o u (m/n)/\UN o v (m%n)/\Bl w o:=by
 obtain⟨V,ad,an,ai,ah⟩:=Jq j;obtain⟨i,ae,ap,aj,U⟩:=Jq k;have ak:lb≠0:=λe=>hn ((Jz Jd).1 (Aj (by rw[<-i,e])));by_cases P:la<lb
 . exact Sc a la c b lb f m n w j k P
 . by_cases Q:lb=1
   . subst Q;exact Se a la c b f m n w j k O
   . obtain⟨l,rfl⟩:∃l,lb=l+2:=⟨lb-2,O⟩;obtain⟨A,B,rfl,T,kb⟩:=U (l+1) O;have p:=Jm Jd n;have r:(Jb Y n)[l+1]?.getD 0≠0:=by
      intro e;have R:=Jp Y (Jb Y n) (l+1);rw[Ac O,e,Cb,A6,Jn Jd]at R;have h4:=Ya p (l+1);have q:=YM Jd i.symm O;rw[show l+2-1=l+1 from J]at q;omega
     have g:(Jb Y n)[l+1]?.getD 0<Y:=p.getD uo _;obtain⟨d,t⟩:=ex ((Jb Y n)[l+1]?.getD 0);rw[t]at kb r g;obtain⟨D,K,N⟩:=bitLen_spec d r (by rw[<-F4];exact g);have S:Lib.bitLen d<=64:=by
      rcases AF 64 (Lib.bitLen d)with h|h
      . exfalso
        have q:2^64<=2^(Lib.bitLen d-1):=Au O O;rw[F4]at g;omega
      . exact h
     obtain⟨x,y⟩:=Ny (s:=64-Lib.bitLen d) p i.symm t K N D S J;rw[Jn Jd]at x y;have X:m<Y^la:=by
      have:=J7 (Jm Jd m);rwa[Jn Jd,<-V]at this
     have z:Y^(l+1)<=n:=YM Jd i.symm O;exact TE a la c A B l (l+2) (l+1) f m n d (64-Lib.bitLen d) w J O T j k kb g O (show _=_ by omega) O W x y (TB X z O)
theorem Lg{p:Nat}(a:p≠0)(h:p<Y):Jb Y p=[p]:=by
 grind[Xd,Cf,A3,Jv]
def TF(a:Zu)(t:Nat)(b:Zu)(lb v x y:Nat)(w:H)(d:Row G w (C a 1 t) (Jb Y x))(r:Row G w (C b lb v) (Jb Y y))(B:y<Y):
 Calls L 152 #[C a 1 t,C b lb v] w λe D=>∃u,e=.returned u/\UN D u (Nat.gcd x y)/\Bl w D:=by
 obtain⟨n,ae,an,ai,l⟩:=Jq d;obtain⟨c,ah,ap,aj,m⟩:=Jq r;obtain⟨o,aq,T⟩:=Lc n.symm;rcases AQ lb with z|z
 . subst z;have k:=(Jz Jd).1 (Aj c.symm);subst k;have N:=Z d;clear l m n c d r o;go_enter func152,ntmps152
   go_wp2_with fail
   go_ret;exact⟨_,J,by rw[Nat.gcd_zero_right];exact N.o,BB _ w⟩
 . have k:y≠0:=λe=>by rw[e,Jv]at c;simp at c;omega
   have i:=Lg k B;obtain rfl:lb=1:=by rw[c,i];rfl
   obtain⟨P,Q,rfl,X,ka⟩:=l 0 O;obtain⟨R,S,rfl,ad,kb⟩:=m 0 O;rw[o]at ka;rw[i]at kb;have ay:w.cell? ⟨P,Q,none⟩=some (F G (x:Nat)):=ka;have az:w.cell? ⟨R,S,none⟩=some (F G (y:Nat)):=kb;clear l m n c d r o i ka kb;go_enter func152,ntmps152
   go_upto_region 3 with fail
   go_quiet (fail)
   go_wp2_with fail
   go_loopw [5,6] (λW s wr=>∃(p q j:Nat),W=F G (p:Nat)/\s=F G (q:Nat)/\p<Y/\q<Y/\p≠0/\Hid (Nat.gcd p q=Nat.gcd x y)/\wr=w.drewN j) (λ_ s _=>(intOf s).toNat)
   case atStart=>exact⟨x,y,_,J,J,T,B,O,Z J,J⟩
   case round=>
    obtain⟨p,q,j,rfl,rfl,hp,V,U,g,rfl⟩:=hrel;by_cases A:q=0
    . subst A;have f:=Z (show p=Nat.gcd x y by rw[<-g.o,Nat.gcd_zero_right]);have K:=Z (Lg U hp);clear g;go_wp2_with fail
      go_ret;refine⟨C (some ⟨w.heap.size,0,none⟩) 1 1,J,?_,(Ho (BB _ w) _).alloc (Aa _) _⟩;unfold UN;rw[<-f.o,K.o];exact(DO.made (xs:=[p]) (BC (w.drewN j) (.cells #[F G (p:Nat)] 163))).row 0 1 1 DJ O O O
    . have f:=Z (show Nat.gcd q (p%q)=Nat.gcd x y by rw[<-g.o,CO q,<-Nat.gcd_rec,CO]);have ak:=AV p (show q>0 by omega);go_upto_region 5 with fail
      go_quiet (fail)
      go_wp2_with fail
      exact⟨⟨q,p%q,j+nq,J,DJ,V,O,A,f,DJ⟩,by simp[intOf];omega⟩
def Ep(W:H)(b:Nat)(u:Value)(g l rc P:Nat)(a:Ja):Prop:=
 u=C (some ⟨g,0,none⟩) l rc/\DO W g a/\DK Y a/\l<=a.length/\l<=rc/\rc<=9223372036854775807/\l<=1099511627776/\a.take l=Jb Y P/\b<=g
def Ep.below{W W':H}{a g l rc P:Nat}{u:Value}{b:Ja}(h:Ep W a u g l rc P b)(c:Bl W W'):Ep W' a u g l rc P b:=
 ⟨h.1,h.2.1.below c,h.2.2⟩
def Ep.un(h:Ep W d u g l rc P a):UN W u P:=by
 obtain⟨rfl,b,j,k,c,e,f,i,m⟩:=h;have:=b.row 0 l rc O c e f;rw[AB,i]at this;exact this
theorem TG{ds:Ja}(d:DO W g a)(k:Row G W (C (some ⟨g,0,none⟩) l rc) ds)(hl:l<=a.length):a.take l=ds:=by
 obtain⟨m,_,_,_,c⟩:=Jq k;apply List.ext_getElem?;intro j;by_cases i:j<l
 . obtain⟨b,n,e,_,f⟩:=c j i;cases e;rw[Cn,d.cell O]at f;grind
 grind
def N0(a:Zu)(la r:Nat)(b:Zu)(lb s:Nat)(c d:Ja)(w:H)(V:DK Y c)(W:DK Y d)(T:la+lb<=1099511627776)
(k:Row G w (C a la r) c)(m:Row G w (C b lb s) d):
 Calls L 118 #[C a la r,C b lb s] w λe t=>∃u,e=.returned u/\UN t u (val Y c*val Y d)/\(val Y c*val Y d≠0->∃g l rc o,Ep t w.heap.size u g l rc (val Y c*val Y d) o)/\Bl w t:=by
 have y:=Ga (la+lb) O w;rw[show((la+lb:Nat):Int)=(la:Int)+(lb:Int)from by omega]at y;obtain⟨i,n⟩:∃i,i=w.alloc (.cells (cellsOf G (Zw (la+lb) 0)).toArray 163):=⟨_,J⟩;have q:Bl w i:=by rw[n];exact Ba w _
 have v:DO i w.heap.size (Zw (la+lb) 0):=by rw[n];exact DO.made (BC w _)
 rw[<-n]at y;have N:=Z (SK w.heap.size (la+lb) (la+lb) (Zw (la+lb) 0) a la r b lb s c d i V W v (λx U=>by rw[CP U];unfold Y;omega) DY (Aa _) O T (Row.below k q) (Row.below m q)
  (λp e j=>by have:=F3 k e j;omega) λp e j=>by have:=F3 m e j;omega)
 have X:=(Jq k).2.1;have ad:=(Jq k).2.2.1;have ae:=(Jq m).2.1;have ah:=(Jq m).2.2.1;clear n v k m;go_enter func118,ntmps118
 go_wp2_with(go_at_call 153;refine N.o.mono ?_;rintro e w5 ⟨u,rfl,⟨f,S⟩,R,o,D,Q,K⟩;obtain⟨ua,uc,rfl⟩:=UN.form f)
 go_ret;refine⟨_,J,f,λj=>?_,below_grown q S (Aa _)⟩;have P:(Jb Y (val Y c*val Y d)).length≠0:=λe=>j ((Jz Jd).1 (Aj e));rcases R with e|⟨l,e⟩
 . injection e with z A B
   exact absurd A P
 . injection e with z A B
   subst z;subst B;rw[AM]at K;have hl:(Jb Y (val Y c*val Y d)).length<=o.length:=by rw[K];exact(Jq f).2.1
   exact⟨_,_,_,o,J,D,Q,hl,(Jq f).2.1,(Jq f).2.2.1,(Jq f).2.2.2.1,TG D f hl,Aa _⟩
theorem N1{Q:Nat}(h:Ep W d u g l rc P a)(b:Zu)(lb i:Nat)(m:UN W (C b lb i) Q)(y:Q<=P)(A:∀p,b=some p->0<lb->p.block≠g):
 Calls L 148 #[u,C b lb i] W λe j=>∃c q,e=.returned (F G (c:Nat))/\(Row G j u q/\Js q=Jb Y (P-Q))/\W.grownBy j (some g):=by
 obtain⟨rfl,r,s,B,k,t,v,D,K⟩:=h;have hl:l=(Jb Y P).length:=DY
 have o:=(Jq m).1;refine(NL g 0 l rc a b lb i (Jb Y Q) W r s O k O (by rw[hl,o];exact YO y) m (Jm Jd Q) A).mono ?_;rintro e j ⟨c,q,rfl,f,x,hg⟩;have z:DU a 0 l q=q++a.drop l:=by rw[DU,Fe,Ah,Cn]
 have n:=f.1;refine⟨c,q,J,⟨?_,?_⟩,hg⟩
 . have w:=x.row 0 l rc DY k t v;rwa[z,AB,A8 O,Ac O]at w
 . have hs:ES (Jb Y P) (Jb Y Q) 0 l c q:=by
    refine⟨n,f.2.1,f.2.2.1,?_⟩;have:=f.2.2.2;grind
   grind[NM,YO]
def N2{w V a:H}{o:Obj}(h:Bl w V)(k:Below (V.alloc o).heap.size (V.alloc o) a):Bl w a:=(h.alloc h.size o).trans (k.mono (h.alloc h.size o).size)
def N3(x:Nat):val Y [x]=x:=by rw[JT,Gx,Cb,A6]
theorem N4(v t:Nat)(a:Zu)(la ca:Nat)(b:Zu)(lb cb A B:Nat)(w:H)(ra:Row G w (C a la ca) (Jb Y A))(rb:Row G w (C b lb cb) (Jb Y B))(cg:v<Y)(cj:t<Y)(co:la<1099511627776)(cy:lb<1099511627776)(h0:t*B≠0):
 Calls L 150 #[.agg #[F G (v:Nat),F G (t:Nat)],C a la ca,C b lb cb] w λe w'=>∃u,e=.returned u/\UN w' u (Xt (v*A) (t*B))/\Bl w w':=by
 obtain⟨W0,az⟩:=ex (w.alloc (.cells #[F G (v:Nat),F G (t:Nat)] 180));have Qa:Bl w W0:=by rw[<-az];exact Ba w _
 have bx:Ji W0 w.heap.size 180 (F G (v:Nat)) (F G (t:Nat)):=by rw[<-az];exact Ji.new w _ _ _
 have Qp:=Z (show ∀(V:H) (g:Nat),Bl W0 V->DO V g [v]->Calls L 118 #[C a la ca,C (some ⟨g,0,none⟩) 1 1] V λe w'=>∃u,e=.returned u/\UN w' u (v*A)/\(v*A≠0->∃g l rc zs,Ep w' V.heap.size u g l rc (v*A) zs)/\Bl V w' from λV g h hA=>by
  have o:=N0 a la ca (some ⟨g,0,none⟩) 1 1 (Jb Y A) [v] V (Jm Jd A) (DK.cons cg (DK.nil _)) O (Row.below (Row.below ra Qa) h) (hA.row 0 1 1 DJ O O O);rw[N3,Jn Jd,AO A v]at o;exact o)
 have Qo:=Z (show ∀(V:H) (g:Nat),Bl W0 V->DO V g [t]->Calls L 118 #[C b lb cb,C (some ⟨g,0,none⟩) 1 1] V λe w'=>∃u,e=.returned u/\UN w' u (t*B)/\(t*B≠0->∃g l rc zs,Ep w' V.heap.size u g l rc (t*B) zs)/\Bl V w' from λV g h hA=>by
  have o:=N0 b lb cb (some ⟨g,0,none⟩) 1 1 (Jb Y B) [t] V (Jm Jd B) (DK.cons cj (DK.nil _)) O (Row.below (Row.below rb Qa) h) (hA.row 0 1 1 DJ O O O);rw[N3,Jn Jd,AO B t]at o;exact o)
 have Qq:=Z az;clear az ra rb;generalize v*A=n at *;generalize t*B=X at *;go_enter func150,ntmps150
 go_upto_region 1 with fail
 rw[Qq.o];refine JF Di [[],[],[1],[2],[0,3],[],[],[6],[7],[5,8,4],[4,9,0,1,2,3,4],[9,10,0,1,2,3,4,5,6,7,8,9,10]] Zv DP (λf ac V=>∃t7 t8 t9 bc bd bf ah bg bh bi bj aq:Value,ac={ tmps:=#[.agg #[F G (v:Nat),F G (t:Nat)],C a la ca,C b lb cb,I (some ⟨w.heap.size,0,none⟩),E,E,C none 0 0,t7,t8,t9,bc,bd,bf,ah,bg,bh,bi,bj,aq,E,E,E,E,E,E,E,E,E,E,E],defers:=[] }/\Hid (f 0=true->t9=C a la ca)/\Hid (f 1=true->bc=I (some ⟨w.heap.size,0,none⟩))/\Hid (f 2=true->bd=F G (v:Nat))/\Hid (f 3=true->∃g,bf=C (some ⟨g,0,none⟩) 1 1/\DO V g [v])/\Hid (f 4=true->UN V ah n/\(n≠0->∃d x y z,Ep V W0.heap.size ah d x y n z))/\Hid (f 5=true->bg=C b lb cb)/\Hid (f 6=true->bh=I (some ⟨w.heap.size,1,none⟩))/\Hid (f 7=true->bi=F G (t:Nat))/\Hid (f 8=true->∃g,bj=C (some ⟨g,0,none⟩) 1 1/\DO V g [t])/\Hid (f 9=true->∃m l2 ai aj,Ep V W0.heap.size aq m l2 ai X aj/\UN V ah n/\(n≠0->∃d x y z,Ep V W0.heap.size ah d x y n z/\d≠m))/\Hid (f 10=true->t7=ah)/\Hid (f 11=true->t8=aq)/\Bl W0 V)
  (E8 ⟨_,_,_,_,J,Z Dd,Z Dd,Z Dd,Z Dd,Z Dd,Z Dd,Z Dd,Z Dd,Z Dd,Z Dd,Z Dd,Z Dd,(BB _ W0).drew⟩) ?step1 ?fin1
 case step1=>
  rintro f a2 V i ds s bn k ae ⟨t7,t8,t9,bc,bd,bf,ah,bg,bh,bi,bj,aq,rfl,D,d,m,Q,g4,R,S,T,U,W,N,P,j⟩;have Qm:i<12:=(Ag.1 bn).1;obtain rfl|rfl|rfl|rfl|rfl|rfl|rfl|rfl|rfl|rfl|rfl|rfl:=Gv i O
  all_goals
   simp only[Ap,Al,Ay]at bn;subst bn;clear Qm
  . clear k s;refine D6 ?_;exact⟨Z λ_=>rfl,d,m,Q,g4,R,S,T,U,W,N,P,j⟩
  . clear k s;refine D6 ?_;exact⟨D,Z λ_=>rfl,m,Q,g4,R,S,T,U,W,N,P,j⟩
  . obtain rfl:=d.o (k 1 DJ);have k0:=(bx.below j).c0;clear k s;refine D6 ?_;exact⟨D,Z λ_=>rfl,Z λ_=>rfl,Q,g4,R,S,T,U,W,N,P,j⟩
  . have Qr:f 4=false:=by
     cases h:f 4 with
     |false=>rfl
     |true=>rw[s 4 _ J h 3 DJ]at ae;cases ae
    obtain rfl:=m.o (k 2 DJ);clear k s;refine D6 ?_;exact⟨D,d,Z λ_=>rfl,Z λ_=>⟨_,J,DO.made (xs:=[v]) (BC V _)⟩,Z (λh=>by simp[Qr]at h),R,S,T,Z (λh=>by obtain⟨g,e,q⟩:=U.o h;exact⟨g,e,q.below (Ba V _)⟩),Z (λh=>by obtain⟨m,l2,ai,aj,q1,q2,q3⟩:=W.o h;exact⟨m,l2,ai,aj,q1.below (Ba V _),q2.below (Ba V _),λo=>by obtain⟨d,x,y,z,q,q4⟩:=q3 o;exact⟨d,x,y,z,q.below (Ba V _),q4⟩⟩),N,P,j.alloc j.size _⟩
  . have Qk:f 9=false:=by
     cases h:f 9 with
     |false=>rfl
     |true=>rw[s 9 _ J h 4 DJ]at ae;cases ae
    have Qn:f 10=false:=by
     cases h:f 10 with
     |false=>rfl
     |true=>rw[s 10 _ J h 4 DJ]at ae;cases ae
    obtain rfl:=D.o (k 0 DJ);obtain⟨gm,rfl,an⟩:=Q.o (k 3 DJ);clear k s;refine JK J J λK hK=>?_;go_simp;go_wp2_with(go_at_call 118;refine(Qp.o _ _ j an).mono ?_;rintro e w5 ⟨u5,rfl,bz,bt,ad⟩)
    exact E8 ⟨_,_,_,_,J,Z λ_=>rfl,d,m,Z λ_=>⟨gm,J,an.below ad⟩,Z λ_=>⟨bz,λo=>by obtain⟨d,x,y,z,q⟩:=bt o;exact⟨d,x,y,z,q.1,q.2.1,q.2.2.1,q.2.2.2.1,q.2.2.2.2.1,q.2.2.2.2.2.1,q.2.2.2.2.2.2.1,q.2.2.2.2.2.2.2.1,AK j.size q.2.2.2.2.2.2.2.2⟩⟩,R,S,T,Z (λh=>by obtain⟨g,e,q⟩:=U.o h;exact⟨g,e,q.below (ad)⟩),Z (λh=>by simp[Qk]at h),Z (λh=>by simp[Qn]at h),P,Bt j ad⟩
  . clear k s;refine D6 ?_;exact⟨D,d,m,Q,g4,Z λ_=>rfl,S,T,U,W,N,P,j⟩
  . clear k s;refine D6 ?_;exact⟨D,d,m,Q,g4,R,Z λ_=>rfl,T,U,W,N,P,j⟩
  . obtain rfl:=S.o (k 6 DJ);have k0:=(bx.below j).c1;clear k s;refine D6 ?_;exact⟨D,d,m,Q,g4,R,Z λ_=>rfl,Z λ_=>rfl,U,W,N,P,j⟩
  . have Qk:f 9=false:=by
     cases h:f 9 with
     |false=>rfl
     |true=>rw[s 9 _ J h 8 DJ]at ae;cases ae
    obtain rfl:=T.o (k 7 DJ);clear k s;refine D6 ?_;exact⟨D,d,m,Z (λh=>by obtain⟨g,e,q⟩:=Q.o h;exact⟨g,e,q.below (Ba V _)⟩),Z (λh=>by obtain⟨q1,q2⟩:=g4.o h;exact⟨q1.below (Ba V _),λo=>by obtain⟨d,x,y,z,q⟩:=q2 o;exact⟨d,x,y,z,q.below (Ba V _)⟩⟩),R,S,Z λ_=>rfl,Z λ_=>⟨_,J,DO.made (xs:=[t]) (BC V _)⟩,Z (λh=>by simp[Qk]at h),N,P,j.alloc j.size _⟩
  . have Ql:f 11=false:=by
     cases h:f 11 with
     |false=>rfl
     |true=>rw[s 11 _ J h 9 DJ]at ae;cases ae
    obtain rfl:=R.o (k 5 DJ);obtain⟨gm,rfl,an⟩:=U.o (k 8 DJ);obtain⟨p1,p2⟩:=g4.o (k 4 DJ);clear k s;refine JK J J λK hK=>?_;go_simp;go_wp2_with(go_at_call 118;refine(Qo.o _ _ j an).mono ?_;rintro e w5 ⟨u5,rfl,bz,bt,ad⟩)
    exact⟨_,_,_,_,_,_,_,_,_,_,_,_,J,D,d,m,Z (λh=>by obtain⟨g,e,q⟩:=Q.o h;exact⟨g,e,q.below (ad)⟩),Z (λh=>by obtain⟨q1,q2⟩:=g4.o h;exact⟨q1.below (ad),λo=>by obtain⟨d,x,y,z,q⟩:=q2 o;exact⟨d,x,y,z,q.below (ad)⟩⟩),Z λ_=>rfl,S,T,Z λ_=>⟨gm,J,an.below ad⟩,Z (λ_=>by obtain⟨m,l2,ai,aj,q⟩:=bt h0;exact⟨m,l2,ai,aj,⟨q.1,q.2.1,q.2.2.1,q.2.2.2.1,q.2.2.2.2.1,q.2.2.2.2.2.1,q.2.2.2.2.2.2.1,q.2.2.2.2.2.2.2.1,AK j.size q.2.2.2.2.2.2.2.2⟩,p1.below ad,λo=>by obtain⟨d,x,y,z,r⟩:=p2 o;exact⟨d,x,y,z,r.below ad,by have:=r.2.1.lt;have:=q.2.2.2.2.2.2.2.2;omega⟩⟩),N,Z (λh=>by simp[Ql]at h),Bt j ad⟩
  . clear k s;refine D6 ?_;exact⟨D,d,m,Q,g4,R,S,T,U,W,Z λ_=>rfl,P,j⟩
  . clear k s;refine D6 ?_;exact⟨D,d,m,Q,g4,R,S,T,U,W,N,Z λ_=>rfl,j⟩
 rintro f ck V1 ay ⟨t7,t8,t9,bc,bd,bf,ah,bg,bh,bi,bj,aq,rfl,D,d,m,Q,g4,R,S,T,U,W,N,P,j⟩;obtain⟨gB,l2,ai,aj,o2,ap,o1⟩:=W.o (ay 9 DP);obtain rfl:=N.o (ay 10 DP);obtain rfl:=P.o (ay 11 DP);obtain⟨a1,c1,rfl⟩:=UN.form ap;have Qd:=o2.un;obtain⟨a2,c2,rfl⟩:=UN.form Qd;clear D d m Q g4 R S T U W N P ay Qp Qo;have Qi:∀p,a1=some p->0<(Jb Y n).length->p.block≠gB:=λp e o=>by
  have hp:n≠0:=λe0=>by rw[e0,Jv]at o;simp at o
  obtain⟨d,x,y,z,r,r2⟩:=o1 hp;have:=r.1;grind
 have HO:=Z (LN _ _ (Jb Y n) (Jb Y X) V1 ap Qd (Jm Jd n) (Jm Jd X) (J8 Jd n) (J8 Jd X));rw[Jn Jd,Jn Jd]at HO;have Qg:=Bt Qa j;have Qj:=o2.2.2.2.2.2.2.2.2;by_cases ce:n<X
 . have Qb:=XF ce;rw[Qb]at HO;have Qf:=Z λ(V:H) (h:Bl V1 V)=>N1 (o2.below h) a1 (Jb Y n).length c1 (ap.below h) O Qi;have HD:=Z (show X-n=Xt n X by unfold Xt;omega);clear Qb ap Qd o1 Qi;go_upto_region 4 with(go_at_call 114;refine HO.o.mono ?_;rintro e w2 ⟨rfl,ak⟩)
   go_upto_region 5 with(go_at_call 148;refine(Qf.o _ ak).mono ?_;rintro e w3 ⟨c,q,rfl,⟨hr,bu⟩,bm⟩)
   have Qc:=Z (Yz _ q _ hr);rw[bu,HD.o]at Qc;clear Qf HO;go_wp2_with(go_at_call 132;refine Qc.o.mono ?_;rintro e w4 ⟨u,rfl,hu,bk⟩;obtain⟨ua,uc,rfl⟩:=UN.form hu)
   go_ret;have Qe:=below_grown (Bt Qg ak) bm (AK Qa.size Qj);exact⟨_,J,hu,Bt Qe bk⟩
 . obtain⟨cm,Qb,cn⟩:∃cm:Int,YG n X=cm/\¬(cm<0):=⟨_,J,by unfold YG;omega⟩;rw[Qb]at HO;obtain⟨d,x,y,z,r,r2⟩:=o1 O;have Qh:=r.2.2.2.2.2.2.2.2;have Qf:=Z (λ(V:H) (h:Bl V1 V)=>N1 (r.below h) a2 (Jb Y X).length c2 (Qd.below h) O (λp e _=>by
    have:=o2.1;grind))
   have HD:=Z (show n-X=Xt n X by unfold Xt;omega);clear Qb ap Qd o1 Qi;go_upto_region 4 with(go_at_call 114;refine HO.o.mono ?_;rintro e w2 ⟨rfl,ak⟩)
   go_upto_region 5 with(go_at_call 148;refine(Qf.o _ ak).mono ?_;rintro e w3 ⟨c,q,rfl,⟨hr,bu⟩,bm⟩)
   have Qc:=Z (Yz _ q _ hr);rw[bu,HD.o]at Qc;clear Qf HO;go_wp2_with(go_at_call 132;refine Qc.o.mono ?_;rintro e w4 ⟨u,rfl,hu,bk⟩;obtain⟨ua,uc,rfl⟩:=UN.form hu)
   go_ret;have Qe:=below_grown (Bt Qg ak) bm (AK Qa.size Qh);exact⟨_,J,hu,Bt Qe bk⟩
end
def Eg(x k s:Nat):Nat:=x/(Y^k*2^(64-s))
variable{a:Ja}{k s:Nat}
def TH(hl:a.length=k+2)(b:DK Y a)(hs:s<=63)(f:a[k+1]?.getD 0<2^(64-s)):
 Eg (val Y a) k s=Dv (a[k+1]?.getD 0) s+Dm (a[k]?.getD 0) (64-s)/\Dv (a[k+1]?.getD 0) s ||| Dm (a[k]?.getD 0) (64-s)=Dv (a[k+1]?.getD 0) s+Dm (a[k]?.getD 0) (64-s):=by
 have g:=Nw hl;have c:=Ya b k;have i:=b.getD (show 0<Y by unfold Y;omega) k;have hp:=Hl (s:=s) O;have e:Dv (a[k+1]?.getD 0) s=a[k+1]?.getD 0*2^s:=by rw[Hm O,Cf f]
 rw[e];have d:Dm (a[k]?.getD 0) (64-s)<2^s:=by
  unfold Dm;rw[AC (A4 _),hp];exact i
 refine⟨?_,by rw[AO,<-CH d]⟩;unfold Eg Dm;rw[g,<-Nat.div_div_eq_div_mul,AO _ (Y^k),Nat.mul_add_div (Fb uo),A3 c,A6,<-hp,<-Cg,CW,Nat.add_mul_div_right _ _ (A4 _)];omega
def TI(hl:a.length=k+1)(d:DK Y a):Eg (val Y a) k s=Dm (a[k]?.getD 0) (64-s):=by
 have b:=Jp Y a k;rw[Ac O]at b;have c:=Ya d k;unfold Eg Dm;rw[b,<-Nat.div_div_eq_div_mul,CW,Nat.mul_add_div (Fb uo),A3 c,A6]
def TJ(hl:a.length<=k)(b:DK Y a):Eg (val Y a) k s=0:=by
 unfold Eg;apply A3;have c:=J7 b;have d:Y^a.length<=Y^k:=Au uo hl;have e:=Cl (Y^k) (A4 (64-s));omega
def N5(a:Zu)(la t:Nat)(c:Ja)(k f d s:Nat)(w:H)(n:Row G w (C a la t) c)(o:DK Y c)(q:d=k+2)(A:(d:Int)-1=f)(B:(d:Int)-2=k)(hs:s<=63)(T:la<=d)(V:d<=1099511627776)(m:la=d->c[k+1]?.getD 0<2^(64-s)):
 Calls L 177 #[C a la t,F M (d:Nat),F G (s:Nat)] w λe Q=>e=.returned (F G (Eg (val Y c) k s:Nat))/\Bl w Q:=by
 obtain⟨hl,R,U,S,i⟩:=Jq n;have i1:M.wrap ((d:Int)-1)=(f:Int):=by rw[A];exact BS _ O
 have i2:M.wrap ((d:Int)-2)=(k:Int):=by rw[B];exact BS _ O
 have i3:M.wrap (f:Int)=(f:Int):=BS _ O;have i4:M.wrap (k:Int)=(k:Int):=BS _ O;have i5:G.wrap ((64:Int)-s)=((64-s:Nat):Int):=by rw[BU];omega
 have p:=LY (c[k+1]?.getD 0) s;have y:=LZ (c[k]?.getD 0) (64-s);have j:=o.getD (show 0<Y by unfold Y;omega) k;have l:=La (show Dv (c[k+1]?.getD 0) s<Y by unfold Dv;exact AV _ uo) (show Dm (c[k]?.getD 0) (64-s)<Y from Cz (CN _ _) j);obtain rfl|W:=Decidable.em (la=d)
 . obtain⟨b,P,rfl,K,c1⟩:=i (k+1) O;obtain⟨_,_,z,_,c0⟩:=i k O;cases z;obtain⟨u,v⟩:=TH O o hs (m J);rw[v]at l;have g:=Z u;have r:f=k+1:=O
   rw[<-r]at c1 p l g;have j1:(f:Int)<(la:Int):=O
   have j2:(k:Int)<(la:Int):=O
   have j3:(0:Int)<=(f:Int):=O
   have j4:(0:Int)<=(k:Int):=O
   have j5:f<la:=O
   have N:k<la:=O
   clear r i n u v m hl q j;generalize c[f]?.getD 0=x1 at *;generalize c[k]?.getD 0=x0 at *;go_enter func177,ntmps177
   go_upto_region 3 with fail
   go_quiet (fail)
   go_wp2_with fail
   go_ret;refine⟨?_,Ho (BB _ w) _⟩;rw[g.o];first|rfl|(simp;done)
 . by_cases D:la=f
   . subst D;obtain⟨b,P,rfl,K,c0⟩:=i k O;have g:=Z (TI (s:=s) (show c.length=k+1 by omega) o);have N:k<la:=O
     have x:¬((la:Int)=(d:Int)):=O
     clear i n m hl q j l p;generalize c[k]?.getD 0=x0 at *;go_enter func177,ntmps177
     go_wp2_with fail
     go_ret;refine⟨?_,BB _ w⟩;rw[g.o];first|rfl|(simp;done)
   . have g:=Z (TJ (s:=s) (show c.length<=k by omega) o);have x:¬((la:Int)=(d:Int)):=O
     have X:¬((la:Int)=(f:Int)):=O
     clear i n m hl q j p y l;go_enter func177,ntmps177
     go_wp2_with fail
     go_ret;refine⟨?_,BB _ w⟩;rw[g.o];first|rfl|(simp;done)

