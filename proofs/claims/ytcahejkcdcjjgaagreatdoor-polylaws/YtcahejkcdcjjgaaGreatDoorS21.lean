import Derived.Test.YtcahejkcdcjjgaaGreatDoorS18
import Derived.Test.YtcahejkcdcjjgaaGreatDoorS04
set_option linter.all false
open Go.Value renaming slice->C,int->F,pointer->I
open Go renaming undef->E,World->H
open Go.IntKind renaming u64->G,i64->M
open Go.Proofs.Tryz renaming prog->L
set_option maxRecDepth 99999
set_option maxHeartbeats 0
namespace Go.Proofs.YtcahejkcdcjjgaaGreatDoor
open List renaming replicate->WT
open Proofs.Tryz
open Go.RowKit Go.Shelf
attribute [local go_sem] Oper.semAt_some
section
def C8:=@IntWalk.u64_in
def B0:=@IntWalk.i64_in
variable{c ds xs:U}{B R V d0 d1 f g j l len n q r ro s u0:Nat}{v:Value}{w:H}
theorem Nh(h:ds.length=n+2):val O ds=(ds[n+1]?.getD 0*O+ds[n]?.getD 0)*O^n+val O (ds.take n):=by
 have a:=Jk O ds (n+1);rw[Ad Z,Jk,Ce]at a;rw[a];grind
theorem SM(h:ds.length=n+3):val O ds=((ds[n+2]?.getD 0*O+ds[n+1]?.getD 0)*O+ds[n]?.getD 0)*O^n+val O (ds.take n):=by
 have a:=Jk O ds (n+2);rw[Ad Z,Jk,Jk,Ce,Ce]at a;rw[a];grind
theorem J0(h:DR O ds)(n:Nat):val O (ds.take n)<O^n:=by
 have:=JY (h.take n);grind[Ar,Am,O]
def Hg{a:H}(h:Below B a w)(n:Nat):Below B a (w.drewN n):=h.trans ⟨J,J,J,Aa _,λ_ _=>rfl⟩
theorem Ni(a:u0<O)(h:YS q d0<r\/YS q d0=r/\J3 q d0<=u0):q*d0<=r*O+u0:=by
 grind[YS,J3,O]
theorem SN(b:u0<O)(h:¬(YS q d0<r))(a:¬(YS q d0=r/\J3 q d0<=u0)):r*O+u0<q*d0:=by
 grind[YS,J3,O]
theorem SO{u2 u1 E:Nat}(b:R=((u2*O+u1)*O+u0)*E+f)(d:V=(d1*O+d0)*E+j)(i:j<E)(e:O<=2*d1)(g:d0<O)(c:R<V*O)(h:d1<=u2):FH R V (O-1):=by
 have a:d0*E+j<O*E:=by
  have:=Ac E (show d0+1<=O from g);grind
 refine P8 (d1:=d1) (E:=O*E) (lo:=(u2-d1)*(O*(O*E))+(u1*O+u0)*E+f) (lo2:=d0*E+j) ?_ ?_ a e c Jb
 . obtain⟨t,rfl⟩:∃t,u2=d1+t:=⟨u2-d1,Z⟩;rw[b,Nat.add_sub_cancel_left];grind
 . rw[d];grind
def SP{U E:Nat}(a:R=(U*O+u0)*E+f)(c:V=(d1*O+d0)*E+j)(b:f<E)(d:j<E)(e:O<=2*d1)(i:q<O)(h:q=(U*O+u0)/(d1*O+d0)):FH R V q:=by
 rw[h];have hp:0<d1:=by unfold O at e;omega
 have g:=Cc O hp;exact P7 a c b d (by rw[<-h];omega) Z
def SQ(l a j:Nat)(h1:(l:Int)-1=a)(h2:(l:Int)-2=j)(b i S T ca cb u2 u1 u0 d1 d0 R V:Nat)(w:H)(hl:l<=1099511627776)
(ka:w.cell? ⟨b,i+l,none⟩=some (F G (u2:Nat)))(ak:w.cell? ⟨b,i+a,none⟩=some (F G (u1:Nat)))(aj:w.cell? ⟨b,i+j,none⟩=some (F G (u0:Nat)))
(kb:w.cell? ⟨S,T+a,none⟩=some (F G (d1:Nat)))(bd:w.cell? ⟨S,T+j,none⟩=some (F G (d0:Nat)))(W:b<w.heap.size)
(ai:u1<O)(K:u0<O)(ad:d1<O)(m:d0<O)(ae:0<d1)
(HT:Hid (d1<=u2->FH R V (O-1)))(z:Hid (∀q:Nat,q<O->q=((u2*O+u1)*O+u0)/(d1*O+d0)->FH R V q)):
 Calls L 198 #[C (some ⟨b,i,none⟩) (l+1) ca,C (some ⟨S,T,none⟩) l cb] w λe d=>∃g,e=.returned (F G (g:Nat))/\g<O/\FH R V g/\Bl w d:=by
 have i1:M.wrap ((l:Int)-1)=(a:Int):=by rw[h1];exact B0 _ Z
 have i2:M.wrap ((l:Int)-2)=(j:Int):=by rw[h2];exact B0 _ Z
 have j1:(a:Int)<(l:Int):=Z
 have j2:(j:Int)<(l:Int):=Z
 have j3:(a:Int)<(l:Int)+1:=Z
 have j4:(j:Int)<(l:Int)+1:=Z
 have i3:M.wrap (a:Int)=(a:Int):=B0 _ Z;have j5:a<l:=Z
 have az:a<l+1:=Z
 have ba:a<=l:=Z
 have bc:(a:Int)<=(l:Int):=Z
 have j7:(l:Int)<(l:Int)+1:=Z
 have j8:(0:Int)<=(l:Int):=Z
 have j9:(0:Int)<=(a:Int):=Z
 have ay:(0:Int)<=(j:Int):=Z
 have j6:j<l:=Z
 go_enter func198,ntmps198
 go_upto_region 2 with fail
 go_quiet (fail)
 by_cases ah:d1<=u2
 . go_wp2_with fail
   go_ret;exact⟨O-1,J,by unfold O;omega,HT.o ah,Hg (BL _ w) _⟩
 . have A:=P4 (B:=O) (u:=u2*O+u1) (u1:=u0) (d1:=d1) (d0:=d0) ae ad K (by
    have:=Ac O (show u2+1<=d1 by omega);rw[AL,C5]at this;omega)
   have Qd:=Ja λV=>NI u2 u1 d1 Z ai ad V;have Qf:=A.2.2.1;have Qe:=A.2.2.2;have f:=Ja A;clear A HT;generalize hX:(u2*O+u1)/d1=q0 at *;generalize hY:(u2*O+u1)%d1=r0 at *;generalize hZ:u2*O+u1=U at *;clear hX hY hZ;go_wp2_with fail
   have t:Bl w (w.drewN (nq+1)):=Hg (BL _ w) _;go_region_held3 (λd=>d.cell? ⟨b,i+l,none⟩=some (F G (u2:Nat))/\d.cell? ⟨b,i+a,none⟩=some (F G (u1:Nat))) (refine⟨?_,?_⟩<;>(first|(go_keep;done)|(simp[*];done)))
    (first|(go_at_call 164;refine(Qd.o _).mono ?_;rintro e w1 ⟨rfl,D⟩;have bh:=(D.cell (p:=⟨b,i+l,none⟩) (show b<w.heap.size from W)).trans ka;have bg:=(D.cell (p:=⟨b,i+a,none⟩) (show b<w.heap.size from W)).trans ak;have bf:=(D.cell (p:=⟨b,i+j,none⟩) (show b<w.heap.size from W)).trans aj))
   have t:Bl w w1:=Bt t D;go_wp2_with fail
   go_loopw [8,9] (λX rv wr=>∃(q r:Nat),X=F G (q:Nat)/\rv=F G (r:Nat)/\q<O/\r<O/\Hid (Ib O U u0 d1 d0 q r)/\wr=w1)
    (λX _ _=>(intOf X).toNat)
   case atStart=>exact⟨q0,r0,J,J,Qf,Qe,f,J⟩
   case round=>
    clear Qd f;obtain⟨q,r,rfl,rfl,c,aq,f,rfl⟩:=hrel;have k:0<d1*O:=DO ae uo;by_cases c1:YS q d0<r
    . have o:=Ja (z.o q c (Kk f.o.1 f.o.2.1 k (Ni K (Az c1))));clear k;go_wp2_with(first
       |(go_at_call 190;refine(XV _ _ c m _).mono ?_;rintro e d ⟨rfl,rfl⟩))
      go_ret;exact⟨q,J,c,o.o,t⟩
    . by_cases c2:YS q d0=r/\J3 q d0<=u0
      . have o:=Ja (z.o q c (Kk f.o.1 f.o.2.1 k (Ni K (AE c2))));obtain⟨c2,c3⟩:=c2;subst c2;clear k;go_wp2_with(first
         |(go_at_call 190;refine(XV _ _ c m _).mono ?_;rintro e d ⟨rfl,rfl⟩))
        go_ret;exact⟨q,J,c,o.o,t⟩
      . obtain⟨g1,v,x,g4⟩:=P5 f.o k (SN K c1 c2);obtain⟨p,hp⟩:=ex (q-1:Nat);rw[hp]at v x g4;have am:(q:Int)-1=(p:Int):=Z
        have an:p<q:=Z
        have ap:G.wrap (p:Int)=(p:Int):=by rw[Bo];unfold O at c;omega
        clear hp g1 f;have Q:=Ii r d1;have N:=Ja (z.o p);clear z;by_cases n:r+d1<O
        . have v1:J6 r d1 0=r+d1:=by unfold J6;rw[A4,Cf n]
          have y:Yl r d1 0=0:=by unfold Yl;rw[A4,A6 n]
          rw[v1,y]at Q;have P:=Ja (show Ib O U u0 d1 d0 p (r+d1)from⟨v,x,g4,n⟩);clear v x v1 y k N;obtain⟨s,hs⟩:=ex (r+d1);rw[hs]at Q P n;clear hs;by_cases c3:YS q d0=r
          . have c4:¬(J3 q d0<=u0):=λh=>c2 ⟨c3,h⟩;clear c2;go_wp2_with(first
             |(go_at_call 190;refine(XV _ _ c m _).mono ?_;rintro e d ⟨rfl,rfl⟩))
            exact⟨⟨p,s,J,J,g4,n,P,by first|trivial|rfl⟩,by simp[intOf];omega⟩
          . clear c2;go_wp2_with(first
             |(go_at_call 190;refine(XV _ _ c m _).mono ?_;rintro e d ⟨rfl,rfl⟩))
            exact⟨⟨p,s,J,J,g4,n,P,by first|trivial|rfl⟩,by simp[intOf];omega⟩
        . have o:=Ja (N.o g4 (P6 v x g4 m k Z));have y:Yl r d1 0=1:=by unfold Yl;unfold O at *;omega
          rw[y]at Q;generalize J6 r d1 0=s at *;clear v x y k N n;by_cases c3:YS q d0=r
          . have c4:¬(J3 q d0<=u0):=λh=>c2 ⟨c3,h⟩;clear c2;go_wp2_with(first
             |(go_at_call 190;refine(XV _ _ c m _).mono ?_;rintro e d ⟨rfl,rfl⟩))
            go_ret;exact⟨p,J,g4,o.o,t⟩
          . clear c2;go_wp2_with(first
             |(go_at_call 190;refine(XV _ _ c m _).mono ?_;rintro e d ⟨rfl,rfl⟩))
            go_ret;exact⟨p,J,g4,o.o,t⟩
def SR(a b:WO)(n j k:Nat)(i bs:List Nat)(w:H)(Q:Row G w (C a (n+3) j) i)(R:Row G w (C b (n+2) k) bs)(o:DR O i)(f:DR O bs)
(l:O<=2*bs[n+1]?.getD 0)(y:val O i<val O bs*O):
 Calls L 198 #[C a (n+3) j,C b (n+2) k] w λe S=>∃g,e=.returned (F G (g:Nat))/\g<O/\FH (val O i) (val O bs) g/\Bl w S:=by
 obtain⟨A,U,ad,W,m⟩:=Jn Q;obtain⟨B,V,ae,X,s⟩:=Jn R;obtain⟨t,u,rfl,z,ka⟩:=m (n+2) Z;obtain⟨_,_,c,_,N⟩:=m (n+1) Z;cases c;obtain⟨_,_,c,_,K⟩:=m n Z;cases c;obtain⟨v,x,rfl,T,kb⟩:=s (n+1) Z;obtain⟨_,_,c,_,P⟩:=s n Z;cases c;have d:0<O:=by unfold O;omega
 have p:=SM A.symm;have r:=Nh B.symm;exact SQ (n+2) (n+1) n Z Z t u v x j k _ _ _ _ _ _ _ w Z ka N K kb P z (o.getD d _) (o.getD d _) (f.getD d _) (f.getD d _) (by unfold O at l;omega)
  (λh=>SO p r (J0 f n) l (f.getD d _) y h) λq D h=>SP p r (J0 o n) (J0 f n) l D h
def DU.win{W:H}{b:Nat}(h:DU W b xs)(a len cap:Nat)(c:a+len<=xs.length)(d:len<=cap)(e:cap<=9223372036854775807)(f:len<=1099511627776):Row G W (C (some ⟨b,a,none⟩) len cap) ((xs.drop a).take len):=
 h.row a len cap c d e f
def SS{q:U}(a:q.length=len)(h:ro+len<=xs.length):((Da xs ro len q).drop ro).take len=q:=by
 rw[Da,List.drop_append_of_le_length (by rw[Aj];omega),AF (by rw[Aj];omega),Al,A8 Z,Ad Z]
def SU{p q:U}(hp:p.length=len)(h:ro+len<=xs.length):Da (Da xs ro len p) ro len q=Da xs ro len q:=by
 have a:(xs.take ro).length=ro:=by rw[Aj];omega
 rw[Da,Da,Da,A8 Z,Ad Z,List.drop_append,a,show ro+len-ro=len from by omega,AF Z,Al,List.drop_append,hp,A3,AF Z,Al,AH]
def SV{q:U}(a:DR O xs)(c:DR O q):DR O (Da xs ro len q):=by
 intro x b;rw[Da]at b;rcases Cp.1 b with h|h
 . exact(a.take ro) x h
 . rcases Cp.1 h with h|h
   . exact c x h
   . exact(a.drop _) x h
def SW(d ro n cap:Nat)(xs:List Nat)(a:WO)(j:Nat)(bs:List Nat)(w:H)
(u:DU w d xs)(z:DR O xs)(ai:ro+(n+3)<=xs.length)(y:n+3<=cap)(aj:cap<=9223372036854775807)(hn:n+3<=1099511627776)(l:Row G w (C a (n+2) j) bs)(m:DR O bs)(ad:∀p,a=some p->0<n+2->p.block≠d)
(X:O<=2*bs[n+1]?.getD 0)(W:val O ((xs.drop ro).take (n+3))<val O bs*O):
 Calls L 179 #[C (some ⟨d,ro,none⟩) (n+3) cap,C a (n+2) j] w λe w'=>
  ∃q,e=.returned (F G ((val O ((xs.drop ro).take (n+3))/val O bs:Nat):Int))/\(q.length=n+3/\DR O q/\val O q=val O ((xs.drop ro).take (n+3))%val O bs)/\DU w' d (Da xs ro (n+3) q)/\w.grownBy w' (some d):=by
 have R:=u.win ro (n+3) cap ai y aj hn;have B:=Ja (SR _ a n cap j _ bs w R l ((z.drop ro).take _) m X W);have s:=(Jn l).1;have K:val O bs<O^(n+2):=by have:=JY m;rwa[<-s]at this
 have N:val O bs<O^(n+3):=Ar K (Am uo Z);obtain⟨am,A,t,D,T,HA,i,Qk⟩:=Gw N l ad z m u ai s;clear R X W s K N l ad z m u;go_enter func179,ntmps179
 go_upto_region 2 with(go_at_call 198;refine B.o.mono ?_;rintro e w1 ⟨g,rfl,hg,V,k⟩;have r:=Ja V;clear V B)
 have S:=Ja (Rx d ro (n+2) cap xs a j bs g w1 (HA.o.below k) D.o i.o y (Row.below A.o k) T.o t.o hg);go_upto_if 13 with(go_at_call 199;refine S.o.mono ?_;rintro e w2 ⟨c,q,rfl,⟨hc,ah⟩,hA2,v⟩;have b:=Ja ah;clear ah S)
 obtain rfl|rfl:c=0\/c=1:=Z
 . have o:=Ja (P9 r.o (by have:=b.o.2.2;rw[Cd,A4]at this;exact this));have HE:=Ja o.o.1;have HM:=Ja o.o.2;clear o r;go_wp2_with fail
   go_ret;exact⟨q,by rw[<-HE.o];rfl,⟨b.o.1,b.o.2.1,HM.o⟩,hA2,Jf (JJ k _) v⟩
 . have Q:=Ja (LB d ro (n+3) cap (Da xs ro (n+3) q) a (n+2) j bs w2 hA2 (SV D.o b.o.2.1) (by rw[JK b.o.1 i.o];exact i.o) y Z Z (Row.grown (Row.below A.o k) v t.o) T.o t.o);have Ql:1<=g:=by
    rcases A5 g with h|h
    . exfalso
      have h1:=b.o.2.2;have h2:=JY b.o.2.1;rw[b.o.1]at h2;rw[h,Cd,Nat.mul_one]at h1;omega
    . exact h
   obtain⟨p,hp⟩:=ex (g-1:Nat);have an:(g:Int)-1=(p:Int):=Z
   have ap:G.wrap (p:Int)=(p:Int):=by rw[Bo];unfold O at hg;omega
   have HP:=Ja hp;clear hp Ql;go_wp2_with(go_at_call 146;refine Q.o.mono ?_;rintro e w3 ⟨c3,q3,rfl,ae,hA3,ak⟩;have f:=Ja ae;clear ae Q)
   go_ret;have x:=QA r.o (P:=O^(n+3)) (by have:=b.o.2.2;rw[Nat.mul_one]at this;exact this) (by have:=JY b.o.2.1;rw[b.o.1]at this;exact this) (q2:=val O q3) (c2:=c3)
    (by
     have U:=f.o.2.2.2;rw[SS b.o.1 i.o,Ad (show bs.length<=n+3 by rw[<-Qk.o];omega)]at U;exact U)
    (by have:=JY f.o.2.1;rw[f.o.1]at this;exact this) f.o.2.2.1
   rw[HP.o]at x;rw[SU b.o.1 i.o]at hA3;exact⟨q3,by rw[<-x.2.1];rfl,⟨f.o.1,f.o.2.1,x.2.2⟩,hA3,Jf (Jf (JJ k _) v) ak⟩
def Nj{bs:U}{d L:Nat}(i:DR O bs)(hl:bs.length=l+2)(f:bs[l+1]?.getD 0=d)(c:2^(L-1)<=d)(e:d<2^L)(k:1<=L)(j:L<=64)(hs:s=64-L):
 val O bs*2^s<O^(l+2)/\2^63*O^(l+1)<=val O bs*2^s:=by
 have n:val O bs=val O (bs.take (l+1))+O^(l+1)*d:=by
  have h:=Jk O bs (l+1);rwa[Ad Z,f]at h
 have m:=J0 i (l+1);have p1:2^L*2^s=O:=by rw[<-Cu,F6];congr 1;omega
 have g:2^(L-1)*2^s=2^63:=by rw[<-Cu];congr 1;omega
 constructor
 . have b:val O bs+1<=O^(l+1)*2^L:=by
    have:=Au (O^(l+1)) (show d+1<=2^L from e);rw[CY,Nat.mul_one]at this;omega
   have a:=Ac (2^s) b;rw[A9,p1,<-Ce,AL,C5]at a;exact Ar (Nat.lt_add_of_pos_right (A2 s)) a
 . have b:O^(l+1)*2^(L-1)<=val O bs:=by
    have:=Au (O^(l+1)) c;omega
   have a:=Ac (2^s) b;rw[A9,g,AK]at a;exact a
def SX(i:DR O c)(hl:c.length=l+3)(b:val O c=V)(d:V<O^(l+2))(j:2^63*O^(l+1)<=V):
 val O (c.take (l+2))=V/\O<=2*(c.take (l+2))[l+1]?.getD 0:=by
 have g:=X6 (B:=O) (k:=l+2) (D:=c) Z (by rw[b];exact d);have a:val O (c.take (l+2))=V:=by
  have h:=val_append O (c.take (l+2)) (c.drop (l+2));rw[AU,g,Cd,A4,b]at h;exact h.symm
 refine⟨a,?_⟩;rw[CK Z];have e:=Jk O c (l+1);have m:=J0 i (l+1);rw[show l+1+1=l+2 from J,a]at e;rcases AJ (c[l+1]?.getD 0) (2^63)with h|h
 . exfalso
   have f:=Au (O^(l+1)) (show c[l+1]?.getD 0+1<=2^63 from h);rw[CY,Nat.mul_one,AK _ (2^63)]at f;omega
 . rw[F6];omega
def SY{m la:Nat}(c:m<O^la)(d:O^(l+1)<=n)(hl:l+1<=la):m*2^s<n*2^s*O^(la-(l+1)):=by
 have b:O^(l+1)*O^(la-(l+1))=O^la:=by rw[<-Cu];congr 1;omega
 have a:=Ac (O^(la-(l+1))) d;rw[b]at a;rw[Nat.mul_right_comm];exact Nat.mul_lt_mul_of_pos_right (Ar c a) (A2 s)
def JE{P:Program}{ops:Array Oper}{Q:Exit->Act->H->Prop}{i:Nat}{o:Oper}{K:Act->H->Prop}{a:Act}(c:ops[i]?=some o)(b:o.guard=none)
(h:∀K':Act->H->Prop,(∀a w,K a w->K' a w)->o.wp P a w K' Q):wpOp P ops Q i K a w:=by
 unfold wpOp;rw[c];simp only[Region.wanted,b,if_true];exact Az (h K λ_ _ h=>h)
def Dy{p q:Prop}(k:q)(h:Hid q->p:=by intro x;refine JE rfl rfl λK a=>?_;go_simp;refine a _ _ ?_;(repeat apply Exists.intro);refine ⟨rfl,?_⟩;exact x.o):p:=h k
def FA(V:H)(b:Nat)(v:Value)(g len c:Nat)(a:U):Prop:=
 v=C (some ⟨g,0,none⟩) len len/\DU V g a/\a.length=len/\DR O a/\val O a=c/\b<=g
def FA.below{V V':H}{b g len c:Nat}{v:Value}{a:U}(h:FA V b v g len c a)(d:Bl V V'):FA V' b v g len c a:=
 ⟨h.1,h.2.1.below d,h.2.2⟩
def FA.box{V:H}{u:Value}(h:FA V f v g len j c)(hl:0<len)(d:Boxed V B 34 (C none 0 0)):FA (V.setCell ⟨B,0,none⟩ u) f v g len j c:=
 ⟨h.1,h.2.1.far (by
  intro e;simp only at e;obtain⟨i,b⟩:=h.2.1;rw[e,show V.heap[B]?=_ from d]at b;obtain⟨z,a,rfl⟩:∃z a,c=z::a:=by
   cases c with
    |nil=>have:=h.2.2.1;simp at this;omega
    |cons z a=>exact⟨z,a,J⟩
  simp[cellsOf]at b) u,h.2.2⟩
def FA.ne_box{V:H}{b:WO}{l i:Nat}(h:FA V f v g len j c)(hl:0<len)(k:Boxed V B 34 (C b l i)):g≠B:=by
 intro e;obtain⟨m,d⟩:=h.2.1;rw[e,show V.heap[B]?=_ from k]at d;obtain⟨z,a,rfl⟩:∃z a,c=z::a:=by
  cases c with
  |nil=>have:=h.2.2.1;simp at this;omega
  |cons z a=>exact⟨z,a,J⟩
 simp[cellsOf]at d
end
section
structure SplC where
 w:World
 bs:Value
 rs:Value
 ds:Value
 qs:Value
 B9:Nat
 B10:Nat
 B11:Nat
 B12:Nat
 gR:Nat
 gZ:Nat
 gQ:Nat
 Zb:U
structure SplC.Apart(c:SplC):Prop where
 r0:c.gR≠c.w.heap.size
 r9:c.gR≠c.B9
 r10:c.gR≠c.B10
 r11:c.gR≠c.B11
 r12:c.gR≠c.B12
 rz:c.gR≠c.gZ
 rq:c.gR≠c.gQ
 q0:c.gQ≠c.w.heap.size
 q9:c.gQ≠c.B9
 q10:c.gQ≠c.B10
 q11:c.gQ≠c.B11
 q12:c.gQ≠c.B12
 qz:c.gQ≠c.gZ
 lr:c.w.heap.size<=c.gR
 lq:c.w.heap.size<=c.gQ
structure SplC.Holds(c:SplC)(W:World):Prop where
 b0:Boxed W c.w.heap.size 34 c.bs
 b9:Boxed W c.B9 34 c.rs
 b10:Boxed W c.B10 34 c.ds
 b11:Boxed W c.B11 34 c.qs
 b12:Boxed W c.B12 34 c.qs
 z:DU W c.gZ c.Zb
 B:Below c.w.heap.size c.w W
theorem SplC.Holds.kept{c:SplC}{W W':H}{g:Nat}(h:c.Holds W)(hg:W.grownBy W' (some g))(a:g≠c.w.heap.size)(i:g≠c.B9)(b:g≠c.B10)(d:g≠c.B11)(f:g≠c.B12)(j:g≠c.gZ)(hl:c.w.heap.size<=g):c.Holds W':=
 ⟨h.b0.kept hg (λe=>by grind),h.b9.kept hg (λe=>by grind),h.b10.kept hg (λe=>by grind),h.b11.kept hg (λe=>by grind),
  h.b12.kept hg (λe=>by grind),h.z.kept hg (λe=>by grind),below_grown h.B hg hl⟩
def SplC.Holds.drew{c:SplC}{W:H}(h:c.Holds W):c.Holds W.drew:=
 ⟨h.b0,h.b9,h.b10,h.b11,h.b12,h.z,h.B.drew⟩
variable{f:Bool}{D D' Q Q':U}{B:Nat}{W W' W0:H}
def SplC.own(c:SplC)(b:c.w.heap.size<=B):OwnFrom B (λ(_:Nat) W=>c.Holds W):=λk W W' row hs hg a=>
 ⟨YM hs.b0 hg a,YM hs.b9 hg a,YM hs.b10 hg a,YM hs.b11 hg a,YM hs.b12 hg a,Hf hs.z hg a,NU b k W W' row hs.B hg a⟩
def Nk(c:SplC)(a V n K:Nat)(k:Nat)(W:H):Prop:=
 c.Holds W/\∃D Q,DU W c.gR D/\DU W c.gQ Q/\Xp a V n K (K-k) D Q
def SZ(c:SplC)(b V n K:Nat)(g:c.w.heap.size<=B):OwnFrom B (Nk c b V n K):=
 Bj (c.own g) (λ_ _ _ _ hs hg a=>by obtain⟨D,Q,d,e,f⟩:=hs;exact⟨D,Q,Hf d hg a,Hf e hg a,f⟩)
structure SplM(c:SplC)(W0:World)(D D' Q Q':U)(e f:Bool)(W:World):Prop where
 k:KeepsOthers W0 W
 h:c.Holds W
 r:DU W c.gR (bif e then D' else D)
 q:DU W c.gQ (bif f then Q' else Q)
def SplM.drew{c:SplC}{W0 W:H}{D D' Q Q':U}{e f:Bool}(h:SplM c W0 D D' Q Q' e f W):SplM c W0 D D' Q Q' e f W.drew:=
 ⟨h.k.trans (KeepsOthers.drew W),h.h.drew,h.r,h.q⟩
def Sa{g:Nat}{xs:U}(b:DU W g xs)(hg:W.grownBy W' (some g)):KeepsOthers W W':=
 KeepsOthers.of_grownBy hg λj o a c=>by cases a;exact b.other c
def SplM.any{c:SplC}(h:SplM c W0 D D' Q Q' false f W)(a:U):SplM c W0 D a Q Q' false f W:=⟨h.k,h.h,h.r,h.q⟩
def SplM.split{c:SplC}(h:SplM c W0 D D' Q Q' false f W)(a:c.Apart)(hg:W.grownBy W' (some c.gR))(b:DU W' c.gR D'):SplM c W0 D D' Q Q' true f W':=
 ⟨h.k.trans (Sa h.r hg),h.h.kept hg a.r0 a.r9 a.r10 a.r11 a.r12 a.rz a.lr,b,h.q.kept hg λe=>by injection e with e;exact a.rq e.symm⟩
theorem SplM.store{c:SplC}{e:Bool}(h:SplM c W0 D D' Q Q' e false W)(a:c.Apart){j v:Nat}(d:Q.set j v=Q'):SplM c W0 D D' Q Q' e true (W.setCell ⟨c.gQ,j,none⟩ (F G (v:Nat))):=
 have b:=JA W c.gQ j (F G (v:Nat))
 ⟨h.k.trans (Bg _ _ _),h.h.kept b a.q0 a.q9 a.q10 a.q11 a.q12 a.qz a.lq,h.r.kept b (λe=>by injection e with e;exact a.rq e),by have:=h.q.set j v;grind⟩
def Sb(a:WO)(la ca:Nat)(t x l lb l1 cb m n d s:Nat)(w:H)(ff:lb=l+2)(h2:(lb:Int)-1=l1)(fl:t<w.heap.size)
(ra:Row G w (C a la ca) (Jc O m))(rb:Row G w (C (some ⟨t,x,none⟩) lb cb) (Jc O n))
(kb:w.cell? ⟨t,x+l1,none⟩=some (F G (d:Nat)))(fm:d<O)(hs:s<=63)(HS:Hid ((64:Int)-(Lib.bitLen d:Int)=(s:Int)))(gg:lb<=la)(fo:la<1099511627776)
(ew:Hid (n*2^s<O^(l+2)))(f8:Hid (2^63*O^(l+1)<=n*2^s))(fk:Hid (m*2^s<n*2^s*O^(la-(l+1)))):
 Calls L 151 #[C a la ca,C (some ⟨t,x,none⟩) lb cb] w λe w'=>∃u v,e=.returned (.tuple #[u,v])/\UN w' u (m/n)/\UN w' v (m%n)/\Bl w w':=by
 have Qc:=Ja ff;have i1:M.wrap ((lb:Int)-1)=(l1:Int):=by rw[h2];exact B0 _ Z
 have i3:M.wrap (l1:Int)=(l1:Int):=B0 _ Z;have j1:(l1:Int)<(lb:Int):=Z
 have j9:(0:Int)<=(l1:Int):=Z
 have j2:l1<lb:=Z
 have gh:¬(lb=1):=Z
 have Qg:Bl w (w.alloc (.cells #[C (some ⟨t,x,none⟩) lb cb] 34)):=Ba w _;have Qf:=Bb w 34 (C (some ⟨t,x,none⟩) lb cb);obtain⟨W0,cj⟩:=ex (w.alloc (.cells #[C (some ⟨t,x,none⟩) lb cb] 34));have Qs:W0.heap.size=w.heap.size+1:=by rw[<-cj];simp
 rw[cj]at Qg Qf;have Uq:=Qf.cell;have Uz:=(Qg.cell (p:=⟨t,x+l1,none⟩) fl).trans kb;have Qr:=Ja λ(V:H) (h:Bl W0 V)=>NT a la ca (Jc O m) s V hs (Row.below (Row.below ra Qg) h) (Jm Jb m) fo;have Qp:=Ja λ(V:H) (h:Bl W0 V)=>NT (some ⟨t,x,none⟩) lb cb (Jc O n) s V hs (Row.below (Row.below rb Qg) h) (Jm Jb n) Z;rw[Jl Jb]at Qr Qp;have Ub:=Ja cj;have Ua:=Ja (show ∀V:H,Calls L 176 #[F G (d:Nat)] V λe w'=>e=.returned (F M (s:Nat))/\w'=V from λV=>by
  have h:=Tryz.bits_LeadingZeros64 (d:Nat) V Z (by unfold O at fm;omega);rw[Cw,HS.o]at h;exact h)
 have gn:G.wrap (s:Int)=(s:Int):=C8 _ Z;have Ur:=Ja Qs;have fr:=Ja h2;clear cj ff ra rb kb HS;refine(Be (n:=3)).1 ?_;refine Bn func151 J trivial ?_ J;simp only[ntmps151,Ak,Ag,AB,Nat.reduceAdd,Nat.reduceSub,An,Ao,Ax,Ap,Al,Aw];refine wpIn_wide.2 ?_;go_upto_region 1 with fail
 rw[Ub.o];clear Ub Qs;go_upto_region 8 with(go_at_call 176;refine(Ua.o _).mono ?_;rintro e w' ⟨rfl,e1⟩;have e2:=e1.symm;subst e2;clear e1)
 refine Jt Dl [[],[],[0,1],[],[],[3,4,2],[],[6],[5,7],[],[],[9,2,5,0,1,2,9,10],[10,8,11,0,1,2,3,4,5,6,7,8,9,10,11]] WS DV
  (λD ac V=>∃t9 az ba bc bd bf bg bz bh bi ce:Value,ac={ tmps:=#[C a la ca,C (some ⟨t,x,none⟩) lb cb,E,I (some ⟨w.heap.size,0,none⟩),C none 0 0,C none 0 0,E,E,F G (s:Nat),t9,az,E,E,C a la ca,F M (la:Nat),C (some ⟨t,x,none⟩) lb cb,F M (lb:Nat),.bool false,E,E,C (some ⟨t,x,none⟩) lb cb,F M (lb:Nat),.bool false,E,E,E,E,E,E,E,E,E,E,E,E,C (some ⟨t,x,none⟩) lb cb,C (some ⟨t,x,none⟩) lb cb,F M (lb:Nat),F M (l1:Nat),I (some ⟨t,x+l1,none⟩),F G (d:Nat),F M (s:Nat),F G (s:Nat),ba,bc,bd,bf,bg,bz,bh,bi,ce,E,E,E,E,E,E,E,E,E,E,E,E,E,E,E,E,E,E,E,E,E,E,E,E,E,E,E,E],defers:=[] }/\Hid (D 0=true->ba=C a la ca)/\Hid (D 1=true->bc=F G (s:Nat))/\Hid (D 2=true->∃g bj,FA V W0.heap.size bd g (la+1) (m*2^s) bj)/\Hid (D 3=true->bf=C (some ⟨t,x,none⟩) lb cb)/\Hid (D 4=true->bg=F G (s:Nat))/\Hid (D 5=true->∃gR Zr gZ Zb,FA V W0.heap.size bd gR (la+1) (m*2^s) Zr/\FA V W0.heap.size bz gZ (lb+1) (n*2^s) Zb/\gR≠gZ)/\Hid (D 6=true->bh=C (some ⟨t,x,none⟩) lb cb)/\Hid (D 7=true->bi=F M (lb:Nat))/\Hid (D 8=true->∃gZ,bz=C (some ⟨gZ,0,none⟩) (lb+1) (lb+1)/\ce=C (some ⟨gZ,0,none⟩) lb (lb+1))/\Hid (D 9=true->D 11=false->∃B,t9=I (some ⟨B,0,none⟩)/\Boxed V B 34 (C none 0 0)/\W0.heap.size<=B)/\Hid (D 10=true->D 12=false->∃B,az=I (some ⟨B,0,none⟩)/\Boxed V B 34 (C none 0 0)/\W0.heap.size<=B)/\Hid (D 9=true->D 10=true->t9≠az)/\Hid (D 11=true->∃B,t9=I (some ⟨B,0,none⟩)/\Boxed V B 34 bd/\W0.heap.size<=B)/\Hid (D 12=true->∃B,az=I (some ⟨B,0,none⟩)/\Boxed V B 34 ce/\W0.heap.size<=B)/\Bl W0 V)
  (E8 ⟨_,_,_,J,Ja Dh,Ja Dh,Ja Dh,Ja Dh,Ja Dh,Ja Dh,Ja Dh,Ja Dh,Ja Dh,Ja Dh,Ja Dh,Ja Dh,Ja Dh,Ja Dh,(BL _ W0).drew⟩) ?step8 ?fin8
 case step8=>
  rintro D a2 V i ds ah ed b ai ⟨t9,az,ba,bc,bd,bf,bg,bz,bh,bi,ce,rfl,N,P,g2,R,g4,r,S,T,U,A,y,gx,ad,ae,o⟩;have Qx:i<13:=(Af.1 ed).1;obtain rfl|rfl|rfl|rfl|rfl|rfl|rfl|rfl|rfl|rfl|rfl|rfl|rfl:=KM i Z
  all_goals
   simp only[Ai,Ah,Aq]at ed;subst ed;clear Qx
  . clear b ah;refine Dy ?_;exact⟨Ja λ_=>rfl,P,g2,R,g4,r,S,T,U,A,y,gx,ad,ae,o⟩
  . clear b ah;refine Dy ?_;exact⟨N,Ja λ_=>rfl,g2,R,g4,r,S,T,U,A,y,gx,ad,ae,o⟩
  . have Ut:D 5=false:=DY ah ai;have Qb:D 11=false:=DY ah ai;have Qa:D 12=false:=DY ah ai;obtain rfl:=N.o (b 0 DQ);obtain rfl:=P.o (b 1 DQ);clear b ah;refine JE J J λK hK=>?_;go_simp;go_wp2_with(go_at_call 178;refine(Qr.o _ o).mono ?_;rintro e w5 ⟨r,Z5,rfl,⟨dw,dx,dz⟩,hA5,bt,an⟩)
    exact E8 ⟨_,_,_,J,Ja λ_=>rfl,Ja λ_=>rfl,Ja λ_=>⟨r,Z5,J,hA5,dw,dx,dz,At o.size bt⟩,R,g4,Ja (λh=>by simp[Ut]at h),S,T,U,Ja (λh h2=>by obtain⟨B,e,q,q2⟩:=A.o h h2;exact⟨B,e,boxed_below q an,q2⟩),Ja (λh h2=>by obtain⟨B,e,q,q2⟩:=y.o h h2;exact⟨B,e,boxed_below q an,q2⟩),gx,Ja (λh=>by simp[Qb]at h),Ja (λh=>by simp[Qa]at h),Bt o an⟩
  . have k0:=(boxed_below Qf o).cell;clear b ah;refine Dy ?_;exact⟨N,P,g2,Ja λ_=>rfl,g4,r,S,T,U,A,y,gx,ad,ae,o⟩
  . clear b ah;refine Dy ?_;exact⟨N,P,g2,R,Ja λ_=>rfl,r,S,T,U,A,y,gx,ad,ae,o⟩
  . have Uo:D 8=false:=DY ah ai;have Qb:D 11=false:=DY ah ai;have Qa:D 12=false:=DY ah ai;obtain rfl:=R.o (b 3 DQ);obtain rfl:=g4.o (b 4 DQ);obtain⟨gR,Zr,hR⟩:=g2.o (b 2 DQ);have ga:=hR.2.1.lt;clear b ah;refine JE J J λK hK=>?_;go_simp;go_wp2_with(go_at_call 178;refine(Qp.o _ o).mono ?_;rintro e w5 ⟨r,Z5,rfl,⟨dw,dx,dz⟩,hA5,bt,an⟩)
    exact⟨_,_,_,_,_,_,_,_,_,_,_,J,N,P,Ja λ_=>⟨gR,Zr,hR.below an⟩,Ja λ_=>rfl,Ja λ_=>rfl,Ja λ_=>⟨gR,Zr,r,Z5,hR.below an,⟨J,hA5,dw,dx,dz,At o.size bt⟩,Z⟩,S,T,Ja (λh=>by simp[Uo]at h),Ja (λh h2=>by obtain⟨B,e,q,q2⟩:=A.o h h2;exact⟨B,e,boxed_below q an,q2⟩),Ja (λh h2=>by obtain⟨B,e,q,q2⟩:=y.o h h2;exact⟨B,e,boxed_below q an,q2⟩),gx,Ja (λh=>by simp[Qb]at h),Ja (λh=>by simp[Qa]at h),Bt o an⟩
  . have k0:=(boxed_below Qf o).cell;clear b ah;refine Dy ?_;exact⟨N,P,g2,R,g4,r,Ja λ_=>rfl,T,U,A,y,gx,ad,ae,o⟩
  . obtain rfl:=S.o (b 6 DQ);clear b ah;refine Dy ?_;exact⟨N,P,g2,R,g4,r,Ja λ_=>rfl,Ja λ_=>rfl,U,A,y,gx,ad,ae,o⟩
  . have Qa:D 12=false:=DY ah ai;obtain⟨gR,Zr,gZ,Zb,hR,hZ,ay⟩:=r.o (b 5 DQ);obtain rfl:=hZ.1;obtain rfl:=T.o (b 7 DQ);have b1:(0:Int)<=(lb:Int):=Z
    have b2:(lb:Int)<=(lb:Int)+1:=Z
    have b3:lb<=lb+1:=Z
    have b4:¬((lb:Int)+1<(lb:Int)):=Z
    clear b ah;refine Dy ?_;exact⟨N,P,g2,R,g4,Ja λ_=>⟨gR,Zr,gZ,Zb,hR,hZ,ay⟩,S,Ja λ_=>rfl,Ja λ_=>⟨gZ,J,J⟩,A,y,gx,ad,Ja (λh=>by simp[Qa]at h),o⟩
  . have Qb:D 11=false:=DY ah ai;have Qa:D 12=false:=DY ah ai;clear b ah;refine Dy ?_;exact⟨N,P,Ja (λh=>by obtain⟨g,bj,q⟩:=g2.o h;exact⟨g,bj,q.below (Ba V _)⟩),R,g4,Ja (λh=>by obtain⟨gR,Zr,gZ,Zb,q1,q2,q3⟩:=r.o h;exact⟨gR,Zr,gZ,Zb,q1.below (Ba V _),q2.below (Ba V _),q3⟩),S,T,U,Ja λ_ _=>⟨_,J,Bb _ _ _,o.size⟩,Ja (λh h2=>by obtain⟨B,e,q,q2⟩:=y.o h h2;exact⟨B,e,q.alloc _,q2⟩),Ja (λ_ h e=>by obtain⟨B,e2,q,q2⟩:=y.o (by simpa using h) Qa;have:=q.lt;rw[e2]at e;cases e;omega),Ja (λh=>by simp[Qb]at h),Ja (λh=>by simp[Qa]at h),o.alloc o.size _⟩
  . have Qb:D 11=false:=DY ah ai;have Qa:D 12=false:=DY ah ai;clear b ah;refine Dy ?_;exact⟨N,P,Ja (λh=>by obtain⟨g,bj,q⟩:=g2.o h;exact⟨g,bj,q.below (Ba V _)⟩),R,g4,Ja (λh=>by obtain⟨gR,Zr,gZ,Zb,q1,q2,q3⟩:=r.o h;exact⟨gR,Zr,gZ,Zb,q1.below (Ba V _),q2.below (Ba V _),q3⟩),S,T,U,Ja (λh h2=>by obtain⟨B,e,q,q2⟩:=A.o h h2;exact⟨B,e,q.alloc _,q2⟩),Ja λ_ _=>⟨_,J,Bb _ _ _,o.size⟩,Ja (λh _ e=>by obtain⟨B,e2,q,q2⟩:=A.o (by simpa using h) Qb;have:=q.lt;rw[e2]at e;cases e;omega),Ja (λh=>by simp[Qb]at h),Ja (λh=>by simp[Qa]at h),o.alloc o.size _⟩
  . have Qa:D 12=false:=DY ah ai;obtain⟨B,rfl,ak,bu⟩:=A.o (b 9 DQ) ai;obtain⟨gR,Zr,gZ,Zb,hR,hZ,ay⟩:=r.o (b 5 DQ);have k0:=ak.cell;have f0:=ak.frozen;obtain⟨B2,bk,eb,et⟩:=y.o (b 10 DQ) Qa;have Qt:B≠B2:=λe=>gx.o (b 9 DQ) (b 10 DQ) (by rw[bk,e]);obtain rfl:=bk;obtain rfl:=hR.1;clear A ad;clear b ah;refine Dy ?_;exact⟨N,P,Ja λ_=>⟨gR,Zr,hR.box Z ak⟩,R,g4,Ja λ_=>⟨gR,Zr,gZ,Zb,hR.box Z ak,hZ.box Z ak,ay⟩,S,T,U,Ja (λ_ h=>by simp at h),Ja λ_ _=>⟨B2,J,eb.kept (DK _ B _) (λe=>by injection e;omega),et⟩,gx,Ja λ_=>⟨B,J,ak.set _,bu⟩,Ja (λh=>by simp[Qa]at h),o.setCell (p:=⟨B,0,none⟩) bu _⟩
  . obtain⟨B,rfl,ak,bu⟩:=y.o (b 10 DQ) ai;obtain⟨gR,Zr,gZ,Zb,hR,hZ,ay⟩:=r.o (b 5 DQ);obtain⟨fc,cg,du⟩:=U.o (b 8 DQ);have k0:=ak.cell;have f0:=ak.frozen;obtain⟨B2,bk,eb,et⟩:=ad.o (b 11 DQ);have Qt:B≠B2:=λe=>gx.o (b 9 DQ) (b 10 DQ) (by rw[bk,e]);obtain rfl:=du;obtain rfl:=cg;obtain rfl:=bk;have Qy:=b 11 DQ;clear y ae;clear b ah;refine Dy ?_;exact⟨N,P,Ja λ_=>⟨gR,Zr,hR.box Z ak⟩,R,g4,Ja λ_=>⟨gR,Zr,gZ,Zb,hR.box Z ak,hZ.box Z ak,ay⟩,S,T,Ja λ_=>⟨fc,J,J⟩,Ja (λ_ h=>by simp[Qy]at h),Ja (λ_ h=>by simp at h),gx,Ja λ_=>⟨B2,J,eb.kept (DK _ B _) (λe=>by injection e;omega),et⟩,Ja λ_=>⟨B,J,ak.set _,bu⟩,o.setCell (p:=⟨B,0,none⟩) bu _⟩
 rintro D a2 f am ⟨t9,az,ba,bc,bd,bf,bg,bz,bh,bi,ce,rfl,N,P,g2,R,g4,r,S,T,U,A,y,gx,ad,ae,o⟩;obtain⟨gR,Zr,gZ,Zb,hR,hZ,ay⟩:=r.o (am 5 DV);obtain⟨fc,cg,du⟩:=U.o (am 8 DV);obtain⟨B9,rfl,bn,gl⟩:=ad.o (am 11 DV);obtain⟨B10,rfl,bm,gk⟩:=ae.o (am 12 DV);obtain rfl:=du;obtain rfl:=hR.1;have e0:=hZ.1;rw[cg]at e0;cases e0;obtain rfl:=cg;clear N P g2 R g4 r S T U A y gx ad ae am Qr Qp Ua;obtain⟨K,hK⟩:∃K:Nat,(la:Int)+1-(lb:Int)=(K:Int):=⟨la+1-lb,Z⟩;have fx:M.wrap (K:Int)=(K:Int):=B0 _ Z;have Uw:=GT K Z f;have k9:=bn.cell;have Us:=bm.cell;have Qj:K+lb=la+1:=Z
 have Qi:=Ja Qj;clear Qj;go_wp2_with(go_at_call 147;refine((Be (n:=2)).1 (Gs Fence.wide _ trivial J _ _ _ _)).mono ?_;rintro e w' ⟨rfl,rfl⟩)
 refine(wpIn_wide (n:=3)).1 ?_;obtain⟨WQ,aq⟩:=ex (((f.alloc (.cells (cellsOf G (WT K 0)).toArray 163)).alloc (.cells #[C (some ⟨f.heap.size,0,none⟩) K K] 34)).alloc (.cells #[C (some ⟨f.heap.size,0,none⟩) K K] 34));have Uv:WQ.heap.size=f.heap.size+1+1+1:=by rw[<-aq];simp
 have Qk:Bl w f:=Bt Qg o;have Qs:=Ur.o;have Um:Bl w WQ:=by rw[<-aq];exact((Qk.alloc Qk.size _).alloc (by have:=Qk.size;simp;omega) _).alloc (by have:=Qk.size;simp;omega) _
 have lR:=hR.2.1.lt;have lZ:=hZ.2.1.lt;have l9:=bn.lt;have go:=bm.lt;have n9:gR≠B9:=λe=>hR.ne_box Z bn e;have gq:gR≠B10:=λe=>hR.ne_box Z bm e;have fs:=hR.2.2.2.2.2;have ft:=hZ.2.2.2.2.2;obtain⟨c,hc⟩:∃c:SplC,c=⟨w,C (some ⟨t,x,none⟩) lb cb,C (some ⟨gR,0,none⟩) (la+1) (la+1),C (some ⟨gZ,0,none⟩) lb (lb+1),C (some ⟨f.heap.size,0,none⟩) K K,B9,B10,f.heap.size+1,f.heap.size+1+1,gR,gZ,f.heap.size,Zb⟩:=⟨_,J⟩;have Ue:c.Apart:=by
  rw[hc];constructor<;>(simp only;omega)
 have Uc:c.Holds WQ:=by
  rw[hc,<-aq];have Ui:=(Bb (f.alloc (.cells (cellsOf G (WT K 0)).toArray 163)) 34 (C (some ⟨f.heap.size,0,none⟩) K K)).alloc (.cells #[C (some ⟨f.heap.size,0,none⟩) K K] 34);have Uf:=Bb ((f.alloc (.cells (cellsOf G (WT K 0)).toArray 163)).alloc (.cells #[C (some ⟨f.heap.size,0,none⟩) K K] 34)) 34 (C (some ⟨f.heap.size,0,none⟩) K K);simp only[A1]at Ui Uf;exact⟨(((boxed_below Qf o).alloc _).alloc _).alloc _,((bn.alloc _).alloc _).alloc _,((bm.alloc _).alloc _).alloc _,Ui,Uf,((hZ.2.1.alloc _).alloc _).alloc _,by rw[aq];exact Um⟩
 have Uh:DU WQ gR Zr:=by rw[<-aq];exact((hR.2.1.alloc _).alloc _).alloc _
 have Qz:DU WQ f.heap.size (WT K 0):=by rw[<-aq];exact((DU.made (BV f _)).alloc _).alloc _
 have Qu:Xp (m*2^s) (n*2^s) lb K K Zr (WT K 0):=Xp.start (by have:=Qi.o;rw[hR.2.2.1];omega) hR.2.2.2.1 hR.2.2.2.2.1 (by
  have h:=fk.o;rwa[show la-(l+1)=K from by have:=Qi.o;have:=Qc.o;omega]at h)
 obtain⟨en,fh⟩:=SX hZ.2.2.2.1 (by rw[hZ.2.2.1,Qc.o]) hZ.2.2.2.2.1 ew.o f8.o;have Ux:0<n*2^s:=by
  have h:=f8.o;have:=DO (A2 63) (C6 (n:=l+1) (show 0<O by unfold O;omega));omega
 have Qh:n*2^s<O^lb:=by rw[Qc.o];exact ew.o
 have Up:=hZ.2.2.2.1;have gb:=hZ.2.2.1;rw[aq];clear aq Uw bn bm Qf Uq k9 Us hR hZ o Qk Uz;refine Yt J Z (gf:=174) (lb:=#[I (some ⟨f.heap.size+1+1,0,none⟩)]) J trivial (DF func174 WS J)
  (Gr Fence.wide _ trivial J Z (f.heap.size+1+1) (some ⟨f.heap.size,0,none⟩) K K (λ_=>0) Z) (λ_=>rfl)
  (Nk c (m*2^s) (n*2^s) lb K) (λ_ _ _=>False) (SZ c _ _ _ _ (by rw[hc,Uv];simp only;omega)) (λc _ _ _ _ h _ _=>h.elim)
  ⟨Uc,Zr,WT K 0,by rw[hc];exact Uh,by rw[hc];exact Qz,by rw[C2];exact Qu⟩ ?rd
  (λk=>{ tmps:=#[C a la ca,C (some ⟨t,x,none⟩) lb cb,E,I (some ⟨w.heap.size,0,none⟩),C none 0 0,C none 0 0,E,E,F G (s:Nat),I (some ⟨B9,0,none⟩),I (some ⟨B10,0,none⟩),I (some ⟨f.heap.size+1,0,none⟩),F M ((K:Int)-1-k),C a la ca,F M (la:Nat),C (some ⟨t,x,none⟩) lb cb,F M (lb:Nat),.bool false,E,E,C (some ⟨t,x,none⟩) lb cb,F M (lb:Nat),.bool false,E,E,E,E,E,E,E,E,E,E,E,E,C (some ⟨t,x,none⟩) lb cb,C (some ⟨t,x,none⟩) lb cb,F M (lb:Nat),F M (l1:Nat),I (some ⟨t,x+l1,none⟩),F G (d:Nat),F M (s:Nat),F G (s:Nat),ba,bc,C (some ⟨gR,0,none⟩) (la+1) (la+1),bf,bg,C (some ⟨gZ,0,none⟩) (lb+1) (lb+1),bh,bi,C (some ⟨gZ,0,none⟩) lb (lb+1),C (some ⟨gR,0,none⟩) (la+1) (la+1),F M ((la:Int)+1),C (some ⟨gZ,0,none⟩) lb (lb+1),F M (lb:Nat),F M (K:Nat),C (some ⟨f.heap.size,0,none⟩) K K,C (some ⟨f.heap.size,0,none⟩) K K,.func (.func 174) #[] #[I (some ⟨f.heap.size+1+1,0,none⟩)],F M ((K:Int)-1-k),F G 0,E,E,E,E,E,E,E,E,E,E,E,E,E,E,E,E,E,E],defers:=[] }) ?assign ?body ?done ?stop
 case rd=>
  rintro k W ⟨hh,D,Q,_,hQ,hL⟩;have Ud:=hh.b12;rw[hc]at Ud hQ;refine⟨Ud.cell,λhk=>⟨f.heap.size,0,J,?_⟩⟩;rw[Ch,hQ.cell (j:=K-1-k) (by rw[hL.2.2.1];omega),hL.2.2.2.2.2.2 (K-1-k) Z]
 case assign=>
  intro l k W K hK;unfold Xj;gi_wp2;exact hK
 case stop=>
  rintro D c k W _ _ h _;exact h.elim
 case body=>
  rintro l' k W ⟨hh,D,Q,hD,hQ,hL⟩ hk gj;have Ug:K-k=K-1-k+1:=Z
  rw[Ug]at hL;have e1:((K:Int)-1-k)=((K-1-k:Nat):Int):=Z
  have HI:=Ja (show K-(k+1)=K-1-k by omega);have Qn:K-1-k<K:=Z
  rw[e1];obtain⟨i,hi⟩:=ex (K-1-k);rw[hi]at hL Qn HI ⊢;clear Ug e1 hi;obtain⟨w1,w2,w3⟩:=hL.win Qn Qh;have Uu:=hL.1;have fy:=hL.2.2.1;have Ul:=Ja (show ∀(V:H) (nn:Nat),DU V gR D->DU V gZ Zb->CallsIn (Fence.wide.inRound l') nn L 179 #[C (some ⟨gR,i,none⟩) (lb+1) (la+1-i),C (some ⟨gZ,0,none⟩) lb (lb+1)] V λe w'=>
   ∃q,e=.returned (F G ((val O ((D.drop i).take (lb+1))/(n*2^s):Nat):Int))/\(q.length=lb+1/\DR O q/\val O q=val O ((D.drop i).take (lb+1))%(n*2^s))/\DU w' gR (Da D i (lb+1) q)/\V.grownBy w' (some gR)from λV nn h1 h2=>by
   have Qj:=Qi.o;have hz:=h2.row 0 lb (lb+1) Z Z Z Z;have Qw:=SW gR i l (la+1-i) D (some ⟨gZ,0,none⟩) (lb+1) (Zb.take (l+2)) V h1 hL.2.1 (by rw[Uu];have:=Qc.o;omega) (by have:=Qc.o;omega) Z (by have:=Qc.o;omega)
    (by rw[AH,Qc.o]at hz;rw[Qc.o];exact hz) (Up.take _) (λp e _=>by cases e;exact λh=>ay h.symm) fh (by rw[en];have:=w1;rw[Qc.o]at this;exact this)
   rw[en]at Qw;have e3:l+3=lb+1:=by rw[Qc.o]
   have e2:l+2=lb:=Qc.o.symm;rw[e3,e2]at Qw;exact Bu l' ((Be (n:=nn)).2 Qw))
  have Un:=Ja λ(q:List Nat) (h1:q.length=lb+1) (h2:DR O q) (h3:val O q=val O ((D.drop i).take (lb+1))%(n*2^s))=>hL.step Qn Qh h1 h2 h3 Ux;obtain⟨qd,fg⟩:=ex (val O ((D.drop i).take (lb+1))/(n*2^s));rw[fg]at Un Ul;clear fg w1 w2 w3 hL en fh Qu;obtain⟨H1,fu⟩:∃H1:Nat,(i:Int)+(lb:Int)=(H1:Int):=⟨i+lb,Z⟩;obtain⟨ap,hH⟩:∃ap:Nat,(H1:Int)+1=(ap:Int):=⟨H1+1,Z⟩;have fv:ap-i=lb+1:=Z
  have fw:ap<=la+1:=by have:=Qi.o;omega
  have gc:i<=ap:=Z
  have y1:(i:Int)<=(ap:Int):=Z
  have y2:(ap:Int)<=(la:Int)+1:=Z
  have y3:(0:Int)<=(i:Int):=Z
  have y4:(i:Int)<(K:Int):=Z
  have y5:M.wrap (H1:Int)=(H1:Int):=B0 _ Z;have y6:M.wrap (ap:Int)=(ap:Int):=B0 _ Z;gi_wp2_with fail
  refine Ym Dl [[],[],[],[],[],[],[5],[4,6],[7],[2,3,8],[],[9,10],[0,1,0,1,2,3,4,5,6,7,8,9,10,11],[12,11,11,0,1,2,3,4,5,6,7,8,9,10,11]] WS DV
   (λDD ac V=>∃ck cn co cr cy cz de df dh di dj dm dt:Value,ac={ tmps:=#[C a la ca,C (some ⟨t,x,none⟩) lb cb,E,I (some ⟨w.heap.size,0,none⟩),C none 0 0,C none 0 0,E,E,F G (s:Nat),I (some ⟨B9,0,none⟩),I (some ⟨B10,0,none⟩),I (some ⟨f.heap.size+1,0,none⟩),F M (i:Nat),C a la ca,F M (la:Nat),C (some ⟨t,x,none⟩) lb cb,F M (lb:Nat),.bool false,E,E,C (some ⟨t,x,none⟩) lb cb,F M (lb:Nat),.bool false,E,E,E,E,E,E,E,E,E,E,E,E,C (some ⟨t,x,none⟩) lb cb,C (some ⟨t,x,none⟩) lb cb,F M (lb:Nat),F M (l1:Nat),I (some ⟨t,x+l1,none⟩),F G (d:Nat),F M (s:Nat),F G (s:Nat),ba,bc,C (some ⟨gR,0,none⟩) (la+1) (la+1),bf,bg,C (some ⟨gZ,0,none⟩) (lb+1) (lb+1),bh,bi,C (some ⟨gZ,0,none⟩) lb (lb+1),C (some ⟨gR,0,none⟩) (la+1) (la+1),F M ((la:Int)+1),C (some ⟨gZ,0,none⟩) lb (lb+1),F M (lb:Nat),F M (K:Nat),C (some ⟨f.heap.size,0,none⟩) K K,C (some ⟨f.heap.size,0,none⟩) K K,.func (.func 174) #[] #[I (some ⟨f.heap.size+1+1,0,none⟩)],F M (i:Nat),F G 0,ck,cn,co,cr,cy,cz,de,df,dh,di,dj,dm,dt,E,E,E,E,E],defers:=[] }/\Hid (DD 0=true->ck=C (some ⟨f.heap.size,0,none⟩) K K)/\Hid (DD 1=true->cn=F M (i:Nat))/\Hid (DD 2=true->co=C (some ⟨gR,0,none⟩) (la+1) (la+1))/\Hid (DD 3=true->cr=F M (i:Nat))/\Hid (DD 4=true->cy=F M (i:Nat))/\Hid (DD 5=true->cz=C (some ⟨t,x,none⟩) lb cb)/\Hid (DD 6=true->de=F M (lb:Nat))/\Hid (DD 7=true->df=F M (H1:Nat))/\Hid (DD 8=true->dh=F M (ap:Nat))/\Hid (DD 9=true->di=C (some ⟨gR,i,none⟩) (lb+1) (la+1-i))/\Hid (DD 10=true->dj=C (some ⟨gZ,0,none⟩) lb (lb+1))/\Hid (DD 11=true->dm=F G (qd:Nat))/\Hid (DD 12=true->dt=I (some ⟨f.heap.size,i,none⟩))/\∃D2,Hid (DD 11=true->∃q,(q.length=lb+1/\DR O q/\val O q=val O ((D.drop i).take (lb+1))%(n*2^s))/\D2=Da D i (lb+1) q)/\SplM c W D D2 Q (Q.set i qd) (DD 11) (DD 13) V)
   (E8 ⟨_,_,_,_,_,J,Ja Dh,Ja Dh,Ja Dh,Ja Dh,Ja Dh,Ja Dh,Ja Dh,Ja Dh,Ja Dh,Ja Dh,Ja Dh,Ja Dh,Ja Dh,D,Ja Dh,SplM.drew ⟨DL _,hh,hD,hQ⟩⟩) ?step ?fin
  case fin=>
   rintro DD ac V am ⟨ck,cn,co,cr,cy,cz,de,df,dh,di,dj,dm,dt,rfl,N,P,g2,R,g4,r,S,T,U,A,y,ad,ae,D2,gd,z⟩;rw[am 11 DV,am 13 DV]at z;obtain⟨q,⟨ef,eh,ei⟩,rfl⟩:=gd.o (am 11 DV);refine⟨z.k.from _,z.h,Da D i (lb+1) q,Q.set i qd,z.r,z.q,?_⟩;rw[HI.o];exact Un.o q ef eh ei
  case step=>
   rintro DD ac V j ds aj hj b ai ⟨ck,cn,co,cr,cy,cz,de,df,dh,di,dj,dm,dt,rfl,N,P,g2,R,g4,r,S,T,U,A,y,ad,ae,D2,gd,z⟩;have Qv:j<14:=(Af.1 hj).1;obtain rfl|rfl|rfl|rfl|rfl|rfl|rfl|rfl|rfl|rfl|rfl|rfl|rfl|rfl:=KN j Z
   all_goals
    simp only[Ai,Ah,Aq]at hj;subst hj;clear Qv
   . have b11:Boxed V (f.heap.size+1) 34 (C (some ⟨f.heap.size,0,none⟩) K K):=by have:=z.h.b11;rw[hc]at this;exact this
     have k0:=b11.cell;clear b aj;refine Bv J λK2 X=>?_;go_simp;exact X _ _ (E8 ⟨_,_,_,_,_,J,Ja λ_=>rfl,P,g2,R,g4,r,S,T,U,A,y,ad,ae,D2,gd,z⟩)
   . clear b aj;refine Bv J λK2 X=>?_;go_simp;exact X _ _ ⟨_,_,_,_,_,_,_,_,_,_,_,_,_,J,N,Ja λ_=>rfl,g2,R,g4,r,S,T,U,A,y,ad,ae,D2,gd,z⟩
   . have b9:Boxed V B9 34 (C (some ⟨gR,0,none⟩) (la+1) (la+1)):=by have:=z.h.b9;rw[hc]at this;exact this
     have k0:=b9.cell;clear b aj;refine Bv J λK2 X=>?_;go_simp;exact X _ _ ⟨_,_,_,_,_,_,_,_,_,_,_,_,_,J,N,P,Ja λ_=>rfl,R,g4,r,S,T,U,A,y,ad,ae,D2,gd,z⟩
   . clear b aj;refine Bv J λK2 X=>?_;go_simp;exact X _ _ ⟨_,_,_,_,_,_,_,_,_,_,_,_,_,J,N,P,g2,Ja λ_=>rfl,g4,r,S,T,U,A,y,ad,ae,D2,gd,z⟩
   . clear b aj;refine Bv J λK2 X=>?_;go_simp;exact X _ _ ⟨_,_,_,_,_,_,_,_,_,_,_,_,_,J,N,P,g2,R,Ja λ_=>rfl,r,S,T,U,A,y,ad,ae,D2,gd,z⟩
   . have b0:Boxed V w.heap.size 34 (C (some ⟨t,x,none⟩) lb cb):=by have:=z.h.b0;rw[hc]at this;exact this
     have k0:=b0.cell;clear b aj;refine Bv J λK2 X=>?_;go_simp;exact X _ _ ⟨_,_,_,_,_,_,_,_,_,_,_,_,_,J,N,P,g2,R,g4,Ja λ_=>rfl,S,T,U,A,y,ad,ae,D2,gd,z⟩
   . obtain rfl:=r.o (b 5 DQ);clear b aj;refine Bv J λK2 X=>?_;go_simp;exact X _ _ ⟨_,_,_,_,_,_,_,_,_,_,_,_,_,J,N,P,g2,R,g4,Ja λ_=>rfl,Ja λ_=>rfl,T,U,A,y,ad,ae,D2,gd,z⟩
   . obtain rfl:=g4.o (b 4 DQ);obtain rfl:=S.o (b 6 DQ);clear b aj;refine Bv J λK2 X=>?_;go_simp;exact X _ _ ⟨_,_,_,_,_,_,_,_,_,_,_,_,_,J,N,P,g2,R,Ja λ_=>rfl,r,Ja λ_=>rfl,Ja λ_=>rfl,U,A,y,ad,ae,D2,gd,z⟩
   . obtain rfl:=T.o (b 7 DQ);clear b aj;refine Bv J λK2 X=>?_;go_simp;exact X _ _ ⟨_,_,_,_,_,_,_,_,_,_,_,_,_,J,N,P,g2,R,g4,r,S,Ja λ_=>rfl,Ja λ_=>rfl,A,y,ad,ae,D2,gd,z⟩
   . obtain rfl:=g2.o (b 2 DQ);obtain rfl:=R.o (b 3 DQ);obtain rfl:=U.o (b 8 DQ);have gi:¬(la+1=i):=Z
     clear b aj;refine Bv J λK2 X=>?_;go_simp;exact X _ _ ⟨_,_,_,_,_,_,_,_,_,_,_,_,_,J,N,P,Ja λ_=>rfl,Ja λ_=>rfl,g4,r,S,T,Ja λ_=>rfl,Ja λ_=>rfl,y,ad,ae,D2,gd,z⟩
   . have b10:Boxed V B10 34 (C (some ⟨gZ,0,none⟩) lb (lb+1)):=by have:=z.h.b10;rw[hc]at this;exact this
     have k0:=b10.cell;clear b aj;refine Bv J λK2 X=>?_;go_simp;exact X _ _ ⟨_,_,_,_,_,_,_,_,_,_,_,_,_,J,N,P,g2,R,g4,r,S,T,U,A,Ja λ_=>rfl,ad,ae,D2,gd,z⟩
   . obtain rfl:=A.o (b 9 DQ);obtain rfl:=y.o (b 10 DQ);rw[ai]at z;have hr:DU V gR D:=by have:=z.r;rw[hc]at this;exact this
     have hz:DU V gZ Zb:=by have:=z.h.z;rw[hc]at this;exact this
     have HV:=Ja z;clear z;clear b aj;refine Bv J λK2 X=>?_;go_simp;gi_wp2_with(refine⟨trivial,?_⟩;gi_at_call 179;refine(Ul.o _ _ hr hz).mono ?_;rintro e w5 ⟨q,rfl,⟨ef,eh,ei⟩,hA5,bt⟩)
     exact⟨_,_,_,_,_,_,_,_,_,_,_,_,_,J,N,P,g2,R,g4,r,S,T,U,Ja λ_=>rfl,Ja λ_=>rfl,Ja λ_=>rfl,ae,Da D i (lb+1) q,Ja λ_=>⟨q,⟨ef,eh,ei⟩,J⟩,SplM.split (HV.o.any _) Ue (by rw[hc];exact bt) (by rw[hc];exact hA5)⟩
   . obtain rfl:=N.o (b 0 DQ);obtain rfl:=P.o (b 1 DQ);clear b aj;refine Bv J λK2 X=>?_;go_simp;exact X _ _ (E8 ⟨_,_,_,_,_,J,Ja λ_=>rfl,Ja λ_=>rfl,g2,R,g4,r,S,T,U,A,y,ad,Ja λ_=>rfl,D2,gd,z⟩)
   . obtain rfl:=ad.o (b 11 DQ);obtain rfl:=ae.o (b 12 DQ);rw[ai]at z;have Ql:DU V f.heap.size Q:=by have:=z.q;rw[hc]at this;exact this
     have k0:=Ql.cell (j:=i) Z;have f0:=Ql.frozen i;have Qm:SplM c W D D2 Q (Q.set i qd) (DD 11) true (V.setCell ⟨f.heap.size,i,none⟩ (F G (qd:Nat))):=by have:=z.store Ue (j:=i) (v:=qd) J;rw[hc]at this ⊢;exact this
     have Qo:=Ja Qm;clear Qm z;clear b aj;refine Bv J λK2 X=>?_;go_simp;exact X _ _ ⟨_,_,_,_,_,_,_,_,_,_,_,_,_,J,N,P,g2,R,g4,r,S,T,U,A,y,Ja λ_=>rfl,Ja λ_=>rfl,D2,gd,Qo.o⟩
 case done=>
  rintro D W hD ⟨hh,D2,Q2,am,fd,hL⟩ X;rw[A3]at hL;obtain⟨f1,f2⟩:=hL.fin J J;have b11:Boxed W (f.heap.size+1) 34 (C (some ⟨f.heap.size,0,none⟩) K K):=by have:=hh.b11;rw[hc]at this;exact this
  have b9:Boxed W B9 34 (C (some ⟨gR,0,none⟩) (la+1) (la+1)):=by have:=hh.b9;rw[hc]at this;exact this
  have Uj:Bl w W:=by have:=hh.B;rw[hc]at this;exact this
  have hr:DU W gR D2:=by have:=am;rw[hc]at this;exact this
  have Ql:DU W f.heap.size Q2:=by have:=fd;rw[hc]at this;exact this
  have Qj:=Qi.o;have Qd:Row G W (C (some ⟨f.heap.size,0,none⟩) K K) Q2:=by
   have h1:=Ql.row 0 K K (by rw[hL.2.2.1];omega) (Aa _) Z Z;rwa[AH,Ad (by rw[hL.2.2.1];exact Aa _)]at h1
  have Qe:Row G W (C (some ⟨gR,0,none⟩) (la+1) (la+1)) D2:=by
   have h1:=hr.row 0 (la+1) (la+1) (by rw[hL.1];omega) (Aa _) Z Z;rwa[AH,Ad (by rw[hL.1];omega)]at h1
  have HT:=Ja (show ∀V:H,Bl W V->Calls L 132 #[C (some ⟨f.heap.size,0,none⟩) K K] V λe w'=>∃u,e=.returned u/\UN w' u (m/n)/\Bl V w' from λV h=>by
   have h1:=Ye _ Q2 V (Row.below Qd h);rw[f1]at h1;exact h1)
  have Uy:=Ja (show ∀V:H,Bl W V->Calls L 180 #[C (some ⟨gR,0,none⟩) (la+1) (la+1),F G (s:Nat)] V λe w'=>∃u,e=.returned u/\UN w' u (m%n)/\Bl V w' from λV h=>by
   have h1:=R7 _ _ _ D2 s V hs (Row.below Qe h) hL.2.1;rw[f2,Nat.mul_div_cancel _ (A2 s)]at h1;exact h1)
  have gp:=b11.lt;have l9:=b9.lt;have Uk:=b11.cell;have k9:=b9.cell;clear hL f1 f2 Qd Qe hr Ql hh am fd Uc Uh Qz Qu Qj;go_upto_region 13 with fail
  have o:Bl W W.drew:=(BL _ W).drew;go_region_held3 (λw'=>w'.cell? ⟨f.heap.size+1,0,none⟩=some (C (some ⟨f.heap.size,0,none⟩) K K)/\w'.cell? ⟨B9,0,none⟩=some (C (some ⟨gR,0,none⟩) (la+1) (la+1))) (refine⟨?_,?_⟩<;>(first|(go_keep;done)|(simp[*];done)))
   (first
    |(go_at_call 132;refine(HT.o _ o).mono ?_;rintro e w5 ⟨u5,rfl,fi,an⟩;obtain⟨ua,uc,rfl⟩:=UN.form fi;have o:=Bt o an;have Uk:=(boxed_below b11 o).cell;have k9:=(boxed_below b9 o).cell)
    |(go_at_call 180;refine(Uy.o _ o).mono ?_;rintro e w6 ⟨u6,rfl,fj,fe⟩;obtain⟨va,vc,rfl⟩:=UN.form fj;have o:=Bt o fe;have Uk:=(boxed_below b11 o).cell;have k9:=(boxed_below b9 o).cell))
  all_goals go_wp2_with fail
  have Qq:w6.heap[D]?=some (.deferred (some [])):=(o.block D (Ab.1 X).1).trans X;refine⟨DQ,.inl ⟨_,_,J,Bq Qq,?_⟩⟩;refine⟨.tuple #[C ua (Jc O (m/n)).length uc,C va (Jc O (m%n)).length vc],by simp[results,results151,go_sem],_,_,J,LV (UN.below fi fe) Qq,LV fj Qq,?_⟩;exact below_grown (Bt Uj o) (Bp _ D (.deferred none)) (by have:=Um.size;omega)
end
section
variable{a:U}{P d g l rc:Nat}{u:Value}{W:H}
def LZ(a:WO)(la c:Nat)(b:WO)(lb f m n:Nat)(w:H)(j:Row G w (C a la c) (Jc O m))(k:Row G w (C b lb f) (Jc O n))(hn:n≠0)(W:la<1099511627776):
 Calls L 151 #[C a la c,C b lb f] w λe o=>∃u v,e=.returned (.tuple #[u,v])/\UN o u (m/n)/\UN o v (m%n)/\Bl w o:=by
 obtain⟨V,ad,am,ai,ah⟩:=Jn j;obtain⟨i,ae,an,aj,U⟩:=Jn k;have ak:lb≠0:=λe=>hn ((JC Jb).1 (As (by rw[<-i,e])));by_cases P:la<lb
 . exact R8 a la c b lb f m n w j k P
 . by_cases Q:lb=1
   . subst Q;exact SA a la c b f m n w j k Z
   . obtain⟨l,rfl⟩:∃l,lb=l+2:=⟨lb-2,Z⟩;obtain⟨A,B,rfl,T,kb⟩:=U (l+1) Z;have p:=Jm Jb n;have r:(Jc O n)[l+1]?.getD 0≠0:=by
      intro e;have R:=Jk O (Jc O n) (l+1);rw[Ad Z,e,Cd,A4,Jl Jb]at R;have h4:=J0 p (l+1);have q:=Ys Jb i.symm Z;rw[show l+2-1=l+1 from J]at q;omega
     have g:(Jc O n)[l+1]?.getD 0<O:=p.getD uo _;obtain⟨d,t⟩:=ex ((Jc O n)[l+1]?.getD 0);rw[t]at kb r g;obtain⟨D,K,N⟩:=bitLen_spec d r (by rw[<-F6];exact g);have S:Lib.bitLen d<=64:=by
      rcases AJ 64 (Lib.bitLen d)with h|h
      . exfalso
        have q:2^64<=2^(Lib.bitLen d-1):=Am Z Z;rw[F6]at g;omega
      . exact h
     obtain⟨x,y⟩:=Nj (s:=64-Lib.bitLen d) p i.symm t K N D S J;rw[Jl Jb]at x y;have X:m<O^la:=by
      have:=JY (Jm Jb m);rwa[Jl Jb,<-V]at this
     have z:O^(l+1)<=n:=Ys Jb i.symm Z;exact Sb a la c A B l (l+2) (l+1) f m n d (64-Lib.bitLen d) w J Z T j k kb g Z (show _=_ by omega) Z W x y (SY X z Z)
theorem La{p:Nat}(a:p≠0)(h:p<O):Jc O p=[p]:=by
 grind[YQ,Cf,A6,Jz]
def Sc(a:WO)(t:Nat)(b:WO)(lb v x y:Nat)(w:H)(d:Row G w (C a 1 t) (Jc O x))(r:Row G w (C b lb v) (Jc O y))(B:y<O):
 Calls L 152 #[C a 1 t,C b lb v] w λe D=>∃u,e=.returned u/\UN D u (Nat.gcd x y)/\Bl w D:=by
 obtain⟨n,ae,am,ai,l⟩:=Jn d;obtain⟨c,ah,an,aj,m⟩:=Jn r;obtain⟨o,ap,T⟩:=LW n.symm;rcases A5 lb with z|z
 . subst z;have k:=(JC Jb).1 (As c.symm);subst k;have N:=Ja d;clear l m n c d r o;go_enter func152,ntmps152
   go_wp2_with fail
   go_ret;exact⟨_,J,by rw[Nat.gcd_zero_right];exact N.o,BL _ w⟩
 . have k:y≠0:=λe=>by rw[e,Jz]at c;simp at c;omega
   have i:=La k B;obtain rfl:lb=1:=by rw[c,i];rfl
   obtain⟨P,Q,rfl,X,ka⟩:=l 0 Z;obtain⟨R,S,rfl,ad,kb⟩:=m 0 Z;rw[o]at ka;rw[i]at kb;have aq:w.cell? ⟨P,Q,none⟩=some (F G (x:Nat)):=ka;have ay:w.cell? ⟨R,S,none⟩=some (F G (y:Nat)):=kb;clear l m n c d r o i ka kb;go_enter func152,ntmps152
   go_upto_region 3 with fail
   go_quiet (fail)
   go_wp2_with fail
   go_loopw [5,6] (λW s wr=>∃(p q j:Nat),W=F G (p:Nat)/\s=F G (q:Nat)/\p<O/\q<O/\p≠0/\Hid (Nat.gcd p q=Nat.gcd x y)/\wr=w.drewN j) (λ_ s _=>(intOf s).toNat)
   case atStart=>exact⟨x,y,_,J,J,T,B,Z,Ja J,J⟩
   case round=>
    obtain⟨p,q,j,rfl,rfl,hp,V,U,g,rfl⟩:=hrel;by_cases A:q=0
    . subst A;have f:=Ja (show p=Nat.gcd x y by rw[<-g.o,Nat.gcd_zero_right]);have K:=Ja (La U hp);clear g;go_wp2_with fail
      go_ret;refine⟨C (some ⟨w.heap.size,0,none⟩) 1 1,J,?_,(Hg (BL _ w) _).alloc (Aa _) _⟩;unfold UN;rw[<-f.o,K.o];exact(DU.made (xs:=[p]) (BV (w.drewN j) (.cells #[F G (p:Nat)] 163))).row 0 1 1 DQ Z Z Z
    . have f:=Ja (show Nat.gcd q (p%q)=Nat.gcd x y by rw[<-g.o,C1 q,<-Nat.gcd_rec,C1]);have ak:=AY p (show q>0 by omega);go_upto_region 5 with fail
      go_quiet (fail)
      go_wp2_with fail
      exact⟨⟨q,p%q,j+nq,J,DQ,V,Z,A,f,DQ⟩,by simp[intOf];omega⟩
def Er(W:H)(b:Nat)(u:Value)(g l rc P:Nat)(a:U):Prop:=
 u=C (some ⟨g,0,none⟩) l rc/\DU W g a/\DR O a/\l<=a.length/\l<=rc/\rc<=9223372036854775807/\l<=1099511627776/\a.take l=Jc O P/\b<=g
def Er.below{W W':H}{a g l rc P:Nat}{u:Value}{b:U}(h:Er W a u g l rc P b)(c:Bl W W'):Er W' a u g l rc P b:=
 ⟨h.1,h.2.1.below c,h.2.2⟩
def Er.un(h:Er W d u g l rc P a):UN W u P:=by
 obtain⟨rfl,b,j,k,c,e,f,i,m⟩:=h;have:=b.row 0 l rc Z c e f;rw[AH,i]at this;exact this
theorem Sd{ds:U}(d:DU W g a)(k:Row G W (C (some ⟨g,0,none⟩) l rc) ds)(hl:l<=a.length):a.take l=ds:=by
 obtain⟨m,_,_,_,c⟩:=Jn k;apply List.ext_getElem?;intro j;by_cases i:j<l
 . obtain⟨b,n,e,_,f⟩:=c j i;cases e;rw[Ch,d.cell Z]at f;grind
 grind
def Nl(a:WO)(la r:Nat)(b:WO)(lb s:Nat)(c d:List Nat)(w:H)(V:DR O c)(W:DR O d)(T:la+lb<=1099511627776)
(k:Row G w (C a la r) c)(m:Row G w (C b lb s) d):
 Calls L 118 #[C a la r,C b lb s] w λe t=>∃u,e=.returned u/\UN t u (val O c*val O d)/\(val O c*val O d≠0->∃g l rc o,Er t w.heap.size u g l rc (val O c*val O d) o)/\Bl w t:=by
 have y:=GT (la+lb) Z w;rw[show((la+lb:Nat):Int)=(la:Int)+(lb:Int)from by omega]at y;obtain⟨i,n⟩:∃i,i=w.alloc (.cells (cellsOf G (WT (la+lb) 0)).toArray 163):=⟨_,J⟩;have q:Bl w i:=by rw[n];exact Ba w _
 have v:DU i w.heap.size (WT (la+lb) 0):=by rw[n];exact DU.made (BV w _)
 rw[<-n]at y;have N:=Ja (Rs w.heap.size (la+lb) (la+lb) (WT (la+lb) 0) a la r b lb s c d i V W v (λx U=>by rw[CJ U];unfold O;omega) De (Aa _) Z T (Row.below k q) (Row.below m q)
  (λp e j=>by have:=F5 k e j;omega) λp e j=>by have:=F5 m e j;omega)
 have X:=(Jn k).2.1;have ad:=(Jn k).2.2.1;have ae:=(Jn m).2.1;have ah:=(Jn m).2.2.1;clear n v k m;go_enter func118,ntmps118
 go_wp2_with(go_at_call 153;refine N.o.mono ?_;rintro e w5 ⟨u,rfl,⟨f,S⟩,R,o,D,Q,K⟩;obtain⟨ua,uc,rfl⟩:=UN.form f)
 go_ret;refine⟨_,J,f,λj=>?_,below_grown q S (Aa _)⟩;have P:(Jc O (val O c*val O d)).length≠0:=λe=>j ((JC Jb).1 (As e));rcases R with e|⟨l,e⟩
 . injection e with z A B
   exact absurd A P
 . injection e with z A B
   subst z;subst B;rw[AC]at K;have hl:(Jc O (val O c*val O d)).length<=o.length:=by rw[K];exact(Jn f).2.1
   exact⟨_,_,_,o,J,D,Q,hl,(Jn f).2.1,(Jn f).2.2.1,(Jn f).2.2.2.1,Sd D f hl,Aa _⟩
theorem Nm{Q:Nat}(h:Er W d u g l rc P a)(b:WO)(lb i:Nat)(m:UN W (C b lb i) Q)(y:Q<=P)(A:∀p,b=some p->0<lb->p.block≠g):
 Calls L 148 #[u,C b lb i] W λe j=>∃c q,e=.returned (F G (c:Nat))/\(Row G j u q/\Jw q=Jc O (P-Q))/\W.grownBy j (some g):=by
 obtain⟨rfl,r,s,B,k,t,v,D,K⟩:=h;have hl:l=(Jc O P).length:=De
 have o:=(Jn m).1;refine(M6 g 0 l rc a b lb i (Jc O Q) W r s Z k Z (by rw[hl,o];exact Yv y) m (Jm Jb Q) A).mono ?_;rintro e j ⟨c,q,rfl,f,x,hg⟩;have z:Da a 0 l q=q++a.drop l:=by rw[Da,C7,Al,Ch]
 have n:=f.1;refine⟨c,q,J,⟨?_,?_⟩,hg⟩
 . have w:=x.row 0 l rc De k t v;rwa[z,AH,A8 Z,Ad Z]at w
 . have hs:XU (Jc O P) (Jc O Q) 0 l c q:=by
    refine⟨n,f.2.1,f.2.2.1,?_⟩;have:=f.2.2.2;grind
   grind[M7,Yv]
def Nn{w V a:H}{o:Obj}(h:Bl w V)(k:Below (V.alloc o).heap.size (V.alloc o) a):Bl w a:=(h.alloc h.size o).trans (k.mono (h.alloc h.size o).size)
def Np(x:Nat):val O [x]=x:=by rw[JR,Gp,Cd,A4]
theorem Nq(v t:Nat)(a:WO)(la ca:Nat)(b:WO)(lb cb A B:Nat)(w:H)(ra:Row G w (C a la ca) (Jc O A))(rb:Row G w (C b lb cb) (Jc O B))(bz:v<O)(ce:t<O)(ck:la<1099511627776)(cn:lb<1099511627776)(h0:t*B≠0):
 Calls L 150 #[.agg #[F G (v:Nat),F G (t:Nat)],C a la ca,C b lb cb] w λe w'=>∃u,e=.returned u/\UN w' u (Y8 (v*A) (t*B))/\Bl w w':=by
 obtain⟨W0,ay⟩:=ex (w.alloc (.cells #[F G (v:Nat),F G (t:Nat)] 180));have Qa:Bl w W0:=by rw[<-ay];exact Ba w _
 have bx:Jo W0 w.heap.size 180 (F G (v:Nat)) (F G (t:Nat)):=by rw[<-ay];exact Jo.new w _ _ _
 have Qp:=Ja (show ∀(V:H) (g:Nat),Bl W0 V->DU V g [v]->Calls L 118 #[C a la ca,C (some ⟨g,0,none⟩) 1 1] V λe w'=>∃u,e=.returned u/\UN w' u (v*A)/\(v*A≠0->∃g l rc zs,Er w' V.heap.size u g l rc (v*A) zs)/\Bl V w' from λV g h hA=>by
  have o:=Nl a la ca (some ⟨g,0,none⟩) 1 1 (Jc O A) [v] V (Jm Jb A) (DR.cons bz (DR.nil _)) Z (Row.below (Row.below ra Qa) h) (hA.row 0 1 1 DQ Z Z Z);rw[Np,Jl Jb,AK A v]at o;exact o)
 have Qo:=Ja (show ∀(V:H) (g:Nat),Bl W0 V->DU V g [t]->Calls L 118 #[C b lb cb,C (some ⟨g,0,none⟩) 1 1] V λe w'=>∃u,e=.returned u/\UN w' u (t*B)/\(t*B≠0->∃g l rc zs,Er w' V.heap.size u g l rc (t*B) zs)/\Bl V w' from λV g h hA=>by
  have o:=Nl b lb cb (some ⟨g,0,none⟩) 1 1 (Jc O B) [t] V (Jm Jb B) (DR.cons ce (DR.nil _)) Z (Row.below (Row.below rb Qa) h) (hA.row 0 1 1 DQ Z Z Z);rw[Np,Jl Jb,AK B t]at o;exact o)
 have Qq:=Ja ay;clear ay ra rb;generalize v*A=n at *;generalize t*B=X at *;go_enter func150,ntmps150
 go_upto_region 1 with fail
 rw[Qq.o];refine Jt Dl [[],[],[1],[2],[0,3],[],[],[6],[7],[5,8,4],[4,9,0,1,2,3,4],[9,10,0,1,2,3,4,5,6,7,8,9,10]] WS DV (λf ac V=>∃t7 t8 t9 az ba bc ah bd bf bg bh ap:Value,ac={ tmps:=#[.agg #[F G (v:Nat),F G (t:Nat)],C a la ca,C b lb cb,I (some ⟨w.heap.size,0,none⟩),E,E,C none 0 0,t7,t8,t9,az,ba,bc,ah,bd,bf,bg,bh,ap,E,E,E,E,E,E,E,E,E,E,E],defers:=[] }/\Hid (f 0=true->t9=C a la ca)/\Hid (f 1=true->az=I (some ⟨w.heap.size,0,none⟩))/\Hid (f 2=true->ba=F G (v:Nat))/\Hid (f 3=true->∃g,bc=C (some ⟨g,0,none⟩) 1 1/\DU V g [v])/\Hid (f 4=true->UN V ah n/\(n≠0->∃d x y z,Er V W0.heap.size ah d x y n z))/\Hid (f 5=true->bd=C b lb cb)/\Hid (f 6=true->bf=I (some ⟨w.heap.size,1,none⟩))/\Hid (f 7=true->bg=F G (t:Nat))/\Hid (f 8=true->∃g,bh=C (some ⟨g,0,none⟩) 1 1/\DU V g [t])/\Hid (f 9=true->∃m l2 ai aj,Er V W0.heap.size ap m l2 ai X aj/\UN V ah n/\(n≠0->∃d x y z,Er V W0.heap.size ah d x y n z/\d≠m))/\Hid (f 10=true->t7=ah)/\Hid (f 11=true->t8=ap)/\Bl W0 V)
  (E8 ⟨_,_,_,_,J,Ja Dh,Ja Dh,Ja Dh,Ja Dh,Ja Dh,Ja Dh,Ja Dh,Ja Dh,Ja Dh,Ja Dh,Ja Dh,Ja Dh,(BL _ W0).drew⟩) ?step1 ?fin1
 case step1=>
  rintro f a2 V i ds s bk k ae ⟨t7,t8,t9,az,ba,bc,ah,bd,bf,bg,bh,ap,rfl,D,d,m,Q,g4,R,S,T,U,W,N,P,j⟩;have Qm:i<12:=(Af.1 bk).1;obtain rfl|rfl|rfl|rfl|rfl|rfl|rfl|rfl|rfl|rfl|rfl|rfl:=Fr i Z
  all_goals
   simp only[Ai,Ah,Aq]at bk;subst bk;clear Qm
  . clear k s;refine Dy ?_;exact⟨Ja λ_=>rfl,d,m,Q,g4,R,S,T,U,W,N,P,j⟩
  . clear k s;refine Dy ?_;exact⟨D,Ja λ_=>rfl,m,Q,g4,R,S,T,U,W,N,P,j⟩
  . obtain rfl:=d.o (k 1 DQ);have k0:=(bx.below j).c0;clear k s;refine Dy ?_;exact⟨D,Ja λ_=>rfl,Ja λ_=>rfl,Q,g4,R,S,T,U,W,N,P,j⟩
  . have Qr:f 4=false:=by
     cases h:f 4 with
     |false=>rfl
     |true=>rw[s 4 _ J h 3 DQ]at ae;cases ae
    obtain rfl:=m.o (k 2 DQ);clear k s;refine Dy ?_;exact⟨D,d,Ja λ_=>rfl,Ja λ_=>⟨_,J,DU.made (xs:=[v]) (BV V _)⟩,Ja (λh=>by simp[Qr]at h),R,S,T,Ja (λh=>by obtain⟨g,e,q⟩:=U.o h;exact⟨g,e,q.below (Ba V _)⟩),Ja (λh=>by obtain⟨m,l2,ai,aj,q1,q2,q3⟩:=W.o h;exact⟨m,l2,ai,aj,q1.below (Ba V _),q2.below (Ba V _),λo=>by obtain⟨d,x,y,z,q,q4⟩:=q3 o;exact⟨d,x,y,z,q.below (Ba V _),q4⟩⟩),N,P,j.alloc j.size _⟩
  . have Qk:f 9=false:=by
     cases h:f 9 with
     |false=>rfl
     |true=>rw[s 9 _ J h 4 DQ]at ae;cases ae
    have Qn:f 10=false:=by
     cases h:f 10 with
     |false=>rfl
     |true=>rw[s 10 _ J h 4 DQ]at ae;cases ae
    obtain rfl:=D.o (k 0 DQ);obtain⟨gm,rfl,am⟩:=Q.o (k 3 DQ);clear k s;refine JE J J λK hK=>?_;go_simp;go_wp2_with(go_at_call 118;refine(Qp.o _ _ j am).mono ?_;rintro e w5 ⟨u5,rfl,bt,bm,ad⟩)
    exact E8 ⟨_,_,_,_,J,Ja λ_=>rfl,d,m,Ja λ_=>⟨gm,J,am.below ad⟩,Ja λ_=>⟨bt,λo=>by obtain⟨d,x,y,z,q⟩:=bm o;exact⟨d,x,y,z,q.1,q.2.1,q.2.2.1,q.2.2.2.1,q.2.2.2.2.1,q.2.2.2.2.2.1,q.2.2.2.2.2.2.1,q.2.2.2.2.2.2.2.1,At j.size q.2.2.2.2.2.2.2.2⟩⟩,R,S,T,Ja (λh=>by obtain⟨g,e,q⟩:=U.o h;exact⟨g,e,q.below (ad)⟩),Ja (λh=>by simp[Qk]at h),Ja (λh=>by simp[Qn]at h),P,Bt j ad⟩
  . clear k s;refine Dy ?_;exact⟨D,d,m,Q,g4,Ja λ_=>rfl,S,T,U,W,N,P,j⟩
  . clear k s;refine Dy ?_;exact⟨D,d,m,Q,g4,R,Ja λ_=>rfl,T,U,W,N,P,j⟩
  . obtain rfl:=S.o (k 6 DQ);have k0:=(bx.below j).c1;clear k s;refine Dy ?_;exact⟨D,d,m,Q,g4,R,Ja λ_=>rfl,Ja λ_=>rfl,U,W,N,P,j⟩
  . have Qk:f 9=false:=by
     cases h:f 9 with
     |false=>rfl
     |true=>rw[s 9 _ J h 8 DQ]at ae;cases ae
    obtain rfl:=T.o (k 7 DQ);clear k s;refine Dy ?_;exact⟨D,d,m,Ja (λh=>by obtain⟨g,e,q⟩:=Q.o h;exact⟨g,e,q.below (Ba V _)⟩),Ja (λh=>by obtain⟨q1,q2⟩:=g4.o h;exact⟨q1.below (Ba V _),λo=>by obtain⟨d,x,y,z,q⟩:=q2 o;exact⟨d,x,y,z,q.below (Ba V _)⟩⟩),R,S,Ja λ_=>rfl,Ja λ_=>⟨_,J,DU.made (xs:=[t]) (BV V _)⟩,Ja (λh=>by simp[Qk]at h),N,P,j.alloc j.size _⟩
  . have Ql:f 11=false:=by
     cases h:f 11 with
     |false=>rfl
     |true=>rw[s 11 _ J h 9 DQ]at ae;cases ae
    obtain rfl:=R.o (k 5 DQ);obtain⟨gm,rfl,am⟩:=U.o (k 8 DQ);obtain⟨p1,p2⟩:=g4.o (k 4 DQ);clear k s;refine JE J J λK hK=>?_;go_simp;go_wp2_with(go_at_call 118;refine(Qo.o _ _ j am).mono ?_;rintro e w5 ⟨u5,rfl,bt,bm,ad⟩)
    exact⟨_,_,_,_,_,_,_,_,_,_,_,_,J,D,d,m,Ja (λh=>by obtain⟨g,e,q⟩:=Q.o h;exact⟨g,e,q.below (ad)⟩),Ja (λh=>by obtain⟨q1,q2⟩:=g4.o h;exact⟨q1.below (ad),λo=>by obtain⟨d,x,y,z,q⟩:=q2 o;exact⟨d,x,y,z,q.below (ad)⟩⟩),Ja λ_=>rfl,S,T,Ja λ_=>⟨gm,J,am.below ad⟩,Ja (λ_=>by obtain⟨m,l2,ai,aj,q⟩:=bm h0;exact⟨m,l2,ai,aj,⟨q.1,q.2.1,q.2.2.1,q.2.2.2.1,q.2.2.2.2.1,q.2.2.2.2.2.1,q.2.2.2.2.2.2.1,q.2.2.2.2.2.2.2.1,At j.size q.2.2.2.2.2.2.2.2⟩,p1.below ad,λo=>by obtain⟨d,x,y,z,r⟩:=p2 o;exact⟨d,x,y,z,r.below ad,by have:=r.2.1.lt;have:=q.2.2.2.2.2.2.2.2;omega⟩⟩),N,Ja (λh=>by simp[Ql]at h),Bt j ad⟩
  . clear k s;refine Dy ?_;exact⟨D,d,m,Q,g4,R,S,T,U,W,Ja λ_=>rfl,P,j⟩
  . clear k s;refine Dy ?_;exact⟨D,d,m,Q,g4,R,S,T,U,W,N,Ja λ_=>rfl,j⟩
 rintro f cg V1 aq ⟨t7,t8,t9,az,ba,bc,ah,bd,bf,bg,bh,ap,rfl,D,d,m,Q,g4,R,S,T,U,W,N,P,j⟩;obtain⟨gB,l2,ai,aj,o2,an,o1⟩:=W.o (aq 9 DV);obtain rfl:=N.o (aq 10 DV);obtain rfl:=P.o (aq 11 DV);obtain⟨a1,c1,rfl⟩:=UN.form an;have Qd:=o2.un;obtain⟨a2,c2,rfl⟩:=UN.form Qd;clear D d m Q g4 R S T U W N P aq Qp Qo;have Qi:∀p,a1=some p->0<(Jc O n).length->p.block≠gB:=λp e o=>by
  have hp:n≠0:=λe0=>by rw[e0,Jz]at o;simp at o
  obtain⟨d,x,y,z,r,r2⟩:=o1 hp;have:=r.1;grind
 have HO:=Ja (LF _ _ (Jc O n) (Jc O X) V1 an Qd (Jm Jb n) (Jm Jb X) (YR Jb n) (YR Jb X));rw[Jl Jb,Jl Jb]at HO;have Qg:=Bt Qa j;have Qj:=o2.2.2.2.2.2.2.2.2;by_cases bu:n<X
 . have Qb:=GP bu;rw[Qb]at HO;have Qf:=Ja λ(V:H) (h:Bl V1 V)=>Nm (o2.below h) a1 (Jc O n).length c1 (an.below h) Z Qi;have HD:=Ja (show X-n=Y8 n X by unfold Y8;omega);clear Qb an Qd o1 Qi;go_upto_region 4 with(go_at_call 114;refine HO.o.mono ?_;rintro e w2 ⟨rfl,ak⟩)
   go_upto_region 5 with(go_at_call 148;refine(Qf.o _ ak).mono ?_;rintro e w3 ⟨c,q,rfl,⟨hr,bn⟩,bj⟩)
   have Qc:=Ja (Ye _ q _ hr);rw[bn,HD.o]at Qc;clear Qf HO;go_wp2_with(go_at_call 132;refine Qc.o.mono ?_;rintro e w4 ⟨u,rfl,hu,bi⟩;obtain⟨ua,uc,rfl⟩:=UN.form hu)
   go_ret;have Qe:=below_grown (Bt Qg ak) bj (At Qa.size Qj);exact⟨_,J,hu,Bt Qe bi⟩
 . obtain⟨cm,Qb,cj⟩:∃cm:Int,YX n X=cm/\¬(cm<0):=⟨_,J,by unfold YX;omega⟩;rw[Qb]at HO;obtain⟨d,x,y,z,r,r2⟩:=o1 Z;have Qh:=r.2.2.2.2.2.2.2.2;have Qf:=Ja (λ(V:H) (h:Bl V1 V)=>Nm (r.below h) a2 (Jc O X).length c2 (Qd.below h) Z (λp e _=>by
    have:=o2.1;grind))
   have HD:=Ja (show n-X=Y8 n X by unfold Y8;omega);clear Qb an Qd o1 Qi;go_upto_region 4 with(go_at_call 114;refine HO.o.mono ?_;rintro e w2 ⟨rfl,ak⟩)
   go_upto_region 5 with(go_at_call 148;refine(Qf.o _ ak).mono ?_;rintro e w3 ⟨c,q,rfl,⟨hr,bn⟩,bj⟩)
   have Qc:=Ja (Ye _ q _ hr);rw[bn,HD.o]at Qc;clear Qf HO;go_wp2_with(go_at_call 132;refine Qc.o.mono ?_;rintro e w4 ⟨u,rfl,hu,bi⟩;obtain⟨ua,uc,rfl⟩:=UN.form hu)
   go_ret;have Qe:=below_grown (Bt Qg ak) bj (At Qa.size Qh);exact⟨_,J,hu,Bt Qe bi⟩
end
def Ee(x k s:Nat):Nat:=x/(O^k*2^(64-s))
variable{a:U}{k s:Nat}
def Se(hl:a.length=k+2)(b:DR O a)(hs:s<=63)(f:a[k+1]?.getD 0<2^(64-s)):
 Ee (val O a) k s=Du (a[k+1]?.getD 0) s+Dp (a[k]?.getD 0) (64-s)/\Du (a[k+1]?.getD 0) s ||| Dp (a[k]?.getD 0) (64-s)=Du (a[k+1]?.getD 0) s+Dp (a[k]?.getD 0) (64-s):=by
 have g:=Nh hl;have c:=J0 b k;have i:=b.getD (show 0<O by unfold O;omega) k;have hp:=Hd (s:=s) Z;have e:Du (a[k+1]?.getD 0) s=a[k+1]?.getD 0*2^s:=by rw[He Z,Cf f]
 rw[e];have d:Dp (a[k]?.getD 0) (64-s)<2^s:=by
  unfold Dp;rw[AD (A2 _),hp];exact i
 refine⟨?_,by rw[AK,<-Cy d]⟩;unfold Ee Dp;rw[g,<-Nat.div_div_eq_div_mul,AK _ (O^k),Nat.mul_add_div (C6 uo),A6 c,A4,<-hp,<-A9,CO,Nat.add_mul_div_right _ _ (A2 _)];omega
def Sf(hl:a.length=k+1)(d:DR O a):Ee (val O a) k s=Dp (a[k]?.getD 0) (64-s):=by
 have b:=Jk O a k;rw[Ad Z]at b;have c:=J0 d k;unfold Ee Dp;rw[b,<-Nat.div_div_eq_div_mul,CO,Nat.mul_add_div (C6 uo),A6 c,A4]
def Sg(hl:a.length<=k)(b:DR O a):Ee (val O a) k s=0:=by
 unfold Ee;apply A6;have c:=JY b;have d:O^a.length<=O^k:=Am uo hl;have e:=Ci (O^k) (A2 (64-s));omega
def Nr(a:WO)(la t:Nat)(c:List Nat)(k f d s:Nat)(w:H)(n:Row G w (C a la t) c)(o:DR O c)(q:d=k+2)(A:(d:Int)-1=f)(B:(d:Int)-2=k)(hs:s<=63)(T:la<=d)(V:d<=1099511627776)(m:la=d->c[k+1]?.getD 0<2^(64-s)):
 Calls L 177 #[C a la t,F M (d:Nat),F G (s:Nat)] w λe Q=>e=.returned (F G (Ee (val O c) k s:Nat))/\Bl w Q:=by
 obtain⟨hl,R,U,S,i⟩:=Jn n;have i1:M.wrap ((d:Int)-1)=(f:Int):=by rw[A];exact B0 _ Z
 have i2:M.wrap ((d:Int)-2)=(k:Int):=by rw[B];exact B0 _ Z
 have i3:M.wrap (f:Int)=(f:Int):=B0 _ Z;have i4:M.wrap (k:Int)=(k:Int):=B0 _ Z;have i5:G.wrap ((64:Int)-s)=((64-s:Nat):Int):=by rw[Bo];omega
 have p:=LR (c[k+1]?.getD 0) s;have y:=LS (c[k]?.getD 0) (64-s);have j:=o.getD (show 0<O by unfold O;omega) k;have l:=LU (show Du (c[k+1]?.getD 0) s<O by unfold Du;exact AY _ uo) (show Dp (c[k]?.getD 0) (64-s)<O from CA (CT _ _) j);obtain rfl|W:=Decidable.em (la=d)
 . obtain⟨b,P,rfl,K,c1⟩:=i (k+1) Z;obtain⟨_,_,z,_,c0⟩:=i k Z;cases z;obtain⟨u,v⟩:=Se Z o hs (m J);rw[v]at l;have g:=Ja u;have r:f=k+1:=Z
   rw[<-r]at c1 p l g;have j1:(f:Int)<(la:Int):=Z
   have j2:(k:Int)<(la:Int):=Z
   have j3:(0:Int)<=(f:Int):=Z
   have j4:(0:Int)<=(k:Int):=Z
   have j5:f<la:=Z
   have N:k<la:=Z
   clear r i n u v m hl q j;generalize c[f]?.getD 0=x1 at *;generalize c[k]?.getD 0=x0 at *;go_enter func177,ntmps177
   go_upto_region 3 with fail
   go_quiet (fail)
   go_wp2_with fail
   go_ret;refine⟨?_,Hg (BL _ w) _⟩;rw[g.o];first|rfl|(simp;done)
 . by_cases D:la=f
   . subst D;obtain⟨b,P,rfl,K,c0⟩:=i k Z;have g:=Ja (Sf (s:=s) (show c.length=k+1 by omega) o);have N:k<la:=Z
     have x:¬((la:Int)=(d:Int)):=Z
     clear i n m hl q j l p;generalize c[k]?.getD 0=x0 at *;go_enter func177,ntmps177
     go_wp2_with fail
     go_ret;refine⟨?_,BL _ w⟩;rw[g.o];first|rfl|(simp;done)
   . have g:=Ja (Sg (s:=s) (show c.length<=k by omega) o);have x:¬((la:Int)=(d:Int)):=Z
     have X:¬((la:Int)=(f:Int)):=Z
     clear i n m hl q j p y l;go_enter func177,ntmps177
     go_wp2_with fail
     go_ret;refine⟨?_,BL _ w⟩;rw[g.o];first|rfl|(simp;done)

