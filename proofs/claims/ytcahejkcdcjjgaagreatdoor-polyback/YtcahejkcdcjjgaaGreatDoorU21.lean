import Derived.Test.YtcahejkcdcjjgaaGreatDoorU18
import Derived.Test.YtcahejkcdcjjgaaGreatDoorU04
set_option linter.all false
open Go.Value renaming slice->C,int->F,pointer->I
open Go renaming undef->E,World->H
open Go.IntKind renaming u64->G,i64->M
open Go.Proofs.Tryz renaming prog->L
set_option maxRecDepth 99999
set_option maxHeartbeats 0
namespace Go.Proofs.YtcahejkcdcjjgaaGreatDoor
open List renaming replicate->Td
open Proofs.Tryz
open Go.RowKit Go.Shelf
attribute [local go_sem] Oper.semAt_some
section
def Bf:=@IntWalk.u64_in
def BM:=@IntWalk.i64_in
variable{Z ds xs:Ta}{B R V c d0 d1 f g l len n q r ro s u0:Nat}{v:Value}{w:H}
theorem Ln(h:ds.length=n+2):val O ds=(ds[n+1]?.getD 0*O+ds[n]?.getD 0)*O^n+val O (ds.take n):=by
 have a:=Jl O ds (n+1);rw[Ac Y,Jl,A9]at a;rw[a];grind
theorem Px(h:ds.length=n+3):val O ds=((ds[n+2]?.getD 0*O+ds[n+1]?.getD 0)*O+ds[n]?.getD 0)*O^n+val O (ds.take n):=by
 have a:=Jl O ds (n+2);rw[Ac Y,Jl,Jl,A9,A9]at a;rw[a];grind
theorem JX(h:B7 O ds)(n:Nat):val O (ds.take n)<O^n:=by
 have:=JV (h.take n);grind[Ak,Al,O]
def F2{a:H}(h:Below B a w)(n:Nat):Below B a (w.drewN n):=h.trans ⟨J,J,J,Aa _,λ_ _=>rfl⟩
theorem Lo(a:u0<O)(h:YT q d0<r\/YT q d0=r/\JZ q d0<=u0):q*d0<=r*O+u0:=by
 grind[YT,JZ,O]
theorem Py(b:u0<O)(h:¬(YT q d0<r))(a:¬(YT q d0=r/\JZ q d0<=u0)):r*O+u0<q*d0:=by
 grind[YT,JZ,O]
theorem Pz{u2 u1 E:Nat}(b:R=((u2*O+u1)*O+u0)*E+c)(e:V=(d1*O+d0)*E+f)(j:f<E)(g:O<=2*d1)(i:d0<O)(d:R<V*O)(h:d1<=u2):EG R V (O-1):=by
 have a:d0*E+f<O*E:=by
  have:=Af E (show d0+1<=O from i);grind
 refine N6 (d1:=d1) (E:=O*E) (lo:=(u2-d1)*(O*(O*E))+(u1*O+u0)*E+c) (lo2:=d0*E+f) ?_ ?_ a g d Jd
 . obtain⟨t,rfl⟩:∃t,u2=d1+t:=⟨u2-d1,Y⟩;rw[b,Nat.add_sub_cancel_left];grind
 . rw[e];grind
def P0{U E:Nat}(a:R=(U*O+u0)*E+c)(d:V=(d1*O+d0)*E+f)(b:c<E)(e:f<E)(g:O<=2*d1)(j:q<O)(h:q=(U*O+u0)/(d1*O+d0)):EG R V q:=by
 rw[h];have hp:0<d1:=by unfold O at g;omega
 have i:=Cb O hp;exact N5 a d b e (by rw[<-h];omega) Y
def P1(l a j:Nat)(h1:(l:Int)-1=a)(h2:(l:Int)-2=j)(b i T W ca cb u2 u1 u0 d1 d0 R V:Nat)(w:H)(hl:l<=1099511627776)
(ka:w.cell? ⟨b,i+l,none⟩=some (F G (u2:Nat)))(ak:w.cell? ⟨b,i+a,none⟩=some (F G (u1:Nat)))(aj:w.cell? ⟨b,i+j,none⟩=some (F G (u0:Nat)))
(kb:w.cell? ⟨T,W+a,none⟩=some (F G (d1:Nat)))(bf:w.cell? ⟨T,W+j,none⟩=some (F G (d0:Nat)))(X:b<w.heap.size)
(ai:u1<O)(N:u0<O)(ad:d1<O)(n:d0<O)(ae:0<d1)
(HT:Hid (d1<=u2->EG R V (O-1)))(A:Hid (∀q:Nat,q<O->q=((u2*O+u1)*O+u0)/(d1*O+d0)->EG R V q)):
 Calls L 198 #[C (some ⟨b,i,none⟩) (l+1) ca,C (some ⟨T,W,none⟩) l cb] w λe d=>∃g,e=.returned (F G (g:Nat))/\g<O/\EG R V g/\Bl w d:=by
 have i1:M.wrap ((l:Int)-1)=(a:Int):=by rw[h1];exact BM _ Y
 have i2:M.wrap ((l:Int)-2)=(j:Int):=by rw[h2];exact BM _ Y
 have j1:(a:Int)<(l:Int):=Y
 have j2:(j:Int)<(l:Int):=Y
 have j3:(a:Int)<(l:Int)+1:=Y
 have j4:(j:Int)<(l:Int)+1:=Y
 have i3:M.wrap (a:Int)=(a:Int):=BM _ Y;have j5:a<l:=Y
 have az:a<l+1:=Y
 have bc:a<=l:=Y
 have bd:(a:Int)<=(l:Int):=Y
 have j7:(l:Int)<(l:Int)+1:=Y
 have j8:(0:Int)<=(l:Int):=Y
 have j9:(0:Int)<=(a:Int):=Y
 have ay:(0:Int)<=(j:Int):=Y
 have j6:j<l:=Y
 go_enter func198,ntmps198
 go_upto_region 2 with fail
 go_quiet (fail)
 by_cases ah:d1<=u2
 . go_wp2_with fail
   go_ret;exact⟨O-1,J,by unfold O;omega,HT.o ah,F2 (BB _ w) _⟩
 . have D:=N2 (B:=O) (u:=u2*O+u1) (u1:=u0) (d1:=d1) (d0:=d0) ae ad N (by
    have:=Af O (show u2+1<=d1 by omega);rw[Cm,C2]at this;omega)
   have Qd:=Ja λV=>LR u2 u1 d1 Y ai ad V;have Qf:=D.2.2.1;have Qe:=D.2.2.2;have f:=Ja D;clear D HT;generalize hX:(u2*O+u1)/d1=q0 at *;generalize hY:(u2*O+u1)%d1=r0 at *;generalize hZ:u2*O+u1=U at *;clear hX hY hZ;go_wp2_with fail
   have v:Bl w (w.drewN (nq+1)):=F2 (BB _ w) _;go_region_held3 (λd=>d.cell? ⟨b,i+l,none⟩=some (F G (u2:Nat))/\d.cell? ⟨b,i+a,none⟩=some (F G (u1:Nat))) (refine⟨?_,?_⟩<;>(first|(go_keep;done)|(simp[*];done)))
    (first|(go_at_call 164;refine(Qd.o _).mono ?_;rintro e w1 ⟨rfl,K⟩;have bi:=(K.cell (p:=⟨b,i+l,none⟩) (show b<w.heap.size from X)).trans ka;have bh:=(K.cell (p:=⟨b,i+a,none⟩) (show b<w.heap.size from X)).trans ak;have bg:=(K.cell (p:=⟨b,i+j,none⟩) (show b<w.heap.size from X)).trans aj))
   have v:Bl w w1:=Bt v K;go_wp2_with fail
   go_loopw [8,9] (λqv rv wr=>∃(q r:Nat),qv=F G (q:Nat)/\rv=F G (r:Nat)/\q<O/\r<O/\Hid (GO O U u0 d1 d0 q r)/\wr=w1) (λqv _ _=>(intOf qv).toNat)
   case atStart=>exact⟨q0,r0,J,J,Qf,Qe,f,J⟩
   case round=>
    clear Qd f;obtain⟨q,r,rfl,rfl,c,aq,f,rfl⟩:=hrel;have k:0<d1*O:=B3 ae uo;by_cases c1:YT q d0<r
    . have t:=Ja (A.o q c (Hm f.o.1 f.o.2.1 k (Lo N (Ao c1))));clear k;go_wp2_with(first
       |(go_at_call 190;refine(XQ _ _ c n _).mono ?_;rintro e d ⟨rfl,rfl⟩))
      go_ret;exact⟨q,J,c,t.o,v⟩
    . by_cases c2:YT q d0=r/\JZ q d0<=u0
      . have t:=Ja (A.o q c (Hm f.o.1 f.o.2.1 k (Lo N (Ax c2))));obtain⟨c2,c3⟩:=c2;subst c2;clear k;go_wp2_with(first
         |(go_at_call 190;refine(XQ _ _ c n _).mono ?_;rintro e d ⟨rfl,rfl⟩))
        go_ret;exact⟨q,J,c,t.o,v⟩
      . obtain⟨g1,x,y,m⟩:=N3 f.o k (Py N c1 c2);obtain⟨p,hp⟩:=ex (q-1:Nat);rw[hp]at x y m;have am:(q:Int)-1=(p:Int):=Y
        have an:p<q:=Y
        have ap:G.wrap (p:Int)=(p:Int):=by rw[BN];unfold O at c;omega
        clear hp g1 f;have S:=GW r d1;have P:=Ja (A.o p);clear A;by_cases o:r+d1<O
        . have v1:J2 r d1 0=r+d1:=by unfold J2;rw[AV,Ca o]
          have z:Ys r d1 0=0:=by unfold Ys;rw[AV,AY o]
          rw[v1,z]at S;have Q:=Ja (show GO O U u0 d1 d0 p (r+d1)from⟨x,y,m,o⟩);clear x y v1 z k P;obtain⟨s,hs⟩:=ex (r+d1);rw[hs]at S Q o;clear hs;by_cases c3:YT q d0=r
          . have c4:¬(JZ q d0<=u0):=λh=>c2 ⟨c3,h⟩;clear c2;go_wp2_with(first
             |(go_at_call 190;refine(XQ _ _ c n _).mono ?_;rintro e d ⟨rfl,rfl⟩))
            exact⟨⟨p,s,J,J,m,o,Q,by first|trivial|rfl⟩,by simp[intOf];omega⟩
          . clear c2;go_wp2_with(first
             |(go_at_call 190;refine(XQ _ _ c n _).mono ?_;rintro e d ⟨rfl,rfl⟩))
            exact⟨⟨p,s,J,J,m,o,Q,by first|trivial|rfl⟩,by simp[intOf];omega⟩
        . have t:=Ja (P.o m (N4 x y m n k Y));have z:Ys r d1 0=1:=by unfold Ys;unfold O at *;omega
          rw[z]at S;generalize J2 r d1 0=s at *;clear x y z k P o;by_cases c3:YT q d0=r
          . have c4:¬(JZ q d0<=u0):=λh=>c2 ⟨c3,h⟩;clear c2;go_wp2_with(first
             |(go_at_call 190;refine(XQ _ _ c n _).mono ?_;rintro e d ⟨rfl,rfl⟩))
            go_ret;exact⟨p,J,m,t.o,v⟩
          . clear c2;go_wp2_with(first
             |(go_at_call 190;refine(XQ _ _ c n _).mono ?_;rintro e d ⟨rfl,rfl⟩))
            go_ret;exact⟨p,J,m,t.o,v⟩
def P3(a b:Tb)(n j k:Nat)(i bs:Ta)(w:H)(Q:Row G w (C a (n+3) j) i)(R:Row G w (C b (n+2) k) bs)(o:B7 O i)(f:B7 O bs)
(l:O<=2*bs[n+1]?.getD 0)(y:val O i<val O bs*O):
 Calls L 198 #[C a (n+3) j,C b (n+2) k] w λe S=>∃g,e=.returned (F G (g:Nat))/\g<O/\EG (val O i) (val O bs) g/\Bl w S:=by
 obtain⟨A,U,ad,W,m⟩:=Jm Q;obtain⟨B,V,ae,X,s⟩:=Jm R;obtain⟨t,u,rfl,z,ka⟩:=m (n+2) Y;obtain⟨_,_,c,_,N⟩:=m (n+1) Y;cases c;obtain⟨_,_,c,_,K⟩:=m n Y;cases c;obtain⟨v,x,rfl,T,kb⟩:=s (n+1) Y;obtain⟨_,_,c,_,P⟩:=s n Y;cases c;have d:0<O:=by unfold O;omega
 have p:=Px A.symm;have r:=Ln B.symm;exact P1 (n+2) (n+1) n Y Y t u v x j k _ _ _ _ _ _ _ w Y ka N K kb P z (o.getD d _) (o.getD d _) (f.getD d _) (f.getD d _) (by unfold O at l;omega)
  (λh=>Pz p r (JX f n) l (f.getD d _) y h) λq D h=>P0 p r (JX o n) (JX f n) l D h
def C9.win{W:H}{b:Nat}(h:C9 W b xs)(a len cap:Nat)(c:a+len<=xs.length)(d:len<=cap)(e:cap<=9223372036854775807)(f:len<=1099511627776):Row G W (C (some ⟨b,a,none⟩) len cap) ((xs.drop a).take len):=
 h.row a len cap c d e f
def P4{q:Ta}(a:q.length=len)(h:ro+len<=xs.length):((DF xs ro len q).drop ro).take len=q:=by
 rw[DF,List.drop_append_of_le_length (by rw[Ae];omega),AA (by rw[Ae];omega),Ah,A4 Y,Ac Y]
def P5{p q:Ta}(hp:p.length=len)(h:ro+len<=xs.length):DF (DF xs ro len p) ro len q=DF xs ro len q:=by
 have a:(xs.take ro).length=ro:=by rw[Ae];omega
 rw[DF,DF,DF,A4 Y,Ac Y,List.drop_append,a,show ro+len-ro=len from by omega,AA Y,Ah,List.drop_append,hp,AZ,AA Y,Ah,At]
def P6{q:Ta}(a:B7 O xs)(c:B7 O q):B7 O (DF xs ro len q):=by
 intro x b;rw[DF]at b;rcases Co.1 b with h|h
 . exact(a.take ro) x h
 . rcases Co.1 h with h|h
   . exact c x h
   . exact(a.drop _) x h
def P7(d ro n cap:Nat)(xs:Ta)(a:Tb)(j:Nat)(bs:Ta)(w:H)
(u:C9 w d xs)(z:B7 O xs)(ai:ro+(n+3)<=xs.length)(y:n+3<=cap)(aj:cap<=9223372036854775807)(hn:n+3<=1099511627776)(l:Row G w (C a (n+2) j) bs)(m:B7 O bs)(ad:∀p,a=some p->0<n+2->p.block≠d)
(X:O<=2*bs[n+1]?.getD 0)(W:val O ((xs.drop ro).take (n+3))<val O bs*O):
 Calls L 179 #[C (some ⟨d,ro,none⟩) (n+3) cap,C a (n+2) j] w λe w'=>
  ∃q,e=.returned (F G ((val O ((xs.drop ro).take (n+3))/val O bs:Nat):Int))/\(q.length=n+3/\B7 O q/\val O q=val O ((xs.drop ro).take (n+3))%val O bs)/\C9 w' d (DF xs ro (n+3) q)/\w.grownBy w' (some d):=by
 have R:=u.win ro (n+3) cap ai y aj hn;have B:=Ja (P3 _ a n cap j _ bs w R l ((z.drop ro).take _) m X W);have s:=(Jm l).1;have K:val O bs<O^(n+2):=by have:=JV m;rwa[<-s]at this
 have N:val O bs<O^(n+3):=Ak K (Al uo Y);obtain⟨am,A,t,D,T,HA,i,Qk⟩:=Fw N l ad z m u ai s;clear R X W s K N l ad z m u;go_enter func179,ntmps179
 go_upto_region 2 with(go_at_call 198;refine B.o.mono ?_;rintro e w1 ⟨g,rfl,hg,V,k⟩;have r:=Ja V;clear V B)
 have S:=Ja (PZ d ro (n+2) cap xs a j bs g w1 (HA.o.below k) D.o i.o y (Row.below A.o k) T.o t.o hg);go_upto_if 13 with(go_at_call 199;refine S.o.mono ?_;rintro e w2 ⟨c,q,rfl,⟨hc,ah⟩,hA2,v⟩;have b:=Ja ah;clear ah S)
 obtain rfl|rfl:c=0\/c=1:=Y
 . have o:=Ja (N7 r.o (by have:=b.o.2.2;rw[A8,AV]at this;exact this));have HE:=Ja o.o.1;have HM:=Ja o.o.2;clear o r;go_wp2_with fail
   go_ret;exact⟨q,by rw[<-HE.o];rfl,⟨b.o.1,b.o.2.1,HM.o⟩,hA2,Je (JK k _) v⟩
 . have Q:=Ja (IZ d ro (n+3) cap (DF xs ro (n+3) q) a (n+2) j bs w2 hA2 (P6 D.o b.o.2.1) (by rw[JL b.o.1 i.o];exact i.o) y Y Y (Row.grown (Row.below A.o k) v t.o) T.o t.o);have Ql:1<=g:=by
    rcases AE g with h|h
    . exfalso
      have h1:=b.o.2.2;have h2:=JV b.o.2.1;rw[b.o.1]at h2;rw[h,A8,Nat.mul_one]at h1;omega
    . exact h
   obtain⟨p,hp⟩:=ex (g-1:Nat);have an:(g:Int)-1=(p:Int):=Y
   have ap:G.wrap (p:Int)=(p:Int):=by rw[BN];unfold O at hg;omega
   have HP:=Ja hp;clear hp Ql;go_wp2_with(go_at_call 146;refine Q.o.mono ?_;rintro e w3 ⟨c3,q3,rfl,ae,hA3,ak⟩;have f:=Ja ae;clear ae Q)
   go_ret;have x:=N8 r.o (P:=O^(n+3)) (by have:=b.o.2.2;rw[Nat.mul_one]at this;exact this) (by have:=JV b.o.2.1;rw[b.o.1]at this;exact this) (q2:=val O q3) (c2:=c3)
    (by
     have U:=f.o.2.2.2;rw[P4 b.o.1 i.o,Ac (show bs.length<=n+3 by rw[<-Qk.o];omega)]at U;exact U)
    (by have:=JV f.o.2.1;rw[f.o.1]at this;exact this) f.o.2.2.1
   rw[HP.o]at x;rw[P5 b.o.1 i.o]at hA3;exact⟨q3,by rw[<-x.2.1];rfl,⟨f.o.1,f.o.2.1,x.2.2⟩,hA3,Je (Je (JK k _) v) ak⟩
def Lp{bs:Ta}{d:Nat}(j:B7 O bs)(hl:bs.length=l+2)(g:bs[l+1]?.getD 0=d)(e:2^(c-1)<=d)(f:d<2^c)(m:1<=c)(k:c<=64)(hs:s=64-c):
 val O bs*2^s<O^(l+2)/\2^63*O^(l+1)<=val O bs*2^s:=by
 have o:val O bs=val O (bs.take (l+1))+O^(l+1)*d:=by
  have h:=Jl O bs (l+1);rwa[Ac Y,g]at h
 have n:=JX j (l+1);have p1:2^c*2^s=O:=by rw[<-Cz,FC];congr 1;omega
 have i:2^(c-1)*2^s=2^63:=by rw[<-Cz];congr 1;omega
 constructor
 . have b:val O bs+1<=O^(l+1)*2^c:=by
    have:=Aq (O^(l+1)) (show d+1<=2^c from f);rw[CN,Nat.mul_one]at this;omega
   have a:=Af (2^s) b;rw[Ce,p1,<-A9,Cm,C2]at a;exact Ak (Nat.lt_add_of_pos_right (AR s)) a
 . have b:O^(l+1)*2^(c-1)<=val O bs:=by
    have:=Aq (O^(l+1)) e;omega
   have a:=Af (2^s) b;rw[Ce,i,AC]at a;exact a
def P8(g:B7 O Z)(hl:Z.length=l+3)(b:val O Z=V)(c:V<O^(l+2))(i:2^63*O^(l+1)<=V):
 val O (Z.take (l+2))=V/\O<=2*(Z.take (l+2))[l+1]?.getD 0:=by
 have f:=XZ (B:=O) (k:=l+2) (D:=Z) Y (by rw[b];exact c);have a:val O (Z.take (l+2))=V:=by
  have h:=val_append O (Z.take (l+2)) (Z.drop (l+2));rw[AQ,f,A8,AV,b]at h;exact h.symm
 refine⟨a,?_⟩;rw[Cd Y];have d:=Jl O Z (l+1);have j:=JX g (l+1);rw[show l+1+1=l+2 from J,a]at d;rcases AH (Z[l+1]?.getD 0) (2^63)with h|h
 . exfalso
   have e:=Aq (O^(l+1)) (show Z[l+1]?.getD 0+1<=2^63 from h);rw[CN,Nat.mul_one,AC _ (2^63)]at e;omega
 . rw[FC];omega
def P9{m:Nat}(d:m<O^c)(e:O^(l+1)<=n)(hl:l+1<=c):m*2^s<n*2^s*O^(c-(l+1)):=by
 have b:O^(l+1)*O^(c-(l+1))=O^c:=by rw[<-Cz];congr 1;omega
 have a:=Af (O^(c-(l+1))) e;rw[b]at a;rw[Nat.mul_right_comm];exact Nat.mul_lt_mul_of_pos_right (Ak d a) (AR s)
def JG{P:Program}{ops:Array Oper}{Q:Exit->Act->H->Prop}{i:Nat}{o:Oper}{K:Act->H->Prop}{a:Act}(c:ops[i]?=some o)(b:o.guard=none)
(h:∀K':Act->H->Prop,(∀a w,K a w->K' a w)->o.wp P a w K' Q):wpOp P ops Q i K a w:=by
 unfold wpOp;rw[c];simp only[Region.wanted,b,if_true];exact Ao (h K λ_ _ h=>h)
def Dd{p q:Prop}(k:q)(h:Hid q->p:=by intro x;refine JG rfl rfl λK a=>?_;go_simp;refine a _ _ ?_;(repeat apply Exists.intro);refine ⟨rfl,?_⟩;exact x.o):p:=h k
def D9(V:H)(a:Nat)(v:Value)(g len b:Nat)(Z:Ta):Prop:=
 v=C (some ⟨g,0,none⟩) len len/\C9 V g Z/\Z.length=len/\B7 O Z/\val O Z=b/\a<=g
def D9.below{V V':H}{a g len b:Nat}{v:Value}{Z:Ta}(h:D9 V a v g len b Z)(c:Bl V V'):D9 V' a v g len b Z:=
 ⟨h.1,h.2.1.below c,h.2.2⟩
def D9.box{V:H}{u:Value}(h:D9 V c v g len f Z)(hl:0<len)(d:Boxed V B 34 (C none 0 0)):D9 (V.setCell ⟨B,0,none⟩ u) c v g len f Z:=
 ⟨h.1,h.2.1.far (by
  intro e;simp only at e;obtain⟨i,b⟩:=h.2.1;rw[e,show V.heap[B]?=_ from d]at b;obtain⟨z,a,rfl⟩:∃z a,Z=z::a:=by
   cases Z with
    |nil=>have:=h.2.2.1;simp at this;omega
    |cons z a=>exact⟨z,a,J⟩
  simp[cellsOf]at b) u,h.2.2⟩
def D9.ne_box{V:H}{b:Tb}{k i:Nat}(h:D9 V c v g len f Z)(hl:0<len)(j:Boxed V B 34 (C b k i)):g≠B:=by
 intro e;obtain⟨l,d⟩:=h.2.1;rw[e,show V.heap[B]?=_ from j]at d;obtain⟨z,a,rfl⟩:∃z a,Z=z::a:=by
  cases Z with
  |nil=>have:=h.2.2.1;simp at this;omega
  |cons z a=>exact⟨z,a,J⟩
 simp[cellsOf]at d
end
section
structure SplC where
 w:World
 bs:Value
 rs:Value
 ds:Value
 qs:Value
 B9:Nat
 B10:Nat
 B11:Nat
 B12:Nat
 gR:Nat
 gZ:Nat
 gQ:Nat
 Zb:Ta
structure SplC.Apart(c:SplC):Prop where
 r0:c.gR≠c.w.heap.size
 r9:c.gR≠c.B9
 r10:c.gR≠c.B10
 r11:c.gR≠c.B11
 r12:c.gR≠c.B12
 rz:c.gR≠c.gZ
 rq:c.gR≠c.gQ
 q0:c.gQ≠c.w.heap.size
 q9:c.gQ≠c.B9
 q10:c.gQ≠c.B10
 q11:c.gQ≠c.B11
 q12:c.gQ≠c.B12
 qz:c.gQ≠c.gZ
 lr:c.w.heap.size<=c.gR
 lq:c.w.heap.size<=c.gQ
structure SplC.Holds(c:SplC)(W:World):Prop where
 b0:Boxed W c.w.heap.size 34 c.bs
 b9:Boxed W c.B9 34 c.rs
 b10:Boxed W c.B10 34 c.ds
 b11:Boxed W c.B11 34 c.qs
 b12:Boxed W c.B12 34 c.qs
 z:C9 W c.gZ c.Zb
 B:Below c.w.heap.size c.w W
theorem SplC.Holds.kept{c:SplC}{W W':H}{g:Nat}(h:c.Holds W)(hg:W.grownBy W' (some g))(a:g≠c.w.heap.size)(i:g≠c.B9)(b:g≠c.B10)(d:g≠c.B11)(f:g≠c.B12)(j:g≠c.gZ)(hl:c.w.heap.size<=g):c.Holds W':=
 ⟨h.b0.kept hg (λe=>by grind),h.b9.kept hg (λe=>by grind),h.b10.kept hg (λe=>by grind),h.b11.kept hg (λe=>by grind),
  h.b12.kept hg (λe=>by grind),h.z.kept hg (λe=>by grind),below_grown h.B hg hl⟩
def SplC.Holds.drew{c:SplC}{W:H}(h:c.Holds W):c.Holds W.drew:=
 ⟨h.b0,h.b9,h.b10,h.b11,h.b12,h.z,h.B.drew⟩
variable{f:Bool}{D D' Q Q':Ta}{B:Nat}{W W' W0:H}
def SplC.own(c:SplC)(b:c.w.heap.size<=B):OwnFrom B (λ(_:Nat) W=>c.Holds W):=λk W W' row hs hg a=>
 ⟨YO hs.b0 hg a,YO hs.b9 hg a,YO hs.b10 hg a,YO hs.b11 hg a,YO hs.b12 hg a,F1 hs.z hg a,Ld b k W W' row hs.B hg a⟩
def Lq(c:SplC)(a V n K:Nat)(k:Nat)(W:H):Prop:=
 c.Holds W/\∃D Q,C9 W c.gR D/\C9 W c.gQ Q/\Xp a V n K (K-k) D Q
def QA(c:SplC)(b V n K:Nat)(g:c.w.heap.size<=B):OwnFrom B (Lq c b V n K):=
 BL (c.own g) (λ_ _ _ _ hs hg a=>by obtain⟨D,Q,d,e,f⟩:=hs;exact⟨D,Q,F1 d hg a,F1 e hg a,f⟩)
structure SplM(c:SplC)(W0:World)(D D' Q Q':Ta)(e f:Bool)(W:World):Prop where
 k:KeepsOthers W0 W
 h:c.Holds W
 r:C9 W c.gR (bif e then D' else D)
 q:C9 W c.gQ (bif f then Q' else Q)
def SplM.drew{c:SplC}{W0 W:H}{D D' Q Q':Ta}{e f:Bool}(h:SplM c W0 D D' Q Q' e f W):SplM c W0 D D' Q Q' e f W.drew:=
 ⟨h.k.trans (KeepsOthers.drew W),h.h.drew,h.r,h.q⟩
def QB{g:Nat}{xs:Ta}(b:C9 W g xs)(hg:W.grownBy W' (some g)):KeepsOthers W W':=
 KeepsOthers.of_grownBy hg λj o a c=>by cases a;exact b.other c
def SplM.any{c:SplC}(h:SplM c W0 D D' Q Q' false f W)(a:Ta):SplM c W0 D a Q Q' false f W:=⟨h.k,h.h,h.r,h.q⟩
def SplM.split{c:SplC}(h:SplM c W0 D D' Q Q' false f W)(a:c.Apart)(hg:W.grownBy W' (some c.gR))(b:C9 W' c.gR D'):SplM c W0 D D' Q Q' true f W':=
 ⟨h.k.trans (QB h.r hg),h.h.kept hg a.r0 a.r9 a.r10 a.r11 a.r12 a.rz a.lr,b,h.q.kept hg λe=>by injection e with e;exact a.rq e.symm⟩
theorem SplM.store{c:SplC}{e:Bool}(h:SplM c W0 D D' Q Q' e false W)(a:c.Apart){j v:Nat}(d:Q.set j v=Q'):SplM c W0 D D' Q Q' e true (W.setCell ⟨c.gQ,j,none⟩ (F G (v:Nat))):=
 have b:=Jt W c.gQ j (F G (v:Nat))
 ⟨h.k.trans (BR _ _ _),h.h.kept b a.q0 a.q9 a.q10 a.q11 a.q12 a.qz a.lq,h.r.kept b (λe=>by injection e with e;exact a.rq e),by have:=h.q.set j v;grind⟩
def QC(a:Tb)(f ca:Nat)(x y l lb l1 cb m n d s:Nat)(w:H)(ff:lb=l+2)(h2:(lb:Int)-1=l1)(fl:x<w.heap.size)
(ra:Row G w (C a f ca) (Jb O m))(rb:Row G w (C (some ⟨x,y,none⟩) lb cb) (Jb O n))
(kb:w.cell? ⟨x,y+l1,none⟩=some (F G (d:Nat)))(fm:d<O)(hs:s<=63)(HS:Hid ((64:Int)-(Lib.bitLen d:Int)=(s:Int)))(gg:lb<=f)(fo:f<1099511627776)
(f7:Hid (n*2^s<O^(l+2)))(f9:Hid (2^63*O^(l+1)<=n*2^s))(fk:Hid (m*2^s<n*2^s*O^(f-(l+1)))):
 Calls L 151 #[C a f ca,C (some ⟨x,y,none⟩) lb cb] w λe w'=>∃u v,e=.returned (.tuple #[u,v])/\UN w' u (m/n)/\UN w' v (m%n)/\Bl w w':=by
 have Qc:=Ja ff;have i1:M.wrap ((lb:Int)-1)=(l1:Int):=by rw[h2];exact BM _ Y
 have i3:M.wrap (l1:Int)=(l1:Int):=BM _ Y;have j1:(l1:Int)<(lb:Int):=Y
 have j9:(0:Int)<=(l1:Int):=Y
 have j2:l1<lb:=Y
 have gh:¬(lb=1):=Y
 have Qg:Bl w (w.alloc (.cells #[C (some ⟨x,y,none⟩) lb cb] 34)):=Ba w _;have Qf:=BJ w 34 (C (some ⟨x,y,none⟩) lb cb);obtain⟨W0,ck⟩:=ex (w.alloc (.cells #[C (some ⟨x,y,none⟩) lb cb] 34));have Qs:W0.heap.size=w.heap.size+1:=by rw[<-ck];simp
 rw[ck]at Qg Qf;have Uq:=Qf.cell;have Uz:=(Qg.cell (p:=⟨x,y+l1,none⟩) fl).trans kb;have Qr:=Ja λ(V:H) (h:Bl W0 V)=>Lc a f ca (Jb O m) s V hs (Row.below (Row.below ra Qg) h) (Ji Jd m) fo;have Qp:=Ja λ(V:H) (h:Bl W0 V)=>Lc (some ⟨x,y,none⟩) lb cb (Jb O n) s V hs (Row.below (Row.below rb Qg) h) (Ji Jd n) Y;rw[Jj Jd]at Qr Qp;have Ub:=Ja ck;have Ua:=Ja (show ∀V:H,Calls L 176 #[F G (d:Nat)] V λe w'=>e=.returned (F M (s:Nat))/\w'=V from λV=>by
  have h:=Tryz.bits_LeadingZeros64 (d:Nat) V Y (by unfold O at fm;omega);rw[CA,HS.o]at h;exact h)
 have gn:G.wrap (s:Int)=(s:Int):=Bf _ Y;have Ur:=Ja Qs;have fr:=Ja h2;clear ck ff ra rb kb HS;refine(BK (n:=3)).1 ?_;refine BT func151 J trivial ?_ J;simp only[ntmps151,An,Ag,AN,Nat.reduceAdd,Nat.reduceSub,Au,Aw,AK,Ay,Ah,Az];refine wpIn_wide.2 ?_;go_upto_region 1 with fail
 rw[Ub.o];clear Ub Qs;go_upto_region 8 with(go_at_call 176;refine(Ua.o _).mono ?_;rintro e w' ⟨rfl,e1⟩;have e2:=e1.symm;subst e2;clear e1)
 refine J3 Dc [[],[],[0,1],[],[],[3,4,2],[],[6],[5,7],[],[],[9,2,5,0,1,2,9,10],[10,8,11,0,1,2,3,4,5,6,7,8,9,10,11]] Tc DB
  (λD ac V=>∃t9 bc bd bf bg bh bi ce bj bk cg:Value,ac={ tmps:=#[C a f ca,C (some ⟨x,y,none⟩) lb cb,E,I (some ⟨w.heap.size,0,none⟩),C none 0 0,C none 0 0,E,E,F G (s:Nat),t9,bc,E,E,C a f ca,F M (f:Nat),C (some ⟨x,y,none⟩) lb cb,F M (lb:Nat),.bool false,E,E,C (some ⟨x,y,none⟩) lb cb,F M (lb:Nat),.bool false,E,E,E,E,E,E,E,E,E,E,E,E,C (some ⟨x,y,none⟩) lb cb,C (some ⟨x,y,none⟩) lb cb,F M (lb:Nat),F M (l1:Nat),I (some ⟨x,y+l1,none⟩),F G (d:Nat),F M (s:Nat),F G (s:Nat),bd,bf,bg,bh,bi,ce,bj,bk,cg,E,E,E,E,E,E,E,E,E,E,E,E,E,E,E,E,E,E,E,E,E,E,E,E,E,E,E,E],defers:=[] }/\Hid (D 0=true->bd=C a f ca)/\Hid (D 1=true->bf=F G (s:Nat))/\Hid (D 2=true->∃g Z,D9 V W0.heap.size bg g (f+1) (m*2^s) Z)/\Hid (D 3=true->bh=C (some ⟨x,y,none⟩) lb cb)/\Hid (D 4=true->bi=F G (s:Nat))/\Hid (D 5=true->∃gR Zr gZ Zb,D9 V W0.heap.size bg gR (f+1) (m*2^s) Zr/\D9 V W0.heap.size ce gZ (lb+1) (n*2^s) Zb/\gR≠gZ)/\Hid (D 6=true->bj=C (some ⟨x,y,none⟩) lb cb)/\Hid (D 7=true->bk=F M (lb:Nat))/\Hid (D 8=true->∃gZ,ce=C (some ⟨gZ,0,none⟩) (lb+1) (lb+1)/\cg=C (some ⟨gZ,0,none⟩) lb (lb+1))/\Hid (D 9=true->D 11=false->∃B,t9=I (some ⟨B,0,none⟩)/\Boxed V B 34 (C none 0 0)/\W0.heap.size<=B)/\Hid (D 10=true->D 12=false->∃B,bc=I (some ⟨B,0,none⟩)/\Boxed V B 34 (C none 0 0)/\W0.heap.size<=B)/\Hid (D 9=true->D 10=true->t9≠bc)/\Hid (D 11=true->∃B,t9=I (some ⟨B,0,none⟩)/\Boxed V B 34 bg/\W0.heap.size<=B)/\Hid (D 12=true->∃B,bc=I (some ⟨B,0,none⟩)/\Boxed V B 34 cg/\W0.heap.size<=B)/\Bl W0 V)
  (E8 ⟨_,_,_,J,Ja DM,Ja DM,Ja DM,Ja DM,Ja DM,Ja DM,Ja DM,Ja DM,Ja DM,Ja DM,Ja DM,Ja DM,Ja DM,Ja DM,(BB _ W0).drew⟩) ?step8 ?fin8
 case step8=>
  rintro D a2 V i ds ai ei b aj ⟨t9,bc,bd,bf,bg,bh,bi,ce,bj,bk,cg,rfl,P,R,g2,S,T,t,U,X,g8,N,z,gx,ae,ah,r⟩;have Qx:i<13:=(Ar.1 ei).1;obtain rfl|rfl|rfl|rfl|rfl|rfl|rfl|rfl|rfl|rfl|rfl|rfl|rfl:=G3 i Y
  all_goals
   simp only[AW,AP,A0]at ei;subst ei;clear Qx
  . clear b ai;refine Dd ?_;exact⟨Ja λ_=>rfl,R,g2,S,T,t,U,X,g8,N,z,gx,ae,ah,r⟩
  . clear b ai;refine Dd ?_;exact⟨P,Ja λ_=>rfl,g2,S,T,t,U,X,g8,N,z,gx,ae,ah,r⟩
  . have Ut:D 5=false:=DG ai aj;have Qb:D 11=false:=DG ai aj;have Qa:D 12=false:=DG ai aj;obtain rfl:=P.o (b 0 B5);obtain rfl:=R.o (b 1 B5);clear b ai;refine JG J J λK hK=>?_;go_simp;go_wp2_with(go_at_call 178;refine(Qr.o _ r).mono ?_;rintro e w5 ⟨t,Z5,rfl,⟨eb,ed,ef⟩,hA5,bu,ap⟩)
    exact E8 ⟨_,_,_,J,Ja λ_=>rfl,Ja λ_=>rfl,Ja λ_=>⟨t,Z5,J,hA5,eb,ed,ef,AB r.size bu⟩,S,T,Ja (λh=>by simp[Ut]at h),U,X,g8,Ja (λh h2=>by obtain⟨B,e,q,q2⟩:=N.o h h2;exact⟨B,e,Jk q ap,q2⟩),Ja (λh h2=>by obtain⟨B,e,q,q2⟩:=z.o h h2;exact⟨B,e,Jk q ap,q2⟩),gx,Ja (λh=>by simp[Qb]at h),Ja (λh=>by simp[Qa]at h),Bt r ap⟩
  . have k0:=(Jk Qf r).cell;clear b ai;refine Dd ?_;exact⟨P,R,g2,Ja λ_=>rfl,T,t,U,X,g8,N,z,gx,ae,ah,r⟩
  . clear b ai;refine Dd ?_;exact⟨P,R,g2,S,Ja λ_=>rfl,t,U,X,g8,N,z,gx,ae,ah,r⟩
  . have Uo:D 8=false:=DG ai aj;have Qb:D 11=false:=DG ai aj;have Qa:D 12=false:=DG ai aj;obtain rfl:=S.o (b 3 B5);obtain rfl:=T.o (b 4 B5);obtain⟨gR,Zr,hR⟩:=g2.o (b 2 B5);have ga:=hR.2.1.lt;clear b ai;refine JG J J λK hK=>?_;go_simp;go_wp2_with(go_at_call 178;refine(Qp.o _ r).mono ?_;rintro e w5 ⟨t,Z5,rfl,⟨eb,ed,ef⟩,hA5,bu,ap⟩)
    exact⟨_,_,_,_,_,_,_,_,_,_,_,J,P,R,Ja λ_=>⟨gR,Zr,hR.below ap⟩,Ja λ_=>rfl,Ja λ_=>rfl,Ja λ_=>⟨gR,Zr,t,Z5,hR.below ap,⟨J,hA5,eb,ed,ef,AB r.size bu⟩,Y⟩,U,X,Ja (λh=>by simp[Uo]at h),Ja (λh h2=>by obtain⟨B,e,q,q2⟩:=N.o h h2;exact⟨B,e,Jk q ap,q2⟩),Ja (λh h2=>by obtain⟨B,e,q,q2⟩:=z.o h h2;exact⟨B,e,Jk q ap,q2⟩),gx,Ja (λh=>by simp[Qb]at h),Ja (λh=>by simp[Qa]at h),Bt r ap⟩
  . have k0:=(Jk Qf r).cell;clear b ai;refine Dd ?_;exact⟨P,R,g2,S,T,t,Ja λ_=>rfl,X,g8,N,z,gx,ae,ah,r⟩
  . obtain rfl:=U.o (b 6 B5);clear b ai;refine Dd ?_;exact⟨P,R,g2,S,T,t,Ja λ_=>rfl,Ja λ_=>rfl,g8,N,z,gx,ae,ah,r⟩
  . have Qa:D 12=false:=DG ai aj;obtain⟨gR,Zr,gZ,Zb,hR,hZ,az⟩:=t.o (b 5 B5);obtain rfl:=hZ.1;obtain rfl:=X.o (b 7 B5);have b1:(0:Int)<=(lb:Int):=Y
    have b2:(lb:Int)<=(lb:Int)+1:=Y
    have b3:lb<=lb+1:=Y
    have b4:¬((lb:Int)+1<(lb:Int)):=Y
    clear b ai;refine Dd ?_;exact⟨P,R,g2,S,T,Ja λ_=>⟨gR,Zr,gZ,Zb,hR,hZ,az⟩,U,Ja λ_=>rfl,Ja λ_=>⟨gZ,J,J⟩,N,z,gx,ae,Ja (λh=>by simp[Qa]at h),r⟩
  . have Qb:D 11=false:=DG ai aj;have Qa:D 12=false:=DG ai aj;clear b ai;refine Dd ?_;exact⟨P,R,Ja (λh=>by obtain⟨g,Z,q⟩:=g2.o h;exact⟨g,Z,q.below (Ba V _)⟩),S,T,Ja (λh=>by obtain⟨gR,Zr,gZ,Zb,q1,q2,q3⟩:=t.o h;exact⟨gR,Zr,gZ,Zb,q1.below (Ba V _),q2.below (Ba V _),q3⟩),U,X,g8,Ja λ_ _=>⟨_,J,BJ _ _ _,r.size⟩,Ja (λh h2=>by obtain⟨B,e,q,q2⟩:=z.o h h2;exact⟨B,e,q.alloc _,q2⟩),Ja (λ_ h e=>by obtain⟨B,e2,q,q2⟩:=z.o (by simpa using h) Qa;have:=q.lt;rw[e2]at e;cases e;omega),Ja (λh=>by simp[Qb]at h),Ja (λh=>by simp[Qa]at h),r.alloc r.size _⟩
  . have Qb:D 11=false:=DG ai aj;have Qa:D 12=false:=DG ai aj;clear b ai;refine Dd ?_;exact⟨P,R,Ja (λh=>by obtain⟨g,Z,q⟩:=g2.o h;exact⟨g,Z,q.below (Ba V _)⟩),S,T,Ja (λh=>by obtain⟨gR,Zr,gZ,Zb,q1,q2,q3⟩:=t.o h;exact⟨gR,Zr,gZ,Zb,q1.below (Ba V _),q2.below (Ba V _),q3⟩),U,X,g8,Ja (λh h2=>by obtain⟨B,e,q,q2⟩:=N.o h h2;exact⟨B,e,q.alloc _,q2⟩),Ja λ_ _=>⟨_,J,BJ _ _ _,r.size⟩,Ja (λh _ e=>by obtain⟨B,e2,q,q2⟩:=N.o (by simpa using h) Qb;have:=q.lt;rw[e2]at e;cases e;omega),Ja (λh=>by simp[Qb]at h),Ja (λh=>by simp[Qa]at h),r.alloc r.size _⟩
  . have Qa:D 12=false:=DG ai aj;obtain⟨B,rfl,am,bz⟩:=N.o (b 9 B5) aj;obtain⟨gR,Zr,gZ,Zb,hR,hZ,az⟩:=t.o (b 5 B5);have k0:=am.cell;have f0:=am.frozen;obtain⟨B2,bm,eh,f6⟩:=z.o (b 10 B5) Qa;have Qt:B≠B2:=λe=>gx.o (b 9 B5) (b 10 B5) (by rw[bm,e]);obtain rfl:=bm;obtain rfl:=hR.1;clear N ae;clear b ai;refine Dd ?_;exact⟨P,R,Ja λ_=>⟨gR,Zr,hR.box Y am⟩,S,T,Ja λ_=>⟨gR,Zr,gZ,Zb,hR.box Y am,hZ.box Y am,az⟩,U,X,g8,Ja (λ_ h=>by simp at h),Ja λ_ _=>⟨B2,J,eh.kept (Bu _ B _) (λe=>by injection e;omega),f6⟩,gx,Ja λ_=>⟨B,J,am.set _,bz⟩,Ja (λh=>by simp[Qa]at h),r.setCell (p:=⟨B,0,none⟩) bz _⟩
  . obtain⟨B,rfl,am,bz⟩:=z.o (b 10 B5) aj;obtain⟨gR,Zr,gZ,Zb,hR,hZ,az⟩:=t.o (b 5 B5);obtain⟨fc,cj,dz⟩:=g8.o (b 8 B5);have k0:=am.cell;have f0:=am.frozen;obtain⟨B2,bm,eh,f6⟩:=ae.o (b 11 B5);have Qt:B≠B2:=λe=>gx.o (b 9 B5) (b 10 B5) (by rw[bm,e]);obtain rfl:=dz;obtain rfl:=cj;obtain rfl:=bm;have Qy:=b 11 B5;clear z ah;clear b ai;refine Dd ?_;exact⟨P,R,Ja λ_=>⟨gR,Zr,hR.box Y am⟩,S,T,Ja λ_=>⟨gR,Zr,gZ,Zb,hR.box Y am,hZ.box Y am,az⟩,U,X,Ja λ_=>⟨fc,J,J⟩,Ja (λ_ h=>by simp[Qy]at h),Ja (λ_ h=>by simp at h),gx,Ja λ_=>⟨B2,J,eh.kept (Bu _ B _) (λe=>by injection e;omega),f6⟩,Ja λ_=>⟨B,J,am.set _,bz⟩,r.setCell (p:=⟨B,0,none⟩) bz _⟩
 rintro D a2 o an ⟨t9,bc,bd,bf,bg,bh,bi,ce,bj,bk,cg,rfl,P,R,g2,S,T,t,U,X,g8,N,z,gx,ae,ah,r⟩;obtain⟨gR,Zr,gZ,Zb,hR,hZ,az⟩:=t.o (an 5 DB);obtain⟨fc,cj,dz⟩:=g8.o (an 8 DB);obtain⟨B9,rfl,bt,gl⟩:=ae.o (an 11 DB);obtain⟨B10,rfl,bn,gk⟩:=ah.o (an 12 DB);obtain rfl:=dz;obtain rfl:=hR.1;have e0:=hZ.1;rw[cj]at e0;cases e0;obtain rfl:=cj;clear P R g2 S T t U X g8 N z gx ae ah an Qr Qp Ua;obtain⟨K,hK⟩:∃K:Nat,(f:Int)+1-(lb:Int)=(K:Int):=⟨f+1-lb,Y⟩;have fx:M.wrap (K:Int)=(K:Int):=BM _ Y;have Uw:=X5 K Y o;have k9:=bt.cell;have Us:=bn.cell;have Qj:K+lb=f+1:=Y
 have Qi:=Ja Qj;clear Qj;go_wp2_with(go_at_call 147;refine((BK (n:=2)).1 (Fr Fence.wide _ trivial J _ _ _ _)).mono ?_;rintro e w' ⟨rfl,rfl⟩)
 refine(wpIn_wide (n:=3)).1 ?_;obtain⟨WQ,ay⟩:=ex (((o.alloc (.cells (cellsOf G (Td K 0)).toArray 163)).alloc (.cells #[C (some ⟨o.heap.size,0,none⟩) K K] 34)).alloc (.cells #[C (some ⟨o.heap.size,0,none⟩) K K] 34));have Uv:WQ.heap.size=o.heap.size+1+1+1:=by rw[<-ay];simp
 have Qk:Bl w o:=Bt Qg r;have Qs:=Ur.o;have Um:Bl w WQ:=by rw[<-ay];exact((Qk.alloc Qk.size _).alloc (by have:=Qk.size;simp;omega) _).alloc (by have:=Qk.size;simp;omega) _
 have lR:=hR.2.1.lt;have lZ:=hZ.2.1.lt;have l9:=bt.lt;have go:=bn.lt;have n9:gR≠B9:=λe=>hR.ne_box Y bt e;have gq:gR≠B10:=λe=>hR.ne_box Y bn e;have fs:=hR.2.2.2.2.2;have ft:=hZ.2.2.2.2.2;obtain⟨c,hc⟩:∃c:SplC,c=⟨w,C (some ⟨x,y,none⟩) lb cb,C (some ⟨gR,0,none⟩) (f+1) (f+1),C (some ⟨gZ,0,none⟩) lb (lb+1),C (some ⟨o.heap.size,0,none⟩) K K,B9,B10,o.heap.size+1,o.heap.size+1+1,gR,gZ,o.heap.size,Zb⟩:=⟨_,J⟩;have Ue:c.Apart:=by
  rw[hc];constructor<;>(simp only;omega)
 have Uc:c.Holds WQ:=by
  rw[hc,<-ay];have Ui:=(BJ (o.alloc (.cells (cellsOf G (Td K 0)).toArray 163)) 34 (C (some ⟨o.heap.size,0,none⟩) K K)).alloc (.cells #[C (some ⟨o.heap.size,0,none⟩) K K] 34);have Uf:=BJ ((o.alloc (.cells (cellsOf G (Td K 0)).toArray 163)).alloc (.cells #[C (some ⟨o.heap.size,0,none⟩) K K] 34)) 34 (C (some ⟨o.heap.size,0,none⟩) K K);simp only[A1]at Ui Uf;exact⟨(((Jk Qf r).alloc _).alloc _).alloc _,((bt.alloc _).alloc _).alloc _,((bn.alloc _).alloc _).alloc _,Ui,Uf,((hZ.2.1.alloc _).alloc _).alloc _,by rw[ay];exact Um⟩
 have Uh:C9 WQ gR Zr:=by rw[<-ay];exact((hR.2.1.alloc _).alloc _).alloc _
 have Qz:C9 WQ o.heap.size (Td K 0):=by rw[<-ay];exact((C9.made (BC o _)).alloc _).alloc _
 have Qu:Xp (m*2^s) (n*2^s) lb K K Zr (Td K 0):=Xp.start (by have:=Qi.o;rw[hR.2.2.1];omega) hR.2.2.2.1 hR.2.2.2.2.1 (by
  have h:=fk.o;rwa[show f-(l+1)=K from by have:=Qi.o;have:=Qc.o;omega]at h)
 obtain⟨ew,fh⟩:=P8 hZ.2.2.2.1 (by rw[hZ.2.2.1,Qc.o]) hZ.2.2.2.2.1 f7.o f9.o;have Ux:0<n*2^s:=by
  have h:=f9.o;have:=B3 (AR 63) (C3 (n:=l+1) (show 0<O by unfold O;omega));omega
 have Qh:n*2^s<O^lb:=by rw[Qc.o];exact f7.o
 have Up:=hZ.2.2.2.1;have gb:=hZ.2.2.1;rw[ay];clear ay Uw bt bn Qf Uq k9 Us hR hZ r Qk Uz;refine YS J Y (gf:=174) (lb:=#[I (some ⟨o.heap.size+1+1,0,none⟩)]) J trivial (B0 func174 Tc J)
  (Fq Fence.wide _ trivial J Y (o.heap.size+1+1) (some ⟨o.heap.size,0,none⟩) K K (λ_=>0) Y) (λ_=>rfl)
  (Lq c (m*2^s) (n*2^s) lb K) (λ_ _ _=>False) (QA c _ _ _ _ (by rw[hc,Uv];simp only;omega)) (λc _ _ _ _ h _ _=>h.elim)
  ⟨Uc,Zr,Td K 0,by rw[hc];exact Uh,by rw[hc];exact Qz,by rw[CY];exact Qu⟩ ?rd
  (λk=>{ tmps:=#[C a f ca,C (some ⟨x,y,none⟩) lb cb,E,I (some ⟨w.heap.size,0,none⟩),C none 0 0,C none 0 0,E,E,F G (s:Nat),I (some ⟨B9,0,none⟩),I (some ⟨B10,0,none⟩),I (some ⟨o.heap.size+1,0,none⟩),F M ((K:Int)-1-k),C a f ca,F M (f:Nat),C (some ⟨x,y,none⟩) lb cb,F M (lb:Nat),.bool false,E,E,C (some ⟨x,y,none⟩) lb cb,F M (lb:Nat),.bool false,E,E,E,E,E,E,E,E,E,E,E,E,C (some ⟨x,y,none⟩) lb cb,C (some ⟨x,y,none⟩) lb cb,F M (lb:Nat),F M (l1:Nat),I (some ⟨x,y+l1,none⟩),F G (d:Nat),F M (s:Nat),F G (s:Nat),bd,bf,C (some ⟨gR,0,none⟩) (f+1) (f+1),bh,bi,C (some ⟨gZ,0,none⟩) (lb+1) (lb+1),bj,bk,C (some ⟨gZ,0,none⟩) lb (lb+1),C (some ⟨gR,0,none⟩) (f+1) (f+1),F M ((f:Int)+1),C (some ⟨gZ,0,none⟩) lb (lb+1),F M (lb:Nat),F M (K:Nat),C (some ⟨o.heap.size,0,none⟩) K K,C (some ⟨o.heap.size,0,none⟩) K K,.func (.func 174) #[] #[I (some ⟨o.heap.size+1+1,0,none⟩)],F M ((K:Int)-1-k),F G 0,E,E,E,E,E,E,E,E,E,E,E,E,E,E,E,E,E,E],defers:=[] }) ?assign ?body ?done ?stop
 case rd=>
  rintro k W ⟨hh,D,Q,_,hQ,hL⟩;have Ud:=hh.b12;rw[hc]at Ud hQ;refine⟨Ud.cell,λhk=>⟨o.heap.size,0,J,?_⟩⟩;rw[Cp,hQ.cell (j:=K-1-k) (by rw[hL.2.2.1];omega),hL.2.2.2.2.2.2 (K-1-k) Y]
 case assign=>
  intro l k W K hK;unfold Xh;gi_wp2;exact hK
 case stop=>
  rintro D c k W _ _ h _;exact h.elim
 case body=>
  rintro l' k W ⟨hh,D,Q,hD,hQ,hL⟩ hk gj;have Ug:K-k=K-1-k+1:=Y
  rw[Ug]at hL;have e1:((K:Int)-1-k)=((K-1-k:Nat):Int):=Y
  have HI:=Ja (show K-(k+1)=K-1-k by omega);have Qn:K-1-k<K:=Y
  rw[e1];obtain⟨i,hi⟩:=ex (K-1-k);rw[hi]at hL Qn HI ⊢;clear Ug e1 hi;obtain⟨w1,w2,w3⟩:=hL.win Qn Qh;have Uu:=hL.1;have fy:=hL.2.2.1;have Ul:=Ja (show ∀(V:H) (nn:Nat),C9 V gR D->C9 V gZ Zb->CallsIn (Fence.wide.inRound l') nn L 179 #[C (some ⟨gR,i,none⟩) (lb+1) (f+1-i),C (some ⟨gZ,0,none⟩) lb (lb+1)] V λe w'=>
   ∃q,e=.returned (F G ((val O ((D.drop i).take (lb+1))/(n*2^s):Nat):Int))/\(q.length=lb+1/\B7 O q/\val O q=val O ((D.drop i).take (lb+1))%(n*2^s))/\C9 w' gR (DF D i (lb+1) q)/\V.grownBy w' (some gR)from λV nn h1 h2=>by
   have Qj:=Qi.o;have hz:=h2.row 0 lb (lb+1) Y Y Y Y;have Qw:=P7 gR i l (f+1-i) D (some ⟨gZ,0,none⟩) (lb+1) (Zb.take (l+2)) V h1 hL.2.1 (by rw[Uu];have:=Qc.o;omega) (by have:=Qc.o;omega) Y (by have:=Qc.o;omega)
    (by rw[At,Qc.o]at hz;rw[Qc.o];exact hz) (Up.take _) (λp e _=>by cases e;exact λh=>az h.symm) fh (by rw[ew];have:=w1;rw[Qc.o]at this;exact this)
   rw[ew]at Qw;have e3:l+3=lb+1:=by rw[Qc.o]
   have e2:l+2=lb:=Qc.o.symm;rw[e3,e2]at Qw;exact BZ l' ((BK (n:=nn)).2 Qw))
  have Un:=Ja λ(q:Ta) (h1:q.length=lb+1) (h2:B7 O q) (h3:val O q=val O ((D.drop i).take (lb+1))%(n*2^s))=>hL.step Qn Qh h1 h2 h3 Ux;obtain⟨qd,fg⟩:=ex (val O ((D.drop i).take (lb+1))/(n*2^s));rw[fg]at Un Ul;clear fg w1 w2 w3 hL ew fh Qu;obtain⟨H1,fu⟩:∃H1:Nat,(i:Int)+(lb:Int)=(H1:Int):=⟨i+lb,Y⟩;obtain⟨aq,hH⟩:∃aq:Nat,(H1:Int)+1=(aq:Int):=⟨H1+1,Y⟩;have fv:aq-i=lb+1:=Y
  have fw:aq<=f+1:=by have:=Qi.o;omega
  have gc:i<=aq:=Y
  have y1:(i:Int)<=(aq:Int):=Y
  have y2:(aq:Int)<=(f:Int)+1:=Y
  have y3:(0:Int)<=(i:Int):=Y
  have y4:(i:Int)<(K:Int):=Y
  have y5:M.wrap (H1:Int)=(H1:Int):=BM _ Y;have y6:M.wrap (aq:Int)=(aq:Int):=BM _ Y;gi_wp2_with fail
  refine Xo Dc [[],[],[],[],[],[],[5],[4,6],[7],[2,3,8],[],[9,10],[0,1,0,1,2,3,4,5,6,7,8,9,10,11],[12,11,11,0,1,2,3,4,5,6,7,8,9,10,11]] Tc DB
   (λDD ac V=>∃cn co cy cz de dh di dj dm dt du dw dx:Value,ac={ tmps:=#[C a f ca,C (some ⟨x,y,none⟩) lb cb,E,I (some ⟨w.heap.size,0,none⟩),C none 0 0,C none 0 0,E,E,F G (s:Nat),I (some ⟨B9,0,none⟩),I (some ⟨B10,0,none⟩),I (some ⟨o.heap.size+1,0,none⟩),F M (i:Nat),C a f ca,F M (f:Nat),C (some ⟨x,y,none⟩) lb cb,F M (lb:Nat),.bool false,E,E,C (some ⟨x,y,none⟩) lb cb,F M (lb:Nat),.bool false,E,E,E,E,E,E,E,E,E,E,E,E,C (some ⟨x,y,none⟩) lb cb,C (some ⟨x,y,none⟩) lb cb,F M (lb:Nat),F M (l1:Nat),I (some ⟨x,y+l1,none⟩),F G (d:Nat),F M (s:Nat),F G (s:Nat),bd,bf,C (some ⟨gR,0,none⟩) (f+1) (f+1),bh,bi,C (some ⟨gZ,0,none⟩) (lb+1) (lb+1),bj,bk,C (some ⟨gZ,0,none⟩) lb (lb+1),C (some ⟨gR,0,none⟩) (f+1) (f+1),F M ((f:Int)+1),C (some ⟨gZ,0,none⟩) lb (lb+1),F M (lb:Nat),F M (K:Nat),C (some ⟨o.heap.size,0,none⟩) K K,C (some ⟨o.heap.size,0,none⟩) K K,.func (.func 174) #[] #[I (some ⟨o.heap.size+1+1,0,none⟩)],F M (i:Nat),F G 0,cn,co,cy,cz,de,dh,di,dj,dm,dt,du,dw,dx,E,E,E,E,E],defers:=[] }/\Hid (DD 0=true->cn=C (some ⟨o.heap.size,0,none⟩) K K)/\Hid (DD 1=true->co=F M (i:Nat))/\Hid (DD 2=true->cy=C (some ⟨gR,0,none⟩) (f+1) (f+1))/\Hid (DD 3=true->cz=F M (i:Nat))/\Hid (DD 4=true->de=F M (i:Nat))/\Hid (DD 5=true->dh=C (some ⟨x,y,none⟩) lb cb)/\Hid (DD 6=true->di=F M (lb:Nat))/\Hid (DD 7=true->dj=F M (H1:Nat))/\Hid (DD 8=true->dm=F M (aq:Nat))/\Hid (DD 9=true->dt=C (some ⟨gR,i,none⟩) (lb+1) (f+1-i))/\Hid (DD 10=true->du=C (some ⟨gZ,0,none⟩) lb (lb+1))/\Hid (DD 11=true->dw=F G (qd:Nat))/\Hid (DD 12=true->dx=I (some ⟨o.heap.size,i,none⟩))/\∃D2,Hid (DD 11=true->∃q,(q.length=lb+1/\B7 O q/\val O q=val O ((D.drop i).take (lb+1))%(n*2^s))/\D2=DF D i (lb+1) q)/\SplM c W D D2 Q (Q.set i qd) (DD 11) (DD 13) V)
   (E8 ⟨_,_,_,_,_,J,Ja DM,Ja DM,Ja DM,Ja DM,Ja DM,Ja DM,Ja DM,Ja DM,Ja DM,Ja DM,Ja DM,Ja DM,Ja DM,D,Ja DM,SplM.drew ⟨KeepsOthers.refl _,hh,hD,hQ⟩⟩) ?step ?fin
  case fin=>
   rintro DD ac V an ⟨cn,co,cy,cz,de,dh,di,dj,dm,dt,du,dw,dx,rfl,P,R,g2,S,T,t,U,X,g8,N,z,ae,ah,D2,gd,A⟩;rw[an 11 DB,an 13 DB]at A;obtain⟨q,⟨en,er,et⟩,rfl⟩:=gd.o (an 11 DB);refine⟨A.k.from _,A.h,DF D i (lb+1) q,Q.set i qd,A.r,A.q,?_⟩;rw[HI.o];exact Un.o q en er et
  case step=>
   rintro DD ac V j ds ak hj b aj ⟨cn,co,cy,cz,de,dh,di,dj,dm,dt,du,dw,dx,rfl,P,R,g2,S,T,t,U,X,g8,N,z,ae,ah,D2,gd,A⟩;have Qv:j<14:=(Ar.1 hj).1;obtain rfl|rfl|rfl|rfl|rfl|rfl|rfl|rfl|rfl|rfl|rfl|rfl|rfl|rfl:=G4 j Y
   all_goals
    simp only[AW,AP,A0]at hj;subst hj;clear Qv
   . have b11:Boxed V (o.heap.size+1) 34 (C (some ⟨o.heap.size,0,none⟩) K K):=by have:=A.h.b11;rw[hc]at this;exact this
     have k0:=b11.cell;clear b ak;refine BX J λK2 ad=>?_;go_simp;exact ad _ _ (E8 ⟨_,_,_,_,_,J,Ja λ_=>rfl,R,g2,S,T,t,U,X,g8,N,z,ae,ah,D2,gd,A⟩)
   . clear b ak;refine BX J λK2 ad=>?_;go_simp;exact ad _ _ ⟨_,_,_,_,_,_,_,_,_,_,_,_,_,J,P,Ja λ_=>rfl,g2,S,T,t,U,X,g8,N,z,ae,ah,D2,gd,A⟩
   . have b9:Boxed V B9 34 (C (some ⟨gR,0,none⟩) (f+1) (f+1)):=by have:=A.h.b9;rw[hc]at this;exact this
     have k0:=b9.cell;clear b ak;refine BX J λK2 ad=>?_;go_simp;exact ad _ _ ⟨_,_,_,_,_,_,_,_,_,_,_,_,_,J,P,R,Ja λ_=>rfl,S,T,t,U,X,g8,N,z,ae,ah,D2,gd,A⟩
   . clear b ak;refine BX J λK2 ad=>?_;go_simp;exact ad _ _ ⟨_,_,_,_,_,_,_,_,_,_,_,_,_,J,P,R,g2,Ja λ_=>rfl,T,t,U,X,g8,N,z,ae,ah,D2,gd,A⟩
   . clear b ak;refine BX J λK2 ad=>?_;go_simp;exact ad _ _ ⟨_,_,_,_,_,_,_,_,_,_,_,_,_,J,P,R,g2,S,Ja λ_=>rfl,t,U,X,g8,N,z,ae,ah,D2,gd,A⟩
   . have b0:Boxed V w.heap.size 34 (C (some ⟨x,y,none⟩) lb cb):=by have:=A.h.b0;rw[hc]at this;exact this
     have k0:=b0.cell;clear b ak;refine BX J λK2 ad=>?_;go_simp;exact ad _ _ ⟨_,_,_,_,_,_,_,_,_,_,_,_,_,J,P,R,g2,S,T,Ja λ_=>rfl,U,X,g8,N,z,ae,ah,D2,gd,A⟩
   . obtain rfl:=t.o (b 5 B5);clear b ak;refine BX J λK2 ad=>?_;go_simp;exact ad _ _ ⟨_,_,_,_,_,_,_,_,_,_,_,_,_,J,P,R,g2,S,T,Ja λ_=>rfl,Ja λ_=>rfl,X,g8,N,z,ae,ah,D2,gd,A⟩
   . obtain rfl:=T.o (b 4 B5);obtain rfl:=U.o (b 6 B5);clear b ak;refine BX J λK2 ad=>?_;go_simp;exact ad _ _ ⟨_,_,_,_,_,_,_,_,_,_,_,_,_,J,P,R,g2,S,Ja λ_=>rfl,t,Ja λ_=>rfl,Ja λ_=>rfl,g8,N,z,ae,ah,D2,gd,A⟩
   . obtain rfl:=X.o (b 7 B5);clear b ak;refine BX J λK2 ad=>?_;go_simp;exact ad _ _ ⟨_,_,_,_,_,_,_,_,_,_,_,_,_,J,P,R,g2,S,T,t,U,Ja λ_=>rfl,Ja λ_=>rfl,N,z,ae,ah,D2,gd,A⟩
   . obtain rfl:=g2.o (b 2 B5);obtain rfl:=S.o (b 3 B5);obtain rfl:=g8.o (b 8 B5);have gi:¬(f+1=i):=Y
     clear b ak;refine BX J λK2 ad=>?_;go_simp;exact ad _ _ ⟨_,_,_,_,_,_,_,_,_,_,_,_,_,J,P,R,Ja λ_=>rfl,Ja λ_=>rfl,T,t,U,X,Ja λ_=>rfl,Ja λ_=>rfl,z,ae,ah,D2,gd,A⟩
   . have b10:Boxed V B10 34 (C (some ⟨gZ,0,none⟩) lb (lb+1)):=by have:=A.h.b10;rw[hc]at this;exact this
     have k0:=b10.cell;clear b ak;refine BX J λK2 ad=>?_;go_simp;exact ad _ _ ⟨_,_,_,_,_,_,_,_,_,_,_,_,_,J,P,R,g2,S,T,t,U,X,g8,N,Ja λ_=>rfl,ae,ah,D2,gd,A⟩
   . obtain rfl:=N.o (b 9 B5);obtain rfl:=z.o (b 10 B5);rw[aj]at A;have hr:C9 V gR D:=by have:=A.r;rw[hc]at this;exact this
     have hz:C9 V gZ Zb:=by have:=A.h.z;rw[hc]at this;exact this
     have HV:=Ja A;clear A;clear b ak;refine BX J λK2 ad=>?_;go_simp;gi_wp2_with(refine⟨trivial,?_⟩;gi_at_call 179;refine(Ul.o _ _ hr hz).mono ?_;rintro e w5 ⟨q,rfl,⟨en,er,et⟩,hA5,bu⟩)
     exact⟨_,_,_,_,_,_,_,_,_,_,_,_,_,J,P,R,g2,S,T,t,U,X,g8,Ja λ_=>rfl,Ja λ_=>rfl,Ja λ_=>rfl,ah,DF D i (lb+1) q,Ja λ_=>⟨q,⟨en,er,et⟩,J⟩,SplM.split (HV.o.any _) Ue (by rw[hc];exact bu) (by rw[hc];exact hA5)⟩
   . obtain rfl:=P.o (b 0 B5);obtain rfl:=R.o (b 1 B5);clear b ak;refine BX J λK2 ad=>?_;go_simp;exact ad _ _ (E8 ⟨_,_,_,_,_,J,Ja λ_=>rfl,Ja λ_=>rfl,g2,S,T,t,U,X,g8,N,z,ae,Ja λ_=>rfl,D2,gd,A⟩)
   . obtain rfl:=ae.o (b 11 B5);obtain rfl:=ah.o (b 12 B5);rw[aj]at A;have Ql:C9 V o.heap.size Q:=by have:=A.q;rw[hc]at this;exact this
     have k0:=Ql.cell (j:=i) Y;have f0:=Ql.frozen i;have Qm:SplM c W D D2 Q (Q.set i qd) (DD 11) true (V.setCell ⟨o.heap.size,i,none⟩ (F G (qd:Nat))):=by have:=A.store Ue (j:=i) (v:=qd) J;rw[hc]at this ⊢;exact this
     have Qo:=Ja Qm;clear Qm A;clear b ak;refine BX J λK2 ad=>?_;go_simp;exact ad _ _ ⟨_,_,_,_,_,_,_,_,_,_,_,_,_,J,P,R,g2,S,T,t,U,X,g8,N,z,Ja λ_=>rfl,Ja λ_=>rfl,D2,gd,Qo.o⟩
 case done=>
  rintro D W hD ⟨hh,D2,Q2,an,fd,hL⟩ ad;rw[AZ]at hL;obtain⟨f1,f2⟩:=hL.fin J J;have b11:Boxed W (o.heap.size+1) 34 (C (some ⟨o.heap.size,0,none⟩) K K):=by have:=hh.b11;rw[hc]at this;exact this
  have b9:Boxed W B9 34 (C (some ⟨gR,0,none⟩) (f+1) (f+1)):=by have:=hh.b9;rw[hc]at this;exact this
  have Uj:Bl w W:=by have:=hh.B;rw[hc]at this;exact this
  have hr:C9 W gR D2:=by have:=an;rw[hc]at this;exact this
  have Ql:C9 W o.heap.size Q2:=by have:=fd;rw[hc]at this;exact this
  have Qj:=Qi.o;have Qd:Row G W (C (some ⟨o.heap.size,0,none⟩) K K) Q2:=by
   have h1:=Ql.row 0 K K (by rw[hL.2.2.1];omega) (Aa _) Y Y;rwa[At,Ac (by rw[hL.2.2.1];exact Aa _)]at h1
  have Qe:Row G W (C (some ⟨gR,0,none⟩) (f+1) (f+1)) D2:=by
   have h1:=hr.row 0 (f+1) (f+1) (by rw[hL.1];omega) (Aa _) Y Y;rwa[At,Ac (by rw[hL.1];omega)]at h1
  have HT:=Ja (show ∀V:H,Bl W V->Calls L 132 #[C (some ⟨o.heap.size,0,none⟩) K K] V λe w'=>∃u,e=.returned u/\UN w' u (m/n)/\Bl V w' from λV h=>by
   have h1:=Yl _ Q2 V (Row.below Qd h);rw[f1]at h1;exact h1)
  have Uy:=Ja (show ∀V:H,Bl W V->Calls L 180 #[C (some ⟨gR,0,none⟩) (f+1) (f+1),F G (s:Nat)] V λe w'=>∃u,e=.returned u/\UN w' u (m%n)/\Bl V w' from λV h=>by
   have h1:=Pj _ _ _ D2 s V hs (Row.below Qe h) hL.2.1;rw[f2,Nat.mul_div_cancel _ (AR s)]at h1;exact h1)
  have gp:=b11.lt;have l9:=b9.lt;have Uk:=b11.cell;have k9:=b9.cell;clear hL f1 f2 Qd Qe hr Ql hh an fd Uc Uh Qz Qu Qj;go_upto_region 13 with fail
  have r:Bl W W.drew:=(BB _ W).drew;go_region_held3 (λw'=>w'.cell? ⟨o.heap.size+1,0,none⟩=some (C (some ⟨o.heap.size,0,none⟩) K K)/\w'.cell? ⟨B9,0,none⟩=some (C (some ⟨gR,0,none⟩) (f+1) (f+1))) (refine⟨?_,?_⟩<;>(first|(go_keep;done)|(simp[*];done)))
   (first
    |(go_at_call 132;refine(HT.o _ r).mono ?_;rintro e w5 ⟨u5,rfl,fi,ap⟩;obtain⟨ua,uc,rfl⟩:=UN.form fi;have r:=Bt r ap;have Uk:=(Jk b11 r).cell;have k9:=(Jk b9 r).cell)
    |(go_at_call 180;refine(Uy.o _ r).mono ?_;rintro e w6 ⟨u6,rfl,fj,fe⟩;obtain⟨va,vc,rfl⟩:=UN.form fj;have r:=Bt r fe;have Uk:=(Jk b11 r).cell;have k9:=(Jk b9 r).cell))
  all_goals go_wp2_with fail
  have Qq:w6.heap[D]?=some (.deferred (some [])):=(r.block D (Ab.1 ad).1).trans ad;refine⟨B5,.inl ⟨_,_,J,Bb Qq,?_⟩⟩;refine⟨.tuple #[C ua (Jb O (m/n)).length uc,C va (Jb O (m%n)).length vc],by simp[results,results151,go_sem],_,_,J,Ir (UN.below fi fe) Qq,Ir fj Qq,?_⟩;exact below_grown (Bt Uj r) (BU _ D (.deferred none)) (by have:=Um.size;omega)
end
section
variable{a:Ta}{P d g l rc:Nat}{u:Value}{W:H}
def Iv(a:Tb)(c f:Nat)(b:Tb)(lb g m n:Nat)(w:H)(k:Row G w (C a c f) (Jb O m))(o:Row G w (C b lb g) (Jb O n))(hn:n≠0)(X:c<1099511627776):
 Calls L 151 #[C a c f,C b lb g] w λe p=>∃u v,e=.returned (.tuple #[u,v])/\UN p u (m/n)/\UN p v (m%n)/\Bl w p:=by
 obtain⟨W,ad,am,ai,ah⟩:=Jm k;obtain⟨j,ae,an,aj,V⟩:=Jm o;have ak:lb≠0:=λe=>hn ((Jw Jd).1 (Ai (by rw[<-j,e])));by_cases Q:c<lb
 . exact Pk a c f b lb g m n w k o Q
 . by_cases R:lb=1
   . subst R;exact Pm a c f b g m n w k o Y
   . obtain⟨l,rfl⟩:∃l,lb=l+2:=⟨lb-2,Y⟩;obtain⟨B,D,rfl,U,kb⟩:=V (l+1) Y;have q:=Ji Jd n;have t:(Jb O n)[l+1]?.getD 0≠0:=by
      intro e;have S:=Jl O (Jb O n) (l+1);rw[Ac Y,e,A8,AV,Jj Jd]at S;have h4:=JX q (l+1);have r:=Yz Jd j.symm Y;rw[show l+2-1=l+1 from J]at r;omega
     have i:(Jb O n)[l+1]?.getD 0<O:=q.getD uo _;obtain⟨d,x⟩:=ex ((Jb O n)[l+1]?.getD 0);rw[x]at kb t i;obtain⟨K,N,P⟩:=bitLen_spec d t (by rw[<-FC];exact i);have T:Lib.bitLen d<=64:=by
      rcases AH 64 (Lib.bitLen d)with h|h
      . exfalso
        have r:2^64<=2^(Lib.bitLen d-1):=Al Y Y;rw[FC]at i;omega
      . exact h
     obtain⟨y,z⟩:=Lp (s:=64-Lib.bitLen d) q j.symm x N P K T J;rw[Jj Jd]at y z;have hm:m<O^c:=by
      have:=JV (Ji Jd m);rwa[Jj Jd,<-W]at this
     have A:O^(l+1)<=n:=Yz Jd j.symm Y;exact QC a c f B D l (l+2) (l+1) g m n d (64-Lib.bitLen d) w J Y U k o kb i Y (show _=_ by omega) Y X y z (P9 hm A Y)
theorem Iw{p:Nat}(a:p≠0)(h:p<O):Jb O p=[p]:=by
 grind[YR,Ca,AY,Jy]
def QD(a:Tb)(t:Nat)(b:Tb)(lb v x y:Nat)(w:H)(d:Row G w (C a 1 t) (Jb O x))(r:Row G w (C b lb v) (Jb O y))(B:y<O):
 Calls L 152 #[C a 1 t,C b lb v] w λe D=>∃u,e=.returned u/\UN D u (Nat.gcd x y)/\Bl w D:=by
 obtain⟨n,ae,am,ai,l⟩:=Jm d;obtain⟨c,ah,an,aj,m⟩:=Jm r;obtain⟨o,ap,T⟩:=Is n.symm;rcases AE lb with z|z
 . subst z;have k:=(Jw Jd).1 (Ai c.symm);subst k;have N:=Ja d;clear l m n c d r o;go_enter func152,ntmps152
   go_wp2_with fail
   go_ret;exact⟨_,J,by rw[Nat.gcd_zero_right];exact N.o,BB _ w⟩
 . have k:y≠0:=λe=>by rw[e,Jy]at c;simp at c;omega
   have i:=Iw k B;obtain rfl:lb=1:=by rw[c,i];rfl
   obtain⟨P,Q,rfl,X,ka⟩:=l 0 Y;obtain⟨R,S,rfl,ad,kb⟩:=m 0 Y;rw[o]at ka;rw[i]at kb;have aq:w.cell? ⟨P,Q,none⟩=some (F G (x:Nat)):=ka;have ay:w.cell? ⟨R,S,none⟩=some (F G (y:Nat)):=kb;clear l m n c d r o i ka kb;go_enter func152,ntmps152
   go_upto_region 3 with fail
   go_quiet (fail)
   go_wp2_with fail
   go_loopw [5,6] (λW s wr=>∃(p q j:Nat),W=F G (p:Nat)/\s=F G (q:Nat)/\p<O/\q<O/\p≠0/\Hid (Nat.gcd p q=Nat.gcd x y)/\wr=w.drewN j) (λ_ s _=>(intOf s).toNat)
   case atStart=>exact⟨x,y,_,J,J,T,B,Y,Ja J,J⟩
   case round=>
    obtain⟨p,q,j,rfl,rfl,hp,V,U,g,rfl⟩:=hrel;by_cases A:q=0
    . subst A;have f:=Ja (show p=Nat.gcd x y by rw[<-g.o,Nat.gcd_zero_right]);have K:=Ja (Iw U hp);clear g;go_wp2_with fail
      go_ret;refine⟨C (some ⟨w.heap.size,0,none⟩) 1 1,J,?_,(F2 (BB _ w) _).alloc (Aa _) _⟩;unfold UN;rw[<-f.o,K.o];exact(C9.made (xs:=[p]) (BC (w.drewN j) (.cells #[F G (p:Nat)] 163))).row 0 1 1 B5 Y Y Y
    . have f:=Ja (show Nat.gcd q (p%q)=Nat.gcd x y by rw[<-g.o,CI q,<-Nat.gcd_rec,CI]);have ak:=AJ p (show q>0 by omega);go_upto_region 5 with fail
      go_quiet (fail)
      go_wp2_with fail
      exact⟨⟨q,p%q,j+nq,J,B5,V,Y,A,f,B5⟩,by simp[intOf];omega⟩
def D5(W:H)(b:Nat)(u:Value)(g l rc P:Nat)(a:Ta):Prop:=
 u=C (some ⟨g,0,none⟩) l rc/\C9 W g a/\B7 O a/\l<=a.length/\l<=rc/\rc<=9223372036854775807/\l<=1099511627776/\a.take l=Jb O P/\b<=g
def D5.below{W W':H}{a g l rc P:Nat}{u:Value}{b:Ta}(h:D5 W a u g l rc P b)(c:Bl W W'):D5 W' a u g l rc P b:=
 ⟨h.1,h.2.1.below c,h.2.2⟩
def D5.un(h:D5 W d u g l rc P a):UN W u P:=by
 obtain⟨rfl,b,j,k,c,e,f,i,m⟩:=h;have:=b.row 0 l rc Y c e f;rw[At,i]at this;exact this
theorem QE{ds:Ta}(d:C9 W g a)(k:Row G W (C (some ⟨g,0,none⟩) l rc) ds)(hl:l<=a.length):a.take l=ds:=by
 obtain⟨m,_,_,_,c⟩:=Jm k;apply List.ext_getElem?;intro j;by_cases i:j<l
 . obtain⟨b,n,e,_,f⟩:=c j i;cases e;rw[Cp,d.cell Y]at f;grind
 grind
def Lr(a:Tb)(c s:Nat)(b:Tb)(lb t:Nat)(d f:Ta)(w:H)(W:B7 O d)(X:B7 O f)(U:c+lb<=1099511627776)
(m:Row G w (C a c s) d)(n:Row G w (C b lb t) f):
 Calls L 118 #[C a c s,C b lb t] w λe v=>∃u,e=.returned u/\UN v u (val O d*val O f)/\(val O d*val O f≠0->∃g l rc q,D5 v w.heap.size u g l rc (val O d*val O f) q)/\Bl w v:=by
 have z:=X5 (c+lb) Y w;rw[show((c+lb:Nat):Int)=(c:Int)+(lb:Int)from by omega]at z;obtain⟨j,o⟩:∃j,j=w.alloc (.cells (cellsOf G (Td (c+lb) 0)).toArray 163):=⟨_,J⟩;have r:Bl w j:=by rw[o];exact Ba w _
 have y:C9 j w.heap.size (Td (c+lb) 0):=by rw[o];exact C9.made (BC w _)
 rw[<-o]at z;have P:=Ja (PU w.heap.size (c+lb) (c+lb) (Td (c+lb) 0) a c s b lb t d f j W X y (λx V=>by rw[CJ V];unfold O;omega) DJ (Aa _) Y U (Row.below m r) (Row.below n r)
  (λp e k=>by have:=FB m e k;omega) λp e k=>by have:=FB n e k;omega)
 have ad:=(Jm m).2.1;have ae:=(Jm m).2.2.1;have ah:=(Jm n).2.1;have ai:=(Jm n).2.2.1;clear o y m n;go_enter func118,ntmps118
 go_wp2_with(go_at_call 153;refine P.o.mono ?_;rintro e w5 ⟨u,rfl,⟨i,T⟩,S,q,K,R,N⟩;obtain⟨ua,uc,rfl⟩:=UN.form i)
 go_ret;refine⟨_,J,i,λk=>?_,below_grown r T (Aa _)⟩;have Q:(Jb O (val O d*val O f)).length≠0:=λe=>k ((Jw Jd).1 (Ai e));rcases S with e|⟨l,e⟩
 . injection e with A B D
   exact absurd B Q
 . injection e with A B D
   subst A;subst D;rw[A3]at N;have hl:(Jb O (val O d*val O f)).length<=q.length:=by rw[N];exact(Jm i).2.1
   exact⟨_,_,_,q,J,K,R,hl,(Jm i).2.1,(Jm i).2.2.1,(Jm i).2.2.2.1,QE K i hl,Aa _⟩
theorem Ls{Q:Nat}(h:D5 W d u g l rc P a)(b:Tb)(lb i:Nat)(m:UN W (C b lb i) Q)(y:Q<=P)(A:∀p,b=some p->0<lb->p.block≠g):
 Calls L 148 #[u,C b lb i] W λe j=>∃c q,e=.returned (F G (c:Nat))/\(Row G j u q/\Jq q=Jb O (P-Q))/\W.grownBy j (some g):=by
 obtain⟨rfl,r,s,B,k,t,v,D,K⟩:=h;have hl:l=(Jb O P).length:=DJ
 have o:=(Jm m).1;refine(LF g 0 l rc a b lb i (Jb O Q) W r s Y k Y (by rw[hl,o];exact YC y) m (Ji Jd Q) A).mono ?_;rintro e j ⟨c,q,rfl,f,x,hg⟩;have z:DF a 0 l q=q++a.drop l:=by rw[DF,C5,Ah,Cp]
 have n:=f.1;refine⟨c,q,J,⟨?_,?_⟩,hg⟩
 . have w:=x.row 0 l rc DJ k t v;rwa[z,At,A4 Y,Ac Y]at w
 . have hs:XP (Jb O P) (Jb O Q) 0 l c q:=by
    refine⟨n,f.2.1,f.2.2.1,?_⟩;have:=f.2.2.2;grind
   grind[LG,YC]
def Lt{w V a:H}{o:Obj}(h:Bl w V)(k:Below (V.alloc o).heap.size (V.alloc o) a):Bl w a:=(h.alloc h.size o).trans (k.mono (h.alloc h.size o).size)
def Lu(x:Nat):val O [x]=x:=by rw[JQ,Fl,A8,AV]
theorem Lv(v t:Nat)(a:Tb)(la ca:Nat)(b:Tb)(lb cb A B:Nat)(w:H)(ra:Row G w (C a la ca) (Jb O A))(rb:Row G w (C b lb cb) (Jb O B))(ce:v<O)(cg:t<O)(cn:la<1099511627776)(co:lb<1099511627776)(h0:t*B≠0):
 Calls L 150 #[.agg #[F G (v:Nat),F G (t:Nat)],C a la ca,C b lb cb] w λe w'=>∃u,e=.returned u/\UN w' u (Y7 (v*A) (t*B))/\Bl w w':=by
 obtain⟨W0,ay⟩:=ex (w.alloc (.cells #[F G (v:Nat),F G (t:Nat)] 180));have Qa:Bl w W0:=by rw[<-ay];exact Ba w _
 have bx:Jg W0 w.heap.size 180 (F G (v:Nat)) (F G (t:Nat)):=by rw[<-ay];exact Jg.new w _ _ _
 have Qp:=Ja (show ∀(V:H) (g:Nat),Bl W0 V->C9 V g [v]->Calls L 118 #[C a la ca,C (some ⟨g,0,none⟩) 1 1] V λe w'=>∃u,e=.returned u/\UN w' u (v*A)/\(v*A≠0->∃g l rc zs,D5 w' V.heap.size u g l rc (v*A) zs)/\Bl V w' from λV g h hA=>by
  have o:=Lr a la ca (some ⟨g,0,none⟩) 1 1 (Jb O A) [v] V (Ji Jd A) (B7.cons ce (B7.nil _)) Y (Row.below (Row.below ra Qa) h) (hA.row 0 1 1 B5 Y Y Y);rw[Lu,Jj Jd,AC A v]at o;exact o)
 have Qo:=Ja (show ∀(V:H) (g:Nat),Bl W0 V->C9 V g [t]->Calls L 118 #[C b lb cb,C (some ⟨g,0,none⟩) 1 1] V λe w'=>∃u,e=.returned u/\UN w' u (t*B)/\(t*B≠0->∃g l rc zs,D5 w' V.heap.size u g l rc (t*B) zs)/\Bl V w' from λV g h hA=>by
  have o:=Lr b lb cb (some ⟨g,0,none⟩) 1 1 (Jb O B) [t] V (Ji Jd B) (B7.cons cg (B7.nil _)) Y (Row.below (Row.below rb Qa) h) (hA.row 0 1 1 B5 Y Y Y);rw[Lu,Jj Jd,AC B t]at o;exact o)
 have Qq:=Ja ay;clear ay ra rb;generalize v*A=n at *;generalize t*B=P2 at *;go_enter func150,ntmps150
 go_upto_region 1 with fail
 rw[Qq.o];refine J3 Dc [[],[],[1],[2],[0,3],[],[],[6],[7],[5,8,4],[4,9,0,1,2,3,4],[9,10,0,1,2,3,4,5,6,7,8,9,10]] Tc DB (λf ac V=>∃t7 t8 t9 az bc bd ah bf bg bh bi ap:Value,ac={ tmps:=#[.agg #[F G (v:Nat),F G (t:Nat)],C a la ca,C b lb cb,I (some ⟨w.heap.size,0,none⟩),E,E,C none 0 0,t7,t8,t9,az,bc,bd,ah,bf,bg,bh,bi,ap,E,E,E,E,E,E,E,E,E,E,E],defers:=[] }/\Hid (f 0=true->t9=C a la ca)/\Hid (f 1=true->az=I (some ⟨w.heap.size,0,none⟩))/\Hid (f 2=true->bc=F G (v:Nat))/\Hid (f 3=true->∃g,bd=C (some ⟨g,0,none⟩) 1 1/\C9 V g [v])/\Hid (f 4=true->UN V ah n/\(n≠0->∃d x y z,D5 V W0.heap.size ah d x y n z))/\Hid (f 5=true->bf=C b lb cb)/\Hid (f 6=true->bg=I (some ⟨w.heap.size,1,none⟩))/\Hid (f 7=true->bh=F G (t:Nat))/\Hid (f 8=true->∃g,bi=C (some ⟨g,0,none⟩) 1 1/\C9 V g [t])/\Hid (f 9=true->∃m l2 ai aj,D5 V W0.heap.size ap m l2 ai P2 aj/\UN V ah n/\(n≠0->∃d x y z,D5 V W0.heap.size ah d x y n z/\d≠m))/\Hid (f 10=true->t7=ah)/\Hid (f 11=true->t8=ap)/\Bl W0 V)
  (E8 ⟨_,_,_,_,J,Ja DM,Ja DM,Ja DM,Ja DM,Ja DM,Ja DM,Ja DM,Ja DM,Ja DM,Ja DM,Ja DM,Ja DM,(BB _ W0).drew⟩) ?step1 ?fin1
 case step1=>
  rintro f a2 V i ds s bm k ae ⟨t7,t8,t9,az,bc,bd,ah,bf,bg,bh,bi,ap,rfl,D,d,m,Q,R,S,T,U,W,X,N,P,j⟩;have Qm:i<12:=(Ar.1 bm).1;obtain rfl|rfl|rfl|rfl|rfl|rfl|rfl|rfl|rfl|rfl|rfl|rfl:=Fh i Y
  all_goals
   simp only[AW,AP,A0]at bm;subst bm;clear Qm
  . clear k s;refine Dd ?_;exact⟨Ja λ_=>rfl,d,m,Q,R,S,T,U,W,X,N,P,j⟩
  . clear k s;refine Dd ?_;exact⟨D,Ja λ_=>rfl,m,Q,R,S,T,U,W,X,N,P,j⟩
  . obtain rfl:=d.o (k 1 B5);have k0:=(bx.below j).c0;clear k s;refine Dd ?_;exact⟨D,Ja λ_=>rfl,Ja λ_=>rfl,Q,R,S,T,U,W,X,N,P,j⟩
  . have Qr:f 4=false:=by
     cases h:f 4 with
     |false=>rfl
     |true=>rw[s 4 _ J h 3 B5]at ae;cases ae
    obtain rfl:=m.o (k 2 B5);clear k s;refine Dd ?_;exact⟨D,d,Ja λ_=>rfl,Ja λ_=>⟨_,J,C9.made (xs:=[v]) (BC V _)⟩,Ja (λh=>by simp[Qr]at h),S,T,U,Ja (λh=>by obtain⟨g,e,q⟩:=W.o h;exact⟨g,e,q.below (Ba V _)⟩),Ja (λh=>by obtain⟨m,l2,ai,aj,q1,q2,q3⟩:=X.o h;exact⟨m,l2,ai,aj,q1.below (Ba V _),q2.below (Ba V _),λo=>by obtain⟨d,x,y,z,q,q4⟩:=q3 o;exact⟨d,x,y,z,q.below (Ba V _),q4⟩⟩),N,P,j.alloc j.size _⟩
  . have Qk:f 9=false:=by
     cases h:f 9 with
     |false=>rfl
     |true=>rw[s 9 _ J h 4 B5]at ae;cases ae
    have Qn:f 10=false:=by
     cases h:f 10 with
     |false=>rfl
     |true=>rw[s 10 _ J h 4 B5]at ae;cases ae
    obtain rfl:=D.o (k 0 B5);obtain⟨gm,rfl,am⟩:=Q.o (k 3 B5);clear k s;refine JG J J λK hK=>?_;go_simp;go_wp2_with(go_at_call 118;refine(Qp.o _ _ j am).mono ?_;rintro e w5 ⟨u5,rfl,bu,bn,ad⟩)
    exact E8 ⟨_,_,_,_,J,Ja λ_=>rfl,d,m,Ja λ_=>⟨gm,J,am.below ad⟩,Ja λ_=>⟨bu,λo=>by obtain⟨d,x,y,z,q⟩:=bn o;exact⟨d,x,y,z,q.1,q.2.1,q.2.2.1,q.2.2.2.1,q.2.2.2.2.1,q.2.2.2.2.2.1,q.2.2.2.2.2.2.1,q.2.2.2.2.2.2.2.1,AB j.size q.2.2.2.2.2.2.2.2⟩⟩,S,T,U,Ja (λh=>by obtain⟨g,e,q⟩:=W.o h;exact⟨g,e,q.below (ad)⟩),Ja (λh=>by simp[Qk]at h),Ja (λh=>by simp[Qn]at h),P,Bt j ad⟩
  . clear k s;refine Dd ?_;exact⟨D,d,m,Q,R,Ja λ_=>rfl,T,U,W,X,N,P,j⟩
  . clear k s;refine Dd ?_;exact⟨D,d,m,Q,R,S,Ja λ_=>rfl,U,W,X,N,P,j⟩
  . obtain rfl:=T.o (k 6 B5);have k0:=(bx.below j).c1;clear k s;refine Dd ?_;exact⟨D,d,m,Q,R,S,Ja λ_=>rfl,Ja λ_=>rfl,W,X,N,P,j⟩
  . have Qk:f 9=false:=by
     cases h:f 9 with
     |false=>rfl
     |true=>rw[s 9 _ J h 8 B5]at ae;cases ae
    obtain rfl:=U.o (k 7 B5);clear k s;refine Dd ?_;exact⟨D,d,m,Ja (λh=>by obtain⟨g,e,q⟩:=Q.o h;exact⟨g,e,q.below (Ba V _)⟩),Ja (λh=>by obtain⟨q1,q2⟩:=R.o h;exact⟨q1.below (Ba V _),λo=>by obtain⟨d,x,y,z,q⟩:=q2 o;exact⟨d,x,y,z,q.below (Ba V _)⟩⟩),S,T,Ja λ_=>rfl,Ja λ_=>⟨_,J,C9.made (xs:=[t]) (BC V _)⟩,Ja (λh=>by simp[Qk]at h),N,P,j.alloc j.size _⟩
  . have Ql:f 11=false:=by
     cases h:f 11 with
     |false=>rfl
     |true=>rw[s 11 _ J h 9 B5]at ae;cases ae
    obtain rfl:=S.o (k 5 B5);obtain⟨gm,rfl,am⟩:=W.o (k 8 B5);obtain⟨p1,p2⟩:=R.o (k 4 B5);clear k s;refine JG J J λK hK=>?_;go_simp;go_wp2_with(go_at_call 118;refine(Qo.o _ _ j am).mono ?_;rintro e w5 ⟨u5,rfl,bu,bn,ad⟩)
    exact⟨_,_,_,_,_,_,_,_,_,_,_,_,J,D,d,m,Ja (λh=>by obtain⟨g,e,q⟩:=Q.o h;exact⟨g,e,q.below (ad)⟩),Ja (λh=>by obtain⟨q1,q2⟩:=R.o h;exact⟨q1.below (ad),λo=>by obtain⟨d,x,y,z,q⟩:=q2 o;exact⟨d,x,y,z,q.below (ad)⟩⟩),Ja λ_=>rfl,T,U,Ja λ_=>⟨gm,J,am.below ad⟩,Ja (λ_=>by obtain⟨m,l2,ai,aj,q⟩:=bn h0;exact⟨m,l2,ai,aj,⟨q.1,q.2.1,q.2.2.1,q.2.2.2.1,q.2.2.2.2.1,q.2.2.2.2.2.1,q.2.2.2.2.2.2.1,q.2.2.2.2.2.2.2.1,AB j.size q.2.2.2.2.2.2.2.2⟩,p1.below ad,λo=>by obtain⟨d,x,y,z,r⟩:=p2 o;exact⟨d,x,y,z,r.below ad,by have:=r.2.1.lt;have:=q.2.2.2.2.2.2.2.2;omega⟩⟩),N,Ja (λh=>by simp[Ql]at h),Bt j ad⟩
  . clear k s;refine Dd ?_;exact⟨D,d,m,Q,R,S,T,U,W,X,Ja λ_=>rfl,P,j⟩
  . clear k s;refine Dd ?_;exact⟨D,d,m,Q,R,S,T,U,W,X,N,Ja λ_=>rfl,j⟩
 rintro f cj V1 aq ⟨t7,t8,t9,az,bc,bd,ah,bf,bg,bh,bi,ap,rfl,D,d,m,Q,R,S,T,U,W,X,N,P,j⟩;obtain⟨gB,l2,ai,aj,o2,an,o1⟩:=X.o (aq 9 DB);obtain rfl:=N.o (aq 10 DB);obtain rfl:=P.o (aq 11 DB);obtain⟨a1,c1,rfl⟩:=UN.form an;have Qd:=o2.un;obtain⟨a2,c2,rfl⟩:=UN.form Qd;clear D d m Q R S T U W X N P aq Qp Qo;have Qi:∀p,a1=some p->0<(Jb O n).length->p.block≠gB:=λp e o=>by
  have hp:n≠0:=λe0=>by rw[e0,Jy]at o;simp at o
  obtain⟨d,x,y,z,r,r2⟩:=o1 hp;have:=r.1;grind
 have HO:=Ja (Ic _ _ (Jb O n) (Jb O P2) V1 an Qd (Ji Jd n) (Ji Jd P2) (JY Jd n) (JY Jd P2));rw[Jj Jd,Jj Jd]at HO;have Qg:=Bt Qa j;have Qj:=o2.2.2.2.2.2.2.2.2;by_cases bz:n<P2
 . have Qb:=Xg bz;rw[Qb]at HO;have Qf:=Ja λ(V:H) (h:Bl V1 V)=>Ls (o2.below h) a1 (Jb O n).length c1 (an.below h) Y Qi;have HD:=Ja (show P2-n=Y7 n P2 by unfold Y7;omega);clear Qb an Qd o1 Qi;go_upto_region 4 with(go_at_call 114;refine HO.o.mono ?_;rintro e w2 ⟨rfl,ak⟩)
   go_upto_region 5 with(go_at_call 148;refine(Qf.o _ ak).mono ?_;rintro e w3 ⟨c,q,rfl,⟨hr,bt⟩,bk⟩)
   have Qc:=Ja (Yl _ q _ hr);rw[bt,HD.o]at Qc;clear Qf HO;go_wp2_with(go_at_call 132;refine Qc.o.mono ?_;rintro e w4 ⟨u,rfl,hu,bj⟩;obtain⟨ua,uc,rfl⟩:=UN.form hu)
   go_ret;have Qe:=below_grown (Bt Qg ak) bk (AB Qa.size Qj);exact⟨_,J,hu,Bt Qe bj⟩
 . obtain⟨cm,Qb,ck⟩:∃cm:Int,Yt n P2=cm/\¬(cm<0):=⟨_,J,by unfold Yt;omega⟩;rw[Qb]at HO;obtain⟨d,x,y,z,r,r2⟩:=o1 Y;have Qh:=r.2.2.2.2.2.2.2.2;have Qf:=Ja (λ(V:H) (h:Bl V1 V)=>Ls (r.below h) a2 (Jb O P2).length c2 (Qd.below h) Y (λp e _=>by
    have:=o2.1;grind))
   have HD:=Ja (show n-P2=Y7 n P2 by unfold Y7;omega);clear Qb an Qd o1 Qi;go_upto_region 4 with(go_at_call 114;refine HO.o.mono ?_;rintro e w2 ⟨rfl,ak⟩)
   go_upto_region 5 with(go_at_call 148;refine(Qf.o _ ak).mono ?_;rintro e w3 ⟨c,q,rfl,⟨hr,bt⟩,bk⟩)
   have Qc:=Ja (Yl _ q _ hr);rw[bt,HD.o]at Qc;clear Qf HO;go_wp2_with(go_at_call 132;refine Qc.o.mono ?_;rintro e w4 ⟨u,rfl,hu,bj⟩;obtain⟨ua,uc,rfl⟩:=UN.form hu)
   go_ret;have Qe:=below_grown (Bt Qg ak) bk (AB Qa.size Qh);exact⟨_,J,hu,Bt Qe bj⟩
end
def X7(x k s:Nat):Nat:=x/(O^k*2^(64-s))
variable{a:Ta}{k s:Nat}
def QF(hl:a.length=k+2)(b:B7 O a)(hs:s<=63)(f:a[k+1]?.getD 0<2^(64-s)):
 X7 (val O a) k s=DZ (a[k+1]?.getD 0) s+DS (a[k]?.getD 0) (64-s)/\DZ (a[k+1]?.getD 0) s ||| DS (a[k]?.getD 0) (64-s)=DZ (a[k+1]?.getD 0) s+DS (a[k]?.getD 0) (64-s):=by
 have g:=Ln hl;have c:=JX b k;have i:=b.getD (show 0<O by unfold O;omega) k;have hp:=X6 (s:=s) Y;have e:DZ (a[k+1]?.getD 0) s=a[k+1]?.getD 0*2^s:=by rw[F0 Y,Ca f]
 rw[e];have d:DS (a[k]?.getD 0) (64-s)<2^s:=by
  unfold DS;rw[Ap (AR _),hp];exact i
 refine⟨?_,by rw[AC,<-CC d]⟩;unfold X7 DS;rw[g,<-Nat.div_div_eq_div_mul,AC _ (O^k),Nat.mul_add_div (C3 uo),AY c,AV,<-hp,<-Ce,CP,Nat.add_mul_div_right _ _ (AR _)];omega
def QG(hl:a.length=k+1)(d:B7 O a):X7 (val O a) k s=DS (a[k]?.getD 0) (64-s):=by
 have b:=Jl O a k;rw[Ac Y]at b;have c:=JX d k;unfold X7 DS;rw[b,<-Nat.div_div_eq_div_mul,CP,Nat.mul_add_div (C3 uo),AY c,AV]
def QH(hl:a.length<=k)(b:B7 O a):X7 (val O a) k s=0:=by
 unfold X7;apply AY;have c:=JV b;have d:O^a.length<=O^k:=Al uo hl;have e:=Cg (O^k) (AR (64-s));omega
def Lw(a:Tb)(c u:Nat)(d:Ta)(k g f s:Nat)(w:H)(o:Row G w (C a c u) d)(p:B7 O d)(r:f=k+2)(B:(f:Int)-1=g)(D:(f:Int)-2=k)(hs:s<=63)(U:c<=f)(W:f<=1099511627776)(n:c=f->d[k+1]?.getD 0<2^(64-s)):
 Calls L 177 #[C a c u,F M (f:Nat),F G (s:Nat)] w λe R=>e=.returned (F G (X7 (val O d) k s:Nat))/\Bl w R:=by
 obtain⟨hl,S,V,T,j⟩:=Jm o;have i1:M.wrap ((f:Int)-1)=(g:Int):=by rw[B];exact BM _ Y
 have i2:M.wrap ((f:Int)-2)=(k:Int):=by rw[D];exact BM _ Y
 have i3:M.wrap (g:Int)=(g:Int):=BM _ Y;have i4:M.wrap (k:Int)=(k:Int):=BM _ Y;have i5:G.wrap ((64:Int)-s)=((64-s:Nat):Int):=by rw[BN];omega
 have q:=Io (d[k+1]?.getD 0) s;have z:=Ip (d[k]?.getD 0) (64-s);have l:=p.getD (show 0<O by unfold O;omega) k;have m:=Iq (show DZ (d[k+1]?.getD 0) s<O by unfold DZ;exact AJ _ uo) (show DS (d[k]?.getD 0) (64-s)<O from CQ (CH _ _) l);obtain rfl|X:=Decidable.em (c=f)
 . obtain⟨b,Q,rfl,N,c1⟩:=j (k+1) Y;obtain⟨_,_,A,_,c0⟩:=j k Y;cases A;obtain⟨v,x⟩:=QF Y p hs (n J);rw[x]at m;have i:=Ja v;have t:g=k+1:=Y
   rw[<-t]at c1 q m i;have j1:(g:Int)<(c:Int):=Y
   have j2:(k:Int)<(c:Int):=Y
   have j3:(0:Int)<=(g:Int):=Y
   have j4:(0:Int)<=(k:Int):=Y
   have j5:g<c:=Y
   have P:k<c:=Y
   clear t j o v x n hl r l;generalize d[g]?.getD 0=x1 at *;generalize d[k]?.getD 0=x0 at *;go_enter func177,ntmps177
   go_upto_region 3 with fail
   go_quiet (fail)
   go_wp2_with fail
   go_ret;refine⟨?_,F2 (BB _ w) _⟩;rw[i.o];first|rfl|(simp;done)
 . by_cases K:c=g
   . subst K;obtain⟨b,Q,rfl,N,c0⟩:=j k Y;have i:=Ja (QG (s:=s) (show d.length=k+1 by omega) p);have P:k<c:=Y
     have y:¬((c:Int)=(f:Int)):=Y
     clear j o n hl r l m q;generalize d[k]?.getD 0=x0 at *;go_enter func177,ntmps177
     go_wp2_with fail
     go_ret;refine⟨?_,BB _ w⟩;rw[i.o];first|rfl|(simp;done)
   . have i:=Ja (QH (s:=s) (show d.length<=k by omega) p);have y:¬((c:Int)=(f:Int)):=Y
     have ad:¬((c:Int)=(g:Int)):=Y
     clear j o n hl r l q z m;go_enter func177,ntmps177
     go_wp2_with fail
     go_ret;refine⟨?_,BB _ w⟩;rw[i.o];first|rfl|(simp;done)

