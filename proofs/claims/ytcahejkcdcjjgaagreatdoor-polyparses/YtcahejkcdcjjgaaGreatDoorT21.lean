import Derived.Test.YtcahejkcdcjjgaaGreatDoorT18
import Derived.Test.YtcahejkcdcjjgaaGreatDoorT04
set_option linter.all false
open Go.Value renaming slice->C,int->F,pointer->I
open Go renaming undef->E,World->H
open Go.IntKind renaming u64->G,i64->M
open Go.Proofs.Tryz renaming prog->L
set_option maxRecDepth 99999
set_option maxHeartbeats 0
namespace Go.Proofs.YtcahejkcdcjjgaaGreatDoor
open List renaming replicate->TU
open Proofs.Tryz
open Go.RowKit Go.Shelf
attribute [local go_sem] Oper.semAt_some
section
def Bh:=@IntWalk.u64_in
def BO:=@IntWalk.i64_in
variable{ds f xs:Ja}{B R V c d0 d1 g j l len n q r ro s u0:Nat}{v:Value}{w:H}
theorem La(h:ds.length=n+2):val O ds=(ds[n+1]?.getD 0*O+ds[n]?.getD 0)*O^n+val O (ds.take n):=by
 have a:=Jm O ds (n+1);rw[Ac Y,Jm,Ca]at a;rw[a];grind
theorem Pj(h:ds.length=n+3):val O ds=((ds[n+2]?.getD 0*O+ds[n+1]?.getD 0)*O+ds[n]?.getD 0)*O^n+val O (ds.take n):=by
 have a:=Jm O ds (n+2);rw[Ac Y,Jm,Jm,Ca,Ca]at a;rw[a];grind
theorem JY(h:DA O ds)(n:Nat):val O (ds.take n)<O^n:=by
 have:=JW (h.take n);grind[Al,Am,O]
def Fl{a:H}(h:Below B a w)(n:Nat):Below B a (w.drewN n):=h.trans ⟨J,J,J,Aa _,λ_ _=>rfl⟩
theorem Lb(a:u0<O)(h:YM q d0<r\/YM q d0=r/\J0 q d0<=u0):q*d0<=r*O+u0:=by
 grind[YM,J0,O]
theorem Pk(b:u0<O)(h:¬(YM q d0<r))(a:¬(YM q d0=r/\J0 q d0<=u0)):r*O+u0<q*d0:=by
 grind[YM,J0,O]
theorem Pl{u2 u1 E:Nat}(b:R=((u2*O+u1)*O+u0)*E+c)(e:V=(d1*O+d0)*E+j)(i:j<E)(f:O<=2*d1)(g:d0<O)(d:R<V*O)(h:d1<=u2):EJ R V (O-1):=by
 have a:d0*E+j<O*E:=by
  have:=Af E (show d0+1<=O from g);grind
 refine Nq (d1:=d1) (E:=O*E) (lo:=(u2-d1)*(O*(O*E))+(u1*O+u0)*E+c) (lo2:=d0*E+j) ?_ ?_ a f d Jc
 . obtain⟨t,rfl⟩:∃t,u2=d1+t:=⟨u2-d1,Y⟩;rw[b,Nat.add_sub_cancel_left];grind
 . rw[e];grind
def Pm{U E:Nat}(a:R=(U*O+u0)*E+c)(d:V=(d1*O+d0)*E+j)(b:c<E)(e:j<E)(f:O<=2*d1)(i:q<O)(h:q=(U*O+u0)/(d1*O+d0)):EJ R V q:=by
 rw[h];have hp:0<d1:=by unfold O at f;omega
 have g:=Cd O hp;exact Np a d b e (by rw[<-h];omega) Y
def Pn(l a j:Nat)(h1:(l:Int)-1=a)(h2:(l:Int)-2=j)(b i T W ca cb u2 u1 u0 d1 d0 R V:Nat)(w:H)(hl:l<=1099511627776)
(ka:w.cell? ⟨b,i+l,none⟩=some (F G (u2:Nat)))(ak:w.cell? ⟨b,i+a,none⟩=some (F G (u1:Nat)))(aj:w.cell? ⟨b,i+j,none⟩=some (F G (u0:Nat)))
(kb:w.cell? ⟨T,W+a,none⟩=some (F G (d1:Nat)))(bf:w.cell? ⟨T,W+j,none⟩=some (F G (d0:Nat)))(X:b<w.heap.size)
(ai:u1<O)(N:u0<O)(ad:d1<O)(n:d0<O)(ae:0<d1)
(HT:Hid (d1<=u2->EJ R V (O-1)))(A:Hid (∀q:Nat,q<O->q=((u2*O+u1)*O+u0)/(d1*O+d0)->EJ R V q)):
 Calls L 198 #[C (some ⟨b,i,none⟩) (l+1) ca,C (some ⟨T,W,none⟩) l cb] w λe d=>∃g,e=.returned (F G (g:Nat))/\g<O/\EJ R V g/\Bl w d:=by
 have i1:M.wrap ((l:Int)-1)=(a:Int):=by rw[h1];exact BO _ Y
 have i2:M.wrap ((l:Int)-2)=(j:Int):=by rw[h2];exact BO _ Y
 have j1:(a:Int)<(l:Int):=Y
 have j2:(j:Int)<(l:Int):=Y
 have j3:(a:Int)<(l:Int)+1:=Y
 have j4:(j:Int)<(l:Int)+1:=Y
 have i3:M.wrap (a:Int)=(a:Int):=BO _ Y;have j5:a<l:=Y
 have az:a<l+1:=Y
 have bc:a<=l:=Y
 have bd:(a:Int)<=(l:Int):=Y
 have j7:(l:Int)<(l:Int)+1:=Y
 have j8:(0:Int)<=(l:Int):=Y
 have j9:(0:Int)<=(a:Int):=Y
 have ay:(0:Int)<=(j:Int):=Y
 have j6:j<l:=Y
 go_enter func198,ntmps198
 go_upto_region 2 with fail
 go_quiet (fail)
 by_cases ah:d1<=u2
 . go_wp2_with fail
   go_ret;exact⟨O-1,J,by unfold O;omega,HT.o ah,Fl (BB _ w) _⟩
 . have D:=Nl (B:=O) (u:=u2*O+u1) (u1:=u0) (d1:=d1) (d0:=d0) ae ad N (by
    have:=Af O (show u2+1<=d1 by omega);rw[Cn,C2]at this;omega)
   have Qd:=Z λV=>LE u2 u1 d1 Y ai ad V;have Qf:=D.2.2.1;have Qe:=D.2.2.2;have f:=Z D;clear D HT;generalize hX:(u2*O+u1)/d1=q0 at *;generalize hY:(u2*O+u1)%d1=r0 at *;generalize hZ:u2*O+u1=U at *;clear hX hY hZ;go_wp2_with fail
   have v:Bl w (w.drewN (nq+1)):=Fl (BB _ w) _;go_region_held3 (λd=>d.cell? ⟨b,i+l,none⟩=some (F G (u2:Nat))/\d.cell? ⟨b,i+a,none⟩=some (F G (u1:Nat))) (refine⟨?_,?_⟩<;>(first|(go_keep;done)|(simp[*];done)))
    (first|(go_at_call 164;refine(Qd.o _).mono ?_;rintro e w1 ⟨rfl,K⟩;have bi:=(K.cell (p:=⟨b,i+l,none⟩) (show b<w.heap.size from X)).trans ka;have bh:=(K.cell (p:=⟨b,i+a,none⟩) (show b<w.heap.size from X)).trans ak;have bg:=(K.cell (p:=⟨b,i+j,none⟩) (show b<w.heap.size from X)).trans aj))
   have v:Bl w w1:=Bt v K;go_wp2_with fail
   go_loopw [8,9] (λqv rv wr=>∃(q r:Nat),qv=F G (q:Nat)/\rv=F G (r:Nat)/\q<O/\r<O/\Hid (F7 O U u0 d1 d0 q r)/\wr=w1) (λqv _ _=>(intOf qv).toNat)
   case atStart=>exact⟨q0,r0,J,J,Qf,Qe,f,J⟩
   case round=>
    clear Qd f;obtain⟨q,r,rfl,rfl,c,aq,f,rfl⟩:=hrel;have k:0<d1*O:=C8 ae uo;by_cases c1:YM q d0<r
    . have t:=Z (A.o q c (He f.o.1 f.o.2.1 k (Lb N (Ao c1))));clear k;go_wp2_with(first
       |(go_at_call 190;refine(XN _ _ c n _).mono ?_;rintro e d ⟨rfl,rfl⟩))
      go_ret;exact⟨q,J,c,t.o,v⟩
    . by_cases c2:YM q d0=r/\J0 q d0<=u0
      . have t:=Z (A.o q c (He f.o.1 f.o.2.1 k (Lb N (Aw c2))));obtain⟨c2,c3⟩:=c2;subst c2;clear k;go_wp2_with(first
         |(go_at_call 190;refine(XN _ _ c n _).mono ?_;rintro e d ⟨rfl,rfl⟩))
        go_ret;exact⟨q,J,c,t.o,v⟩
      . obtain⟨g1,x,y,m⟩:=Nm f.o k (Pk N c1 c2);obtain⟨p,hp⟩:=ex (q-1:Nat);rw[hp]at x y m;have am:(q:Int)-1=(p:Int):=Y
        have an:p<q:=Y
        have ap:G.wrap (p:Int)=(p:Int):=by rw[BR];unfold O at c;omega
        clear hp g1 f;have S:=GH r d1;have P:=Z (A.o p);clear A;by_cases o:r+d1<O
        . have v1:J3 r d1 0=r+d1:=by unfold J3;rw[AU,Cc o]
          have z:Yl r d1 0=0:=by unfold Yl;rw[AU,AQ o]
          rw[v1,z]at S;have Q:=Z (show F7 O U u0 d1 d0 p (r+d1)from⟨x,y,m,o⟩);clear x y v1 z k P;obtain⟨s,hs⟩:=ex (r+d1);rw[hs]at S Q o;clear hs;by_cases c3:YM q d0=r
          . have c4:¬(J0 q d0<=u0):=λh=>c2 ⟨c3,h⟩;clear c2;go_wp2_with(first
             |(go_at_call 190;refine(XN _ _ c n _).mono ?_;rintro e d ⟨rfl,rfl⟩))
            exact⟨⟨p,s,J,J,m,o,Q,by first|trivial|rfl⟩,by simp[intOf];omega⟩
          . clear c2;go_wp2_with(first
             |(go_at_call 190;refine(XN _ _ c n _).mono ?_;rintro e d ⟨rfl,rfl⟩))
            exact⟨⟨p,s,J,J,m,o,Q,by first|trivial|rfl⟩,by simp[intOf];omega⟩
        . have t:=Z (P.o m (Nn x y m n k Y));have z:Yl r d1 0=1:=by unfold Yl;unfold O at *;omega
          rw[z]at S;generalize J3 r d1 0=s at *;clear x y z k P o;by_cases c3:YM q d0=r
          . have c4:¬(J0 q d0<=u0):=λh=>c2 ⟨c3,h⟩;clear c2;go_wp2_with(first
             |(go_at_call 190;refine(XN _ _ c n _).mono ?_;rintro e d ⟨rfl,rfl⟩))
            go_ret;exact⟨p,J,m,t.o,v⟩
          . clear c2;go_wp2_with(first
             |(go_at_call 190;refine(XN _ _ c n _).mono ?_;rintro e d ⟨rfl,rfl⟩))
            go_ret;exact⟨p,J,m,t.o,v⟩
def Po(a b:TS)(n j k:Nat)(i bs:Ja)(w:H)(Q:Row G w (C a (n+3) j) i)(R:Row G w (C b (n+2) k) bs)(o:DA O i)(f:DA O bs)
(l:O<=2*bs[n+1]?.getD 0)(y:val O i<val O bs*O):
 Calls L 198 #[C a (n+3) j,C b (n+2) k] w λe S=>∃g,e=.returned (F G (g:Nat))/\g<O/\EJ (val O i) (val O bs) g/\Bl w S:=by
 obtain⟨A,U,ad,W,m⟩:=Jn Q;obtain⟨B,V,ae,X,s⟩:=Jn R;obtain⟨t,u,rfl,z,ka⟩:=m (n+2) Y;obtain⟨_,_,c,_,N⟩:=m (n+1) Y;cases c;obtain⟨_,_,c,_,K⟩:=m n Y;cases c;obtain⟨v,x,rfl,T,kb⟩:=s (n+1) Y;obtain⟨_,_,c,_,P⟩:=s n Y;cases c;have d:0<O:=by unfold O;omega
 have p:=Pj A.symm;have r:=La B.symm;exact Pn (n+2) (n+1) n Y Y t u v x j k _ _ _ _ _ _ _ w Y ka N K kb P z (o.getD d _) (o.getD d _) (f.getD d _) (f.getD d _) (by unfold O at l;omega)
  (λh=>Pl p r (JY f n) l (f.getD d _) y h) λq D h=>Pm p r (JY o n) (JY f n) l D h
def DE.win{W:H}{b:Nat}(h:DE W b xs)(a len cap:Nat)(c:a+len<=xs.length)(d:len<=cap)(e:cap<=9223372036854775807)(f:len<=1099511627776):Row G W (C (some ⟨b,a,none⟩) len cap) ((xs.drop a).take len):=
 h.row a len cap c d e f
def Pp{q:Ja}(a:q.length=len)(h:ro+len<=xs.length):((DJ xs ro len q).drop ro).take len=q:=by
 rw[DJ,List.drop_append_of_le_length (by rw[Ae];omega),Au (by rw[Ae];omega),Ag,A4 Y,Ac Y]
def Pq{p q:Ja}(hp:p.length=len)(h:ro+len<=xs.length):DJ (DJ xs ro len p) ro len q=DJ xs ro len q:=by
 have a:(xs.take ro).length=ro:=by rw[Ae];omega
 rw[DJ,DJ,DJ,A4 Y,Ac Y,List.drop_append,a,show ro+len-ro=len from by omega,Au Y,Ag,List.drop_append,hp,AV,Au Y,Ag,AA]
def Pr{q:Ja}(a:DA O xs)(c:DA O q):DA O (DJ xs ro len q):=by
 intro x b;rw[DJ]at b;rcases Cp.1 b with h|h
 . exact(a.take ro) x h
 . rcases Cp.1 h with h|h
   . exact c x h
   . exact(a.drop _) x h
def Ps(d ro n cap:Nat)(xs:Ja)(a:TS)(j:Nat)(bs:Ja)(w:H)
(u:DE w d xs)(z:DA O xs)(ai:ro+(n+3)<=xs.length)(y:n+3<=cap)(aj:cap<=9223372036854775807)(hn:n+3<=1099511627776)(l:Row G w (C a (n+2) j) bs)(m:DA O bs)(ad:∀p,a=some p->0<n+2->p.block≠d)
(X:O<=2*bs[n+1]?.getD 0)(W:val O ((xs.drop ro).take (n+3))<val O bs*O):
 Calls L 179 #[C (some ⟨d,ro,none⟩) (n+3) cap,C a (n+2) j] w λe w'=>
  ∃q,e=.returned (F G ((val O ((xs.drop ro).take (n+3))/val O bs:Nat):Int))/\(q.length=n+3/\DA O q/\val O q=val O ((xs.drop ro).take (n+3))%val O bs)/\DE w' d (DJ xs ro (n+3) q)/\w.grownBy w' (some d):=by
 have R:=u.win ro (n+3) cap ai y aj hn;have B:=Z (Po _ a n cap j _ bs w R l ((z.drop ro).take _) m X W);have s:=(Jn l).1;have K:val O bs<O^(n+2):=by have:=JW m;rwa[<-s]at this
 have N:val O bs<O^(n+3):=Al K (Am uo Y);obtain⟨am,A,t,D,T,HA,i,Qk⟩:=Ff N l ad z m u ai s;clear R X W s K N l ad z m u;go_enter func179,ntmps179
 go_upto_region 2 with(go_at_call 198;refine B.o.mono ?_;rintro e w1 ⟨g,rfl,hg,V,k⟩;have r:=Z V;clear V B)
 have S:=Z (PM d ro (n+2) cap xs a j bs g w1 (HA.o.below k) D.o i.o y (Row.below A.o k) T.o t.o hg);go_upto_if 13 with(go_at_call 199;refine S.o.mono ?_;rintro e w2 ⟨c,q,rfl,⟨hc,ah⟩,hA2,v⟩;have b:=Z ah;clear ah S)
 obtain rfl|rfl:c=0\/c=1:=Y
 . have o:=Z (Nr r.o (by have:=b.o.2.2;rw[A9,AU]at this;exact this));have HE:=Z o.o.1;have HM:=Z o.o.2;clear o r;go_wp2_with fail
   go_ret;exact⟨q,by rw[<-HE.o];rfl,⟨b.o.1,b.o.2.1,HM.o⟩,hA2,Jd (JJ k _) v⟩
 . have Q:=Z (IK d ro (n+3) cap (DJ xs ro (n+3) q) a (n+2) j bs w2 hA2 (Pr D.o b.o.2.1) (by rw[JK b.o.1 i.o];exact i.o) y Y Y (Row.grown (Row.below A.o k) v t.o) T.o t.o);have Ql:1<=g:=by
    rcases AE g with h|h
    . exfalso
      have h1:=b.o.2.2;have h2:=JW b.o.2.1;rw[b.o.1]at h2;rw[h,A9,Nat.mul_one]at h1;omega
    . exact h
   obtain⟨p,hp⟩:=ex (g-1:Nat);have an:(g:Int)-1=(p:Int):=Y
   have ap:G.wrap (p:Int)=(p:Int):=by rw[BR];unfold O at hg;omega
   have HP:=Z hp;clear hp Ql;go_wp2_with(go_at_call 146;refine Q.o.mono ?_;rintro e w3 ⟨c3,q3,rfl,ae,hA3,ak⟩;have f:=Z ae;clear ae Q)
   go_ret;have x:=Ns r.o (P:=O^(n+3)) (by have:=b.o.2.2;rw[Nat.mul_one]at this;exact this) (by have:=JW b.o.2.1;rw[b.o.1]at this;exact this) (q2:=val O q3) (c2:=c3)
    (by
     have U:=f.o.2.2.2;rw[Pp b.o.1 i.o,Ac (show bs.length<=n+3 by rw[<-Qk.o];omega)]at U;exact U)
    (by have:=JW f.o.2.1;rw[f.o.1]at this;exact this) f.o.2.2.1
   rw[HP.o]at x;rw[Pq b.o.1 i.o]at hA3;exact⟨q3,by rw[<-x.2.1];rfl,⟨f.o.1,f.o.2.1,x.2.2⟩,hA3,Jd (Jd (JJ k _) v) ak⟩
def Lc{bs:Ja}{d:Nat}(j:DA O bs)(hl:bs.length=l+2)(g:bs[l+1]?.getD 0=d)(e:2^(c-1)<=d)(f:d<2^c)(m:1<=c)(k:c<=64)(hs:s=64-c):
 val O bs*2^s<O^(l+2)/\2^63*O^(l+1)<=val O bs*2^s:=by
 have o:val O bs=val O (bs.take (l+1))+O^(l+1)*d:=by
  have h:=Jm O bs (l+1);rwa[Ac Y,g]at h
 have n:=JY j (l+1);have p1:2^c*2^s=O:=by rw[<-Cy,Ew];congr 1;omega
 have i:2^(c-1)*2^s=2^63:=by rw[<-Cy];congr 1;omega
 constructor
 . have b:val O bs+1<=O^(l+1)*2^c:=by
    have:=Aq (O^(l+1)) (show d+1<=2^c from f);rw[CK,Nat.mul_one]at this;omega
   have a:=Af (2^s) b;rw[Cg,p1,<-Ca,Cn,C2]at a;exact Al (Nat.lt_add_of_pos_right (AR s)) a
 . have b:O^(l+1)*2^(c-1)<=val O bs:=by
    have:=Aq (O^(l+1)) e;omega
   have a:=Af (2^s) b;rw[Cg,i,AC]at a;exact a
def Pt(i:DA O f)(hl:f.length=l+3)(b:val O f=V)(c:V<O^(l+2))(j:2^63*O^(l+1)<=V):
 val O (f.take (l+2))=V/\O<=2*(f.take (l+2))[l+1]?.getD 0:=by
 have g:=XV (B:=O) (k:=l+2) (D:=f) Y (by rw[b];exact c);have a:val O (f.take (l+2))=V:=by
  have h:=val_append O (f.take (l+2)) (f.drop (l+2));rw[AP,g,A9,AU,b]at h;exact h.symm
 refine⟨a,?_⟩;rw[Cf Y];have d:=Jm O f (l+1);have m:=JY i (l+1);rw[show l+1+1=l+2 from J,a]at d;rcases AH (f[l+1]?.getD 0) (2^63)with h|h
 . exfalso
   have e:=Aq (O^(l+1)) (show f[l+1]?.getD 0+1<=2^63 from h);rw[CK,Nat.mul_one,AC _ (2^63)]at e;omega
 . rw[Ew];omega
def Pv{m:Nat}(d:m<O^c)(e:O^(l+1)<=n)(hl:l+1<=c):m*2^s<n*2^s*O^(c-(l+1)):=by
 have b:O^(l+1)*O^(c-(l+1))=O^c:=by rw[<-Cy];congr 1;omega
 have a:=Af (O^(c-(l+1))) e;rw[b]at a;rw[Nat.mul_right_comm];exact Nat.mul_lt_mul_of_pos_right (Al d a) (AR s)
def JF{P:Program}{ops:Array Oper}{Q:Exit->Act->H->Prop}{i:Nat}{o:Oper}{K:Act->H->Prop}{a:Act}(c:ops[i]?=some o)(b:o.guard=none)
(h:∀K':Act->H->Prop,(∀a w,K a w->K' a w)->o.wp P a w K' Q):wpOp P ops Q i K a w:=by
 unfold wpOp;rw[c];simp only[Region.wanted,b,if_true];exact Ao (h K λ_ _ h=>h)
def Dh{p q:Prop}(k:q)(h:Hid q->p:=by intro x;refine JF rfl rfl λK a=>?_;go_simp;refine a _ _ ?_;(repeat apply Exists.intro);refine ⟨rfl,?_⟩;exact x.o):p:=h k
def EC(V:H)(b:Nat)(v:Value)(g len c:Nat)(a:Ja):Prop:=
 v=C (some ⟨g,0,none⟩) len len/\DE V g a/\a.length=len/\DA O a/\val O a=c/\b<=g
def EC.below{V V':H}{b g len c:Nat}{v:Value}{a:Ja}(h:EC V b v g len c a)(d:Bl V V'):EC V' b v g len c a:=
 ⟨h.1,h.2.1.below d,h.2.2⟩
def EC.box{V:H}{u:Value}(h:EC V c v g len j f)(hl:0<len)(d:Boxed V B 34 (C none 0 0)):EC (V.setCell ⟨B,0,none⟩ u) c v g len j f:=
 ⟨h.1,h.2.1.far (by
  intro e;simp only at e;obtain⟨i,b⟩:=h.2.1;rw[e,show V.heap[B]?=_ from d]at b;obtain⟨z,a,rfl⟩:∃z a,f=z::a:=by
   cases f with
    |nil=>have:=h.2.2.1;simp at this;omega
    |cons z a=>exact⟨z,a,J⟩
  simp[cellsOf]at b) u,h.2.2⟩
def EC.ne_box{V:H}{b:TS}{l i:Nat}(h:EC V c v g len j f)(hl:0<len)(k:Boxed V B 34 (C b l i)):g≠B:=by
 intro e;obtain⟨m,d⟩:=h.2.1;rw[e,show V.heap[B]?=_ from k]at d;obtain⟨z,a,rfl⟩:∃z a,f=z::a:=by
  cases f with
  |nil=>have:=h.2.2.1;simp at this;omega
  |cons z a=>exact⟨z,a,J⟩
 simp[cellsOf]at d
end
section
structure SplC where
 w:World
 bs:Value
 rs:Value
 ds:Value
 qs:Value
 B9:Nat
 B10:Nat
 B11:Nat
 B12:Nat
 gR:Nat
 gZ:Nat
 gQ:Nat
 Zb:Ja
structure SplC.Apart(c:SplC):Prop where
 r0:c.gR≠c.w.heap.size
 r9:c.gR≠c.B9
 r10:c.gR≠c.B10
 r11:c.gR≠c.B11
 r12:c.gR≠c.B12
 rz:c.gR≠c.gZ
 rq:c.gR≠c.gQ
 q0:c.gQ≠c.w.heap.size
 q9:c.gQ≠c.B9
 q10:c.gQ≠c.B10
 q11:c.gQ≠c.B11
 q12:c.gQ≠c.B12
 qz:c.gQ≠c.gZ
 lr:c.w.heap.size<=c.gR
 lq:c.w.heap.size<=c.gQ
structure SplC.Holds(c:SplC)(W:World):Prop where
 b0:Boxed W c.w.heap.size 34 c.bs
 b9:Boxed W c.B9 34 c.rs
 b10:Boxed W c.B10 34 c.ds
 b11:Boxed W c.B11 34 c.qs
 b12:Boxed W c.B12 34 c.qs
 z:DE W c.gZ c.Zb
 B:Below c.w.heap.size c.w W
theorem SplC.Holds.kept{c:SplC}{W W':H}{g:Nat}(h:c.Holds W)(hg:W.grownBy W' (some g))(a:g≠c.w.heap.size)(i:g≠c.B9)(b:g≠c.B10)(d:g≠c.B11)(f:g≠c.B12)(j:g≠c.gZ)(hl:c.w.heap.size<=g):c.Holds W':=
 ⟨h.b0.kept hg (λe=>by grind),h.b9.kept hg (λe=>by grind),h.b10.kept hg (λe=>by grind),h.b11.kept hg (λe=>by grind),
  h.b12.kept hg (λe=>by grind),h.z.kept hg (λe=>by grind),below_grown h.B hg hl⟩
def SplC.Holds.drew{c:SplC}{W:H}(h:c.Holds W):c.Holds W.drew:=
 ⟨h.b0,h.b9,h.b10,h.b11,h.b12,h.z,h.B.drew⟩
variable{f:Bool}{D D' Q Q':Ja}{B:Nat}{W W' W0:H}
def SplC.own(c:SplC)(b:c.w.heap.size<=B):OwnFrom B (λ(_:Nat) W=>c.Holds W):=λk W W' row hs hg a=>
 ⟨YH hs.b0 hg a,YH hs.b9 hg a,YH hs.b10 hg a,YH hs.b11 hg a,YH hs.b12 hg a,Fk hs.z hg a,LQ b k W W' row hs.B hg a⟩
def Ld(c:SplC)(a V n K:Nat)(k:Nat)(W:H):Prop:=
 c.Holds W/\∃D Q,DE W c.gR D/\DE W c.gQ Q/\Xn a V n K (K-k) D Q
def Pw(c:SplC)(b V n K:Nat)(g:c.w.heap.size<=B):OwnFrom B (Ld c b V n K):=
 BM (c.own g) (λ_ _ _ _ hs hg a=>by obtain⟨D,Q,d,e,f⟩:=hs;exact⟨D,Q,Fk d hg a,Fk e hg a,f⟩)
structure SplM(c:SplC)(W0:World)(D D' Q Q':Ja)(e f:Bool)(W:World):Prop where
 k:KeepsOthers W0 W
 h:c.Holds W
 r:DE W c.gR (bif e then D' else D)
 q:DE W c.gQ (bif f then Q' else Q)
def SplM.drew{c:SplC}{W0 W:H}{D D' Q Q':Ja}{e f:Bool}(h:SplM c W0 D D' Q Q' e f W):SplM c W0 D D' Q Q' e f W.drew:=
 ⟨h.k.trans (KeepsOthers.drew W),h.h.drew,h.r,h.q⟩
def Px{g:Nat}{xs:Ja}(b:DE W g xs)(hg:W.grownBy W' (some g)):KeepsOthers W W':=
 KeepsOthers.of_grownBy hg λj o a c=>by cases a;exact b.other c
def SplM.any{c:SplC}(h:SplM c W0 D D' Q Q' false f W)(a:Ja):SplM c W0 D a Q Q' false f W:=⟨h.k,h.h,h.r,h.q⟩
def SplM.split{c:SplC}(h:SplM c W0 D D' Q Q' false f W)(a:c.Apart)(hg:W.grownBy W' (some c.gR))(b:DE W' c.gR D'):SplM c W0 D D' Q Q' true f W':=
 ⟨h.k.trans (Px h.r hg),h.h.kept hg a.r0 a.r9 a.r10 a.r11 a.r12 a.rz a.lr,b,h.q.kept hg λe=>by injection e with e;exact a.rq e.symm⟩
theorem SplM.store{c:SplC}{e:Bool}(h:SplM c W0 D D' Q Q' e false W)(a:c.Apart){j v:Nat}(d:Q.set j v=Q'):SplM c W0 D D' Q Q' e true (W.setCell ⟨c.gQ,j,none⟩ (F G (v:Nat))):=
 have b:=Ju W c.gQ j (F G (v:Nat))
 ⟨h.k.trans (BT _ _ _),h.h.kept b a.q0 a.q9 a.q10 a.q11 a.q12 a.qz a.lq,h.r.kept b (λe=>by injection e with e;exact a.rq e),by have:=h.q.set j v;grind⟩
def Py(a:TS)(f ca:Nat)(x y l lb l1 cb m n d s:Nat)(w:H)(fg:lb=l+2)(h2:(lb:Int)-1=l1)(fm:x<w.heap.size)
(ra:Row G w (C a f ca) (Jb O m))(rb:Row G w (C (some ⟨x,y,none⟩) lb cb) (Jb O n))
(kb:w.cell? ⟨x,y+l1,none⟩=some (F G (d:Nat)))(fo:d<O)(hs:s<=63)(HS:Hid ((64:Int)-(Lib.bitLen d:Int)=(s:Int)))(gh:lb<=f)(fr:f<1099511627776)
(f9:Hid (n*2^s<O^(l+2)))(fc:Hid (2^63*O^(l+1)<=n*2^s))(fl:Hid (m*2^s<n*2^s*O^(f-(l+1)))):
 Calls L 151 #[C a f ca,C (some ⟨x,y,none⟩) lb cb] w λe w'=>∃u v,e=.returned (.tuple #[u,v])/\UN w' u (m/n)/\UN w' v (m%n)/\Bl w w':=by
 have Qc:=Z fg;have i1:M.wrap ((lb:Int)-1)=(l1:Int):=by rw[h2];exact BO _ Y
 have i3:M.wrap (l1:Int)=(l1:Int):=BO _ Y;have j1:(l1:Int)<(lb:Int):=Y
 have j9:(0:Int)<=(l1:Int):=Y
 have j2:l1<lb:=Y
 have gi:¬(lb=1):=Y
 have Qg:Bl w (w.alloc (.cells #[C (some ⟨x,y,none⟩) lb cb] 34)):=Ba w _;have Qf:=BJ w 34 (C (some ⟨x,y,none⟩) lb cb);obtain⟨W0,cn⟩:=ex (w.alloc (.cells #[C (some ⟨x,y,none⟩) lb cb] 34));have Qs:W0.heap.size=w.heap.size+1:=by rw[<-cn];simp
 rw[cn]at Qg Qf;have Uq:=Qf.cell;have Uz:=(Qg.cell (p:=⟨x,y+l1,none⟩) fm).trans kb;have Qr:=Z λ(V:H) (h:Bl W0 V)=>LP a f ca (Jb O m) s V hs (Row.below (Row.below ra Qg) h) (Ji Jc m) fr;have Qp:=Z λ(V:H) (h:Bl W0 V)=>LP (some ⟨x,y,none⟩) lb cb (Jb O n) s V hs (Row.below (Row.below rb Qg) h) (Ji Jc n) Y;rw[Jj Jc]at Qr Qp;have Ub:=Z cn;have Ua:=Z (show ∀V:H,Calls L 176 #[F G (d:Nat)] V λe w'=>e=.returned (F M (s:Nat))/\w'=V from λV=>by
  have h:=Tryz.bits_LeadingZeros64 (d:Nat) V Y (by unfold O at fo;omega);rw[Cs,HS.o]at h;exact h)
 have go:G.wrap (s:Int)=(s:Int):=Bh _ Y;have Ur:=Z Qs;have fs:=Z h2;clear cn fg ra rb kb HS;refine(BK (n:=3)).1 ?_;refine BV func151 J trivial ?_ J;simp only[ntmps151,Ah,Ai,AM,Nat.reduceAdd,Nat.reduceSub,Ar,As,AK,Az,Ag,An];refine wpIn_wide.2 ?_;go_upto_region 1 with fail
 rw[Ub.o];clear Ub Qs;go_upto_region 8 with(go_at_call 176;refine(Ua.o _).mono ?_;rintro e w' ⟨rfl,e1⟩;have e2:=e1.symm;subst e2;clear e1)
 refine Ye Di [[],[],[0,1],[],[],[3,4,2],[],[6],[5,7],[],[],[9,2,5,0,1,2,9,10],[10,8,11,0,1,2,3,4,5,6,7,8,9,10,11]] TT DG
  (λD ac V=>∃t9 bc bd bf bg bh bi cg bj bk cj:Value,ac={ tmps:=#[C a f ca,C (some ⟨x,y,none⟩) lb cb,E,I (some ⟨w.heap.size,0,none⟩),C none 0 0,C none 0 0,E,E,F G (s:Nat),t9,bc,E,E,C a f ca,F M (f:Nat),C (some ⟨x,y,none⟩) lb cb,F M (lb:Nat),.bool false,E,E,C (some ⟨x,y,none⟩) lb cb,F M (lb:Nat),.bool false,E,E,E,E,E,E,E,E,E,E,E,E,C (some ⟨x,y,none⟩) lb cb,C (some ⟨x,y,none⟩) lb cb,F M (lb:Nat),F M (l1:Nat),I (some ⟨x,y+l1,none⟩),F G (d:Nat),F M (s:Nat),F G (s:Nat),bd,bf,bg,bh,bi,cg,bj,bk,cj,E,E,E,E,E,E,E,E,E,E,E,E,E,E,E,E,E,E,E,E,E,E,E,E,E,E,E,E],defers:=[] }/\Hid (D 0=true->bd=C a f ca)/\Hid (D 1=true->bf=F G (s:Nat))/\Hid (D 2=true->∃g bm,EC V W0.heap.size bg g (f+1) (m*2^s) bm)/\Hid (D 3=true->bh=C (some ⟨x,y,none⟩) lb cb)/\Hid (D 4=true->bi=F G (s:Nat))/\Hid (D 5=true->∃gR Zr gZ Zb,EC V W0.heap.size bg gR (f+1) (m*2^s) Zr/\EC V W0.heap.size cg gZ (lb+1) (n*2^s) Zb/\gR≠gZ)/\Hid (D 6=true->bj=C (some ⟨x,y,none⟩) lb cb)/\Hid (D 7=true->bk=F M (lb:Nat))/\Hid (D 8=true->∃gZ,cg=C (some ⟨gZ,0,none⟩) (lb+1) (lb+1)/\cj=C (some ⟨gZ,0,none⟩) lb (lb+1))/\Hid (D 9=true->D 11=false->∃B,t9=I (some ⟨B,0,none⟩)/\Boxed V B 34 (C none 0 0)/\W0.heap.size<=B)/\Hid (D 10=true->D 12=false->∃B,bc=I (some ⟨B,0,none⟩)/\Boxed V B 34 (C none 0 0)/\W0.heap.size<=B)/\Hid (D 9=true->D 10=true->t9≠bc)/\Hid (D 11=true->∃B,t9=I (some ⟨B,0,none⟩)/\Boxed V B 34 bg/\W0.heap.size<=B)/\Hid (D 12=true->∃B,bc=I (some ⟨B,0,none⟩)/\Boxed V B 34 cj/\W0.heap.size<=B)/\Bl W0 V)
  (E8 ⟨_,_,_,J,Z DR,Z DR,Z DR,Z DR,Z DR,Z DR,Z DR,Z DR,Z DR,Z DR,Z DR,Z DR,Z DR,Z DR,(BB _ W0).drew⟩) ?step8 ?fin8
 case step8=>
  rintro D a2 V i ds ai er b aj ⟨t9,bc,bd,bf,bg,bh,bi,cg,bj,bk,cj,rfl,P,R,g2,S,T,t,U,X,g8,N,z,gx,ae,ah,r⟩;have Qx:i<13:=(Ax.1 er).1;obtain rfl|rfl|rfl|rfl|rfl|rfl|rfl|rfl|rfl|rfl|rfl|rfl|rfl:=Gm i Y
  all_goals
   simp only[A3,AW,A0]at er;subst er;clear Qx
  . clear b ai;refine Dh ?_;exact⟨Z λ_=>rfl,R,g2,S,T,t,U,X,g8,N,z,gx,ae,ah,r⟩
  . clear b ai;refine Dh ?_;exact⟨P,Z λ_=>rfl,g2,S,T,t,U,X,g8,N,z,gx,ae,ah,r⟩
  . have Ut:D 5=false:=DK ai aj;have Qb:D 11=false:=DK ai aj;have Qa:D 12=false:=DK ai aj;obtain rfl:=P.o (b 0 C9);obtain rfl:=R.o (b 1 C9);clear b ai;refine JF J J λK hK=>?_;go_simp;go_wp2_with(go_at_call 178;refine(Qr.o _ r).mono ?_;rintro e w5 ⟨t,Z5,rfl,⟨ef,eh,ei⟩,hA5,bz,ap⟩)
    exact E8 ⟨_,_,_,J,Z λ_=>rfl,Z λ_=>rfl,Z λ_=>⟨t,Z5,J,hA5,ef,eh,ei,AB r.size bz⟩,S,T,Z (λh=>by simp[Ut]at h),U,X,g8,Z (λh h2=>by obtain⟨B,e,q,q2⟩:=N.o h h2;exact⟨B,e,Jl q ap,q2⟩),Z (λh h2=>by obtain⟨B,e,q,q2⟩:=z.o h h2;exact⟨B,e,Jl q ap,q2⟩),gx,Z (λh=>by simp[Qb]at h),Z (λh=>by simp[Qa]at h),Bt r ap⟩
  . have k0:=(Jl Qf r).cell;clear b ai;refine Dh ?_;exact⟨P,R,g2,Z λ_=>rfl,T,t,U,X,g8,N,z,gx,ae,ah,r⟩
  . clear b ai;refine Dh ?_;exact⟨P,R,g2,S,Z λ_=>rfl,t,U,X,g8,N,z,gx,ae,ah,r⟩
  . have Uo:D 8=false:=DK ai aj;have Qb:D 11=false:=DK ai aj;have Qa:D 12=false:=DK ai aj;obtain rfl:=S.o (b 3 C9);obtain rfl:=T.o (b 4 C9);obtain⟨gR,Zr,hR⟩:=g2.o (b 2 C9);have gb:=hR.2.1.lt;clear b ai;refine JF J J λK hK=>?_;go_simp;go_wp2_with(go_at_call 178;refine(Qp.o _ r).mono ?_;rintro e w5 ⟨t,Z5,rfl,⟨ef,eh,ei⟩,hA5,bz,ap⟩)
    exact⟨_,_,_,_,_,_,_,_,_,_,_,J,P,R,Z λ_=>⟨gR,Zr,hR.below ap⟩,Z λ_=>rfl,Z λ_=>rfl,Z λ_=>⟨gR,Zr,t,Z5,hR.below ap,⟨J,hA5,ef,eh,ei,AB r.size bz⟩,Y⟩,U,X,Z (λh=>by simp[Uo]at h),Z (λh h2=>by obtain⟨B,e,q,q2⟩:=N.o h h2;exact⟨B,e,Jl q ap,q2⟩),Z (λh h2=>by obtain⟨B,e,q,q2⟩:=z.o h h2;exact⟨B,e,Jl q ap,q2⟩),gx,Z (λh=>by simp[Qb]at h),Z (λh=>by simp[Qa]at h),Bt r ap⟩
  . have k0:=(Jl Qf r).cell;clear b ai;refine Dh ?_;exact⟨P,R,g2,S,T,t,Z λ_=>rfl,X,g8,N,z,gx,ae,ah,r⟩
  . obtain rfl:=U.o (b 6 C9);clear b ai;refine Dh ?_;exact⟨P,R,g2,S,T,t,Z λ_=>rfl,Z λ_=>rfl,g8,N,z,gx,ae,ah,r⟩
  . have Qa:D 12=false:=DK ai aj;obtain⟨gR,Zr,gZ,Zb,hR,hZ,az⟩:=t.o (b 5 C9);obtain rfl:=hZ.1;obtain rfl:=X.o (b 7 C9);have b1:(0:Int)<=(lb:Int):=Y
    have b2:(lb:Int)<=(lb:Int)+1:=Y
    have b3:lb<=lb+1:=Y
    have b4:¬((lb:Int)+1<(lb:Int)):=Y
    clear b ai;refine Dh ?_;exact⟨P,R,g2,S,T,Z λ_=>⟨gR,Zr,gZ,Zb,hR,hZ,az⟩,U,Z λ_=>rfl,Z λ_=>⟨gZ,J,J⟩,N,z,gx,ae,Z (λh=>by simp[Qa]at h),r⟩
  . have Qb:D 11=false:=DK ai aj;have Qa:D 12=false:=DK ai aj;clear b ai;refine Dh ?_;exact⟨P,R,Z (λh=>by obtain⟨g,bm,q⟩:=g2.o h;exact⟨g,bm,q.below (Ba V _)⟩),S,T,Z (λh=>by obtain⟨gR,Zr,gZ,Zb,q1,q2,q3⟩:=t.o h;exact⟨gR,Zr,gZ,Zb,q1.below (Ba V _),q2.below (Ba V _),q3⟩),U,X,g8,Z λ_ _=>⟨_,J,BJ _ _ _,r.size⟩,Z (λh h2=>by obtain⟨B,e,q,q2⟩:=z.o h h2;exact⟨B,e,q.alloc _,q2⟩),Z (λ_ h e=>by obtain⟨B,e2,q,q2⟩:=z.o (by simpa using h) Qa;have:=q.lt;rw[e2]at e;cases e;omega),Z (λh=>by simp[Qb]at h),Z (λh=>by simp[Qa]at h),r.alloc r.size _⟩
  . have Qb:D 11=false:=DK ai aj;have Qa:D 12=false:=DK ai aj;clear b ai;refine Dh ?_;exact⟨P,R,Z (λh=>by obtain⟨g,bm,q⟩:=g2.o h;exact⟨g,bm,q.below (Ba V _)⟩),S,T,Z (λh=>by obtain⟨gR,Zr,gZ,Zb,q1,q2,q3⟩:=t.o h;exact⟨gR,Zr,gZ,Zb,q1.below (Ba V _),q2.below (Ba V _),q3⟩),U,X,g8,Z (λh h2=>by obtain⟨B,e,q,q2⟩:=N.o h h2;exact⟨B,e,q.alloc _,q2⟩),Z λ_ _=>⟨_,J,BJ _ _ _,r.size⟩,Z (λh _ e=>by obtain⟨B,e2,q,q2⟩:=N.o (by simpa using h) Qb;have:=q.lt;rw[e2]at e;cases e;omega),Z (λh=>by simp[Qb]at h),Z (λh=>by simp[Qa]at h),r.alloc r.size _⟩
  . have Qa:D 12=false:=DK ai aj;obtain⟨B,rfl,am,ce⟩:=N.o (b 9 C9) aj;obtain⟨gR,Zr,gZ,Zb,hR,hZ,az⟩:=t.o (b 5 C9);have k0:=am.cell;have f0:=am.frozen;obtain⟨B2,bn,en,f8⟩:=z.o (b 10 C9) Qa;have Qt:B≠B2:=λe=>gx.o (b 9 C9) (b 10 C9) (by rw[bn,e]);obtain rfl:=bn;obtain rfl:=hR.1;clear N ae;clear b ai;refine Dh ?_;exact⟨P,R,Z λ_=>⟨gR,Zr,hR.box Y am⟩,S,T,Z λ_=>⟨gR,Zr,gZ,Zb,hR.box Y am,hZ.box Y am,az⟩,U,X,g8,Z (λ_ h=>by simp at h),Z λ_ _=>⟨B2,J,en.kept (Bv _ B _) (λe=>by injection e;omega),f8⟩,gx,Z λ_=>⟨B,J,am.set _,ce⟩,Z (λh=>by simp[Qa]at h),r.setCell (p:=⟨B,0,none⟩) ce _⟩
  . obtain⟨B,rfl,am,ce⟩:=z.o (b 10 C9) aj;obtain⟨gR,Zr,gZ,Zb,hR,hZ,az⟩:=t.o (b 5 C9);obtain⟨fd,ck,ed⟩:=g8.o (b 8 C9);have k0:=am.cell;have f0:=am.frozen;obtain⟨B2,bn,en,f8⟩:=ae.o (b 11 C9);have Qt:B≠B2:=λe=>gx.o (b 9 C9) (b 10 C9) (by rw[bn,e]);obtain rfl:=ed;obtain rfl:=ck;obtain rfl:=bn;have Qy:=b 11 C9;clear z ah;clear b ai;refine Dh ?_;exact⟨P,R,Z λ_=>⟨gR,Zr,hR.box Y am⟩,S,T,Z λ_=>⟨gR,Zr,gZ,Zb,hR.box Y am,hZ.box Y am,az⟩,U,X,Z λ_=>⟨fd,J,J⟩,Z (λ_ h=>by simp[Qy]at h),Z (λ_ h=>by simp at h),gx,Z λ_=>⟨B2,J,en.kept (Bv _ B _) (λe=>by injection e;omega),f8⟩,Z λ_=>⟨B,J,am.set _,ce⟩,r.setCell (p:=⟨B,0,none⟩) ce _⟩
 rintro D a2 o an ⟨t9,bc,bd,bf,bg,bh,bi,cg,bj,bk,cj,rfl,P,R,g2,S,T,t,U,X,g8,N,z,gx,ae,ah,r⟩;obtain⟨gR,Zr,gZ,Zb,hR,hZ,az⟩:=t.o (an 5 DG);obtain⟨fd,ck,ed⟩:=g8.o (an 8 DG);obtain⟨B9,rfl,bu,gn⟩:=ae.o (an 11 DG);obtain⟨B10,rfl,bt,gl⟩:=ah.o (an 12 DG);obtain rfl:=ed;obtain rfl:=hR.1;have e0:=hZ.1;rw[ck]at e0;cases e0;obtain rfl:=ck;clear P R g2 S T t U X g8 N z gx ae ah an Qr Qp Ua;obtain⟨K,hK⟩:∃K:Nat,(f:Int)+1-(lb:Int)=(K:Int):=⟨f+1-lb,Y⟩;have fy:M.wrap (K:Int)=(K:Int):=BO _ Y;have Uw:=X1 K Y o;have k9:=bu.cell;have Us:=bt.cell;have Qj:K+lb=f+1:=Y
 have Qi:=Z Qj;clear Qj;go_wp2_with(go_at_call 147;refine((BK (n:=2)).1 (Fb Fence.wide _ trivial J _ _ _ _)).mono ?_;rintro e w' ⟨rfl,rfl⟩)
 refine(wpIn_wide (n:=3)).1 ?_;obtain⟨WQ,ay⟩:=ex (((o.alloc (.cells (cellsOf G (TU K 0)).toArray 163)).alloc (.cells #[C (some ⟨o.heap.size,0,none⟩) K K] 34)).alloc (.cells #[C (some ⟨o.heap.size,0,none⟩) K K] 34));have Uv:WQ.heap.size=o.heap.size+1+1+1:=by rw[<-ay];simp
 have Qk:Bl w o:=Bt Qg r;have Qs:=Ur.o;have Um:Bl w WQ:=by rw[<-ay];exact((Qk.alloc Qk.size _).alloc (by have:=Qk.size;simp;omega) _).alloc (by have:=Qk.size;simp;omega) _
 have lR:=hR.2.1.lt;have lZ:=hZ.2.1.lt;have l9:=bu.lt;have gp:=bt.lt;have n9:gR≠B9:=λe=>hR.ne_box Y bu e;have gr:gR≠B10:=λe=>hR.ne_box Y bt e;have ft:=hR.2.2.2.2.2;have fu:=hZ.2.2.2.2.2;obtain⟨c,hc⟩:∃c:SplC,c=⟨w,C (some ⟨x,y,none⟩) lb cb,C (some ⟨gR,0,none⟩) (f+1) (f+1),C (some ⟨gZ,0,none⟩) lb (lb+1),C (some ⟨o.heap.size,0,none⟩) K K,B9,B10,o.heap.size+1,o.heap.size+1+1,gR,gZ,o.heap.size,Zb⟩:=⟨_,J⟩;have Ue:c.Apart:=by
  rw[hc];constructor<;>(simp only;omega)
 have Uc:c.Holds WQ:=by
  rw[hc,<-ay];have Ui:=(BJ (o.alloc (.cells (cellsOf G (TU K 0)).toArray 163)) 34 (C (some ⟨o.heap.size,0,none⟩) K K)).alloc (.cells #[C (some ⟨o.heap.size,0,none⟩) K K] 34);have Uf:=BJ ((o.alloc (.cells (cellsOf G (TU K 0)).toArray 163)).alloc (.cells #[C (some ⟨o.heap.size,0,none⟩) K K] 34)) 34 (C (some ⟨o.heap.size,0,none⟩) K K);simp only[A1]at Ui Uf;exact⟨(((Jl Qf r).alloc _).alloc _).alloc _,((bu.alloc _).alloc _).alloc _,((bt.alloc _).alloc _).alloc _,Ui,Uf,((hZ.2.1.alloc _).alloc _).alloc _,by rw[ay];exact Um⟩
 have Uh:DE WQ gR Zr:=by rw[<-ay];exact((hR.2.1.alloc _).alloc _).alloc _
 have Qz:DE WQ o.heap.size (TU K 0):=by rw[<-ay];exact((DE.made (BD o _)).alloc _).alloc _
 have Qu:Xn (m*2^s) (n*2^s) lb K K Zr (TU K 0):=Xn.start (by have:=Qi.o;rw[hR.2.2.1];omega) hR.2.2.2.1 hR.2.2.2.2.1 (by
  have h:=fl.o;rwa[show f-(l+1)=K from by have:=Qi.o;have:=Qc.o;omega]at h)
 obtain⟨f7,fi⟩:=Pt hZ.2.2.2.1 (by rw[hZ.2.2.1,Qc.o]) hZ.2.2.2.2.1 f9.o fc.o;have Ux:0<n*2^s:=by
  have h:=fc.o;have:=C8 (AR 63) (C3 (n:=l+1) (show 0<O by unfold O;omega));omega
 have Qh:n*2^s<O^lb:=by rw[Qc.o];exact f9.o
 have Up:=hZ.2.2.2.1;have gc:=hZ.2.2.1;rw[ay];clear ay Uw bu bt Qf Uq k9 Us hR hZ r Qk Uz;refine YL J Y (gf:=174) (lb:=#[I (some ⟨o.heap.size+1+1,0,none⟩)]) J trivial (B7 func174 TT J)
  (Fa Fence.wide _ trivial J Y (o.heap.size+1+1) (some ⟨o.heap.size,0,none⟩) K K (λ_=>0) Y) (λ_=>rfl)
  (Ld c (m*2^s) (n*2^s) lb K) (λ_ _ _=>False) (Pw c _ _ _ _ (by rw[hc,Uv];simp only;omega)) (λc _ _ _ _ h _ _=>h.elim)
  ⟨Uc,Zr,TU K 0,by rw[hc];exact Uh,by rw[hc];exact Qz,by rw[CO];exact Qu⟩ ?rd
  (λk=>{ tmps:=#[C a f ca,C (some ⟨x,y,none⟩) lb cb,E,I (some ⟨w.heap.size,0,none⟩),C none 0 0,C none 0 0,E,E,F G (s:Nat),I (some ⟨B9,0,none⟩),I (some ⟨B10,0,none⟩),I (some ⟨o.heap.size+1,0,none⟩),F M ((K:Int)-1-k),C a f ca,F M (f:Nat),C (some ⟨x,y,none⟩) lb cb,F M (lb:Nat),.bool false,E,E,C (some ⟨x,y,none⟩) lb cb,F M (lb:Nat),.bool false,E,E,E,E,E,E,E,E,E,E,E,E,C (some ⟨x,y,none⟩) lb cb,C (some ⟨x,y,none⟩) lb cb,F M (lb:Nat),F M (l1:Nat),I (some ⟨x,y+l1,none⟩),F G (d:Nat),F M (s:Nat),F G (s:Nat),bd,bf,C (some ⟨gR,0,none⟩) (f+1) (f+1),bh,bi,C (some ⟨gZ,0,none⟩) (lb+1) (lb+1),bj,bk,C (some ⟨gZ,0,none⟩) lb (lb+1),C (some ⟨gR,0,none⟩) (f+1) (f+1),F M ((f:Int)+1),C (some ⟨gZ,0,none⟩) lb (lb+1),F M (lb:Nat),F M (K:Nat),C (some ⟨o.heap.size,0,none⟩) K K,C (some ⟨o.heap.size,0,none⟩) K K,.func (.func 174) #[] #[I (some ⟨o.heap.size+1+1,0,none⟩)],F M ((K:Int)-1-k),F G 0,E,E,E,E,E,E,E,E,E,E,E,E,E,E,E,E,E,E],defers:=[] }) ?assign ?body ?done ?stop
 case rd=>
  rintro k W ⟨hh,D,Q,_,hQ,hL⟩;have Ud:=hh.b12;rw[hc]at Ud hQ;refine⟨Ud.cell,λhk=>⟨o.heap.size,0,J,?_⟩⟩;rw[Cq,hQ.cell (j:=K-1-k) (by rw[hL.2.2.1];omega),hL.2.2.2.2.2.2 (K-1-k) Y]
 case assign=>
  intro l k W K hK;unfold Xd;gi_wp2;exact hK
 case stop=>
  rintro D c k W _ _ h _;exact h.elim
 case body=>
  rintro l' k W ⟨hh,D,Q,hD,hQ,hL⟩ hk gk;have Ug:K-k=K-1-k+1:=Y
  rw[Ug]at hL;have e1:((K:Int)-1-k)=((K-1-k:Nat):Int):=Y
  have HI:=Z (show K-(k+1)=K-1-k by omega);have Qn:K-1-k<K:=Y
  rw[e1];obtain⟨i,hi⟩:=ex (K-1-k);rw[hi]at hL Qn HI ⊢;clear Ug e1 hi;obtain⟨w1,w2,w3⟩:=hL.win Qn Qh;have Uu:=hL.1;have ga:=hL.2.2.1;have Ul:=Z (show ∀(V:H) (nn:Nat),DE V gR D->DE V gZ Zb->CallsIn (Fence.wide.inRound l') nn L 179 #[C (some ⟨gR,i,none⟩) (lb+1) (f+1-i),C (some ⟨gZ,0,none⟩) lb (lb+1)] V λe w'=>
   ∃q,e=.returned (F G ((val O ((D.drop i).take (lb+1))/(n*2^s):Nat):Int))/\(q.length=lb+1/\DA O q/\val O q=val O ((D.drop i).take (lb+1))%(n*2^s))/\DE w' gR (DJ D i (lb+1) q)/\V.grownBy w' (some gR)from λV nn h1 h2=>by
   have Qj:=Qi.o;have hz:=h2.row 0 lb (lb+1) Y Y Y Y;have Qw:=Ps gR i l (f+1-i) D (some ⟨gZ,0,none⟩) (lb+1) (Zb.take (l+2)) V h1 hL.2.1 (by rw[Uu];have:=Qc.o;omega) (by have:=Qc.o;omega) Y (by have:=Qc.o;omega)
    (by rw[AA,Qc.o]at hz;rw[Qc.o];exact hz) (Up.take _) (λp e _=>by cases e;exact λh=>az h.symm) fi (by rw[f7];have:=w1;rw[Qc.o]at this;exact this)
   rw[f7]at Qw;have e3:l+3=lb+1:=by rw[Qc.o]
   have e2:l+2=lb:=Qc.o.symm;rw[e3,e2]at Qw;exact Bc l' ((BK (n:=nn)).2 Qw))
  have Un:=Z λ(q:Ja) (h1:q.length=lb+1) (h2:DA O q) (h3:val O q=val O ((D.drop i).take (lb+1))%(n*2^s))=>hL.step Qn Qh h1 h2 h3 Ux;obtain⟨qd,fh⟩:=ex (val O ((D.drop i).take (lb+1))/(n*2^s));rw[fh]at Un Ul;clear fh w1 w2 w3 hL f7 fi Qu;obtain⟨H1,fv⟩:∃H1:Nat,(i:Int)+(lb:Int)=(H1:Int):=⟨i+lb,Y⟩;obtain⟨aq,hH⟩:∃aq:Nat,(H1:Int)+1=(aq:Int):=⟨H1+1,Y⟩;have fw:aq-i=lb+1:=Y
  have fx:aq<=f+1:=by have:=Qi.o;omega
  have gg:i<=aq:=Y
  have y1:(i:Int)<=(aq:Int):=Y
  have y2:(aq:Int)<=(f:Int)+1:=Y
  have y3:(0:Int)<=(i:Int):=Y
  have y4:(i:Int)<(K:Int):=Y
  have y5:M.wrap (H1:Int)=(H1:Int):=BO _ Y;have y6:M.wrap (aq:Int)=(aq:Int):=BO _ Y;gi_wp2_with fail
  refine Xm Di [[],[],[],[],[],[],[5],[4,6],[7],[2,3,8],[],[9,10],[0,1,0,1,2,3,4,5,6,7,8,9,10,11],[12,11,11,0,1,2,3,4,5,6,7,8,9,10,11]] TT DG
   (λDD ac V=>∃co cy cz de dh di dj dt du dw dx dz eb:Value,ac={ tmps:=#[C a f ca,C (some ⟨x,y,none⟩) lb cb,E,I (some ⟨w.heap.size,0,none⟩),C none 0 0,C none 0 0,E,E,F G (s:Nat),I (some ⟨B9,0,none⟩),I (some ⟨B10,0,none⟩),I (some ⟨o.heap.size+1,0,none⟩),F M (i:Nat),C a f ca,F M (f:Nat),C (some ⟨x,y,none⟩) lb cb,F M (lb:Nat),.bool false,E,E,C (some ⟨x,y,none⟩) lb cb,F M (lb:Nat),.bool false,E,E,E,E,E,E,E,E,E,E,E,E,C (some ⟨x,y,none⟩) lb cb,C (some ⟨x,y,none⟩) lb cb,F M (lb:Nat),F M (l1:Nat),I (some ⟨x,y+l1,none⟩),F G (d:Nat),F M (s:Nat),F G (s:Nat),bd,bf,C (some ⟨gR,0,none⟩) (f+1) (f+1),bh,bi,C (some ⟨gZ,0,none⟩) (lb+1) (lb+1),bj,bk,C (some ⟨gZ,0,none⟩) lb (lb+1),C (some ⟨gR,0,none⟩) (f+1) (f+1),F M ((f:Int)+1),C (some ⟨gZ,0,none⟩) lb (lb+1),F M (lb:Nat),F M (K:Nat),C (some ⟨o.heap.size,0,none⟩) K K,C (some ⟨o.heap.size,0,none⟩) K K,.func (.func 174) #[] #[I (some ⟨o.heap.size+1+1,0,none⟩)],F M (i:Nat),F G 0,co,cy,cz,de,dh,di,dj,dt,du,dw,dx,dz,eb,E,E,E,E,E],defers:=[] }/\Hid (DD 0=true->co=C (some ⟨o.heap.size,0,none⟩) K K)/\Hid (DD 1=true->cy=F M (i:Nat))/\Hid (DD 2=true->cz=C (some ⟨gR,0,none⟩) (f+1) (f+1))/\Hid (DD 3=true->de=F M (i:Nat))/\Hid (DD 4=true->dh=F M (i:Nat))/\Hid (DD 5=true->di=C (some ⟨x,y,none⟩) lb cb)/\Hid (DD 6=true->dj=F M (lb:Nat))/\Hid (DD 7=true->dt=F M (H1:Nat))/\Hid (DD 8=true->du=F M (aq:Nat))/\Hid (DD 9=true->dw=C (some ⟨gR,i,none⟩) (lb+1) (f+1-i))/\Hid (DD 10=true->dx=C (some ⟨gZ,0,none⟩) lb (lb+1))/\Hid (DD 11=true->dz=F G (qd:Nat))/\Hid (DD 12=true->eb=I (some ⟨o.heap.size,i,none⟩))/\∃D2,Hid (DD 11=true->∃q,(q.length=lb+1/\DA O q/\val O q=val O ((D.drop i).take (lb+1))%(n*2^s))/\D2=DJ D i (lb+1) q)/\SplM c W D D2 Q (Q.set i qd) (DD 11) (DD 13) V)
   (E8 ⟨_,_,_,_,_,J,Z DR,Z DR,Z DR,Z DR,Z DR,Z DR,Z DR,Z DR,Z DR,Z DR,Z DR,Z DR,Z DR,D,Z DR,SplM.drew ⟨KeepsOthers.refl _,hh,hD,hQ⟩⟩) ?step ?fin
  case fin=>
   rintro DD ac V an ⟨co,cy,cz,de,dh,di,dj,dt,du,dw,dx,dz,eb,rfl,P,R,g2,S,T,t,U,X,g8,N,z,ae,ah,D2,gd,A⟩;rw[an 11 DG,an 13 DG]at A;obtain⟨q,⟨et,ew,f6⟩,rfl⟩:=gd.o (an 11 DG);refine⟨A.k.from _,A.h,DJ D i (lb+1) q,Q.set i qd,A.r,A.q,?_⟩;rw[HI.o];exact Un.o q et ew f6
  case step=>
   rintro DD ac V j ds ak hj b aj ⟨co,cy,cz,de,dh,di,dj,dt,du,dw,dx,dz,eb,rfl,P,R,g2,S,T,t,U,X,g8,N,z,ae,ah,D2,gd,A⟩;have Qv:j<14:=(Ax.1 hj).1;obtain rfl|rfl|rfl|rfl|rfl|rfl|rfl|rfl|rfl|rfl|rfl|rfl|rfl|rfl:=FT j Y
   all_goals
    simp only[A3,AW,A0]at hj;subst hj;clear Qv
   . have b11:Boxed V (o.heap.size+1) 34 (C (some ⟨o.heap.size,0,none⟩) K K):=by have:=A.h.b11;rw[hc]at this;exact this
     have k0:=b11.cell;clear b ak;refine Bb J λK2 ad=>?_;go_simp;exact ad _ _ (E8 ⟨_,_,_,_,_,J,Z λ_=>rfl,R,g2,S,T,t,U,X,g8,N,z,ae,ah,D2,gd,A⟩)
   . clear b ak;refine Bb J λK2 ad=>?_;go_simp;exact ad _ _ ⟨_,_,_,_,_,_,_,_,_,_,_,_,_,J,P,Z λ_=>rfl,g2,S,T,t,U,X,g8,N,z,ae,ah,D2,gd,A⟩
   . have b9:Boxed V B9 34 (C (some ⟨gR,0,none⟩) (f+1) (f+1)):=by have:=A.h.b9;rw[hc]at this;exact this
     have k0:=b9.cell;clear b ak;refine Bb J λK2 ad=>?_;go_simp;exact ad _ _ ⟨_,_,_,_,_,_,_,_,_,_,_,_,_,J,P,R,Z λ_=>rfl,S,T,t,U,X,g8,N,z,ae,ah,D2,gd,A⟩
   . clear b ak;refine Bb J λK2 ad=>?_;go_simp;exact ad _ _ ⟨_,_,_,_,_,_,_,_,_,_,_,_,_,J,P,R,g2,Z λ_=>rfl,T,t,U,X,g8,N,z,ae,ah,D2,gd,A⟩
   . clear b ak;refine Bb J λK2 ad=>?_;go_simp;exact ad _ _ ⟨_,_,_,_,_,_,_,_,_,_,_,_,_,J,P,R,g2,S,Z λ_=>rfl,t,U,X,g8,N,z,ae,ah,D2,gd,A⟩
   . have b0:Boxed V w.heap.size 34 (C (some ⟨x,y,none⟩) lb cb):=by have:=A.h.b0;rw[hc]at this;exact this
     have k0:=b0.cell;clear b ak;refine Bb J λK2 ad=>?_;go_simp;exact ad _ _ ⟨_,_,_,_,_,_,_,_,_,_,_,_,_,J,P,R,g2,S,T,Z λ_=>rfl,U,X,g8,N,z,ae,ah,D2,gd,A⟩
   . obtain rfl:=t.o (b 5 C9);clear b ak;refine Bb J λK2 ad=>?_;go_simp;exact ad _ _ ⟨_,_,_,_,_,_,_,_,_,_,_,_,_,J,P,R,g2,S,T,Z λ_=>rfl,Z λ_=>rfl,X,g8,N,z,ae,ah,D2,gd,A⟩
   . obtain rfl:=T.o (b 4 C9);obtain rfl:=U.o (b 6 C9);clear b ak;refine Bb J λK2 ad=>?_;go_simp;exact ad _ _ ⟨_,_,_,_,_,_,_,_,_,_,_,_,_,J,P,R,g2,S,Z λ_=>rfl,t,Z λ_=>rfl,Z λ_=>rfl,g8,N,z,ae,ah,D2,gd,A⟩
   . obtain rfl:=X.o (b 7 C9);clear b ak;refine Bb J λK2 ad=>?_;go_simp;exact ad _ _ ⟨_,_,_,_,_,_,_,_,_,_,_,_,_,J,P,R,g2,S,T,t,U,Z λ_=>rfl,Z λ_=>rfl,N,z,ae,ah,D2,gd,A⟩
   . obtain rfl:=g2.o (b 2 C9);obtain rfl:=S.o (b 3 C9);obtain rfl:=g8.o (b 8 C9);have gj:¬(f+1=i):=Y
     clear b ak;refine Bb J λK2 ad=>?_;go_simp;exact ad _ _ ⟨_,_,_,_,_,_,_,_,_,_,_,_,_,J,P,R,Z λ_=>rfl,Z λ_=>rfl,T,t,U,X,Z λ_=>rfl,Z λ_=>rfl,z,ae,ah,D2,gd,A⟩
   . have b10:Boxed V B10 34 (C (some ⟨gZ,0,none⟩) lb (lb+1)):=by have:=A.h.b10;rw[hc]at this;exact this
     have k0:=b10.cell;clear b ak;refine Bb J λK2 ad=>?_;go_simp;exact ad _ _ ⟨_,_,_,_,_,_,_,_,_,_,_,_,_,J,P,R,g2,S,T,t,U,X,g8,N,Z λ_=>rfl,ae,ah,D2,gd,A⟩
   . obtain rfl:=N.o (b 9 C9);obtain rfl:=z.o (b 10 C9);rw[aj]at A;have hr:DE V gR D:=by have:=A.r;rw[hc]at this;exact this
     have hz:DE V gZ Zb:=by have:=A.h.z;rw[hc]at this;exact this
     have HV:=Z A;clear A;clear b ak;refine Bb J λK2 ad=>?_;go_simp;gi_wp2_with(refine⟨trivial,?_⟩;gi_at_call 179;refine(Ul.o _ _ hr hz).mono ?_;rintro e w5 ⟨q,rfl,⟨et,ew,f6⟩,hA5,bz⟩)
     exact⟨_,_,_,_,_,_,_,_,_,_,_,_,_,J,P,R,g2,S,T,t,U,X,g8,Z λ_=>rfl,Z λ_=>rfl,Z λ_=>rfl,ah,DJ D i (lb+1) q,Z λ_=>⟨q,⟨et,ew,f6⟩,J⟩,SplM.split (HV.o.any _) Ue (by rw[hc];exact bz) (by rw[hc];exact hA5)⟩
   . obtain rfl:=P.o (b 0 C9);obtain rfl:=R.o (b 1 C9);clear b ak;refine Bb J λK2 ad=>?_;go_simp;exact ad _ _ (E8 ⟨_,_,_,_,_,J,Z λ_=>rfl,Z λ_=>rfl,g2,S,T,t,U,X,g8,N,z,ae,Z λ_=>rfl,D2,gd,A⟩)
   . obtain rfl:=ae.o (b 11 C9);obtain rfl:=ah.o (b 12 C9);rw[aj]at A;have Ql:DE V o.heap.size Q:=by have:=A.q;rw[hc]at this;exact this
     have k0:=Ql.cell (j:=i) Y;have f0:=Ql.frozen i;have Qm:SplM c W D D2 Q (Q.set i qd) (DD 11) true (V.setCell ⟨o.heap.size,i,none⟩ (F G (qd:Nat))):=by have:=A.store Ue (j:=i) (v:=qd) J;rw[hc]at this ⊢;exact this
     have Qo:=Z Qm;clear Qm A;clear b ak;refine Bb J λK2 ad=>?_;go_simp;exact ad _ _ ⟨_,_,_,_,_,_,_,_,_,_,_,_,_,J,P,R,g2,S,T,t,U,X,g8,N,z,Z λ_=>rfl,Z λ_=>rfl,D2,gd,Qo.o⟩
 case done=>
  rintro D W hD ⟨hh,D2,Q2,an,fe,hL⟩ ad;rw[AV]at hL;obtain⟨f1,f2⟩:=hL.fin J J;have b11:Boxed W (o.heap.size+1) 34 (C (some ⟨o.heap.size,0,none⟩) K K):=by have:=hh.b11;rw[hc]at this;exact this
  have b9:Boxed W B9 34 (C (some ⟨gR,0,none⟩) (f+1) (f+1)):=by have:=hh.b9;rw[hc]at this;exact this
  have Uj:Bl w W:=by have:=hh.B;rw[hc]at this;exact this
  have hr:DE W gR D2:=by have:=an;rw[hc]at this;exact this
  have Ql:DE W o.heap.size Q2:=by have:=fe;rw[hc]at this;exact this
  have Qj:=Qi.o;have Qd:Row G W (C (some ⟨o.heap.size,0,none⟩) K K) Q2:=by
   have h1:=Ql.row 0 K K (by rw[hL.2.2.1];omega) (Aa _) Y Y;rwa[AA,Ac (by rw[hL.2.2.1];exact Aa _)]at h1
  have Qe:Row G W (C (some ⟨gR,0,none⟩) (f+1) (f+1)) D2:=by
   have h1:=hr.row 0 (f+1) (f+1) (by rw[hL.1];omega) (Aa _) Y Y;rwa[AA,Ac (by rw[hL.1];omega)]at h1
  have HT:=Z (show ∀V:H,Bl W V->Calls L 132 #[C (some ⟨o.heap.size,0,none⟩) K K] V λe w'=>∃u,e=.returned u/\UN w' u (m/n)/\Bl V w' from λV h=>by
   have h1:=Yi _ Q2 V (Row.below Qd h);rw[f1]at h1;exact h1)
  have Uy:=Z (show ∀V:H,Bl W V->Calls L 180 #[C (some ⟨gR,0,none⟩) (f+1) (f+1),F G (s:Nat)] V λe w'=>∃u,e=.returned u/\UN w' u (m%n)/\Bl V w' from λV h=>by
   have h1:=PW _ _ _ D2 s V hs (Row.below Qe h) hL.2.1;rw[f2,Nat.mul_div_cancel _ (AR s)]at h1;exact h1)
  have gq:=b11.lt;have l9:=b9.lt;have Uk:=b11.cell;have k9:=b9.cell;clear hL f1 f2 Qd Qe hr Ql hh an fe Uc Uh Qz Qu Qj;go_upto_region 13 with fail
  have r:Bl W W.drew:=(BB _ W).drew;go_region_held3 (λw'=>w'.cell? ⟨o.heap.size+1,0,none⟩=some (C (some ⟨o.heap.size,0,none⟩) K K)/\w'.cell? ⟨B9,0,none⟩=some (C (some ⟨gR,0,none⟩) (f+1) (f+1))) (refine⟨?_,?_⟩<;>(first|(go_keep;done)|(simp[*];done)))
   (first
    |(go_at_call 132;refine(HT.o _ r).mono ?_;rintro e w5 ⟨u5,rfl,fj,ap⟩;obtain⟨ua,uc,rfl⟩:=UN.form fj;have r:=Bt r ap;have Uk:=(Jl b11 r).cell;have k9:=(Jl b9 r).cell)
    |(go_at_call 180;refine(Uy.o _ r).mono ?_;rintro e w6 ⟨u6,rfl,fk,ff⟩;obtain⟨va,vc,rfl⟩:=UN.form fk;have r:=Bt r ff;have Uk:=(Jl b11 r).cell;have k9:=(Jl b9 r).cell))
  all_goals go_wp2_with fail
  have Qq:w6.heap[D]?=some (.deferred (some [])):=(r.block D (Ab.1 ad).1).trans ad;refine⟨C9,.inl ⟨_,_,J,Bd Qq,?_⟩⟩;refine⟨.tuple #[C ua (Jb O (m/n)).length uc,C va (Jb O (m%n)).length vc],by simp[results,results151,go_sem],_,_,J,Ie (UN.below fj ff) Qq,Ie fk Qq,?_⟩;exact below_grown (Bt Uj r) (BW _ D (.deferred none)) (by have:=Um.size;omega)
end
section
variable{a:Ja}{P d g l rc:Nat}{u:Value}{W:H}
def Ij(a:TS)(c f:Nat)(b:TS)(lb g m n:Nat)(w:H)(k:Row G w (C a c f) (Jb O m))(o:Row G w (C b lb g) (Jb O n))(hn:n≠0)(X:c<1099511627776):
 Calls L 151 #[C a c f,C b lb g] w λe p=>∃u v,e=.returned (.tuple #[u,v])/\UN p u (m/n)/\UN p v (m%n)/\Bl w p:=by
 obtain⟨W,ad,am,ai,ah⟩:=Jn k;obtain⟨j,ae,an,aj,V⟩:=Jn o;have ak:lb≠0:=λe=>hn ((Jw Jc).1 (Aj (by rw[<-j,e])));by_cases Q:c<lb
 . exact PX a c f b lb g m n w k o Q
 . by_cases R:lb=1
   . subst R;exact PZ a c f b g m n w k o Y
   . obtain⟨l,rfl⟩:∃l,lb=l+2:=⟨lb-2,Y⟩;obtain⟨B,D,rfl,U,kb⟩:=V (l+1) Y;have q:=Ji Jc n;have t:(Jb O n)[l+1]?.getD 0≠0:=by
      intro e;have S:=Jm O (Jb O n) (l+1);rw[Ac Y,e,A9,AU,Jj Jc]at S;have h4:=JY q (l+1);have r:=Ys Jc j.symm Y;rw[show l+2-1=l+1 from J]at r;omega
     have i:(Jb O n)[l+1]?.getD 0<O:=q.getD uo _;obtain⟨d,x⟩:=ex ((Jb O n)[l+1]?.getD 0);rw[x]at kb t i;obtain⟨K,N,P⟩:=bitLen_spec d t (by rw[<-Ew];exact i);have T:Lib.bitLen d<=64:=by
      rcases AH 64 (Lib.bitLen d)with h|h
      . exfalso
        have r:2^64<=2^(Lib.bitLen d-1):=Am Y Y;rw[Ew]at i;omega
      . exact h
     obtain⟨y,z⟩:=Lc (s:=64-Lib.bitLen d) q j.symm x N P K T J;rw[Jj Jc]at y z;have hm:m<O^c:=by
      have:=JW (Ji Jc m);rwa[Jj Jc,<-W]at this
     have A:O^(l+1)<=n:=Ys Jc j.symm Y;exact Py a c f B D l (l+2) (l+1) g m n d (64-Lib.bitLen d) w J Y U k o kb i Y (show _=_ by omega) Y X y z (Pv hm A Y)
theorem Ik{p:Nat}(a:p≠0)(h:p<O):Jb O p=[p]:=by
 grind[YK,Cc,AQ,Js]
def Pz(a:TS)(t:Nat)(b:TS)(lb v x y:Nat)(w:H)(d:Row G w (C a 1 t) (Jb O x))(r:Row G w (C b lb v) (Jb O y))(B:y<O):
 Calls L 152 #[C a 1 t,C b lb v] w λe D=>∃u,e=.returned u/\UN D u (Nat.gcd x y)/\Bl w D:=by
 obtain⟨n,ae,am,ai,l⟩:=Jn d;obtain⟨c,ah,an,aj,m⟩:=Jn r;obtain⟨o,ap,T⟩:=Ig n.symm;rcases AE lb with z|z
 . subst z;have k:=(Jw Jc).1 (Aj c.symm);subst k;have N:=Z d;clear l m n c d r o;go_enter func152,ntmps152
   go_wp2_with fail
   go_ret;exact⟨_,J,by rw[Nat.gcd_zero_right];exact N.o,BB _ w⟩
 . have k:y≠0:=λe=>by rw[e,Js]at c;simp at c;omega
   have i:=Ik k B;obtain rfl:lb=1:=by rw[c,i];rfl
   obtain⟨P,Q,rfl,X,ka⟩:=l 0 Y;obtain⟨R,S,rfl,ad,kb⟩:=m 0 Y;rw[o]at ka;rw[i]at kb;have aq:w.cell? ⟨P,Q,none⟩=some (F G (x:Nat)):=ka;have ay:w.cell? ⟨R,S,none⟩=some (F G (y:Nat)):=kb;clear l m n c d r o i ka kb;go_enter func152,ntmps152
   go_upto_region 3 with fail
   go_quiet (fail)
   go_wp2_with fail
   go_loopw [5,6] (λW s wr=>∃(p q j:Nat),W=F G (p:Nat)/\s=F G (q:Nat)/\p<O/\q<O/\p≠0/\Hid (Nat.gcd p q=Nat.gcd x y)/\wr=w.drewN j) (λ_ s _=>(intOf s).toNat)
   case atStart=>exact⟨x,y,_,J,J,T,B,Y,Z J,J⟩
   case round=>
    obtain⟨p,q,j,rfl,rfl,hp,V,U,g,rfl⟩:=hrel;by_cases A:q=0
    . subst A;have f:=Z (show p=Nat.gcd x y by rw[<-g.o,Nat.gcd_zero_right]);have K:=Z (Ik U hp);clear g;go_wp2_with fail
      go_ret;refine⟨C (some ⟨w.heap.size,0,none⟩) 1 1,J,?_,(Fl (BB _ w) _).alloc (Aa _) _⟩;unfold UN;rw[<-f.o,K.o];exact(DE.made (xs:=[p]) (BD (w.drewN j) (.cells #[F G (p:Nat)] 163))).row 0 1 1 C9 Y Y Y
    . have f:=Z (show Nat.gcd q (p%q)=Nat.gcd x y by rw[<-g.o,CG q,<-Nat.gcd_rec,CG]);have ak:=AJ p (show q>0 by omega);go_upto_region 5 with fail
      go_quiet (fail)
      go_wp2_with fail
      exact⟨⟨q,p%q,j+nq,J,C9,V,Y,A,f,C9⟩,by simp[intOf];omega⟩
def D8(W:H)(b:Nat)(u:Value)(g l rc P:Nat)(a:Ja):Prop:=
 u=C (some ⟨g,0,none⟩) l rc/\DE W g a/\DA O a/\l<=a.length/\l<=rc/\rc<=9223372036854775807/\l<=1099511627776/\a.take l=Jb O P/\b<=g
def D8.below{W W':H}{a g l rc P:Nat}{u:Value}{b:Ja}(h:D8 W a u g l rc P b)(c:Bl W W'):D8 W' a u g l rc P b:=
 ⟨h.1,h.2.1.below c,h.2.2⟩
def D8.un(h:D8 W d u g l rc P a):UN W u P:=by
 obtain⟨rfl,b,j,k,c,e,f,i,m⟩:=h;have:=b.row 0 l rc Y c e f;rw[AA,i]at this;exact this
theorem P0{ds:Ja}(d:DE W g a)(k:Row G W (C (some ⟨g,0,none⟩) l rc) ds)(hl:l<=a.length):a.take l=ds:=by
 obtain⟨m,_,_,_,c⟩:=Jn k;apply List.ext_getElem?;intro j;by_cases i:j<l
 . obtain⟨b,n,e,_,f⟩:=c j i;cases e;rw[Cq,d.cell Y]at f;grind
 grind
def Le(a:TS)(c s:Nat)(b:TS)(lb t:Nat)(d f:Ja)(w:H)(W:DA O d)(X:DA O f)(U:c+lb<=1099511627776)
(m:Row G w (C a c s) d)(n:Row G w (C b lb t) f):
 Calls L 118 #[C a c s,C b lb t] w λe v=>∃u,e=.returned u/\UN v u (val O d*val O f)/\(val O d*val O f≠0->∃g l rc q,D8 v w.heap.size u g l rc (val O d*val O f) q)/\Bl w v:=by
 have z:=X1 (c+lb) Y w;rw[show((c+lb:Nat):Int)=(c:Int)+(lb:Int)from by omega]at z;obtain⟨j,o⟩:∃j,j=w.alloc (.cells (cellsOf G (TU (c+lb) 0)).toArray 163):=⟨_,J⟩;have r:Bl w j:=by rw[o];exact Ba w _
 have y:DE j w.heap.size (TU (c+lb) 0):=by rw[o];exact DE.made (BD w _)
 rw[<-o]at z;have P:=Z (PH w.heap.size (c+lb) (c+lb) (TU (c+lb) 0) a c s b lb t d f j W X y (λx V=>by rw[CH V];unfold O;omega) DN (Aa _) Y U (Row.below m r) (Row.below n r)
  (λp e k=>by have:=Ev m e k;omega) λp e k=>by have:=Ev n e k;omega)
 have ad:=(Jn m).2.1;have ae:=(Jn m).2.2.1;have ah:=(Jn n).2.1;have ai:=(Jn n).2.2.1;clear o y m n;go_enter func118,ntmps118
 go_wp2_with(go_at_call 153;refine P.o.mono ?_;rintro e w5 ⟨u,rfl,⟨i,T⟩,S,q,K,R,N⟩;obtain⟨ua,uc,rfl⟩:=UN.form i)
 go_ret;refine⟨_,J,i,λk=>?_,below_grown r T (Aa _)⟩;have Q:(Jb O (val O d*val O f)).length≠0:=λe=>k ((Jw Jc).1 (Aj e));rcases S with e|⟨l,e⟩
 . injection e with A B D
   exact absurd B Q
 . injection e with A B D
   subst A;subst D;rw[AX]at N;have hl:(Jb O (val O d*val O f)).length<=q.length:=by rw[N];exact(Jn i).2.1
   exact⟨_,_,_,q,J,K,R,hl,(Jn i).2.1,(Jn i).2.2.1,(Jn i).2.2.2.1,P0 K i hl,Aa _⟩
theorem Lf{Q:Nat}(h:D8 W d u g l rc P a)(b:TS)(lb i:Nat)(m:UN W (C b lb i) Q)(y:Q<=P)(A:∀p,b=some p->0<lb->p.block≠g):
 Calls L 148 #[u,C b lb i] W λe j=>∃c q,e=.returned (F G (c:Nat))/\(Row G j u q/\Jq q=Jb O (P-Q))/\W.grownBy j (some g):=by
 obtain⟨rfl,r,s,B,k,t,v,D,K⟩:=h;have hl:l=(Jb O P).length:=DN
 have o:=(Jn m).1;refine(K1 g 0 l rc a b lb i (Jb O Q) W r s Y k Y (by rw[hl,o];exact Yu y) m (Ji Jc Q) A).mono ?_;rintro e j ⟨c,q,rfl,f,x,hg⟩;have z:DJ a 0 l q=q++a.drop l:=by rw[DJ,C6,Ag,Cq]
 have n:=f.1;refine⟨c,q,J,⟨?_,?_⟩,hg⟩
 . have w:=x.row 0 l rc DN k t v;rwa[z,AA,A4 Y,Ac Y]at w
 . have hs:XM (Jb O P) (Jb O Q) 0 l c q:=by
    refine⟨n,f.2.1,f.2.2.1,?_⟩;have:=f.2.2.2;grind
   grind[K3,Yu]
def Lg{w V a:H}{o:Obj}(h:Bl w V)(k:Below (V.alloc o).heap.size (V.alloc o) a):Bl w a:=(h.alloc h.size o).trans (k.mono (h.alloc h.size o).size)
def Lh(x:Nat):val O [x]=x:=by rw[JQ,FW,A9,AU]
theorem Li(v t:Nat)(a:TS)(la ca:Nat)(b:TS)(lb cb A B:Nat)(w:H)(ra:Row G w (C a la ca) (Jb O A))(rb:Row G w (C b lb cb) (Jb O B))(ce:v<O)(cg:t<O)(cn:la<1099511627776)(co:lb<1099511627776)(h0:t*B≠0):
 Calls L 150 #[.agg #[F G (v:Nat),F G (t:Nat)],C a la ca,C b lb cb] w λe w'=>∃u,e=.returned u/\UN w' u (Y2 (v*A) (t*B))/\Bl w w':=by
 obtain⟨W0,ay⟩:=ex (w.alloc (.cells #[F G (v:Nat),F G (t:Nat)] 180));have Qa:Bl w W0:=by rw[<-ay];exact Ba w _
 have bx:Jg W0 w.heap.size 180 (F G (v:Nat)) (F G (t:Nat)):=by rw[<-ay];exact Jg.new w _ _ _
 have Qp:=Z (show ∀(V:H) (g:Nat),Bl W0 V->DE V g [v]->Calls L 118 #[C a la ca,C (some ⟨g,0,none⟩) 1 1] V λe w'=>∃u,e=.returned u/\UN w' u (v*A)/\(v*A≠0->∃g l rc zs,D8 w' V.heap.size u g l rc (v*A) zs)/\Bl V w' from λV g h hA=>by
  have o:=Le a la ca (some ⟨g,0,none⟩) 1 1 (Jb O A) [v] V (Ji Jc A) (DA.cons ce (DA.nil _)) Y (Row.below (Row.below ra Qa) h) (hA.row 0 1 1 C9 Y Y Y);rw[Lh,Jj Jc,AC A v]at o;exact o)
 have Qo:=Z (show ∀(V:H) (g:Nat),Bl W0 V->DE V g [t]->Calls L 118 #[C b lb cb,C (some ⟨g,0,none⟩) 1 1] V λe w'=>∃u,e=.returned u/\UN w' u (t*B)/\(t*B≠0->∃g l rc zs,D8 w' V.heap.size u g l rc (t*B) zs)/\Bl V w' from λV g h hA=>by
  have o:=Le b lb cb (some ⟨g,0,none⟩) 1 1 (Jb O B) [t] V (Ji Jc B) (DA.cons cg (DA.nil _)) Y (Row.below (Row.below rb Qa) h) (hA.row 0 1 1 C9 Y Y Y);rw[Lh,Jj Jc,AC B t]at o;exact o)
 have Qq:=Z ay;clear ay ra rb;generalize v*A=n at *;generalize t*B=P2 at *;go_enter func150,ntmps150
 go_upto_region 1 with fail
 rw[Qq.o];refine Ye Di [[],[],[1],[2],[0,3],[],[],[6],[7],[5,8,4],[4,9,0,1,2,3,4],[9,10,0,1,2,3,4,5,6,7,8,9,10]] TT DG (λf ac V=>∃t7 t8 t9 az bc bd ah bf bg bh bi ap:Value,ac={ tmps:=#[.agg #[F G (v:Nat),F G (t:Nat)],C a la ca,C b lb cb,I (some ⟨w.heap.size,0,none⟩),E,E,C none 0 0,t7,t8,t9,az,bc,bd,ah,bf,bg,bh,bi,ap,E,E,E,E,E,E,E,E,E,E,E],defers:=[] }/\Hid (f 0=true->t9=C a la ca)/\Hid (f 1=true->az=I (some ⟨w.heap.size,0,none⟩))/\Hid (f 2=true->bc=F G (v:Nat))/\Hid (f 3=true->∃g,bd=C (some ⟨g,0,none⟩) 1 1/\DE V g [v])/\Hid (f 4=true->UN V ah n/\(n≠0->∃d x y z,D8 V W0.heap.size ah d x y n z))/\Hid (f 5=true->bf=C b lb cb)/\Hid (f 6=true->bg=I (some ⟨w.heap.size,1,none⟩))/\Hid (f 7=true->bh=F G (t:Nat))/\Hid (f 8=true->∃g,bi=C (some ⟨g,0,none⟩) 1 1/\DE V g [t])/\Hid (f 9=true->∃m l2 ai aj,D8 V W0.heap.size ap m l2 ai P2 aj/\UN V ah n/\(n≠0->∃d x y z,D8 V W0.heap.size ah d x y n z/\d≠m))/\Hid (f 10=true->t7=ah)/\Hid (f 11=true->t8=ap)/\Bl W0 V)
  (E8 ⟨_,_,_,_,J,Z DR,Z DR,Z DR,Z DR,Z DR,Z DR,Z DR,Z DR,Z DR,Z DR,Z DR,Z DR,(BB _ W0).drew⟩) ?step1 ?fin1
 case step1=>
  rintro f a2 V i ds s bm k ae ⟨t7,t8,t9,az,bc,bd,ah,bf,bg,bh,bi,ap,rfl,D,d,m,Q,R,S,T,U,W,X,N,P,j⟩;have Qm:i<12:=(Ax.1 bm).1;obtain rfl|rfl|rfl|rfl|rfl|rfl|rfl|rfl|rfl|rfl|rfl|rfl:=Fqq i Y
  all_goals
   simp only[A3,AW,A0]at bm;subst bm;clear Qm
  . clear k s;refine Dh ?_;exact⟨Z λ_=>rfl,d,m,Q,R,S,T,U,W,X,N,P,j⟩
  . clear k s;refine Dh ?_;exact⟨D,Z λ_=>rfl,m,Q,R,S,T,U,W,X,N,P,j⟩
  . obtain rfl:=d.o (k 1 C9);have k0:=(bx.below j).c0;clear k s;refine Dh ?_;exact⟨D,Z λ_=>rfl,Z λ_=>rfl,Q,R,S,T,U,W,X,N,P,j⟩
  . have Qr:f 4=false:=by
     cases h:f 4 with
     |false=>rfl
     |true=>rw[s 4 _ J h 3 C9]at ae;cases ae
    obtain rfl:=m.o (k 2 C9);clear k s;refine Dh ?_;exact⟨D,d,Z λ_=>rfl,Z λ_=>⟨_,J,DE.made (xs:=[v]) (BD V _)⟩,Z (λh=>by simp[Qr]at h),S,T,U,Z (λh=>by obtain⟨g,e,q⟩:=W.o h;exact⟨g,e,q.below (Ba V _)⟩),Z (λh=>by obtain⟨m,l2,ai,aj,q1,q2,q3⟩:=X.o h;exact⟨m,l2,ai,aj,q1.below (Ba V _),q2.below (Ba V _),λo=>by obtain⟨d,x,y,z,q,q4⟩:=q3 o;exact⟨d,x,y,z,q.below (Ba V _),q4⟩⟩),N,P,j.alloc j.size _⟩
  . have Qk:f 9=false:=by
     cases h:f 9 with
     |false=>rfl
     |true=>rw[s 9 _ J h 4 C9]at ae;cases ae
    have Qn:f 10=false:=by
     cases h:f 10 with
     |false=>rfl
     |true=>rw[s 10 _ J h 4 C9]at ae;cases ae
    obtain rfl:=D.o (k 0 C9);obtain⟨gm,rfl,am⟩:=Q.o (k 3 C9);clear k s;refine JF J J λK hK=>?_;go_simp;go_wp2_with(go_at_call 118;refine(Qp.o _ _ j am).mono ?_;rintro e w5 ⟨u5,rfl,bu,bn,ad⟩)
    exact E8 ⟨_,_,_,_,J,Z λ_=>rfl,d,m,Z λ_=>⟨gm,J,am.below ad⟩,Z λ_=>⟨bu,λo=>by obtain⟨d,x,y,z,q⟩:=bn o;exact⟨d,x,y,z,q.1,q.2.1,q.2.2.1,q.2.2.2.1,q.2.2.2.2.1,q.2.2.2.2.2.1,q.2.2.2.2.2.2.1,q.2.2.2.2.2.2.2.1,AB j.size q.2.2.2.2.2.2.2.2⟩⟩,S,T,U,Z (λh=>by obtain⟨g,e,q⟩:=W.o h;exact⟨g,e,q.below (ad)⟩),Z (λh=>by simp[Qk]at h),Z (λh=>by simp[Qn]at h),P,Bt j ad⟩
  . clear k s;refine Dh ?_;exact⟨D,d,m,Q,R,Z λ_=>rfl,T,U,W,X,N,P,j⟩
  . clear k s;refine Dh ?_;exact⟨D,d,m,Q,R,S,Z λ_=>rfl,U,W,X,N,P,j⟩
  . obtain rfl:=T.o (k 6 C9);have k0:=(bx.below j).c1;clear k s;refine Dh ?_;exact⟨D,d,m,Q,R,S,Z λ_=>rfl,Z λ_=>rfl,W,X,N,P,j⟩
  . have Qk:f 9=false:=by
     cases h:f 9 with
     |false=>rfl
     |true=>rw[s 9 _ J h 8 C9]at ae;cases ae
    obtain rfl:=U.o (k 7 C9);clear k s;refine Dh ?_;exact⟨D,d,m,Z (λh=>by obtain⟨g,e,q⟩:=Q.o h;exact⟨g,e,q.below (Ba V _)⟩),Z (λh=>by obtain⟨q1,q2⟩:=R.o h;exact⟨q1.below (Ba V _),λo=>by obtain⟨d,x,y,z,q⟩:=q2 o;exact⟨d,x,y,z,q.below (Ba V _)⟩⟩),S,T,Z λ_=>rfl,Z λ_=>⟨_,J,DE.made (xs:=[t]) (BD V _)⟩,Z (λh=>by simp[Qk]at h),N,P,j.alloc j.size _⟩
  . have Ql:f 11=false:=by
     cases h:f 11 with
     |false=>rfl
     |true=>rw[s 11 _ J h 9 C9]at ae;cases ae
    obtain rfl:=S.o (k 5 C9);obtain⟨gm,rfl,am⟩:=W.o (k 8 C9);obtain⟨p1,p2⟩:=R.o (k 4 C9);clear k s;refine JF J J λK hK=>?_;go_simp;go_wp2_with(go_at_call 118;refine(Qo.o _ _ j am).mono ?_;rintro e w5 ⟨u5,rfl,bu,bn,ad⟩)
    exact⟨_,_,_,_,_,_,_,_,_,_,_,_,J,D,d,m,Z (λh=>by obtain⟨g,e,q⟩:=Q.o h;exact⟨g,e,q.below (ad)⟩),Z (λh=>by obtain⟨q1,q2⟩:=R.o h;exact⟨q1.below (ad),λo=>by obtain⟨d,x,y,z,q⟩:=q2 o;exact⟨d,x,y,z,q.below (ad)⟩⟩),Z λ_=>rfl,T,U,Z λ_=>⟨gm,J,am.below ad⟩,Z (λ_=>by obtain⟨m,l2,ai,aj,q⟩:=bn h0;exact⟨m,l2,ai,aj,⟨q.1,q.2.1,q.2.2.1,q.2.2.2.1,q.2.2.2.2.1,q.2.2.2.2.2.1,q.2.2.2.2.2.2.1,q.2.2.2.2.2.2.2.1,AB j.size q.2.2.2.2.2.2.2.2⟩,p1.below ad,λo=>by obtain⟨d,x,y,z,r⟩:=p2 o;exact⟨d,x,y,z,r.below ad,by have:=r.2.1.lt;have:=q.2.2.2.2.2.2.2.2;omega⟩⟩),N,Z (λh=>by simp[Ql]at h),Bt j ad⟩
  . clear k s;refine Dh ?_;exact⟨D,d,m,Q,R,S,T,U,W,X,Z λ_=>rfl,P,j⟩
  . clear k s;refine Dh ?_;exact⟨D,d,m,Q,R,S,T,U,W,X,N,Z λ_=>rfl,j⟩
 rintro f cj V1 aq ⟨t7,t8,t9,az,bc,bd,ah,bf,bg,bh,bi,ap,rfl,D,d,m,Q,R,S,T,U,W,X,N,P,j⟩;obtain⟨gB,l2,ai,aj,o2,an,o1⟩:=X.o (aq 9 DG);obtain rfl:=N.o (aq 10 DG);obtain rfl:=P.o (aq 11 DG);obtain⟨a1,c1,rfl⟩:=UN.form an;have Qd:=o2.un;obtain⟨a2,c2,rfl⟩:=UN.form Qd;clear D d m Q R S T U W X N P aq Qp Qo;have Qi:∀p,a1=some p->0<(Jb O n).length->p.block≠gB:=λp e o=>by
  have hp:n≠0:=λe0=>by rw[e0,Js]at o;simp at o
  obtain⟨d,x,y,z,r,r2⟩:=o1 hp;have:=r.1;grind
 have HO:=Z (IP _ _ (Jb O n) (Jb O P2) V1 an Qd (Ji Jc n) (Ji Jc P2) (JX Jc n) (JX Jc P2));rw[Jj Jc,Jj Jc]at HO;have Qg:=Bt Qa j;have Qj:=o2.2.2.2.2.2.2.2.2;by_cases bz:n<P2
 . have Qb:=Xc bz;rw[Qb]at HO;have Qf:=Z λ(V:H) (h:Bl V1 V)=>Lf (o2.below h) a1 (Jb O n).length c1 (an.below h) Y Qi;have HD:=Z (show P2-n=Y2 n P2 by unfold Y2;omega);clear Qb an Qd o1 Qi;go_upto_region 4 with(go_at_call 114;refine HO.o.mono ?_;rintro e w2 ⟨rfl,ak⟩)
   go_upto_region 5 with(go_at_call 148;refine(Qf.o _ ak).mono ?_;rintro e w3 ⟨c,q,rfl,⟨hr,bt⟩,bk⟩)
   have Qc:=Z (Yi _ q _ hr);rw[bt,HD.o]at Qc;clear Qf HO;go_wp2_with(go_at_call 132;refine Qc.o.mono ?_;rintro e w4 ⟨u,rfl,hu,bj⟩;obtain⟨ua,uc,rfl⟩:=UN.form hu)
   go_ret;have Qe:=below_grown (Bt Qg ak) bk (AB Qa.size Qj);exact⟨_,J,hu,Bt Qe bj⟩
 . obtain⟨cm,Qb,ck⟩:∃cm:Int,Yn n P2=cm/\¬(cm<0):=⟨_,J,by unfold Yn;omega⟩;rw[Qb]at HO;obtain⟨d,x,y,z,r,r2⟩:=o1 Y;have Qh:=r.2.2.2.2.2.2.2.2;have Qf:=Z (λ(V:H) (h:Bl V1 V)=>Lf (r.below h) a2 (Jb O P2).length c2 (Qd.below h) Y (λp e _=>by
    have:=o2.1;grind))
   have HD:=Z (show n-P2=Y2 n P2 by unfold Y2;omega);clear Qb an Qd o1 Qi;go_upto_region 4 with(go_at_call 114;refine HO.o.mono ?_;rintro e w2 ⟨rfl,ak⟩)
   go_upto_region 5 with(go_at_call 148;refine(Qf.o _ ak).mono ?_;rintro e w3 ⟨c,q,rfl,⟨hr,bt⟩,bk⟩)
   have Qc:=Z (Yi _ q _ hr);rw[bt,HD.o]at Qc;clear Qf HO;go_wp2_with(go_at_call 132;refine Qc.o.mono ?_;rintro e w4 ⟨u,rfl,hu,bj⟩;obtain⟨ua,uc,rfl⟩:=UN.form hu)
   go_ret;have Qe:=below_grown (Bt Qg ak) bk (AB Qa.size Qh);exact⟨_,J,hu,Bt Qe bj⟩
end
def X3(x k s:Nat):Nat:=x/(O^k*2^(64-s))
variable{a:Ja}{k s:Nat}
def P1(hl:a.length=k+2)(b:DA O a)(hs:s<=63)(f:a[k+1]?.getD 0<2^(64-s)):
 X3 (val O a) k s=Dc (a[k+1]?.getD 0) s+DW (a[k]?.getD 0) (64-s)/\Dc (a[k+1]?.getD 0) s ||| DW (a[k]?.getD 0) (64-s)=Dc (a[k+1]?.getD 0) s+DW (a[k]?.getD 0) (64-s):=by
 have g:=La hl;have c:=JY b k;have i:=b.getD (show 0<O by unfold O;omega) k;have hp:=X2 (s:=s) Y;have e:Dc (a[k+1]?.getD 0) s=a[k+1]?.getD 0*2^s:=by rw[Fj Y,Cc f]
 rw[e];have d:DW (a[k]?.getD 0) (64-s)<2^s:=by
  unfold DW;rw[Ap (AR _),hp];exact i
 refine⟨?_,by rw[AC,<-CA d]⟩;unfold X3 DW;rw[g,<-Nat.div_div_eq_div_mul,AC _ (O^k),Nat.mul_add_div (C3 uo),AQ c,AU,<-hp,<-Cg,CM,Nat.add_mul_div_right _ _ (AR _)];omega
def P3(hl:a.length=k+1)(d:DA O a):X3 (val O a) k s=DW (a[k]?.getD 0) (64-s):=by
 have b:=Jm O a k;rw[Ac Y]at b;have c:=JY d k;unfold X3 DW;rw[b,<-Nat.div_div_eq_div_mul,CM,Nat.mul_add_div (C3 uo),AQ c,AU]
def P4(hl:a.length<=k)(b:DA O a):X3 (val O a) k s=0:=by
 unfold X3;apply AQ;have c:=JW b;have d:O^a.length<=O^k:=Am uo hl;have e:=Ci (O^k) (AR (64-s));omega
def Lj(a:TS)(c u:Nat)(d:Ja)(k g f s:Nat)(w:H)(o:Row G w (C a c u) d)(p:DA O d)(r:f=k+2)(B:(f:Int)-1=g)(D:(f:Int)-2=k)(hs:s<=63)(U:c<=f)(W:f<=1099511627776)(n:c=f->d[k+1]?.getD 0<2^(64-s)):
 Calls L 177 #[C a c u,F M (f:Nat),F G (s:Nat)] w λe R=>e=.returned (F G (X3 (val O d) k s:Nat))/\Bl w R:=by
 obtain⟨hl,S,V,T,j⟩:=Jn o;have i1:M.wrap ((f:Int)-1)=(g:Int):=by rw[B];exact BO _ Y
 have i2:M.wrap ((f:Int)-2)=(k:Int):=by rw[D];exact BO _ Y
 have i3:M.wrap (g:Int)=(g:Int):=BO _ Y;have i4:M.wrap (k:Int)=(k:Int):=BO _ Y;have i5:G.wrap ((64:Int)-s)=((64-s:Nat):Int):=by rw[BR];omega
 have q:=Ib (d[k+1]?.getD 0) s;have z:=Ic (d[k]?.getD 0) (64-s);have l:=p.getD (show 0<O by unfold O;omega) k;have m:=Id (show Dc (d[k+1]?.getD 0) s<O by unfold Dc;exact AJ _ uo) (show DW (d[k]?.getD 0) (64-s)<O from CN (CF _ _) l);obtain rfl|X:=Decidable.em (c=f)
 . obtain⟨b,Q,rfl,N,c1⟩:=j (k+1) Y;obtain⟨_,_,A,_,c0⟩:=j k Y;cases A;obtain⟨v,x⟩:=P1 Y p hs (n J);rw[x]at m;have i:=Z v;have t:g=k+1:=Y
   rw[<-t]at c1 q m i;have j1:(g:Int)<(c:Int):=Y
   have j2:(k:Int)<(c:Int):=Y
   have j3:(0:Int)<=(g:Int):=Y
   have j4:(0:Int)<=(k:Int):=Y
   have j5:g<c:=Y
   have P:k<c:=Y
   clear t j o v x n hl r l;generalize d[g]?.getD 0=x1 at *;generalize d[k]?.getD 0=x0 at *;go_enter func177,ntmps177
   go_upto_region 3 with fail
   go_quiet (fail)
   go_wp2_with fail
   go_ret;refine⟨?_,Fl (BB _ w) _⟩;rw[i.o];first|rfl|(simp;done)
 . by_cases K:c=g
   . subst K;obtain⟨b,Q,rfl,N,c0⟩:=j k Y;have i:=Z (P3 (s:=s) (show d.length=k+1 by omega) p);have P:k<c:=Y
     have y:¬((c:Int)=(f:Int)):=Y
     clear j o n hl r l m q;generalize d[k]?.getD 0=x0 at *;go_enter func177,ntmps177
     go_wp2_with fail
     go_ret;refine⟨?_,BB _ w⟩;rw[i.o];first|rfl|(simp;done)
   . have i:=Z (P4 (s:=s) (show d.length<=k by omega) p);have y:¬((c:Int)=(f:Int)):=Y
     have ad:¬((c:Int)=(g:Int)):=Y
     clear j o n hl r l q z m;go_enter func177,ntmps177
     go_wp2_with fail
     go_ret;refine⟨?_,BB _ w⟩;rw[i.o];first|rfl|(simp;done)

