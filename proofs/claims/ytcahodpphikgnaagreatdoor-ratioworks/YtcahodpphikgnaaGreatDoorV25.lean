import Derived.Test.YtcahodpphikgnaaGreatDoorV19
import Derived.Test.YtcahodpphikgnaaGreatDoorV03
set_option linter.all false
open Go.Value renaming slice->C,int->F,pointer->I
open Go renaming undef->E,World->H
open Go.IntKind renaming u64->G,i64->M
open Go.Proofs.Tryz renaming prog->L
set_option maxRecDepth 99999
set_option maxHeartbeats 0
namespace Go.Proofs.YtcahodpphikgnaaGreatDoor
open List renaming replicate->OA
open Proofs.Tryz
open Go.RowKit Go.Shelf
attribute [local go_sem] Oper.semAt_some
section
def Bb:=@IntWalk.u64_in
def BH:=@IntWalk.i64_in
variable{ds f xs:Ja}{B V c d0 d1 g j l len n q r ro s u0 y:Nat}{v:Value}{w:H}
theorem IQ(h:ds.length=n+2):val O ds=(ds[n+1]?.getD 0*O+ds[n]?.getD 0)*O^n+val O (ds.take n):=by
 have a:=Ji O ds (n+1);rw[Ab Y,Ji,AV]at a;rw[a];grind
theorem Mk(h:ds.length=n+3):val O ds=((ds[n+2]?.getD 0*O+ds[n+1]?.getD 0)*O+ds[n]?.getD 0)*O^n+val O (ds.take n):=by
 have a:=Ji O ds (n+2);rw[Ab Y,Ji,Ji,AV,AV]at a;rw[a];grind
theorem JU(h:Bs O ds)(n:Nat):val O (ds.take n)<O^n:=by
 have:=JL (h.take n);grind[Ao,Al,O]
def XQ{a:H}(h:Below B a w)(n:Nat):Below B a (w.drewN n):=h.trans ⟨J,J,J,Aa _,λ_ _=>rfl⟩
theorem IR(a:u0<O)(h:Yu q d0<r\/Yu q d0=r/\JO q d0<=u0):q*d0<=r*O+u0:=by
 grind[Yu,JO,O]
theorem Ml(b:u0<O)(h:¬(Yu q d0<r))(a:¬(Yu q d0=r/\JO q d0<=u0)):r*O+u0<q*d0:=by
 grind[Yu,JO,O]
theorem Mm{u2 u1 E:Nat}(b:c=((u2*O+u1)*O+u0)*E+j)(e:V=(d1*O+d0)*E+y)(i:y<E)(f:O<=2*d1)(g:d0<O)(d:c<V*O)(h:d1<=u2):Db c V (O-1):=by
 have a:d0*E+y<O*E:=by
  have:=Ae E (show d0+1<=O from g);grind
 refine KK (d1:=d1) (E:=O*E) (lo:=(u2-d1)*(O*(O*E))+(u1*O+u0)*E+j) (lo2:=d0*E+y) ?_ ?_ a f d Jc
 . obtain⟨t,rfl⟩:∃t,u2=d1+t:=⟨u2-d1,Y⟩;rw[b,Nat.add_sub_cancel_left];grind
 . rw[e];grind
def Mn{U E:Nat}(a:c=(U*O+u0)*E+j)(d:V=(d1*O+d0)*E+y)(b:j<E)(e:y<E)(f:O<=2*d1)(i:q<O)(h:q=(U*O+u0)/(d1*O+d0)):Db c V q:=by
 rw[h];have hp:0<d1:=by unfold O at f;omega
 have g:=Cp O hp;exact KJ a d b e (by rw[<-h];omega) Y
def Mo(l c m:Nat)(h1:(l:Int)-1=c)(h2:(l:Int)-2=m)(a i T W ca cb u2 u1 u0 d1 d0 R V:Nat)(w:H)(hl:l<=1099511627776)
(ka:w.cell? ⟨a,i+l,none⟩=some (F G (u2:Nat)))(aj:w.cell? ⟨a,i+c,none⟩=some (F G (u1:Nat)))(ai:w.cell? ⟨a,i+m,none⟩=some (F G (u0:Nat)))
(kb:w.cell? ⟨T,W+c,none⟩=some (F G (d1:Nat)))(aw:w.cell? ⟨T,W+m,none⟩=some (F G (d0:Nat)))(X:a<w.heap.size)
(ah:u1<O)(N:u0<O)(aa:d1<O)(n:d0<O)(ad:0<d1)
(HT:Hid (d1<=u2->Db R V (O-1)))(A:Hid (∀q:Nat,q<O->q=((u2*O+u1)*O+u0)/(d1*O+d0)->Db R V q)):
 Calls L 139 #[C (some ⟨a,i,none⟩) (l+1) ca,C (some ⟨T,W,none⟩) l cb] w λe d=>∃g,e=.returned (F G (g:Nat))/\g<O/\Db R V g/\Bl w d:=by
 have i1:M.wrap ((l:Int)-1)=(c:Int):=by rw[h1];exact BH _ Y
 have i2:M.wrap ((l:Int)-2)=(m:Int):=by rw[h2];exact BH _ Y
 have j1:(c:Int)<(l:Int):=Y
 have j2:(m:Int)<(l:Int):=Y
 have j3:(c:Int)<(l:Int)+1:=Y
 have j4:(m:Int)<(l:Int)+1:=Y
 have i3:M.wrap (c:Int)=(c:Int):=BH _ Y;have j7:(l:Int)<(l:Int)+1:=Y
 have j8:(0:Int)<=(l:Int):=Y
 have j9:(0:Int)<=(c:Int):=Y
 have aq:(0:Int)<=(m:Int):=Y
 go_enter func139,ntmps139
 go_upto_region 2 with fail
 go_quiet (fail)
 by_cases ae:d1<=u2
 . go_wp2_with fail
   go_ret;exact⟨O-1,J,by unfold O;omega,HT.o ae,XQ (BC _ w) _⟩
 . have D:=KG (B:=O) (u:=u2*O+u1) (u1:=u0) (d1:=d1) (d0:=d0) ad aa N (by
    have:=Ae O (show u2+1<=d1 by omega);rw[Ci,CS]at this;omega)
   have Qd:=Z λV=>Hf u2 u1 d1 Y ah aa V;have Qf:=D.2.2.1;have Qe:=D.2.2.2;have f:=Z D;clear D HT;generalize hX:(u2*O+u1)/d1=q0 at *;generalize hY:(u2*O+u1)%d1=r0 at *;generalize hZ:u2*O+u1=U at *;clear hX hY hZ;go_wp2_with fail
   have v:Bl w (w.drewN (nq+1)):=XQ (BC _ w) _;go_region_held3 (λd=>d.cell? ⟨a,i+l,none⟩=some (F G (u2:Nat))/\d.cell? ⟨a,i+c,none⟩=some (F G (u1:Nat))) (refine⟨?_,?_⟩<;>(first|(go_keep;done)|(simp[*];done)))
    (first|(go_at_call 109;refine(Qd.o _).mono ?_;rintro e w1 ⟨rfl,K⟩;have bc:=(K.cell (p:=⟨a,i+l,none⟩) (show a<w.heap.size from X)).trans ka;have az:=(K.cell (p:=⟨a,i+c,none⟩) (show a<w.heap.size from X)).trans aj;have ay:=(K.cell (p:=⟨a,i+m,none⟩) (show a<w.heap.size from X)).trans ai))
   have v:Bl w w1:=Bt v K;go_wp2_with fail
   go_loopw [8,9] (λqv rv wr=>∃(q r:Nat),qv=F G (q:Nat)/\rv=F G (r:Nat)/\q<O/\r<O/\Hid (EZ O U u0 d1 d0 q r)/\wr=w1) (λqv _ _=>(intOf qv).toNat)
   case atStart=>exact⟨q0,r0,J,J,Qf,Qe,f,J⟩
   case round=>
    clear Qd f;obtain⟨q,r,rfl,rfl,b,ap,f,rfl⟩:=hrel;have j:0<d1*O:=Bq ad uo;by_cases c1:Yu q d0<r
    . have t:=Z (A.o q b (XG f.o.1 f.o.2.1 j (IR N (Ar c1))));clear j;go_wp2_with(first
       |(go_at_call 119;refine(Y9 _ _ b n _).mono ?_;rintro e d ⟨rfl,rfl⟩))
      go_ret;exact⟨q,J,b,t.o,v⟩
    . by_cases c2:Yu q d0=r/\JO q d0<=u0
      . have t:=Z (A.o q b (XG f.o.1 f.o.2.1 j (IR N (AL c2))));obtain⟨c2,c3⟩:=c2;subst c2;clear j;go_wp2_with(first
         |(go_at_call 119;refine(Y9 _ _ b n _).mono ?_;rintro e d ⟨rfl,rfl⟩))
        go_ret;exact⟨q,J,b,t.o,v⟩
      . obtain⟨g1,x,y,k⟩:=KH f.o j (Ml N c1 c2);obtain⟨p,hp⟩:=ex (q-1:Nat);rw[hp]at x y k;have ak:(q:Int)-1=(p:Int):=Y
        have am:p<q:=Y
        have an:G.wrap (p:Int)=(p:Int):=by rw[BK];unfold O at b;omega
        clear hp g1 f;have S:=Ei r d1;have P:=Z (A.o p);clear A;by_cases o:r+d1<O
        . have v1:JT r d1 0=r+d1:=by unfold JT;rw[AK,AZ o]
          have z:J4 r d1 0=0:=by unfold J4;rw[AK,AE o]
          rw[v1,z]at S;have Q:=Z (show EZ O U u0 d1 d0 p (r+d1)from⟨x,y,k,o⟩);clear x y v1 z j P;obtain⟨s,hs⟩:=ex (r+d1);rw[hs]at S Q o;clear hs;by_cases c3:Yu q d0=r
          . have c4:¬(JO q d0<=u0):=λh=>c2 ⟨c3,h⟩;clear c2;go_wp2_with(first
             |(go_at_call 119;refine(Y9 _ _ b n _).mono ?_;rintro e d ⟨rfl,rfl⟩))
            exact⟨⟨p,s,J,J,k,o,Q,by first|trivial|rfl⟩,by simp[intOf];omega⟩
          . clear c2;go_wp2_with(first
             |(go_at_call 119;refine(Y9 _ _ b n _).mono ?_;rintro e d ⟨rfl,rfl⟩))
            exact⟨⟨p,s,J,J,k,o,Q,by first|trivial|rfl⟩,by simp[intOf];omega⟩
        . have t:=Z (P.o k (KI x y k n j Y));have z:J4 r d1 0=1:=by unfold J4;unfold O at *;omega
          rw[z]at S;generalize JT r d1 0=s at *;clear x y z j P o;by_cases c3:Yu q d0=r
          . have c4:¬(JO q d0<=u0):=λh=>c2 ⟨c3,h⟩;clear c2;go_wp2_with(first
             |(go_at_call 119;refine(Y9 _ _ b n _).mono ?_;rintro e d ⟨rfl,rfl⟩))
            go_ret;exact⟨p,J,k,t.o,v⟩
          . clear c2;go_wp2_with(first
             |(go_at_call 119;refine(Y9 _ _ b n _).mono ?_;rintro e d ⟨rfl,rfl⟩))
            go_ret;exact⟨p,J,k,t.o,v⟩
def Mp(a b:N8)(n j k:Nat)(i bs:Ja)(w:H)(Q:Row G w (C a (n+3) j) i)(R:Row G w (C b (n+2) k) bs)(o:Bs O i)(f:Bs O bs)
(l:O<=2*bs[n+1]?.getD 0)(y:val O i<val O bs*O):
 Calls L 139 #[C a (n+3) j,C b (n+2) k] w λe S=>∃g,e=.returned (F G (g:Nat))/\g<O/\Db (val O i) (val O bs) g/\Bl w S:=by
 obtain⟨A,U,aa,W,m⟩:=Jm Q;obtain⟨B,V,ad,X,s⟩:=Jm R;obtain⟨t,u,rfl,z,ka⟩:=m (n+2) Y;obtain⟨_,_,c,_,N⟩:=m (n+1) Y;cases c;obtain⟨_,_,c,_,K⟩:=m n Y;cases c;obtain⟨v,x,rfl,T,kb⟩:=s (n+1) Y;obtain⟨_,_,c,_,P⟩:=s n Y;cases c;have d:0<O:=by unfold O;omega
 have p:=Mk A.symm;have r:=IQ B.symm;exact Mo (n+2) (n+1) n Y Y t u v x j k _ _ _ _ _ _ _ w Y ka N K kb P z (o.getD d _) (o.getD d _) (f.getD d _) (f.getD d _) (by unfold O at l;omega)
  (λh=>Mm p r (JU f n) l (f.getD d _) y h) λq D h=>Mn p r (JU o n) (JU f n) l D h
def Bv.win{W:H}{b:Nat}(h:Bv W b xs)(a len cap:Nat)(c:a+len<=xs.length)(d:len<=cap)(e:cap<=9223372036854775807)(f:len<=1099511627776):Row G W (C (some ⟨b,a,none⟩) len cap) ((xs.drop a).take len):=
 h.row a len cap c d e f
def Mq{q:Ja}(a:q.length=len)(h:ro+len<=xs.length):((B0 xs ro len q).drop ro).take len=q:=by
 rw[B0,List.drop_append_of_le_length (by rw[Af];omega),AH (by rw[Af];omega),Ak,AO Y,Ab Y]
def Mr{p q:Ja}(hp:p.length=len)(h:ro+len<=xs.length):B0 (B0 xs ro len p) ro len q=B0 xs ro len q:=by
 have a:(xs.take ro).length=ro:=by rw[Af];omega
 rw[B0,B0,B0,AO Y,Ab Y,List.drop_append,a,show ro+len-ro=len from by omega,AH Y,Ak,List.drop_append,hp,AW,AH Y,Ak,Aq]
def Ms{q:Ja}(a:Bs O xs)(c:Bs O q):Bs O (B0 xs ro len q):=by
 intro x b;rw[B0]at b;rcases Ct.1 b with h|h
 . exact(a.take ro) x h
 . rcases Ct.1 h with h|h
   . exact c x h
   . exact(a.drop _) x h
def Mt(d ro n cap:Nat)(xs:Ja)(a:N8)(j:Nat)(bs:Ja)(w:H)
(u:Bv w d xs)(z:Bs O xs)(ah:ro+(n+3)<=xs.length)(y:n+3<=cap)(ai:cap<=9223372036854775807)(hn:n+3<=1099511627776)(l:Row G w (C a (n+2) j) bs)(m:Bs O bs)(aa:∀p,a=some p->0<n+2->p.block≠d)
(W:O<=2*bs[n+1]?.getD 0)(V:val O ((xs.drop ro).take (n+3))<val O bs*O):
 Calls L 115 #[C (some ⟨d,ro,none⟩) (n+3) cap,C a (n+2) j] w λe w'=>
  ∃q,e=.returned (F G ((val O ((xs.drop ro).take (n+3))/val O bs:Nat):Int))/\(q.length=n+3/\Bs O q/\val O q=val O ((xs.drop ro).take (n+3))%val O bs)/\Bv w' d (B0 xs ro (n+3) q)/\w.grownBy w' (some d):=by
 have Q:=u.win ro (n+3) cap ah y ai hn;have B:=Z (Mp _ a n cap j _ bs w Q l ((z.drop ro).take _) m W V);have t:=(Jm l).1;have K:val O bs<O^(n+2):=by have:=JL m;rwa[<-t]at this
 have Qk:val O bs<O^(n+3):=Ao K (Al uo Y);obtain⟨A,s,D,S,HA,i,Qj⟩:=Ks l aa z m u ah t;clear Q W V t K Qk l aa z m u;go_enter func115,ntmps115
 go_upto_region 2 with(go_at_call 139;refine B.o.mono ?_;rintro e w1 ⟨g,rfl,X,U,k⟩;have r:=Z U;clear U B)
 have R:=Z (L1 d ro (n+2) cap xs a j bs g w1 (HA.o.below k) D.o i.o y (Row.below A.o k) S.o s.o X);go_upto_if 13 with(go_at_call 140;refine R.o.mono ?_;rintro e w2 ⟨c,q,rfl,⟨hc,ae⟩,hA2,v⟩;have b:=Z ae;clear ae R)
 obtain rfl|rfl:c=0\/c=1:=Y
 . have o:=Z (KL r.o (by have:=b.o.2.2;rw[AU,AK]at this;exact this));have HE:=Z o.o.1;have HM:=Z o.o.2;clear o r;go_wp2_with fail
   go_ret;exact⟨q,by rw[<-HE.o];rfl,⟨b.o.1,b.o.2.1,HM.o⟩,hA2,Ju (Yb k _) v⟩
 . have N:=Z (Fq d ro (n+3) cap (B0 xs ro (n+3) q) a (n+2) j bs w2 hA2 (Ms D.o b.o.2.1) (by rw[JB b.o.1 i.o];exact i.o) y Y Y (Row.grown (Row.below A.o k) v s.o) S.o s.o);have Ql:1<=g:=by
    rcases An g with h|h
    . exfalso
      have h1:=b.o.2.2;have h2:=JL b.o.2.1;rw[b.o.1]at h2;rw[h,AU,Nat.mul_one]at h1;omega
    . exact h
   obtain⟨p,hp⟩:=ex (g-1:Nat);have ak:(g:Int)-1=(p:Int):=Y
   have am:G.wrap (p:Int)=(p:Int):=by rw[BK];unfold O at X;omega
   have HP:=Z hp;clear hp Ql;go_wp2_with(go_at_call 106;refine N.o.mono ?_;rintro e w3 ⟨c3,q3,rfl,ad,hA3,aj⟩;have f:=Z ad;clear ad N)
   go_ret;have x:=KM r.o (P:=O^(n+3)) (by have:=b.o.2.2;rw[Nat.mul_one]at this;exact this) (by have:=JL b.o.2.1;rw[b.o.1]at this;exact this) (q2:=val O q3) (c2:=c3)
    (by
     have T:=f.o.2.2.2;rw[Mq b.o.1 i.o,Ab (show bs.length<=n+3 by rw[<-Qj.o];omega)]at T;exact T)
    (by have:=JL f.o.2.1;rw[f.o.1]at this;exact this) f.o.2.2.1
   rw[HP.o]at x;rw[Mr b.o.1 i.o]at hA3;exact⟨q3,by rw[<-x.2.1];rfl,⟨f.o.1,f.o.2.1,x.2.2⟩,hA3,Ju (Ju (Yb k _) v) aj⟩
def IU{bs:Ja}{d:Nat}(j:Bs O bs)(hl:bs.length=l+2)(g:bs[l+1]?.getD 0=d)(e:2^(c-1)<=d)(f:d<2^c)(m:1<=c)(k:c<=64)(hs:s=64-c):
 val O bs*2^s<O^(l+2)/\2^63*O^(l+1)<=val O bs*2^s:=by
 have o:val O bs=val O (bs.take (l+1))+O^(l+1)*d:=by
  have h:=Ji O bs (l+1);rwa[Ab Y,g]at h
 have n:=JU j (l+1);have p1:2^c*2^s=O:=by rw[<-Cm,Xx];congr 1;omega
 have i:2^(c-1)*2^s=2^63:=by rw[<-Cm];congr 1;omega
 constructor
 . have b:val O bs+1<=O^(l+1)*2^c:=by
    have:=Ai (O^(l+1)) (show d+1<=2^c from f);rw[CB,Nat.mul_one]at this;omega
   have a:=Ae (2^s) b;rw[A0,p1,<-AV,Ci,CS]at a;exact Ao (Nat.lt_add_of_pos_right (AG s)) a
 . have b:O^(l+1)*2^(c-1)<=val O bs:=by
    have:=Ai (O^(l+1)) e;omega
   have a:=Ae (2^s) b;rw[A0,i,Am]at a;exact a
def Mu(i:Bs O f)(hl:f.length=l+3)(b:val O f=V)(c:V<O^(l+2))(j:2^63*O^(l+1)<=V):
 val O (f.take (l+2))=V/\O<=2*(f.take (l+2))[l+1]?.getD 0:=by
 have g:=Xg (B:=O) (k:=l+2) (D:=f) Y (by rw[b];exact c);have a:val O (f.take (l+2))=V:=by
  have h:=val_append O (f.take (l+2)) (f.drop (l+2));rw[AC,g,AU,AK,b]at h;exact h.symm
 refine⟨a,?_⟩;rw[Ca Y];have d:=Ji O f (l+1);have m:=JU i (l+1);rw[show l+1+1=l+2 from J,a]at d;rcases As (f[l+1]?.getD 0) (2^63)with h|h
 . exfalso
   have e:=Ai (O^(l+1)) (show f[l+1]?.getD 0+1<=2^63 from h);rw[CB,Nat.mul_one,Am _ (2^63)]at e;omega
 . rw[Xx];omega
def Mv{m:Nat}(d:m<O^c)(e:O^(l+1)<=n)(hl:l+1<=c):m*2^s<n*2^s*O^(c-(l+1)):=by
 have b:O^(l+1)*O^(c-(l+1))=O^c:=by rw[<-Cm];congr 1;omega
 have a:=Ae (O^(c-(l+1))) e;rw[b]at a;rw[Nat.mul_right_comm];exact Nat.mul_lt_mul_of_pos_right (Ao d a) (AG s)
def Jz{P:Program}{ops:Array Oper}{Q:Exit->Act->H->Prop}{i:Nat}{o:Oper}{K:Act->H->Prop}{a:Act}(c:ops[i]?=some o)(b:o.guard=none)
(h:∀K':Act->H->Prop,(∀a w,K a w->K' a w)->o.wp P a w K' Q):wpOp P ops Q i K a w:=by
 unfold wpOp;rw[c];simp only[Region.wanted,b,if_true];exact Ar (h K λ_ _ h=>h)
def DC{p q:Prop}(k:q)(h:Hid q->p:=by intro x;refine Jz rfl rfl λK a=>?_;go_simp;refine a _ _ ?_;(repeat apply Exists.intro);refine ⟨rfl,?_⟩;exact x.o):p:=h k
def DZ(V:H)(b:Nat)(v:Value)(g len c:Nat)(a:Ja):Prop:=
 v=C (some ⟨g,0,none⟩) len len/\Bv V g a/\a.length=len/\Bs O a/\val O a=c/\b<=g
def DZ.below{V V':H}{b g len c:Nat}{v:Value}{a:Ja}(h:DZ V b v g len c a)(d:Bl V V'):DZ V' b v g len c a:=
 ⟨h.1,h.2.1.below d,h.2.2⟩
def DZ.box{V:H}{u:Value}(h:DZ V c v g len j f)(hl:0<len)(d:Boxed V B 23 (C none 0 0)):DZ (V.setCell ⟨B,0,none⟩ u) c v g len j f:=
 ⟨h.1,h.2.1.far (by
  intro e;simp only at e;obtain⟨i,b⟩:=h.2.1;rw[e,show V.heap[B]?=_ from d]at b;obtain⟨z,a,rfl⟩:∃z a,f=z::a:=by
   cases f with
    |nil=>have:=h.2.2.1;simp at this;omega
    |cons z a=>exact⟨z,a,J⟩
  simp[cellsOf]at b) u,h.2.2⟩
def DZ.ne_box{V:H}{b:N8}{i:Nat}(h:DZ V c v g len j f)(hl:0<len)(k:Boxed V B 23 (C b y i)):g≠B:=by
 intro e;obtain⟨l,d⟩:=h.2.1;rw[e,show V.heap[B]?=_ from k]at d;obtain⟨z,a,rfl⟩:∃z a,f=z::a:=by
  cases f with
  |nil=>have:=h.2.2.1;simp at this;omega
  |cons z a=>exact⟨z,a,J⟩
 simp[cellsOf]at d
end
section
structure SplC where
 w:World
 bs:Value
 rs:Value
 ds:Value
 qs:Value
 B9:Nat
 B10:Nat
 B11:Nat
 B12:Nat
 gR:Nat
 gZ:Nat
 gQ:Nat
 Zb:Ja
structure SplC.Apart(c:SplC):Prop where
 r0:c.gR≠c.w.heap.size
 r9:c.gR≠c.B9
 r10:c.gR≠c.B10
 r11:c.gR≠c.B11
 r12:c.gR≠c.B12
 rz:c.gR≠c.gZ
 rq:c.gR≠c.gQ
 q0:c.gQ≠c.w.heap.size
 q9:c.gQ≠c.B9
 q10:c.gQ≠c.B10
 q11:c.gQ≠c.B11
 q12:c.gQ≠c.B12
 qz:c.gQ≠c.gZ
 lr:c.w.heap.size<=c.gR
 lq:c.w.heap.size<=c.gQ
structure SplC.Holds(c:SplC)(W:World):Prop where
 b0:Boxed W c.w.heap.size 23 c.bs
 b9:Boxed W c.B9 23 c.rs
 b10:Boxed W c.B10 23 c.ds
 b11:Boxed W c.B11 23 c.qs
 b12:Boxed W c.B12 23 c.qs
 z:Bv W c.gZ c.Zb
 B:Below c.w.heap.size c.w W
theorem SplC.Holds.kept{c:SplC}{W W':H}{g:Nat}(h:c.Holds W)(a:W.grownBy W' (some g))(b:g≠c.w.heap.size)(j:g≠c.B9)(d:g≠c.B10)(f:g≠c.B11)(i:g≠c.B12)(k:g≠c.gZ)(hl:c.w.heap.size<=g):c.Holds W':=
 ⟨h.b0.kept a (λe=>by grind),h.b9.kept a (λe=>by grind),h.b10.kept a (λe=>by grind),h.b11.kept a (λe=>by grind),
  h.b12.kept a (λe=>by grind),h.z.kept a (λe=>by grind),below_grown h.B a hl⟩
def SplC.Holds.drew{c:SplC}{W:H}(h:c.Holds W):c.Holds W.drew:=
 ⟨h.b0,h.b9,h.b10,h.b11,h.b12,h.z,h.B.drew⟩
variable{f:Bool}{D D' Q Q':Ja}{B:Nat}{W W' W0:H}
def SplC.own(c:SplC)(d:c.w.heap.size<=B):OwnFrom B (λ(_:Nat) W=>c.Holds W):=λk W W' row hs a b=>
 ⟨Yq hs.b0 a b,Yq hs.b9 a b,Yq hs.b10 a b,Yq hs.b11 a b,Yq hs.b12 a b,XO hs.z a b,Hr d k W W' row hs.B a b⟩
def IV(c:SplC)(a V n K:Nat)(k:Nat)(W:H):Prop:=
 c.Holds W/\∃D Q,Bv W c.gR D/\Bv W c.gQ Q/\YV a V n K (K-k) D Q
def Mw(c:SplC)(d V n K:Nat)(i:c.w.heap.size<=B):OwnFrom B (IV c d V n K):=
 BI (c.own i) (λ_ _ _ _ hs a b=>by obtain⟨D,Q,e,f,g⟩:=hs;exact⟨D,Q,XO e a b,XO f a b,g⟩)
structure SplM(c:SplC)(W0:World)(D D' Q Q':Ja)(e f:Bool)(W:World):Prop where
 k:KeepsOthers W0 W
 h:c.Holds W
 r:Bv W c.gR (bif e then D' else D)
 q:Bv W c.gQ (bif f then Q' else Q)
def SplM.drew{c:SplC}{W0 W:H}{D D' Q Q':Ja}{e f:Bool}(h:SplM c W0 D D' Q Q' e f W):SplM c W0 D D' Q Q' e f W.drew:=
 ⟨h.k.trans (KeepsOthers.drew W),h.h.drew,h.r,h.q⟩
def Mx{g:Nat}{xs:Ja}(b:Bv W g xs)(c:W.grownBy W' (some g)):KeepsOthers W W':=
 KeepsOthers.of_grownBy c λj o a d=>by cases a;exact b.other d
def SplM.any{c:SplC}(h:SplM c W0 D D' Q Q' false f W)(a:Ja):SplM c W0 D a Q Q' false f W:=⟨h.k,h.h,h.r,h.q⟩
def SplM.split{c:SplC}(h:SplM c W0 D D' Q Q' false f W)(a:c.Apart)(b:W.grownBy W' (some c.gR))(d:Bv W' c.gR D'):SplM c W0 D D' Q Q' true f W':=
 ⟨h.k.trans (Mx h.r b),h.h.kept b a.r0 a.r9 a.r10 a.r11 a.r12 a.rz a.lr,d,h.q.kept b λe=>by injection e with e;exact a.rq e.symm⟩
theorem SplM.store{c:SplC}{e:Bool}(h:SplM c W0 D D' Q Q' e false W)(a:c.Apart){j v:Nat}(d:Q.set j v=Q'):SplM c W0 D D' Q Q' e true (W.setCell ⟨c.gQ,j,none⟩ (F G (v:Nat))):=
 have b:=JD W c.gQ j (F G (v:Nat))
 ⟨h.k.trans (BO _ _ _),h.h.kept b a.q0 a.q9 a.q10 a.q11 a.q12 a.qz a.lq,h.r.kept b (λe=>by injection e with e;exact a.rq e),by have:=h.q.set j v;grind⟩
def My(a:N8)(f ca:Nat)(x y l lb l1 cb m n d s:Nat)(w:H)(ew:lb=l+2)(h2:(lb:Int)-1=l1)(fc:x<w.heap.size)
(ra:Row G w (C a f ca) (Jb O m))(rb:Row G w (C (some ⟨x,y,none⟩) lb cb) (Jb O n))
(kb:w.cell? ⟨x,y+l1,none⟩=some (F G (d:Nat)))(fd:d<O)(hs:s<=63)(HS:Hid ((64:Int)-(Lib.bitLen d:Int)=(s:Int)))(fo:lb<=f)(fe:f<1099511627776)
(ei:Hid (n*2^s<O^(l+2)))(ek:Hid (2^63*O^(l+1)<=n*2^s))(f9:Hid (m*2^s<n*2^s*O^(f-(l+1)))):
 Calls L 84 #[C a f ca,C (some ⟨x,y,none⟩) lb cb] w λe w'=>∃u v,e=.returned (.tuple #[u,v])/\UN w' u (m/n)/\UN w' v (m%n)/\Bl w w':=by
 have Qc:=Z ew;have i1:M.wrap ((lb:Int)-1)=(l1:Int):=by rw[h2];exact BH _ Y
 have i3:M.wrap (l1:Int)=(l1:Int):=BH _ Y;have j1:(l1:Int)<(lb:Int):=Y
 have j9:(0:Int)<=(l1:Int):=Y
 have fr:¬(lb=1):=Y
 have Qg:Bl w (w.alloc (.cells #[C (some ⟨x,y,none⟩) lb cb] 23)):=Ba w _;have Qf:=BN w 23 (C (some ⟨x,y,none⟩) lb cb);obtain⟨W0,cg⟩:=ex (w.alloc (.cells #[C (some ⟨x,y,none⟩) lb cb] 23));have Qs:W0.heap.size=w.heap.size+1:=by rw[<-cg];simp
 rw[cg]at Qg Qf;have Uq:=Qf.cell;have Uz:=(Qg.cell (p:=⟨x,y+l1,none⟩) fc).trans kb;have Qr:=Z λ(V:H) (h:Bl W0 V)=>Hq a f ca (Jb O m) s V hs (Row.below (Row.below ra Qg) h) (Jf Jc m) fe;have Qp:=Z λ(V:H) (h:Bl W0 V)=>Hq (some ⟨x,y,none⟩) lb cb (Jb O n) s V hs (Row.below (Row.below rb Qg) h) (Jf Jc n) Y;rw[Je Jc]at Qr Qp;have Ub:=Z cg;have Ua:=Z (show ∀V:H,Calls L 113 #[F G (d:Nat)] V λe w'=>e=.returned (F M (s:Nat))/\w'=V from λV=>by
  have h:=Tryz.bits_LeadingZeros64 (d:Nat) V Y (by unfold O at fd;omega);rw[Int.toNat_natCast,HS.o]at h;exact h)
 have fw:G.wrap (s:Int)=(s:Int):=Bb _ Y;have Ur:=Z Qs;clear cg ew ra rb kb HS;refine(BL (n:=3)).1 ?_;refine BR func84 J trivial ?_ J;simp only[ntmps84,AD,Ap,AQ,Nat.reduceAdd,Nat.reduceSub,Aw,Ax,AM,AF,Ak,AJ];refine wpIn_wide.2 ?_;go_upto_region 1 with fail
 rw[Ub.o];clear Ub Qs;go_upto_region 8 with(go_at_call 113;refine(Ua.o _).mono ?_;rintro e w' ⟨rfl,e1⟩;have e2:=e1.symm;subst e2;clear e1)
 refine J5 DN [[],[],[0,1],[],[],[3,4,2],[],[6],[5,7],[],[],[9,2,5,0,1,2,9,10],[10,8,11,0,1,2,3,4,5,6,7,8,9,10,11]] N9 Bw
  (λD ac V=>∃t9 ay az bc bd bf bg bu bh bi bz:Value,ac={ tmps:=#[C a f ca,C (some ⟨x,y,none⟩) lb cb,E,I (some ⟨w.heap.size,0,none⟩),C none 0 0,C none 0 0,E,E,F G (s:Nat),t9,ay,E,E,C a f ca,F M (f:Nat),C (some ⟨x,y,none⟩) lb cb,F M (lb:Nat),.bool false,E,E,C (some ⟨x,y,none⟩) lb cb,F M (lb:Nat),.bool false,E,E,E,E,E,E,E,E,E,E,E,E,C (some ⟨x,y,none⟩) lb cb,C (some ⟨x,y,none⟩) lb cb,F M (lb:Nat),F M (l1:Nat),I (some ⟨x,y+l1,none⟩),F G (d:Nat),F M (s:Nat),F G (s:Nat),az,bc,bd,bf,bg,bu,bh,bi,bz,E,E,E,E,E,E,E,E,E,E,E,E,E,E,E,E,E,E,E,E,E,E,E,E,E,E,E,E],defers:=[] }/\Hid (D 0=true->az=C a f ca)/\Hid (D 1=true->bc=F G (s:Nat))/\Hid (D 2=true->∃g bj,DZ V W0.heap.size bd g (f+1) (m*2^s) bj)/\Hid (D 3=true->bf=C (some ⟨x,y,none⟩) lb cb)/\Hid (D 4=true->bg=F G (s:Nat))/\Hid (D 5=true->∃gR Zr gZ Zb,DZ V W0.heap.size bd gR (f+1) (m*2^s) Zr/\DZ V W0.heap.size bu gZ (lb+1) (n*2^s) Zb/\gR≠gZ)/\Hid (D 6=true->bh=C (some ⟨x,y,none⟩) lb cb)/\Hid (D 7=true->bi=F M (lb:Nat))/\Hid (D 8=true->∃gZ,bu=C (some ⟨gZ,0,none⟩) (lb+1) (lb+1)/\bz=C (some ⟨gZ,0,none⟩) lb (lb+1))/\Hid (D 9=true->D 11=false->∃B,t9=I (some ⟨B,0,none⟩)/\Boxed V B 23 (C none 0 0)/\W0.heap.size<=B)/\Hid (D 10=true->D 12=false->∃B,ay=I (some ⟨B,0,none⟩)/\Boxed V B 23 (C none 0 0)/\W0.heap.size<=B)/\Hid (D 9=true->D 10=true->t9≠ay)/\Hid (D 11=true->∃B,t9=I (some ⟨B,0,none⟩)/\Boxed V B 23 bd/\W0.heap.size<=B)/\Hid (D 12=true->∃B,ay=I (some ⟨B,0,none⟩)/\Boxed V B 23 bz/\W0.heap.size<=B)/\Bl W0 V)
  (E8 ⟨_,_,_,J,Z C0,Z C0,Z C0,Z C0,Z C0,Z C0,Z C0,Z C0,Z C0,Z C0,Z C0,Z C0,Z C0,Z C0,(BC _ W0).drew⟩) ?step8 ?fin8
 case step8=>
  rintro D a2 V i ds ah e6 b ai ⟨t9,ay,az,bc,bd,bf,bg,bu,bh,bi,bz,rfl,P,R,g2,S,T,t,U,X,g8,N,z,gx,ad,ae,r⟩;have Qx:i<13:=(AA.1 e6).1;obtain rfl|rfl|rfl|rfl|rfl|rfl|rfl|rfl|rfl|rfl|rfl|rfl|rfl:=FC i Y
  all_goals
   simp only[A3,AY,A8]at e6;subst e6;clear Qx
  . clear b ah;refine DC ?_;exact⟨Z λ_=>rfl,R,g2,S,T,t,U,X,g8,N,z,gx,ad,ae,r⟩
  . clear b ah;refine DC ?_;exact⟨P,Z λ_=>rfl,g2,S,T,t,U,X,g8,N,z,gx,ad,ae,r⟩
  . have Ut:D 5=false:=DE ah ai;have Qb:D 11=false:=DE ah ai;have Qa:D 12=false:=DE ah ai;obtain rfl:=P.o (b 0 Br);obtain rfl:=R.o (b 1 Br);clear b ah;refine Jz J J λK hK=>?_;go_simp;go_wp2_with(go_at_call 114;refine(Qr.o _ r).mono ?_;rintro e w5 ⟨t,Z5,rfl,⟨du,dw,dx⟩,hA5,bp,an⟩)
    exact E8 ⟨_,_,_,J,Z λ_=>rfl,Z λ_=>rfl,Z λ_=>⟨t,Z5,J,hA5,du,dw,dx,A2 r.size bp⟩,S,T,Z (λh=>by simp[Ut]at h),U,X,g8,Z (λh h2=>by obtain⟨B,e,q,q2⟩:=N.o h h2;exact⟨B,e,Jr q an,q2⟩),Z (λh h2=>by obtain⟨B,e,q,q2⟩:=z.o h h2;exact⟨B,e,Jr q an,q2⟩),gx,Z (λh=>by simp[Qb]at h),Z (λh=>by simp[Qa]at h),Bt r an⟩
  . have k0:=(Jr Qf r).cell;clear b ah;refine DC ?_;exact⟨P,R,g2,Z λ_=>rfl,T,t,U,X,g8,N,z,gx,ad,ae,r⟩
  . clear b ah;refine DC ?_;exact⟨P,R,g2,S,Z λ_=>rfl,t,U,X,g8,N,z,gx,ad,ae,r⟩
  . have Uo:D 8=false:=DE ah ai;have Qb:D 11=false:=DE ah ai;have Qa:D 12=false:=DE ah ai;obtain rfl:=S.o (b 3 Br);obtain rfl:=T.o (b 4 Br);obtain⟨gR,Zr,hR⟩:=g2.o (b 2 Br);have fl:=hR.2.1.lt;clear b ah;refine Jz J J λK hK=>?_;go_simp;go_wp2_with(go_at_call 114;refine(Qp.o _ r).mono ?_;rintro e w5 ⟨t,Z5,rfl,⟨du,dw,dx⟩,hA5,bp,an⟩)
    exact⟨_,_,_,_,_,_,_,_,_,_,_,J,P,R,Z λ_=>⟨gR,Zr,hR.below an⟩,Z λ_=>rfl,Z λ_=>rfl,Z λ_=>⟨gR,Zr,t,Z5,hR.below an,⟨J,hA5,du,dw,dx,A2 r.size bp⟩,Y⟩,U,X,Z (λh=>by simp[Uo]at h),Z (λh h2=>by obtain⟨B,e,q,q2⟩:=N.o h h2;exact⟨B,e,Jr q an,q2⟩),Z (λh h2=>by obtain⟨B,e,q,q2⟩:=z.o h h2;exact⟨B,e,Jr q an,q2⟩),gx,Z (λh=>by simp[Qb]at h),Z (λh=>by simp[Qa]at h),Bt r an⟩
  . have k0:=(Jr Qf r).cell;clear b ah;refine DC ?_;exact⟨P,R,g2,S,T,t,Z λ_=>rfl,X,g8,N,z,gx,ad,ae,r⟩
  . obtain rfl:=U.o (b 6 Br);clear b ah;refine DC ?_;exact⟨P,R,g2,S,T,t,Z λ_=>rfl,Z λ_=>rfl,g8,N,z,gx,ad,ae,r⟩
  . have Qa:D 12=false:=DE ah ai;obtain⟨gR,Zr,gZ,Zb,hR,hZ,aw⟩:=t.o (b 5 Br);obtain rfl:=hZ.1;obtain rfl:=X.o (b 7 Br);have b1:(0:Int)<=(lb:Int):=Y
    have b2:(lb:Int)<=(lb:Int)+1:=Y
    clear b ah;refine DC ?_;exact⟨P,R,g2,S,T,Z λ_=>⟨gR,Zr,gZ,Zb,hR,hZ,aw⟩,U,Z λ_=>rfl,Z λ_=>⟨gZ,J,J⟩,N,z,gx,ad,Z (λh=>by simp[Qa]at h),r⟩
  . have Qb:D 11=false:=DE ah ai;have Qa:D 12=false:=DE ah ai;clear b ah;refine DC ?_;exact⟨P,R,Z (λh=>by obtain⟨g,bj,q⟩:=g2.o h;exact⟨g,bj,q.below (Ba V _)⟩),S,T,Z (λh=>by obtain⟨gR,Zr,gZ,Zb,q1,q2,q3⟩:=t.o h;exact⟨gR,Zr,gZ,Zb,q1.below (Ba V _),q2.below (Ba V _),q3⟩),U,X,g8,Z λ_ _=>⟨_,J,BN _ _ _,r.size⟩,Z (λh h2=>by obtain⟨B,e,q,q2⟩:=z.o h h2;exact⟨B,e,q.alloc _,q2⟩),Z (λ_ h e=>by obtain⟨B,e2,q,q2⟩:=z.o (by simpa using h) Qa;have:=q.lt;rw[e2]at e;cases e;omega),Z (λh=>by simp[Qb]at h),Z (λh=>by simp[Qa]at h),r.alloc r.size _⟩
  . have Qb:D 11=false:=DE ah ai;have Qa:D 12=false:=DE ah ai;clear b ah;refine DC ?_;exact⟨P,R,Z (λh=>by obtain⟨g,bj,q⟩:=g2.o h;exact⟨g,bj,q.below (Ba V _)⟩),S,T,Z (λh=>by obtain⟨gR,Zr,gZ,Zb,q1,q2,q3⟩:=t.o h;exact⟨gR,Zr,gZ,Zb,q1.below (Ba V _),q2.below (Ba V _),q3⟩),U,X,g8,Z (λh h2=>by obtain⟨B,e,q,q2⟩:=N.o h h2;exact⟨B,e,q.alloc _,q2⟩),Z λ_ _=>⟨_,J,BN _ _ _,r.size⟩,Z (λh _ e=>by obtain⟨B,e2,q,q2⟩:=N.o (by simpa using h) Qb;have:=q.lt;rw[e2]at e;cases e;omega),Z (λh=>by simp[Qb]at h),Z (λh=>by simp[Qa]at h),r.alloc r.size _⟩
  . have Qa:D 12=false:=DE ah ai;obtain⟨B,rfl,ak,bt⟩:=N.o (b 9 Br) ai;obtain⟨gR,Zr,gZ,Zb,hR,hZ,aw⟩:=t.o (b 5 Br);have k0:=ak.cell;have f0:=ak.frozen;obtain⟨B2,bk,dz,eh⟩:=z.o (b 10 Br) Qa;have Qt:B≠B2:=λe=>gx.o (b 9 Br) (b 10 Br) (by rw[bk,e]);obtain rfl:=bk;obtain rfl:=hR.1;clear N ad;clear b ah;refine DC ?_;exact⟨P,R,Z λ_=>⟨gR,Zr,hR.box Y ak⟩,S,T,Z λ_=>⟨gR,Zr,gZ,Zb,hR.box Y ak,hZ.box Y ak,aw⟩,U,X,g8,Z (λ_ h=>by simp at h),Z λ_ _=>⟨B2,J,dz.kept (Bo _ B _) (λe=>by injection e;omega),eh⟩,gx,Z λ_=>⟨B,J,ak.set _,bt⟩,Z (λh=>by simp[Qa]at h),r.setCell (p:=⟨B,0,none⟩) bt _⟩
  . obtain⟨B,rfl,ak,bt⟩:=z.o (b 10 Br) ai;obtain⟨gR,Zr,gZ,Zb,hR,hZ,aw⟩:=t.o (b 5 Br);obtain⟨en,ce,dt⟩:=g8.o (b 8 Br);have k0:=ak.cell;have f0:=ak.frozen;obtain⟨B2,bk,dz,eh⟩:=ad.o (b 11 Br);have Qt:B≠B2:=λe=>gx.o (b 9 Br) (b 10 Br) (by rw[bk,e]);obtain rfl:=dt;obtain rfl:=ce;obtain rfl:=bk;have Qy:=b 11 Br;clear z ae;clear b ah;refine DC ?_;exact⟨P,R,Z λ_=>⟨gR,Zr,hR.box Y ak⟩,S,T,Z λ_=>⟨gR,Zr,gZ,Zb,hR.box Y ak,hZ.box Y ak,aw⟩,U,X,Z λ_=>⟨en,J,J⟩,Z (λ_ h=>by simp[Qy]at h),Z (λ_ h=>by simp at h),gx,Z λ_=>⟨B2,J,dz.kept (Bo _ B _) (λe=>by injection e;omega),eh⟩,Z λ_=>⟨B,J,ak.set _,bt⟩,r.setCell (p:=⟨B,0,none⟩) bt _⟩
 rintro D a2 o am ⟨t9,ay,az,bc,bd,bf,bg,bu,bh,bi,bz,rfl,P,R,g2,S,T,t,U,X,g8,N,z,gx,ad,ae,r⟩;obtain⟨gR,Zr,gZ,Zb,hR,hZ,aw⟩:=t.o (am 5 Bw);obtain⟨en,ce,dt⟩:=g8.o (am 8 Bw);obtain⟨B9,rfl,bn,fv⟩:=ad.o (am 11 Bw);obtain⟨B10,rfl,bm,fu⟩:=ae.o (am 12 Bw);obtain rfl:=dt;obtain rfl:=hR.1;have e0:=hZ.1;rw[ce]at e0;cases e0;obtain rfl:=ce;clear P R g2 S T t U X g8 N z gx ad ae am Qr Qp Ua;obtain⟨K,hK⟩:∃K:Nat,(f:Int)+1-(lb:Int)=(K:Int):=⟨f+1-lb,Y⟩;have fj:M.wrap (K:Int)=(K:Int):=BH _ Y;have Uw:=Xl K Y o;have k9:=bn.cell;have Us:=bm.cell;have Qi:K+lb=f+1:=Y
 have Qm:=Z Qi;clear Qi;go_wp2_with(go_at_call 103;refine((BL (n:=2)).1 (D9 Fence.wide _ trivial J _ _ _ _)).mono ?_;rintro e w' ⟨rfl,rfl⟩)
 refine(wpIn_wide (n:=3)).1 ?_;obtain⟨WQ,aq⟩:=ex (((o.alloc (.cells (cellsOf G (OA K 0)).toArray 94)).alloc (.cells #[C (some ⟨o.heap.size,0,none⟩) K K] 23)).alloc (.cells #[C (some ⟨o.heap.size,0,none⟩) K K] 23));have Uv:WQ.heap.size=o.heap.size+1+1+1:=by rw[<-aq];simp
 have Qj:Bl w o:=Bt Qg r;have Qs:=Ur.o;have Um:Bl w WQ:=by rw[<-aq];exact((Qj.alloc Qj.size _).alloc (by have:=Qj.size;simp;omega) _).alloc (by have:=Qj.size;simp;omega) _
 have lR:=hR.2.1.lt;have lZ:=hZ.2.1.lt;have l9:=bn.lt;have fx:=bm.lt;have n9:gR≠B9:=λe=>hR.ne_box Y bn e;have fy:gR≠B10:=λe=>hR.ne_box Y bm e;have ff:=hR.2.2.2.2.2;have fg:=hZ.2.2.2.2.2;obtain⟨c,hc⟩:∃c:SplC,c=⟨w,C (some ⟨x,y,none⟩) lb cb,C (some ⟨gR,0,none⟩) (f+1) (f+1),C (some ⟨gZ,0,none⟩) lb (lb+1),C (some ⟨o.heap.size,0,none⟩) K K,B9,B10,o.heap.size+1,o.heap.size+1+1,gR,gZ,o.heap.size,Zb⟩:=⟨_,J⟩;have Ue:c.Apart:=by
  rw[hc];constructor<;>(simp only;omega)
 have Uc:c.Holds WQ:=by
  rw[hc,<-aq];have Ui:=(BN (o.alloc (.cells (cellsOf G (OA K 0)).toArray 94)) 23 (C (some ⟨o.heap.size,0,none⟩) K K)).alloc (.cells #[C (some ⟨o.heap.size,0,none⟩) K K] 23);have Uf:=BN ((o.alloc (.cells (cellsOf G (OA K 0)).toArray 94)).alloc (.cells #[C (some ⟨o.heap.size,0,none⟩) K K] 23)) 23 (C (some ⟨o.heap.size,0,none⟩) K K);simp only[BA]at Ui Uf;exact⟨(((Jr Qf r).alloc _).alloc _).alloc _,((bn.alloc _).alloc _).alloc _,((bm.alloc _).alloc _).alloc _,Ui,Uf,((hZ.2.1.alloc _).alloc _).alloc _,by rw[aq];exact Um⟩
 have Uh:Bv WQ gR Zr:=by rw[<-aq];exact((hR.2.1.alloc _).alloc _).alloc _
 have Qz:Bv WQ o.heap.size (OA K 0):=by rw[<-aq];exact((Bv.made (BD o _)).alloc _).alloc _
 have Qu:YV (m*2^s) (n*2^s) lb K K Zr (OA K 0):=YV.start (by have:=Qm.o;rw[hR.2.2.1];omega) hR.2.2.2.1 hR.2.2.2.2.1 (by
  have h:=f9.o;rwa[show f-(l+1)=K from by have:=Qm.o;have:=Qc.o;omega]at h)
 obtain⟨ef,f6⟩:=Mu hZ.2.2.2.1 (by rw[hZ.2.2.1,Qc.o]) hZ.2.2.2.2.1 ei.o ek.o;have Ux:0<n*2^s:=by
  have h:=ek.o;have:=Bq (AG 63) (CT (n:=l+1) (show 0<O by unfold O;omega));omega
 have Qh:n*2^s<O^lb:=by rw[Qc.o];exact ei.o
 have Up:=hZ.2.2.2.1;have fm:=hZ.2.2.1;rw[aq];clear aq Uw bn bm Qf Uq k9 Us hR hZ r Qj Uz;refine Yt J Y (gf:=126) (lb:=#[I (some ⟨o.heap.size+1+1,0,none⟩)]) J trivial (enters_of func126 N9 J)
  (XH Fence.wide _ trivial J Y (o.heap.size+1+1) (some ⟨o.heap.size,0,none⟩) K K (λ_=>0) Y) (λ_=>rfl)
  (IV c (m*2^s) (n*2^s) lb K) (λ_ _ _=>False) (Mw c _ _ _ _ (by rw[hc,Uv];simp only;omega)) (λc _ _ _ _ h _ _=>h.elim)
  ⟨Uc,Zr,OA K 0,by rw[hc];exact Uh,by rw[hc];exact Qz,by rw[CY];exact Qu⟩ ?rd
  (λk=>{ tmps:=#[C a f ca,C (some ⟨x,y,none⟩) lb cb,E,I (some ⟨w.heap.size,0,none⟩),C none 0 0,C none 0 0,E,E,F G (s:Nat),I (some ⟨B9,0,none⟩),I (some ⟨B10,0,none⟩),I (some ⟨o.heap.size+1,0,none⟩),F M ((K:Int)-1-k),C a f ca,F M (f:Nat),C (some ⟨x,y,none⟩) lb cb,F M (lb:Nat),.bool false,E,E,C (some ⟨x,y,none⟩) lb cb,F M (lb:Nat),.bool false,E,E,E,E,E,E,E,E,E,E,E,E,C (some ⟨x,y,none⟩) lb cb,C (some ⟨x,y,none⟩) lb cb,F M (lb:Nat),F M (l1:Nat),I (some ⟨x,y+l1,none⟩),F G (d:Nat),F M (s:Nat),F G (s:Nat),az,bc,C (some ⟨gR,0,none⟩) (f+1) (f+1),bf,bg,C (some ⟨gZ,0,none⟩) (lb+1) (lb+1),bh,bi,C (some ⟨gZ,0,none⟩) lb (lb+1),C (some ⟨gR,0,none⟩) (f+1) (f+1),F M ((f:Int)+1),C (some ⟨gZ,0,none⟩) lb (lb+1),F M (lb:Nat),F M (K:Nat),C (some ⟨o.heap.size,0,none⟩) K K,C (some ⟨o.heap.size,0,none⟩) K K,.func (.func 126) #[] #[I (some ⟨o.heap.size+1+1,0,none⟩)],F M ((K:Int)-1-k),F G 0,E,E,E,E,E,E,E,E,E,E,E,E,E,E,E,E,E,E],defers:=[] }) ?assign ?body ?done ?stop
 case rd=>
  rintro k W ⟨hh,D,Q,_,hQ,hL⟩;have Ud:=hh.b12;rw[hc]at Ud hQ;refine⟨Ud.cell,λhk=>⟨o.heap.size,0,J,?_⟩⟩;rw[Cc,hQ.cell (j:=K-1-k) (by rw[hL.2.2.1];omega),hL.2.2.2.2.2.2 (K-1-k) Y]
 case assign=>
  intro l k W K hK;unfold YN;gi_wp2;exact hK
 case stop=>
  rintro D c k W _ _ h _;exact h.elim
 case body=>
  rintro l' k W ⟨hh,D,Q,hD,hQ,hL⟩ hk ft;have Ug:K-k=K-1-k+1:=Y
  rw[Ug]at hL;have e1:((K:Int)-1-k)=((K-1-k:Nat):Int):=Y
  have HI:=Z (show K-(k+1)=K-1-k by omega);have Qn:K-1-k<K:=Y
  rw[e1];obtain⟨i,hi⟩:=ex (K-1-k);rw[hi]at hL Qn HI ⊢;clear Ug e1 hi;obtain⟨w1,w2,w3⟩:=hL.win Qn Qh;have Uu:=hL.1;have fk:=hL.2.2.1;have Ul:=Z (show ∀(V:H) (nn:Nat),Bv V gR D->Bv V gZ Zb->CallsIn (Fence.wide.inRound l') nn L 115 #[C (some ⟨gR,i,none⟩) (lb+1) (f+1-i),C (some ⟨gZ,0,none⟩) lb (lb+1)] V λe w'=>
   ∃q,e=.returned (F G ((val O ((D.drop i).take (lb+1))/(n*2^s):Nat):Int))/\(q.length=lb+1/\Bs O q/\val O q=val O ((D.drop i).take (lb+1))%(n*2^s))/\Bv w' gR (B0 D i (lb+1) q)/\V.grownBy w' (some gR)from λV nn h1 h2=>by
   have Qi:=Qm.o;have hz:=h2.row 0 lb (lb+1) Y Y Y Y;have Qw:=Mt gR i l (f+1-i) D (some ⟨gZ,0,none⟩) (lb+1) (Zb.take (l+2)) V h1 hL.2.1 (by rw[Uu];have:=Qc.o;omega) (by have:=Qc.o;omega) Y (by have:=Qc.o;omega)
    (by rw[Aq,Qc.o]at hz;rw[Qc.o];exact hz) (Up.take _) (λp e _=>by cases e;exact λh=>aw h.symm) f6 (by rw[ef];have:=w1;rw[Qc.o]at this;exact this)
   rw[ef]at Qw;have e3:l+3=lb+1:=by rw[Qc.o]
   have e2:l+2=lb:=Qc.o.symm;rw[e3,e2]at Qw;exact Be l' ((BL (n:=nn)).2 Qw))
  have Un:=Z λ(q:Ja) (h1:q.length=lb+1) (h2:Bs O q) (h3:val O q=val O ((D.drop i).take (lb+1))%(n*2^s))=>hL.step Qn Qh h1 h2 h3 Ux;obtain⟨qd,f4⟩:=ex (val O ((D.drop i).take (lb+1))/(n*2^s));rw[f4]at Un Ul;clear f4 w1 w2 w3 hL ef f6 Qu;obtain⟨H1,fh⟩:∃H1:Nat,(i:Int)+(lb:Int)=(H1:Int):=⟨i+lb,Y⟩;obtain⟨ap,hH⟩:∃ap:Nat,(H1:Int)+1=(ap:Int):=⟨H1+1,Y⟩;have fi:ap-i=lb+1:=Y
  have y1:(i:Int)<=(ap:Int):=Y
  have y2:(ap:Int)<=(f:Int)+1:=Y
  have y3:(0:Int)<=(i:Int):=Y
  have y4:(i:Int)<(K:Int):=Y
  have y5:M.wrap (H1:Int)=(H1:Int):=BH _ Y;have y6:M.wrap (ap:Int)=(ap:Int):=BH _ Y;gi_wp2_with fail
  refine XD DN [[],[],[],[],[],[],[5],[4,6],[7],[2,3,8],[],[9,10],[0,1,0,1,2,3,4,5,6,7,8,9,10,11],[12,11,11,0,1,2,3,4,5,6,7,8,9,10,11]] N9 Bw
   (λDD ac V=>∃ci cj ck cn cw cy cz d8 de dg dh di dj:Value,ac={ tmps:=#[C a f ca,C (some ⟨x,y,none⟩) lb cb,E,I (some ⟨w.heap.size,0,none⟩),C none 0 0,C none 0 0,E,E,F G (s:Nat),I (some ⟨B9,0,none⟩),I (some ⟨B10,0,none⟩),I (some ⟨o.heap.size+1,0,none⟩),F M (i:Nat),C a f ca,F M (f:Nat),C (some ⟨x,y,none⟩) lb cb,F M (lb:Nat),.bool false,E,E,C (some ⟨x,y,none⟩) lb cb,F M (lb:Nat),.bool false,E,E,E,E,E,E,E,E,E,E,E,E,C (some ⟨x,y,none⟩) lb cb,C (some ⟨x,y,none⟩) lb cb,F M (lb:Nat),F M (l1:Nat),I (some ⟨x,y+l1,none⟩),F G (d:Nat),F M (s:Nat),F G (s:Nat),az,bc,C (some ⟨gR,0,none⟩) (f+1) (f+1),bf,bg,C (some ⟨gZ,0,none⟩) (lb+1) (lb+1),bh,bi,C (some ⟨gZ,0,none⟩) lb (lb+1),C (some ⟨gR,0,none⟩) (f+1) (f+1),F M ((f:Int)+1),C (some ⟨gZ,0,none⟩) lb (lb+1),F M (lb:Nat),F M (K:Nat),C (some ⟨o.heap.size,0,none⟩) K K,C (some ⟨o.heap.size,0,none⟩) K K,.func (.func 126) #[] #[I (some ⟨o.heap.size+1+1,0,none⟩)],F M (i:Nat),F G 0,ci,cj,ck,cn,cw,cy,cz,d8,de,dg,dh,di,dj,E,E,E,E,E],defers:=[] }/\Hid (DD 0=true->ci=C (some ⟨o.heap.size,0,none⟩) K K)/\Hid (DD 1=true->cj=F M (i:Nat))/\Hid (DD 2=true->ck=C (some ⟨gR,0,none⟩) (f+1) (f+1))/\Hid (DD 3=true->cn=F M (i:Nat))/\Hid (DD 4=true->cw=F M (i:Nat))/\Hid (DD 5=true->cy=C (some ⟨x,y,none⟩) lb cb)/\Hid (DD 6=true->cz=F M (lb:Nat))/\Hid (DD 7=true->d8=F M (H1:Nat))/\Hid (DD 8=true->de=F M (ap:Nat))/\Hid (DD 9=true->dg=C (some ⟨gR,i,none⟩) (lb+1) (f+1-i))/\Hid (DD 10=true->dh=C (some ⟨gZ,0,none⟩) lb (lb+1))/\Hid (DD 11=true->di=F G (qd:Nat))/\Hid (DD 12=true->dj=I (some ⟨o.heap.size,i,none⟩))/\∃D2,Hid (DD 11=true->∃q,(q.length=lb+1/\Bs O q/\val O q=val O ((D.drop i).take (lb+1))%(n*2^s))/\D2=B0 D i (lb+1) q)/\SplM c W D D2 Q (Q.set i qd) (DD 11) (DD 13) V)
   (E8 ⟨_,_,_,_,_,J,Z C0,Z C0,Z C0,Z C0,Z C0,Z C0,Z C0,Z C0,Z C0,Z C0,Z C0,Z C0,Z C0,D,Z C0,SplM.drew ⟨KeepsOthers.refl _,hh,hD,hQ⟩⟩) ?step ?fin
  case fin=>
   rintro DD ac V am ⟨ci,cj,ck,cn,cw,cy,cz,d8,de,dg,dh,di,dj,rfl,P,R,g2,S,T,t,U,X,g8,N,z,ad,ae,D2,gd,A⟩;rw[am 11 Bw,am 13 Bw]at A;obtain⟨q,⟨e7,eb,ed⟩,rfl⟩:=gd.o (am 11 Bw);refine⟨A.k.from _,A.h,B0 D i (lb+1) q,Q.set i qd,A.r,A.q,?_⟩;rw[HI.o];exact Un.o q e7 eb ed
  case step=>
   rintro DD ac V j ds aj hj b ai ⟨ci,cj,ck,cn,cw,cy,cz,d8,de,dg,dh,di,dj,rfl,P,R,g2,S,T,t,U,X,g8,N,z,ad,ae,D2,gd,A⟩;have Qv:j<14:=(AA.1 hj).1;obtain rfl|rfl|rfl|rfl|rfl|rfl|rfl|rfl|rfl|rfl|rfl|rfl|rfl|rfl:=FD j Y
   all_goals
    simp only[A3,AY,A8]at hj;subst hj;clear Qv
   . have b11:Boxed V (o.heap.size+1) 23 (C (some ⟨o.heap.size,0,none⟩) K K):=by have:=A.h.b11;rw[hc]at this;exact this
     have k0:=b11.cell;clear b aj;refine BG J λK2 aa=>?_;go_simp;exact aa _ _ (E8 ⟨_,_,_,_,_,J,Z λ_=>rfl,R,g2,S,T,t,U,X,g8,N,z,ad,ae,D2,gd,A⟩)
   . clear b aj;refine BG J λK2 aa=>?_;go_simp;exact aa _ _ ⟨_,_,_,_,_,_,_,_,_,_,_,_,_,J,P,Z λ_=>rfl,g2,S,T,t,U,X,g8,N,z,ad,ae,D2,gd,A⟩
   . have b9:Boxed V B9 23 (C (some ⟨gR,0,none⟩) (f+1) (f+1)):=by have:=A.h.b9;rw[hc]at this;exact this
     have k0:=b9.cell;clear b aj;refine BG J λK2 aa=>?_;go_simp;exact aa _ _ ⟨_,_,_,_,_,_,_,_,_,_,_,_,_,J,P,R,Z λ_=>rfl,S,T,t,U,X,g8,N,z,ad,ae,D2,gd,A⟩
   . clear b aj;refine BG J λK2 aa=>?_;go_simp;exact aa _ _ ⟨_,_,_,_,_,_,_,_,_,_,_,_,_,J,P,R,g2,Z λ_=>rfl,T,t,U,X,g8,N,z,ad,ae,D2,gd,A⟩
   . clear b aj;refine BG J λK2 aa=>?_;go_simp;exact aa _ _ ⟨_,_,_,_,_,_,_,_,_,_,_,_,_,J,P,R,g2,S,Z λ_=>rfl,t,U,X,g8,N,z,ad,ae,D2,gd,A⟩
   . have b0:Boxed V w.heap.size 23 (C (some ⟨x,y,none⟩) lb cb):=by have:=A.h.b0;rw[hc]at this;exact this
     have k0:=b0.cell;clear b aj;refine BG J λK2 aa=>?_;go_simp;exact aa _ _ ⟨_,_,_,_,_,_,_,_,_,_,_,_,_,J,P,R,g2,S,T,Z λ_=>rfl,U,X,g8,N,z,ad,ae,D2,gd,A⟩
   . obtain rfl:=t.o (b 5 Br);clear b aj;refine BG J λK2 aa=>?_;go_simp;exact aa _ _ ⟨_,_,_,_,_,_,_,_,_,_,_,_,_,J,P,R,g2,S,T,Z λ_=>rfl,Z λ_=>rfl,X,g8,N,z,ad,ae,D2,gd,A⟩
   . obtain rfl:=T.o (b 4 Br);obtain rfl:=U.o (b 6 Br);clear b aj;refine BG J λK2 aa=>?_;go_simp;exact aa _ _ ⟨_,_,_,_,_,_,_,_,_,_,_,_,_,J,P,R,g2,S,Z λ_=>rfl,t,Z λ_=>rfl,Z λ_=>rfl,g8,N,z,ad,ae,D2,gd,A⟩
   . obtain rfl:=X.o (b 7 Br);clear b aj;refine BG J λK2 aa=>?_;go_simp;exact aa _ _ ⟨_,_,_,_,_,_,_,_,_,_,_,_,_,J,P,R,g2,S,T,t,U,Z λ_=>rfl,Z λ_=>rfl,N,z,ad,ae,D2,gd,A⟩
   . obtain rfl:=g2.o (b 2 Br);obtain rfl:=S.o (b 3 Br);obtain rfl:=g8.o (b 8 Br);have fs:¬(f+1=i):=Y
     clear b aj;refine BG J λK2 aa=>?_;go_simp;exact aa _ _ ⟨_,_,_,_,_,_,_,_,_,_,_,_,_,J,P,R,Z λ_=>rfl,Z λ_=>rfl,T,t,U,X,Z λ_=>rfl,Z λ_=>rfl,z,ad,ae,D2,gd,A⟩
   . have b10:Boxed V B10 23 (C (some ⟨gZ,0,none⟩) lb (lb+1)):=by have:=A.h.b10;rw[hc]at this;exact this
     have k0:=b10.cell;clear b aj;refine BG J λK2 aa=>?_;go_simp;exact aa _ _ ⟨_,_,_,_,_,_,_,_,_,_,_,_,_,J,P,R,g2,S,T,t,U,X,g8,N,Z λ_=>rfl,ad,ae,D2,gd,A⟩
   . obtain rfl:=N.o (b 9 Br);obtain rfl:=z.o (b 10 Br);rw[ai]at A;have hr:Bv V gR D:=by have:=A.r;rw[hc]at this;exact this
     have hz:Bv V gZ Zb:=by have:=A.h.z;rw[hc]at this;exact this
     have HV:=Z A;clear A;clear b aj;refine BG J λK2 aa=>?_;go_simp;gi_wp2_with(refine⟨trivial,?_⟩;gi_at_call 115;refine(Ul.o _ _ hr hz).mono ?_;rintro e w5 ⟨q,rfl,⟨e7,eb,ed⟩,hA5,bp⟩)
     exact⟨_,_,_,_,_,_,_,_,_,_,_,_,_,J,P,R,g2,S,T,t,U,X,g8,Z λ_=>rfl,Z λ_=>rfl,Z λ_=>rfl,ae,B0 D i (lb+1) q,Z λ_=>⟨q,⟨e7,eb,ed⟩,J⟩,SplM.split (HV.o.any _) Ue (by rw[hc];exact bp) (by rw[hc];exact hA5)⟩
   . obtain rfl:=P.o (b 0 Br);obtain rfl:=R.o (b 1 Br);clear b aj;refine BG J λK2 aa=>?_;go_simp;exact aa _ _ (E8 ⟨_,_,_,_,_,J,Z λ_=>rfl,Z λ_=>rfl,g2,S,T,t,U,X,g8,N,z,ad,Z λ_=>rfl,D2,gd,A⟩)
   . obtain rfl:=ad.o (b 11 Br);obtain rfl:=ae.o (b 12 Br);rw[ai]at A;have Qk:Bv V o.heap.size Q:=by have:=A.q;rw[hc]at this;exact this
     have k0:=Qk.cell (j:=i) Y;have f0:=Qk.frozen i;have Ql:SplM c W D D2 Q (Q.set i qd) (DD 11) true (V.setCell ⟨o.heap.size,i,none⟩ (F G (qd:Nat))):=by have:=A.store Ue (j:=i) (v:=qd) J;rw[hc]at this ⊢;exact this
     have Qo:=Z Ql;clear Ql A;clear b aj;refine BG J λK2 aa=>?_;go_simp;exact aa _ _ ⟨_,_,_,_,_,_,_,_,_,_,_,_,_,J,P,R,g2,S,T,t,U,X,g8,N,z,Z λ_=>rfl,Z λ_=>rfl,D2,gd,Qo.o⟩
 case done=>
  rintro D W hD ⟨hh,D2,Q2,am,er,hL⟩ aa;rw[AW]at hL;obtain⟨f1,f2⟩:=hL.fin J J;have b11:Boxed W (o.heap.size+1) 23 (C (some ⟨o.heap.size,0,none⟩) K K):=by have:=hh.b11;rw[hc]at this;exact this
  have b9:Boxed W B9 23 (C (some ⟨gR,0,none⟩) (f+1) (f+1)):=by have:=hh.b9;rw[hc]at this;exact this
  have Uj:Bl w W:=by have:=hh.B;rw[hc]at this;exact this
  have hr:Bv W gR D2:=by have:=am;rw[hc]at this;exact this
  have Qk:Bv W o.heap.size Q2:=by have:=er;rw[hc]at this;exact this
  have Qi:=Qm.o;have Qd:Row G W (C (some ⟨o.heap.size,0,none⟩) K K) Q2:=by
   have h1:=Qk.row 0 K K (by rw[hL.2.2.1];omega) (Aa _) Y Y;rwa[Aq,Ab (by rw[hL.2.2.1];exact Aa _)]at h1
  have Qe:Row G W (C (some ⟨gR,0,none⟩) (f+1) (f+1)) D2:=by
   have h1:=hr.row 0 (f+1) (f+1) (by rw[hL.1];omega) (Aa _) Y Y;rwa[Aq,Ab (by rw[hL.1];omega)]at h1
  have HT:=Z (show ∀V:H,Bl W V->Calls L 73 #[C (some ⟨o.heap.size,0,none⟩) K K] V λe w'=>∃u,e=.returned u/\UN w' u (m/n)/\Bl V w' from λV h=>by
   have h1:=J2 _ Q2 V (Row.below Qd h);rw[f1]at h1;exact h1)
  have Uy:=Z (show ∀V:H,Bl W V->Calls L 116 #[C (some ⟨gR,0,none⟩) (f+1) (f+1),F G (s:Nat)] V λe w'=>∃u,e=.returned u/\UN w' u (m%n)/\Bl V w' from λV h=>by
   have h1:=MB _ _ _ D2 s V hs (Row.below Qe h) hL.2.1;rw[f2,Nat.mul_div_cancel _ (AG s)]at h1;exact h1)
  have l9:=b9.lt;have Uk:=b11.cell;have k9:=b9.cell;clear hL f1 f2 Qd Qe hr Qk hh am er Uc Uh Qz Qu Qi;go_upto_region 13 with fail
  have r:Bl W W.drew:=(BC _ W).drew;go_region_held3 (λw'=>w'.cell? ⟨o.heap.size+1,0,none⟩=some (C (some ⟨o.heap.size,0,none⟩) K K)/\w'.cell? ⟨B9,0,none⟩=some (C (some ⟨gR,0,none⟩) (f+1) (f+1))) (refine⟨?_,?_⟩<;>(first|(go_keep;done)|(simp[*];done)))
   (first
    |(go_at_call 73;refine(HT.o _ r).mono ?_;rintro e w5 ⟨u5,rfl,f7,an⟩;obtain⟨ua,uc,rfl⟩:=UN.form f7;have r:=Bt r an;have Uk:=(Jr b11 r).cell;have k9:=(Jr b9 r).cell)
    |(go_at_call 116;refine(Uy.o _ r).mono ?_;rintro e w6 ⟨u6,rfl,f8,et⟩;obtain⟨va,vc,rfl⟩:=UN.form f8;have r:=Bt r et;have Uk:=(Jr b11 r).cell;have k9:=(Jr b9 r).cell))
  all_goals go_wp2_with fail
  have Qq:w6.heap[D]?=some (.deferred (some [])):=(r.block D (Ac.1 aa).1).trans aa;refine⟨Br,.inl ⟨_,_,J,BX Qq,?_⟩⟩;refine⟨.tuple #[C ua (Jb O (m/n)).length uc,C va (Jb O (m%n)).length vc],by simp[results,results84,go_sem],_,_,J,F8 (UN.below f7 et) Qq,F8 f8 Qq,?_⟩;exact below_grown (Bt Uj r) (BV _ D (.deferred none)) (by have:=Um.size;omega)
end
section
variable{a:Ja}{P d g l:Nat}{u:Value}{W:H}
def GK(a:N8)(c f:Nat)(b:N8)(lb g m n:Nat)(w:H)(k:Row G w (C a c f) (Jb O m))(o:Row G w (C b lb g) (Jb O n))(hn:n≠0)(X:c<1099511627776):
 Calls L 84 #[C a c f,C b lb g] w λe p=>∃u v,e=.returned (.tuple #[u,v])/\UN p u (m/n)/\UN p v (m%n)/\Bl w p:=by
 obtain⟨W,aa,ak,ah,ae⟩:=Jm k;obtain⟨j,ad,am,ai,V⟩:=Jm o;have aj:lb≠0:=λe=>hn ((Js Jc).1 (Ad (by rw[<-j,e])));by_cases Q:c<lb
 . exact MC a c f b lb g m n w k o Q
 . by_cases R:lb=1
   . subst R;exact ME a c f b g m n w k o Y
   . obtain⟨l,rfl⟩:∃l,lb=l+2:=⟨lb-2,Y⟩;obtain⟨B,D,rfl,U,kb⟩:=V (l+1) Y;have q:=Jf Jc n;have t:(Jb O n)[l+1]?.getD 0≠0:=by
      intro e;have S:=Ji O (Jb O n) (l+1);rw[Ab Y,e,AU,AK,Je Jc]at S;have h4:=JU q (l+1);have r:=J8 Jc j.symm Y;rw[show l+2-1=l+1 from J]at r;omega
     have i:(Jb O n)[l+1]?.getD 0<O:=q.getD uo _;obtain⟨d,x⟩:=ex ((Jb O n)[l+1]?.getD 0);rw[x]at kb t i;obtain⟨K,N,P⟩:=bitLen_spec d t (by rw[<-Xx];exact i);have T:Lib.bitLen d<=64:=by
      rcases As 64 (Lib.bitLen d)with h|h
      . exfalso
        have r:2^64<=2^(Lib.bitLen d-1):=Al Y Y;rw[Xx]at i;omega
      . exact h
     obtain⟨y,z⟩:=IU (s:=64-Lib.bitLen d) q j.symm x N P K T J;rw[Je Jc]at y z;have hm:m<O^c:=by
      have:=JL (Jf Jc m);rwa[Je Jc,<-W]at this
     have A:O^(l+1)<=n:=J8 Jc j.symm Y;exact My a c f B D l (l+2) (l+1) g m n d (64-Lib.bitLen d) w J Y U k o kb i Y (show _=_ by omega) Y X y z (Mv hm A Y)
theorem XR{p:Nat}(a:p≠0)(h:p<O):Jb O p=[p]:=by
 grind[Ys,AZ,AE,Jq]
def Mz(a:N8)(t:Nat)(b:N8)(lb v x y:Nat)(w:H)(d:Row G w (C a 1 t) (Jb O x))(r:Row G w (C b lb v) (Jb O y))(B:y<O):
 Calls L 102 #[C a 1 t,C b lb v] w λe D=>∃u,e=.returned u/\UN D u (Nat.gcd x y)/\Bl w D:=by
 obtain⟨n,ad,ak,ah,l⟩:=Jm d;obtain⟨c,ae,am,ai,m⟩:=Jm r;obtain⟨o,an,T⟩:=Xy n.symm;rcases An lb with z|z
 . subst z;have k:=(Js Jc).1 (Ad c.symm);subst k;have N:=Z d;clear l m n c d r o;go_enter func102,ntmps102
   go_wp2_with fail
   go_ret;exact⟨_,J,by rw[Nat.gcd_zero_right];exact N.o,BC _ w⟩
 . have k:y≠0:=λe=>by rw[e,Jq]at c;simp at c;omega
   have i:=XR k B;obtain rfl:lb=1:=by rw[c,i];rfl
   obtain⟨P,Q,rfl,X,ka⟩:=l 0 Y;obtain⟨R,S,rfl,aa,kb⟩:=m 0 Y;rw[o]at ka;rw[i]at kb;have ap:w.cell? ⟨P,Q,none⟩=some (F G (x:Nat)):=ka;have aq:w.cell? ⟨R,S,none⟩=some (F G (y:Nat)):=kb;clear l m n c d r o i ka kb;go_enter func102,ntmps102
   go_upto_region 3 with fail
   go_quiet (fail)
   go_wp2_with fail
   go_loopw [5,6] (λW s wr=>∃(p q j:Nat),W=F G (p:Nat)/\s=F G (q:Nat)/\p<O/\q<O/\p≠0/\Hid (Nat.gcd p q=Nat.gcd x y)/\wr=w.drewN j) (λ_ s _=>(intOf s).toNat)
   case atStart=>exact⟨x,y,_,J,J,T,B,Y,Z J,J⟩
   case round=>
    obtain⟨p,q,j,rfl,rfl,hp,V,U,g,rfl⟩:=hrel;by_cases A:q=0
    . subst A;have f:=Z (show p=Nat.gcd x y by rw[<-g.o,Nat.gcd_zero_right]);have K:=Z (XR U hp);clear g;go_wp2_with fail
      go_ret;refine⟨C (some ⟨w.heap.size,0,none⟩) 1 1,J,?_,(XQ (BC _ w) _).alloc (Aa _) _⟩;unfold UN;rw[<-f.o,K.o];exact(Bv.made (xs:=[p]) (BD (w.drewN j) (.cells #[F G (p:Nat)] 94))).row 0 1 1 Br Y Y Y
    . have f:=Z (show Nat.gcd q (p%q)=Nat.gcd x y by rw[<-g.o,Cx q,<-Nat.gcd_rec,Cx]);have aj:=At p (show q>0 by omega);go_upto_region 5 with fail
      go_quiet (fail)
      go_wp2_with fail
      exact⟨⟨q,p%q,j+nq,J,Br,V,Y,A,f,Br⟩,by simp[intOf];omega⟩
def DO(W:H)(c:Nat)(u:Value)(g l b P:Nat)(a:Ja):Prop:=
 u=C (some ⟨g,0,none⟩) l b/\Bv W g a/\Bs O a/\l<=a.length/\l<=b/\b<=9223372036854775807/\l<=1099511627776/\a.take l=Jb O P/\c<=g
def DO.below{W W':H}{a g l b P:Nat}{u:Value}{c:Ja}(h:DO W a u g l b P c)(d:Bl W W'):DO W' a u g l b P c:=
 ⟨h.1,h.2.1.below d,h.2.2⟩
def DO.un{b:Nat}(h:DO W d u g l b P a):UN W u P:=by
 obtain⟨rfl,c,k,m,e,f,i,j,n⟩:=h;have:=c.row 0 l b Y e f i;rw[Aq,j]at this;exact this
theorem NA{ds:Ja}(f:Bv W g a)(m:Row G W (C (some ⟨g,0,none⟩) l d) ds)(hl:l<=a.length):a.take l=ds:=by
 obtain⟨n,_,_,_,c⟩:=Jm m;apply List.ext_getElem?;intro j;by_cases k:j<l
 . obtain⟨b,o,e,_,i⟩:=c j k;cases e;rw[Cc,f.cell Y]at i;grind
 grind
def IW(a:N8)(c q:Nat)(b:N8)(lb r:Nat)(d f:Ja)(w:H)(X:Bs O d)(xb:Bs O f)(U:c+lb<=1099511627776)
(s:Row G w (C a c q) d)(t:Row G w (C b lb r) f):
 Calls L 86 #[C a c q,C b lb r] w λe v=>∃u,e=.returned u/\UN v u (val O d*val O f)/\(val O d*val O f≠0->∃g l W n,DO v w.heap.size u g l W (val O d*val O f) n)/\Bl w v:=by
 have z:=Xl (c+lb) Y w;rw[show((c+lb:Nat):Int)=(c:Int)+(lb:Int)from by omega]at z;obtain⟨j,m⟩:∃j,j=w.alloc (.cells (cellsOf G (OA (c+lb) 0)).toArray 94):=⟨_,J⟩;have o:Bl w j:=by rw[m];exact Ba w _
 have y:Bv j w.heap.size (OA (c+lb) 0):=by rw[m];exact Bv.made (BD w _)
 rw[<-m]at z;have P:=Z (Lw w.heap.size (c+lb) (c+lb) (OA (c+lb) 0) a c q b lb r d f j X xb y (λx V=>by rw[Cy V];unfold O;omega) B7 (Aa _) Y U (Row.below s o) (Row.below t o)
  (λp e k=>by have:=Do s e k;omega) λp e k=>by have:=Do t e k;omega)
 clear m y s t;go_enter func86,ntmps86
 go_wp2_with(go_at_call 105;refine P.o.mono ?_;rintro e w5 ⟨u,rfl,⟨i,T⟩,S,n,K,R,N⟩;obtain⟨ua,uc,rfl⟩:=UN.form i)
 go_ret;refine⟨_,J,i,λk=>?_,below_grown o T (Aa _)⟩;have Q:(Jb O (val O d*val O f)).length≠0:=λe=>k ((Js Jc).1 (Ad e));rcases S with e|⟨l,e⟩
 . injection e with A B D
   exact absurd B Q
 . injection e with A B D
   subst A;subst D;rw[A1]at N;have hl:(Jb O (val O d*val O f)).length<=n.length:=by rw[N];exact(Jm i).2.1
   exact⟨_,_,_,n,J,K,R,hl,(Jm i).2.1,(Jm i).2.2.1,(Jm i).2.2.2.1,NA K i hl,Aa _⟩
theorem IX{j Q:Nat}(h:DO W d u g l j P a)(b:N8)(lb i:Nat)(n:UN W (C b lb i) Q)(z:Q<=P)(D:∀p,b=some p->0<lb->p.block≠g):
 Calls L 107 #[u,C b lb i] W λe k=>∃c q,e=.returned (F G (c:Nat))/\(Row G k u q/\Jl q=Jb O (P-Q))/\W.grownBy k (some g):=by
 obtain⟨rfl,s,t,K,m,v,w,N,R⟩:=h;have hl:l=(Jb O P).length:=B7
 have r:=(Jm n).1;refine(Gu g 0 l j a b lb i (Jb O Q) W s t Y m Y (by rw[hl,r];exact Yc z) n (Jf Jc Q) D).mono ?_;rintro e k ⟨c,q,rfl,f,y,A⟩;have B:B0 a 0 l q=q++a.drop l:=by rw[B0,CW,Ak,Cc]
 have o:=f.1;refine⟨c,q,J,⟨?_,?_⟩,A⟩
 . have x:=y.row 0 l j B7 m v w;rwa[B,Aq,AO Y,Ab Y]at x
 . have hs:Y8 (Jb O P) (Jb O Q) 0 l c q:=by
    refine⟨o,f.2.1,f.2.2.1,?_⟩;have:=f.2.2.2;grind
   grind[Gv,Yc]
def IY{w V a:H}{o:Obj}(h:Bl w V)(k:Below (V.alloc o).heap.size (V.alloc o) a):Bl w a:=(h.alloc h.size o).trans (k.mono (h.alloc h.size o).size)
def IZ(x:Nat):val O [x]=x:=by rw[JF,D6,AU,AK]
theorem Ia(v t:Nat)(a:N8)(la ca:Nat)(b:N8)(lb cb ae B:Nat)(w:H)(ra:Row G w (C a la ca) (Jb O ae))(rb:Row G w (C b lb cb) (Jb O B))(bu:v<O)(bz:t<O)(ci:la<1099511627776)(cj:lb<1099511627776)(h0:t*B≠0):
 Calls L 101 #[.agg #[F G (v:Nat),F G (t:Nat)],C a la ca,C b lb cb] w λe w'=>∃u,e=.returned u/\UN w' u (YF (v*ae) (t*B))/\Bl w w':=by
 obtain⟨W0,aw⟩:=ex (w.alloc (.cells #[F G (v:Nat),F G (t:Nat)] 124));have Qa:Bl w W0:=by rw[<-aw];exact Ba w _
 have bx:Jd W0 w.heap.size 124 (F G (v:Nat)) (F G (t:Nat)):=by rw[<-aw];exact Jd.new w _ _ _
 have Qp:=Z (show ∀(V:H) (g:Nat),Bl W0 V->Bv V g [v]->Calls L 86 #[C a la ca,C (some ⟨g,0,none⟩) 1 1] V λe w'=>∃u,e=.returned u/\UN w' u (v*ae)/\(v*ae≠0->∃g l rc zs,DO w' V.heap.size u g l rc (v*ae) zs)/\Bl V w' from λV g h hA=>by
  have o:=IW a la ca (some ⟨g,0,none⟩) 1 1 (Jb O ae) [v] V (Jf Jc ae) (Bs.cons bu (Bs.nil _)) Y (Row.below (Row.below ra Qa) h) (hA.row 0 1 1 Br Y Y Y);rw[IZ,Je Jc,Am ae v]at o;exact o)
 have Qo:=Z (show ∀(V:H) (g:Nat),Bl W0 V->Bv V g [t]->Calls L 86 #[C b lb cb,C (some ⟨g,0,none⟩) 1 1] V λe w'=>∃u,e=.returned u/\UN w' u (t*B)/\(t*B≠0->∃g l rc zs,DO w' V.heap.size u g l rc (t*B) zs)/\Bl V w' from λV g h hA=>by
  have o:=IW b lb cb (some ⟨g,0,none⟩) 1 1 (Jb O B) [t] V (Jf Jc B) (Bs.cons bz (Bs.nil _)) Y (Row.below (Row.below rb Qa) h) (hA.row 0 1 1 Br Y Y Y);rw[IZ,Je Jc,Am B t]at o;exact o)
 have Qq:=Z aw;clear aw ra rb;generalize v*ae=n at *;generalize t*B=X at *;go_enter func101,ntmps101
 go_upto_region 1 with fail
 rw[Qq.o];refine J5 DN [[],[],[1],[2],[0,3],[],[],[6],[7],[5,8,4],[4,9,0,1,2,3,4],[9,10,0,1,2,3,4,5,6,7,8,9,10]] N9 Bw (λf ac V=>∃t7 t8 t9 ay az bc ah bd bf bg bh ap:Value,ac={ tmps:=#[.agg #[F G (v:Nat),F G (t:Nat)],C a la ca,C b lb cb,I (some ⟨w.heap.size,0,none⟩),E,E,C none 0 0,t7,t8,t9,ay,az,bc,ah,bd,bf,bg,bh,ap,E,E,E,E,E,E,E,E,E,E,E],defers:=[] }/\Hid (f 0=true->t9=C a la ca)/\Hid (f 1=true->ay=I (some ⟨w.heap.size,0,none⟩))/\Hid (f 2=true->az=F G (v:Nat))/\Hid (f 3=true->∃g,bc=C (some ⟨g,0,none⟩) 1 1/\Bv V g [v])/\Hid (f 4=true->UN V ah n/\(n≠0->∃d x y z,DO V W0.heap.size ah d x y n z))/\Hid (f 5=true->bd=C b lb cb)/\Hid (f 6=true->bf=I (some ⟨w.heap.size,1,none⟩))/\Hid (f 7=true->bg=F G (t:Nat))/\Hid (f 8=true->∃g,bh=C (some ⟨g,0,none⟩) 1 1/\Bv V g [t])/\Hid (f 9=true->∃m l2 ai aj,DO V W0.heap.size ap m l2 ai X aj/\UN V ah n/\(n≠0->∃d x y z,DO V W0.heap.size ah d x y n z/\d≠m))/\Hid (f 10=true->t7=ah)/\Hid (f 11=true->t8=ap)/\Bl W0 V)
  (E8 ⟨_,_,_,_,J,Z C0,Z C0,Z C0,Z C0,Z C0,Z C0,Z C0,Z C0,Z C0,Z C0,Z C0,Z C0,(BC _ W0).drew⟩) ?step1 ?fin1
 case step1=>
  rintro f a2 V i ds s bk k ad ⟨t7,t8,t9,ay,az,bc,ah,bd,bf,bg,bh,ap,rfl,A,d,m,P,Q,R,S,T,U,W,D,N,j⟩;have Qm:i<12:=(AA.1 bk).1;obtain rfl|rfl|rfl|rfl|rfl|rfl|rfl|rfl|rfl|rfl|rfl|rfl:=D5 i Y
  all_goals
   simp only[A3,AY,A8]at bk;subst bk;clear Qm
  . clear k s;refine DC ?_;exact⟨Z λ_=>rfl,d,m,P,Q,R,S,T,U,W,D,N,j⟩
  . clear k s;refine DC ?_;exact⟨A,Z λ_=>rfl,m,P,Q,R,S,T,U,W,D,N,j⟩
  . obtain rfl:=d.o (k 1 Br);have k0:=(bx.below j).c0;clear k s;refine DC ?_;exact⟨A,Z λ_=>rfl,Z λ_=>rfl,P,Q,R,S,T,U,W,D,N,j⟩
  . have Qr:f 4=false:=by
     cases h:f 4 with
     |false=>rfl
     |true=>rw[s 4 _ J h 3 Br]at ad;cases ad
    obtain rfl:=m.o (k 2 Br);clear k s;refine DC ?_;exact⟨A,d,Z λ_=>rfl,Z λ_=>⟨_,J,Bv.made (xs:=[v]) (BD V _)⟩,Z (λh=>by simp[Qr]at h),R,S,T,Z (λh=>by obtain⟨g,e,q⟩:=U.o h;exact⟨g,e,q.below (Ba V _)⟩),Z (λh=>by obtain⟨m,l2,ai,aj,q1,q2,q3⟩:=W.o h;exact⟨m,l2,ai,aj,q1.below (Ba V _),q2.below (Ba V _),λo=>by obtain⟨d,x,y,z,q,q4⟩:=q3 o;exact⟨d,x,y,z,q.below (Ba V _),q4⟩⟩),D,N,j.alloc j.size _⟩
  . have Qk:f 9=false:=by
     cases h:f 9 with
     |false=>rfl
     |true=>rw[s 9 _ J h 4 Br]at ad;cases ad
    have Qn:f 10=false:=by
     cases h:f 10 with
     |false=>rfl
     |true=>rw[s 10 _ J h 4 Br]at ad;cases ad
    obtain rfl:=A.o (k 0 Br);obtain⟨gm,rfl,am⟩:=P.o (k 3 Br);clear k s;refine Jz J J λK hK=>?_;go_simp;go_wp2_with(go_at_call 86;refine(Qp.o _ _ j am).mono ?_;rintro e w5 ⟨u5,rfl,bp,bm,aa⟩)
    exact E8 ⟨_,_,_,_,J,Z λ_=>rfl,d,m,Z λ_=>⟨gm,J,am.below aa⟩,Z λ_=>⟨bp,λo=>by obtain⟨d,x,y,z,q⟩:=bm o;exact⟨d,x,y,z,q.1,q.2.1,q.2.2.1,q.2.2.2.1,q.2.2.2.2.1,q.2.2.2.2.2.1,q.2.2.2.2.2.2.1,q.2.2.2.2.2.2.2.1,A2 j.size q.2.2.2.2.2.2.2.2⟩⟩,R,S,T,Z (λh=>by obtain⟨g,e,q⟩:=U.o h;exact⟨g,e,q.below (aa)⟩),Z (λh=>by simp[Qk]at h),Z (λh=>by simp[Qn]at h),N,Bt j aa⟩
  . clear k s;refine DC ?_;exact⟨A,d,m,P,Q,Z λ_=>rfl,S,T,U,W,D,N,j⟩
  . clear k s;refine DC ?_;exact⟨A,d,m,P,Q,R,Z λ_=>rfl,T,U,W,D,N,j⟩
  . obtain rfl:=S.o (k 6 Br);have k0:=(bx.below j).c1;clear k s;refine DC ?_;exact⟨A,d,m,P,Q,R,Z λ_=>rfl,Z λ_=>rfl,U,W,D,N,j⟩
  . have Qk:f 9=false:=by
     cases h:f 9 with
     |false=>rfl
     |true=>rw[s 9 _ J h 8 Br]at ad;cases ad
    obtain rfl:=T.o (k 7 Br);clear k s;refine DC ?_;exact⟨A,d,m,Z (λh=>by obtain⟨g,e,q⟩:=P.o h;exact⟨g,e,q.below (Ba V _)⟩),Z (λh=>by obtain⟨q1,q2⟩:=Q.o h;exact⟨q1.below (Ba V _),λo=>by obtain⟨d,x,y,z,q⟩:=q2 o;exact⟨d,x,y,z,q.below (Ba V _)⟩⟩),R,S,Z λ_=>rfl,Z λ_=>⟨_,J,Bv.made (xs:=[t]) (BD V _)⟩,Z (λh=>by simp[Qk]at h),D,N,j.alloc j.size _⟩
  . have Ql:f 11=false:=by
     cases h:f 11 with
     |false=>rfl
     |true=>rw[s 11 _ J h 9 Br]at ad;cases ad
    obtain rfl:=R.o (k 5 Br);obtain⟨gm,rfl,am⟩:=U.o (k 8 Br);obtain⟨p1,p2⟩:=Q.o (k 4 Br);clear k s;refine Jz J J λK hK=>?_;go_simp;go_wp2_with(go_at_call 86;refine(Qo.o _ _ j am).mono ?_;rintro e w5 ⟨u5,rfl,bp,bm,aa⟩)
    exact⟨_,_,_,_,_,_,_,_,_,_,_,_,J,A,d,m,Z (λh=>by obtain⟨g,e,q⟩:=P.o h;exact⟨g,e,q.below (aa)⟩),Z (λh=>by obtain⟨q1,q2⟩:=Q.o h;exact⟨q1.below (aa),λo=>by obtain⟨d,x,y,z,q⟩:=q2 o;exact⟨d,x,y,z,q.below (aa)⟩⟩),Z λ_=>rfl,S,T,Z λ_=>⟨gm,J,am.below aa⟩,Z (λ_=>by obtain⟨m,l2,ai,aj,q⟩:=bm h0;exact⟨m,l2,ai,aj,⟨q.1,q.2.1,q.2.2.1,q.2.2.2.1,q.2.2.2.2.1,q.2.2.2.2.2.1,q.2.2.2.2.2.2.1,q.2.2.2.2.2.2.2.1,A2 j.size q.2.2.2.2.2.2.2.2⟩,p1.below aa,λo=>by obtain⟨d,x,y,z,r⟩:=p2 o;exact⟨d,x,y,z,r.below aa,by have:=r.2.1.lt;have:=q.2.2.2.2.2.2.2.2;omega⟩⟩),D,Z (λh=>by simp[Ql]at h),Bt j aa⟩
  . clear k s;refine DC ?_;exact⟨A,d,m,P,Q,R,S,T,U,W,Z λ_=>rfl,N,j⟩
  . clear k s;refine DC ?_;exact⟨A,d,m,P,Q,R,S,T,U,W,D,Z λ_=>rfl,j⟩
 rintro f ce V1 aq ⟨t7,t8,t9,ay,az,bc,ah,bd,bf,bg,bh,ap,rfl,A,d,m,P,Q,R,S,T,U,W,D,N,j⟩;obtain⟨gB,l2,ai,aj,o2,an,o1⟩:=W.o (aq 9 Bw);obtain rfl:=D.o (aq 10 Bw);obtain rfl:=N.o (aq 11 Bw);obtain⟨a1,c1,rfl⟩:=UN.form an;have Qd:=o2.un;obtain⟨a2,c2,rfl⟩:=UN.form Qd;clear A d m P Q R S T U W D N aq Qp Qo;have Qi:∀p,a1=some p->0<(Jb O n).length->p.block≠gB:=λp e o=>by
  have hp:n≠0:=λe0=>by rw[e0,Jq]at o;simp at o
  obtain⟨d,x,y,z,r,r2⟩:=o1 hp;have:=r.1;grind
 have HO:=Z (Fu _ _ (Jb O n) (Jb O X) V1 an Qd (Jf Jc n) (Jf Jc X) (JM Jc n) (JM Jc X));rw[Je Jc,Je Jc]at HO;have Qg:=Bt Qa j;have Qj:=o2.2.2.2.2.2.2.2.2;by_cases bt:n<X
 . have Qb:=YM bt;rw[Qb]at HO;have Qf:=Z λ(V:H) (h:Bl V1 V)=>IX (o2.below h) a1 (Jb O n).length c1 (an.below h) Y Qi;have HD:=Z (show X-n=YF n X by unfold YF;omega);clear Qb an Qd o1 Qi;go_upto_region 4 with(go_at_call 72;refine HO.o.mono ?_;rintro e w2 ⟨rfl,ak⟩)
   go_upto_region 5 with(go_at_call 107;refine(Qf.o _ ak).mono ?_;rintro e w3 ⟨c,q,rfl,⟨hr,bn⟩,bj⟩)
   have Qc:=Z (J2 _ q _ hr);rw[bn,HD.o]at Qc;clear Qf HO;go_wp2_with(go_at_call 73;refine Qc.o.mono ?_;rintro e w4 ⟨u,rfl,hu,bi⟩;obtain⟨ua,uc,rfl⟩:=UN.form hu)
   go_ret;have Qe:=below_grown (Bt Qg ak) bj (A2 Qa.size Qj);exact⟨_,J,hu,Bt Qe bi⟩
 . obtain⟨cm,Qb,cg⟩:∃cm:Int,J6 n X=cm/\¬(cm<0):=⟨_,J,by unfold J6;omega⟩;rw[Qb]at HO;obtain⟨d,x,y,z,r,r2⟩:=o1 Y;have Qh:=r.2.2.2.2.2.2.2.2;have Qf:=Z (λ(V:H) (h:Bl V1 V)=>IX (r.below h) a2 (Jb O X).length c2 (Qd.below h) Y (λp e _=>by
    have:=o2.1;grind))
   have HD:=Z (show n-X=YF n X by unfold YF;omega);clear Qb an Qd o1 Qi;go_upto_region 4 with(go_at_call 72;refine HO.o.mono ?_;rintro e w2 ⟨rfl,ak⟩)
   go_upto_region 5 with(go_at_call 107;refine(Qf.o _ ak).mono ?_;rintro e w3 ⟨c,q,rfl,⟨hr,bn⟩,bj⟩)
   have Qc:=Z (J2 _ q _ hr);rw[bn,HD.o]at Qc;clear Qf HO;go_wp2_with(go_at_call 73;refine Qc.o.mono ?_;rintro e w4 ⟨u,rfl,hu,bi⟩;obtain⟨ua,uc,rfl⟩:=UN.form hu)
   go_ret;have Qe:=below_grown (Bt Qg ak) bj (A2 Qa.size Qh);exact⟨_,J,hu,Bt Qe bi⟩
end
def Xo(x k s:Nat):Nat:=x/(O^k*2^(64-s))
variable{a:Ja}{k s:Nat}
def NB(hl:a.length=k+2)(b:Bs O a)(hs:s<=63)(f:a[k+1]?.getD 0<2^(64-s)):
 Xo (val O a) k s=C9 (a[k+1]?.getD 0) s+C7 (a[k]?.getD 0) (64-s)/\C9 (a[k+1]?.getD 0) s ||| C7 (a[k]?.getD 0) (64-s)=C9 (a[k+1]?.getD 0) s+C7 (a[k]?.getD 0) (64-s):=by
 have g:=IQ hl;have c:=JU b k;have i:=b.getD (show 0<O by unfold O;omega) k;have hp:=Xm (s:=s) Y;have e:C9 (a[k+1]?.getD 0) s=a[k+1]?.getD 0*2^s:=by rw[EM Y,AZ f]
 rw[e];have d:C7 (a[k]?.getD 0) (64-s)<2^s:=by
  unfold C7;rw[Ah (AG _),hp];exact i
 refine⟨?_,by rw[Am,<-Cq d]⟩;unfold Xo C7;rw[g,<-Nat.div_div_eq_div_mul,Am _ (O^k),Nat.mul_add_div (CT uo),AE c,AK,<-hp,<-A0,CK,Nat.add_mul_div_right _ _ (AG _)];omega
def NC(hl:a.length=k+1)(d:Bs O a):Xo (val O a) k s=C7 (a[k]?.getD 0) (64-s):=by
 have b:=Ji O a k;rw[Ab Y]at b;have c:=JU d k;unfold Xo C7;rw[b,<-Nat.div_div_eq_div_mul,CK,Nat.mul_add_div (CT uo),AE c,AK]
def ND(hl:a.length<=k)(b:Bs O a):Xo (val O a) k s=0:=by
 unfold Xo;apply AE;have c:=JL b;have d:O^a.length<=O^k:=Al uo hl;have e:=A4 (O^k) (AG (64-s));omega
def Ib(a:N8)(c u:Nat)(d:Ja)(k g f s:Nat)(w:H)(o:Row G w (C a c u) d)(p:Bs O d)(r:f=k+2)(B:(f:Int)-1=g)(D:(f:Int)-2=k)(hs:s<=63)(U:c<=f)(W:f<=1099511627776)(n:c=f->d[k+1]?.getD 0<2^(64-s)):
 Calls L 125 #[C a c u,F M (f:Nat),F G (s:Nat)] w λe R=>e=.returned (F G (Xo (val O d) k s:Nat))/\Bl w R:=by
 obtain⟨hl,S,V,T,j⟩:=Jm o;have i1:M.wrap ((f:Int)-1)=(g:Int):=by rw[B];exact BH _ Y
 have i2:M.wrap ((f:Int)-2)=(k:Int):=by rw[D];exact BH _ Y
 have i3:M.wrap (g:Int)=(g:Int):=BH _ Y;have i4:M.wrap (k:Int)=(k:Int):=BH _ Y;have i5:G.wrap ((64:Int)-s)=((64-s:Nat):Int):=by rw[BK];omega
 have q:=F5 (d[k+1]?.getD 0) s;have z:=F6 (d[k]?.getD 0) (64-s);have l:=p.getD (show 0<O by unfold O;omega) k;have m:=F7 (show C9 (d[k+1]?.getD 0) s<O by unfold C9;exact At _ uo) (show C7 (d[k]?.getD 0) (64-s)<O from Nat.lt_of_le_of_lt (Cu _ _) l);obtain rfl|X:=Decidable.em (c=f)
 . obtain⟨b,Q,rfl,N,c1⟩:=j (k+1) Y;obtain⟨_,_,A,_,c0⟩:=j k Y;cases A;obtain⟨v,x⟩:=NB Y p hs (n J);rw[x]at m;have i:=Z v;have t:g=k+1:=Y
   rw[<-t]at c1 q m i;have j1:(g:Int)<(c:Int):=Y
   have j2:(k:Int)<(c:Int):=Y
   have j3:(0:Int)<=(g:Int):=Y
   have j4:(0:Int)<=(k:Int):=Y
   have P:k<c:=Y
   clear t j o v x n hl r l;generalize d[g]?.getD 0=x1 at *;generalize d[k]?.getD 0=x0 at *;go_enter func125,ntmps125
   go_upto_region 3 with fail
   go_quiet (fail)
   go_wp2_with fail
   go_ret;refine⟨?_,XQ (BC _ w) _⟩;rw[i.o];first|rfl|(simp;done)
 . by_cases K:c=g
   . subst K;obtain⟨b,Q,rfl,N,c0⟩:=j k Y;have i:=Z (NC (s:=s) (show d.length=k+1 by omega) p);have P:k<c:=Y
     have y:¬((c:Int)=(f:Int)):=Y
     clear j o n hl r l m q;generalize d[k]?.getD 0=x0 at *;go_enter func125,ntmps125
     go_wp2_with fail
     go_ret;refine⟨?_,BC _ w⟩;rw[i.o];first|rfl|(simp;done)
   . have i:=Z (ND (s:=s) (show d.length<=k by omega) p);have y:¬((c:Int)=(f:Int)):=Y
     have aa:¬((c:Int)=(g:Int)):=Y
     clear j o n hl r l q z m;go_enter func125,ntmps125
     go_wp2_with fail
     go_ret;refine⟨?_,BC _ w⟩;rw[i.o];first|rfl|(simp;done)

