import Derived.Test.YtcahejkcdcjjgaaGreatDoorQ18
import Derived.Test.YtcahejkcdcjjgaaGreatDoorQ04
set_option linter.all false
open Go.Value renaming slice->C,int->F,pointer->L
open Go renaming undef->E,World->I
open Go.IntKind renaming u64->G,i64->N
open Go.Proofs.Tryz renaming prog->M
set_option maxRecDepth 99999
set_option maxHeartbeats 0
namespace Go.Proofs.YtcahejkcdcjjgaaGreatDoor
open List renaming replicate->TT
open Proofs.Tryz
open Go.RowKit Go.Shelf
attribute [local go_sem] Oper.semAt_some
section
def Bh:=@IntWalk.u64_in
def BO:=@IntWalk.i64_in
variable{ds f xs:Ja}{B R V c d0 d1 g j l len n q r ro s u0:Nat}{v:Value}{w:I}
theorem LS(h:ds.length=n+2):val Y ds=(ds[n+1]?.getD 0*Y+ds[n]?.getD 0)*Y^n+val Y (ds.take n):=by
 have a:=Jl Y ds (n+1);rw[Ac O,Jl,A9]at a;rw[a];grind
theorem Pa(h:ds.length=n+3):val Y ds=((ds[n+2]?.getD 0*Y+ds[n+1]?.getD 0)*Y+ds[n]?.getD 0)*Y^n+val Y (ds.take n):=by
 have a:=Jl Y ds (n+2);rw[Ac O,Jl,Jl,A9,A9]at a;rw[a];grind
theorem JX(h:DE Y ds)(n:Nat):val Y (ds.take n)<Y^n:=by
 have:=JS (h.take n);grind[Ao,Ap,Y]
def Fm{a:I}(h:Below B a w)(n:Nat):Below B a (w.drewN n):=h.trans ⟨J,J,J,Aa _,λ_ _=>rfl⟩
theorem LT(a:u0<Y)(h:YK q d0<r\/YK q d0=r/\JZ q d0<=u0):q*d0<=r*Y+u0:=by
 grind[YK,JZ,Y]
theorem Pb(b:u0<Y)(h:¬(YK q d0<r))(a:¬(YK q d0=r/\JZ q d0<=u0)):r*Y+u0<q*d0:=by
 grind[YK,JZ,Y]
theorem Pc{u2 u1 E:Nat}(b:R=((u2*Y+u1)*Y+u0)*E+c)(e:V=(d1*Y+d0)*E+j)(i:j<E)(f:Y<=2*d1)(g:d0<Y)(d:R<V*Y)(h:d1<=u2):EI R V (Y-1):=by
 have a:d0*E+j<Y*E:=by
  have:=Af E (show d0+1<=Y from g);grind
 refine Nh (d1:=d1) (E:=Y*E) (lo:=(u2-d1)*(Y*(Y*E))+(u1*Y+u0)*E+c) (lo2:=d0*E+j) ?_ ?_ a f d Jc
 . obtain⟨t,rfl⟩:∃t,u2=d1+t:=⟨u2-d1,O⟩;rw[b,Nat.add_sub_cancel_left];grind
 . rw[e];grind
def Pd{U E:Nat}(a:R=(U*Y+u0)*E+c)(d:V=(d1*Y+d0)*E+j)(b:c<E)(e:j<E)(f:Y<=2*d1)(i:q<Y)(h:q=(U*Y+u0)/(d1*Y+d0)):EI R V q:=by
 rw[h];have hp:0<d1:=by unfold Y at f;omega
 have g:=Cc Y hp;exact Ng a d b e (by rw[<-h];omega) O
def Pe(l a j:Nat)(h1:(l:Int)-1=a)(h2:(l:Int)-2=j)(b i T W ca cb u2 u1 u0 d1 d0 R V:Nat)(w:I)(hl:l<=1099511627776)
(ka:w.cell? ⟨b,i+l,none⟩=some (F G (u2:Nat)))(ak:w.cell? ⟨b,i+a,none⟩=some (F G (u1:Nat)))(aj:w.cell? ⟨b,i+j,none⟩=some (F G (u0:Nat)))
(kb:w.cell? ⟨T,W+a,none⟩=some (F G (d1:Nat)))(bg:w.cell? ⟨T,W+j,none⟩=some (F G (d0:Nat)))(X:b<w.heap.size)
(ai:u1<Y)(K:u0<Y)(ad:d1<Y)(n:d0<Y)(ae:0<d1)
(HT:Hid (d1<=u2->EI R V (Y-1)))(A:Hid (∀q:Nat,q<Y->q=((u2*Y+u1)*Y+u0)/(d1*Y+d0)->EI R V q)):
 Calls M 198 #[C (some ⟨b,i,none⟩) (l+1) ca,C (some ⟨T,W,none⟩) l cb] w λe d=>∃g,e=.returned (F G (g:Nat))/\g<Y/\EI R V g/\Bl w d:=by
 have i1:N.wrap ((l:Int)-1)=(a:Int):=by rw[h1];exact BO _ O
 have i2:N.wrap ((l:Int)-2)=(j:Int):=by rw[h2];exact BO _ O
 have j1:(a:Int)<(l:Int):=O
 have j2:(j:Int)<(l:Int):=O
 have j3:(a:Int)<(l:Int)+1:=O
 have j4:(j:Int)<(l:Int)+1:=O
 have i3:N.wrap (a:Int)=(a:Int):=BO _ O;have j5:a<l:=O
 have bc:a<l+1:=O
 have bd:a<=l:=O
 have bf:(a:Int)<=(l:Int):=O
 have j7:(l:Int)<(l:Int)+1:=O
 have j8:(0:Int)<=(l:Int):=O
 have j9:(0:Int)<=(a:Int):=O
 have az:(0:Int)<=(j:Int):=O
 have j6:j<l:=O
 go_enter func198,ntmps198
 go_upto_region 2 with fail
 go_quiet (fail)
 by_cases ah:d1<=u2
 . go_wp2_with fail
   go_ret;exact⟨Y-1,J,by unfold Y;omega,HT.o ah,Fm (BB _ w) _⟩
 . have D:=Nc (B:=Y) (u:=u2*Y+u1) (u1:=u0) (d1:=d1) (d0:=d0) ae ad K (by
    have:=Af Y (show u2+1<=d1 by omega);rw[Cm,C4]at this;omega)
   have Qd:=Z λV=>K6 u2 u1 d1 O ai ad V;have Qf:=D.2.2.1;have Qe:=D.2.2.2;have f:=Z D;clear D HT;generalize hX:(u2*Y+u1)/d1=q0 at *;generalize hY:(u2*Y+u1)%d1=r0 at *;generalize hZ:u2*Y+u1=U at *;clear hX hY hZ;go_wp2_with fail
   have v:Bl w (w.drewN (nq+1)):=Fm (BB _ w) _;go_region_held3 (λd=>d.cell? ⟨b,i+l,none⟩=some (F G (u2:Nat))/\d.cell? ⟨b,i+a,none⟩=some (F G (u1:Nat))) (refine⟨?_,?_⟩<;>(first|(go_keep;done)|(simp[*];done)))
    (first|(go_at_call 164;refine(Qd.o _).mono ?_;rintro e w1 ⟨rfl,H⟩;have bj:=(H.cell (p:=⟨b,i+l,none⟩) (show b<w.heap.size from X)).trans ka;have bi:=(H.cell (p:=⟨b,i+a,none⟩) (show b<w.heap.size from X)).trans ak;have bh:=(H.cell (p:=⟨b,i+j,none⟩) (show b<w.heap.size from X)).trans aj))
   have v:Bl w w1:=Bt v H;go_wp2_with fail
   go_loopw [8,9] (λqv rv wr=>∃(q r:Nat),qv=F G (q:Nat)/\rv=F G (r:Nat)/\q<Y/\r<Y/\Hid (F6 Y U u0 d1 d0 q r)/\wr=w1) (λqv _ _=>(intOf qv).toNat)
   case atStart=>exact⟨q0,r0,J,J,Qf,Qe,f,J⟩
   case round=>
    clear Qd f;obtain⟨q,r,rfl,rfl,c,ay,f,rfl⟩:=hrel;have k:0<d1*Y:=DC ae uo;by_cases c1:YK q d0<r
    . have t:=Z (A.o q c (Hh f.o.1 f.o.2.1 k (LT K (Al c1))));clear k;go_wp2_with(first
       |(go_at_call 190;refine(XO _ _ c n _).mono ?_;rintro e d ⟨rfl,rfl⟩))
      go_ret;exact⟨q,J,c,t.o,v⟩
    . by_cases c2:YK q d0=r/\JZ q d0<=u0
      . have t:=Z (A.o q c (Hh f.o.1 f.o.2.1 k (LT K (Au c2))));obtain⟨c2,c3⟩:=c2;subst c2;clear k;go_wp2_with(first
         |(go_at_call 190;refine(XO _ _ c n _).mono ?_;rintro e d ⟨rfl,rfl⟩))
        go_ret;exact⟨q,J,c,t.o,v⟩
      . obtain⟨g1,x,y,m⟩:=Nd f.o k (Pb K c1 c2);obtain⟨p,hp⟩:=ex (q-1:Nat);rw[hp]at x y m;have am:(q:Int)-1=(p:Int):=O
        have an:p<q:=O
        have aq:G.wrap (p:Int)=(p:Int):=by rw[BR];unfold Y at c;omega
        clear hp g1 f;have S:=GG r d1;have P:=Z (A.o p);clear A;by_cases o:r+d1<Y
        . have v1:J3 r d1 0=r+d1:=by unfold J3;rw[AX,Cb o]
          have z:Yk r d1 0=0:=by unfold Yk;rw[AX,AV o]
          rw[v1,z]at S;have Q:=Z (show F6 Y U u0 d1 d0 p (r+d1)from⟨x,y,m,o⟩);clear x y v1 z k P;obtain⟨s,hs⟩:=ex (r+d1);rw[hs]at S Q o;clear hs;by_cases c3:YK q d0=r
          . have c4:¬(JZ q d0<=u0):=λh=>c2 ⟨c3,h⟩;clear c2;go_wp2_with(first
             |(go_at_call 190;refine(XO _ _ c n _).mono ?_;rintro e d ⟨rfl,rfl⟩))
            exact⟨⟨p,s,J,J,m,o,Q,by first|trivial|rfl⟩,by simp[intOf];omega⟩
          . clear c2;go_wp2_with(first
             |(go_at_call 190;refine(XO _ _ c n _).mono ?_;rintro e d ⟨rfl,rfl⟩))
            exact⟨⟨p,s,J,J,m,o,Q,by first|trivial|rfl⟩,by simp[intOf];omega⟩
        . have t:=Z (P.o m (Nf x y m n k O));have z:Yk r d1 0=1:=by unfold Yk;unfold Y at *;omega
          rw[z]at S;generalize J3 r d1 0=s at *;clear x y z k P o;by_cases c3:YK q d0=r
          . have c4:¬(JZ q d0<=u0):=λh=>c2 ⟨c3,h⟩;clear c2;go_wp2_with(first
             |(go_at_call 190;refine(XO _ _ c n _).mono ?_;rintro e d ⟨rfl,rfl⟩))
            go_ret;exact⟨p,J,m,t.o,v⟩
          . clear c2;go_wp2_with(first
             |(go_at_call 190;refine(XO _ _ c n _).mono ?_;rintro e d ⟨rfl,rfl⟩))
            go_ret;exact⟨p,J,m,t.o,v⟩
def Pf(a b:TR)(n j k:Nat)(i bs:Ja)(w:I)(Q:Row G w (C a (n+3) j) i)(R:Row G w (C b (n+2) k) bs)(o:DE Y i)(f:DE Y bs)
(l:Y<=2*bs[n+1]?.getD 0)(y:val Y i<val Y bs*Y):
 Calls M 198 #[C a (n+3) j,C b (n+2) k] w λe S=>∃g,e=.returned (F G (g:Nat))/\g<Y/\EI (val Y i) (val Y bs) g/\Bl w S:=by
 obtain⟨A,U,ad,W,m⟩:=Jm Q;obtain⟨B,V,ae,X,s⟩:=Jm R;obtain⟨t,u,rfl,z,ka⟩:=m (n+2) O;obtain⟨_,_,c,_,K⟩:=m (n+1) O;cases c;obtain⟨_,_,c,_,H⟩:=m n O;cases c;obtain⟨v,x,rfl,T,kb⟩:=s (n+1) O;obtain⟨_,_,c,_,P⟩:=s n O;cases c;have d:0<Y:=by unfold Y;omega
 have p:=Pa A.symm;have r:=LS B.symm;exact Pe (n+2) (n+1) n O O t u v x j k _ _ _ _ _ _ _ w O ka K H kb P z (o.getD d _) (o.getD d _) (f.getD d _) (f.getD d _) (by unfold Y at l;omega)
  (λh=>Pc p r (JX f n) l (f.getD d _) y h) λq D h=>Pd p r (JX o n) (JX f n) l D h
def DG.win{W:I}{b:Nat}(h:DG W b xs)(a len cap:Nat)(c:a+len<=xs.length)(d:len<=cap)(e:cap<=9223372036854775807)(f:len<=1099511627776):Row G W (C (some ⟨b,a,none⟩) len cap) ((xs.drop a).take len):=
 h.row a len cap c d e f
def Pg{q:Ja}(a:q.length=len)(h:ro+len<=xs.length):((DL xs ro len q).drop ro).take len=q:=by
 rw[DL,List.drop_append_of_le_length (by rw[Ae];omega),At (by rw[Ae];omega),Ah,A3 O,Ac O]
def Ph{p q:Ja}(hp:p.length=len)(h:ro+len<=xs.length):DL (DL xs ro len p) ro len q=DL xs ro len q:=by
 have a:(xs.take ro).length=ro:=by rw[Ae];omega
 rw[DL,DL,DL,A3 O,Ac O,List.drop_append,a,show ro+len-ro=len from by omega,At O,Ah,List.drop_append,hp,A0,At O,Ah,AB]
def Pi{q:Ja}(a:DE Y xs)(c:DE Y q):DE Y (DL xs ro len q):=by
 intro x b;rw[DL]at b;rcases Cp.1 b with h|h
 . exact(a.take ro) x h
 . rcases Cp.1 h with h|h
   . exact c x h
   . exact(a.drop _) x h
def Pj(d ro n cap:Nat)(xs:Ja)(a:TR)(j:Nat)(bs:Ja)(w:I)
(u:DG w d xs)(z:DE Y xs)(ai:ro+(n+3)<=xs.length)(y:n+3<=cap)(aj:cap<=9223372036854775807)(hn:n+3<=1099511627776)(l:Row G w (C a (n+2) j) bs)(m:DE Y bs)(ad:∀p,a=some p->0<n+2->p.block≠d)
(X:Y<=2*bs[n+1]?.getD 0)(W:val Y ((xs.drop ro).take (n+3))<val Y bs*Y):
 Calls M 179 #[C (some ⟨d,ro,none⟩) (n+3) cap,C a (n+2) j] w λe w'=>
  ∃q,e=.returned (F G ((val Y ((xs.drop ro).take (n+3))/val Y bs:Nat):Int))/\(q.length=n+3/\DE Y q/\val Y q=val Y ((xs.drop ro).take (n+3))%val Y bs)/\DG w' d (DL xs ro (n+3) q)/\w.grownBy w' (some d):=by
 have R:=u.win ro (n+3) cap ai y aj hn;have B:=Z (Pf _ a n cap j _ bs w R l ((z.drop ro).take _) m X W);have s:=(Jm l).1;have H:val Y bs<Y^(n+2):=by have:=JS m;rwa[<-s]at this
 have K:val Y bs<Y^(n+3):=Ao H (Ap uo O);obtain⟨am,A,t,D,T,HA,i,Qk⟩:=GL K l ad z m u ai s;clear R X W s H K l ad z m u;go_enter func179,ntmps179
 go_upto_region 2 with(go_at_call 198;refine B.o.mono ?_;rintro e w1 ⟨g,rfl,hg,V,k⟩;have r:=Z V;clear V B)
 have S:=Z (PD d ro (n+2) cap xs a j bs g w1 (HA.o.below k) D.o i.o y (Row.below A.o k) T.o t.o hg);go_upto_if 13 with(go_at_call 199;refine S.o.mono ?_;rintro e w2 ⟨c,q,rfl,⟨hc,ah⟩,hA2,v⟩;have b:=Z ah;clear ah S)
 obtain rfl|rfl:c=0\/c=1:=O
 . have o:=Z (Ni r.o (by have:=b.o.2.2;rw[A8,AX]at this;exact this));have HE:=Z o.o.1;have HM:=Z o.o.2;clear o r;go_wp2_with fail
   go_ret;exact⟨q,by rw[<-HE.o];rfl,⟨b.o.1,b.o.2.1,HM.o⟩,hA2,Je (JJ k _) v⟩
 . have Q:=Z (IB d ro (n+3) cap (DL xs ro (n+3) q) a (n+2) j bs w2 hA2 (Pi D.o b.o.2.1) (by rw[JK b.o.1 i.o];exact i.o) y O O (Row.grown (Row.below A.o k) v t.o) T.o t.o);have Ql:1<=g:=by
    rcases AF g with h|h
    . exfalso
      have h1:=b.o.2.2;have h2:=JS b.o.2.1;rw[b.o.1]at h2;rw[h,A8,Nat.mul_one]at h1;omega
    . exact h
   obtain⟨p,hp⟩:=ex (g-1:Nat);have an:(g:Int)-1=(p:Int):=O
   have aq:G.wrap (p:Int)=(p:Int):=by rw[BR];unfold Y at hg;omega
   have HP:=Z hp;clear hp Ql;go_wp2_with(go_at_call 146;refine Q.o.mono ?_;rintro e w3 ⟨c3,q3,rfl,ae,hA3,ak⟩;have f:=Z ae;clear ae Q)
   go_ret;have x:=Nj r.o (P:=Y^(n+3)) (by have:=b.o.2.2;rw[Nat.mul_one]at this;exact this) (by have:=JS b.o.2.1;rw[b.o.1]at this;exact this) (q2:=val Y q3) (c2:=c3)
    (by
     have U:=f.o.2.2.2;rw[Pg b.o.1 i.o,Ac (show bs.length<=n+3 by rw[<-Qk.o];omega)]at U;exact U)
    (by have:=JS f.o.2.1;rw[f.o.1]at this;exact this) f.o.2.2.1
   rw[HP.o]at x;rw[Ph b.o.1 i.o]at hA3;exact⟨q3,by rw[<-x.2.1];rfl,⟨f.o.1,f.o.2.1,x.2.2⟩,hA3,Je (Je (JJ k _) v) ak⟩
def LU{bs:Ja}{d:Nat}(j:DE Y bs)(hl:bs.length=l+2)(g:bs[l+1]?.getD 0=d)(e:2^(c-1)<=d)(f:d<2^c)(m:1<=c)(k:c<=64)(hs:s=64-c):
 val Y bs*2^s<Y^(l+2)/\2^63*Y^(l+1)<=val Y bs*2^s:=by
 have o:val Y bs=val Y (bs.take (l+1))+Y^(l+1)*d:=by
  have h:=Jl Y bs (l+1);rwa[Ac O,g]at h
 have n:=JX j (l+1);have p1:2^c*2^s=Y:=by rw[<-Cx,Em];congr 1;omega
 have i:2^(c-1)*2^s=2^63:=by rw[<-Cx];congr 1;omega
 constructor
 . have b:val Y bs+1<=Y^(l+1)*2^c:=by
    have:=Ar (Y^(l+1)) (show d+1<=2^c from f);rw[CM,Nat.mul_one]at this;omega
   have a:=Af (2^s) b;rw[Cf,p1,<-A9,Cm,C4]at a;exact Ao (Nat.lt_add_of_pos_right (AW s)) a
 . have b:Y^(l+1)*2^(c-1)<=val Y bs:=by
    have:=Ar (Y^(l+1)) e;omega
   have a:=Af (2^s) b;rw[Cf,i,AC]at a;exact a
def Pk(i:DE Y f)(hl:f.length=l+3)(b:val Y f=V)(c:V<Y^(l+2))(j:2^63*Y^(l+1)<=V):
 val Y (f.take (l+2))=V/\Y<=2*(f.take (l+2))[l+1]?.getD 0:=by
 have g:=XV (B:=Y) (k:=l+2) (D:=f) O (by rw[b];exact c);have a:val Y (f.take (l+2))=V:=by
  have h:=val_append Y (f.take (l+2)) (f.drop (l+2));rw[AR,g,A8,AX,b]at h;exact h.symm
 refine⟨a,?_⟩;rw[A7 O];have d:=Jl Y f (l+1);have m:=JX i (l+1);rw[show l+1+1=l+2 from J,a]at d;rcases Az (f[l+1]?.getD 0) (2^63)with h|h
 . exfalso
   have e:=Ar (Y^(l+1)) (show f[l+1]?.getD 0+1<=2^63 from h);rw[CM,Nat.mul_one,AC _ (2^63)]at e;omega
 . rw[Em];omega
def Pl{m:Nat}(d:m<Y^c)(e:Y^(l+1)<=n)(hl:l+1<=c):m*2^s<n*2^s*Y^(c-(l+1)):=by
 have b:Y^(l+1)*Y^(c-(l+1))=Y^c:=by rw[<-Cx];congr 1;omega
 have a:=Af (Y^(c-(l+1))) e;rw[b]at a;rw[Nat.mul_right_comm];exact Nat.mul_lt_mul_of_pos_right (Ao d a) (AW s)
def JG{P:Program}{ops:Array Oper}{Q:Exit->Act->I->Prop}{i:Nat}{o:Oper}{K:Act->I->Prop}{a:Act}(c:ops[i]?=some o)(b:o.guard=none)
(h:∀K':Act->I->Prop,(∀a w,K a w->K' a w)->o.wp P a w K' Q):wpOp P ops Q i K a w:=by
 unfold wpOp;rw[c];simp only[Region.wanted,b,if_true];exact Al (h K λ_ _ h=>h)
def Dk{p q:Prop}(k:q)(h:Hid q->p:=by intro x;refine JG rfl rfl λK a=>?_;go_simp;refine a _ _ ?_;(repeat apply Exists.intro);refine ⟨rfl,?_⟩;exact x.o):p:=h k
def EB(V:I)(b:Nat)(v:Value)(g len c:Nat)(a:Ja):Prop:=
 v=C (some ⟨g,0,none⟩) len len/\DG V g a/\a.length=len/\DE Y a/\val Y a=c/\b<=g
def EB.below{V V':I}{b g len c:Nat}{v:Value}{a:Ja}(h:EB V b v g len c a)(d:Bl V V'):EB V' b v g len c a:=
 ⟨h.1,h.2.1.below d,h.2.2⟩
def EB.box{V:I}{u:Value}(h:EB V c v g len j f)(hl:0<len)(d:Boxed V B 34 (C none 0 0)):EB (V.setCell ⟨B,0,none⟩ u) c v g len j f:=
 ⟨h.1,h.2.1.far (by
  intro e;simp only at e;obtain⟨i,b⟩:=h.2.1;rw[e,show V.heap[B]?=_ from d]at b;obtain⟨z,a,rfl⟩:∃z a,f=z::a:=by
   cases f with
    |nil=>have:=h.2.2.1;simp at this;omega
    |cons z a=>exact⟨z,a,J⟩
  simp[cellsOf]at b) u,h.2.2⟩
def EB.ne_box{V:I}{b:TR}{l i:Nat}(h:EB V c v g len j f)(hl:0<len)(k:Boxed V B 34 (C b l i)):g≠B:=by
 intro e;obtain⟨m,d⟩:=h.2.1;rw[e,show V.heap[B]?=_ from k]at d;obtain⟨z,a,rfl⟩:∃z a,f=z::a:=by
  cases f with
  |nil=>have:=h.2.2.1;simp at this;omega
  |cons z a=>exact⟨z,a,J⟩
 simp[cellsOf]at d
end
section
structure SplC where
 w:World
 bs:Value
 rs:Value
 ds:Value
 qs:Value
 B9:Nat
 B10:Nat
 B11:Nat
 B12:Nat
 gR:Nat
 gZ:Nat
 gQ:Nat
 Zb:Ja
structure SplC.Apart(c:SplC):Prop where
 r0:c.gR≠c.w.heap.size
 r9:c.gR≠c.B9
 r10:c.gR≠c.B10
 r11:c.gR≠c.B11
 r12:c.gR≠c.B12
 rz:c.gR≠c.gZ
 rq:c.gR≠c.gQ
 q0:c.gQ≠c.w.heap.size
 q9:c.gQ≠c.B9
 q10:c.gQ≠c.B10
 q11:c.gQ≠c.B11
 q12:c.gQ≠c.B12
 qz:c.gQ≠c.gZ
 lr:c.w.heap.size<=c.gR
 lq:c.w.heap.size<=c.gQ
structure SplC.Holds(c:SplC)(W:World):Prop where
 b0:Boxed W c.w.heap.size 34 c.bs
 b9:Boxed W c.B9 34 c.rs
 b10:Boxed W c.B10 34 c.ds
 b11:Boxed W c.B11 34 c.qs
 b12:Boxed W c.B12 34 c.qs
 z:DG W c.gZ c.Zb
 B:Below c.w.heap.size c.w W
theorem SplC.Holds.kept{c:SplC}{W W':I}{g:Nat}(h:c.Holds W)(hg:W.grownBy W' (some g))(a:g≠c.w.heap.size)(i:g≠c.B9)(b:g≠c.B10)(d:g≠c.B11)(f:g≠c.B12)(j:g≠c.gZ)(hl:c.w.heap.size<=g):c.Holds W':=
 ⟨h.b0.kept hg (λe=>by grind),h.b9.kept hg (λe=>by grind),h.b10.kept hg (λe=>by grind),h.b11.kept hg (λe=>by grind),
  h.b12.kept hg (λe=>by grind),h.z.kept hg (λe=>by grind),below_grown h.B hg hl⟩
def SplC.Holds.drew{c:SplC}{W:I}(h:c.Holds W):c.Holds W.drew:=
 ⟨h.b0,h.b9,h.b10,h.b11,h.b12,h.z,h.B.drew⟩
variable{f:Bool}{D D' Q Q':Ja}{B:Nat}{W W' W0:I}
def SplC.own(c:SplC)(b:c.w.heap.size<=B):OwnFrom B (λ(_:Nat) W=>c.Holds W):=λk W W' row hs hg a=>
 ⟨YF hs.b0 hg a,YF hs.b9 hg a,YF hs.b10 hg a,YF hs.b11 hg a,YF hs.b12 hg a,Fl hs.z hg a,LI b k W W' row hs.B hg a⟩
def LV(c:SplC)(a V n K:Nat)(k:Nat)(W:I):Prop:=
 c.Holds W/\∃D Q,DG W c.gR D/\DG W c.gQ Q/\Xq a V n K (K-k) D Q
def Pm(c:SplC)(b V n K:Nat)(g:c.w.heap.size<=B):OwnFrom B (LV c b V n K):=
 BL (c.own g) (λ_ _ _ _ hs hg a=>by obtain⟨D,Q,d,e,f⟩:=hs;exact⟨D,Q,Fl d hg a,Fl e hg a,f⟩)
structure SplM(c:SplC)(W0:World)(D D' Q Q':Ja)(e f:Bool)(W:World):Prop where
 k:KeepsOthers W0 W
 h:c.Holds W
 r:DG W c.gR (bif e then D' else D)
 q:DG W c.gQ (bif f then Q' else Q)
def SplM.drew{c:SplC}{W0 W:I}{D D' Q Q':Ja}{e f:Bool}(h:SplM c W0 D D' Q Q' e f W):SplM c W0 D D' Q Q' e f W.drew:=
 ⟨h.k.trans (KeepsOthers.drew W),h.h.drew,h.r,h.q⟩
def Pn{g:Nat}{xs:Ja}(b:DG W g xs)(hg:W.grownBy W' (some g)):KeepsOthers W W':=
 KeepsOthers.of_grownBy hg λj o a c=>by cases a;exact b.other c
def SplM.any{c:SplC}(h:SplM c W0 D D' Q Q' false f W)(a:Ja):SplM c W0 D a Q Q' false f W:=⟨h.k,h.h,h.r,h.q⟩
def SplM.split{c:SplC}(h:SplM c W0 D D' Q Q' false f W)(a:c.Apart)(hg:W.grownBy W' (some c.gR))(b:DG W' c.gR D'):SplM c W0 D D' Q Q' true f W':=
 ⟨h.k.trans (Pn h.r hg),h.h.kept hg a.r0 a.r9 a.r10 a.r11 a.r12 a.rz a.lr,b,h.q.kept hg λe=>by injection e with e;exact a.rq e.symm⟩
theorem SplM.store{c:SplC}{e:Bool}(h:SplM c W0 D D' Q Q' e false W)(a:c.Apart){j v:Nat}(d:Q.set j v=Q'):SplM c W0 D D' Q Q' e true (W.setCell ⟨c.gQ,j,none⟩ (F G (v:Nat))):=
 have b:=JB W c.gQ j (F G (v:Nat))
 ⟨h.k.trans (BT _ _ _),h.h.kept b a.q0 a.q9 a.q10 a.q11 a.q12 a.qz a.lq,h.r.kept b (λe=>by injection e with e;exact a.rq e),by have:=h.q.set j v;grind⟩
def Po(a:TR)(f ca:Nat)(x y l lb l1 cb m n d s:Nat)(w:I)(fh:lb=l+2)(h2:(lb:Int)-1=l1)(fo:x<w.heap.size)
(ra:Row G w (C a f ca) (Jb Y m))(rb:Row G w (C (some ⟨x,y,none⟩) lb cb) (Jb Y n))
(kb:w.cell? ⟨x,y+l1,none⟩=some (F G (d:Nat)))(fr:d<Y)(hs:s<=63)(HS:Hid ((64:Int)-(Lib.bitLen d:Int)=(s:Int)))(gj:lb<=f)(ft:f<1099511627776)
(fc:Hid (n*2^s<Y^(l+2)))(fd:Hid (2^63*Y^(l+1)<=n*2^s))(fm:Hid (m*2^s<n*2^s*Y^(f-(l+1)))):
 Calls M 151 #[C a f ca,C (some ⟨x,y,none⟩) lb cb] w λe w'=>∃u v,e=.returned (.tuple #[u,v])/\UN w' u (m/n)/\UN w' v (m%n)/\Bl w w':=by
 have Qc:=Z fh;have i1:N.wrap ((lb:Int)-1)=(l1:Int):=by rw[h2];exact BO _ O
 have i3:N.wrap (l1:Int)=(l1:Int):=BO _ O;have j1:(l1:Int)<(lb:Int):=O
 have j9:(0:Int)<=(l1:Int):=O
 have j2:l1<lb:=O
 have gk:¬(lb=1):=O
 have Qg:Bl w (w.alloc (.cells #[C (some ⟨x,y,none⟩) lb cb] 34)):=Ba w _;have Qf:=BI w 34 (C (some ⟨x,y,none⟩) lb cb);obtain⟨W0,cn⟩:=ex (w.alloc (.cells #[C (some ⟨x,y,none⟩) lb cb] 34));have Qs:W0.heap.size=w.heap.size+1:=by rw[<-cn];simp
 rw[cn]at Qg Qf;have Uq:=Qf.cell;have Uz:=(Qg.cell (p:=⟨x,y+l1,none⟩) fo).trans kb;have Qr:=Z λ(V:I) (h:Bl W0 V)=>LH a f ca (Jb Y m) s V hs (Row.below (Row.below ra Qg) h) (Jh Jc m) ft;have Qp:=Z λ(V:I) (h:Bl W0 V)=>LH (some ⟨x,y,none⟩) lb cb (Jb Y n) s V hs (Row.below (Row.below rb Qg) h) (Jh Jc n) O;rw[Ji Jc]at Qr Qp;have Ub:=Z cn;have Ua:=Z (show ∀V:I,Calls M 176 #[F G (d:Nat)] V λe w'=>e=.returned (F N (s:Nat))/\w'=V from λV=>by
  have h:=Tryz.bits_LeadingZeros64 (d:Nat) V O (by unfold Y at fr;omega);rw[CG,HS.o]at h;exact h)
 have gq:G.wrap (s:Int)=(s:Int):=Bh _ O;have Ur:=Z Qs;have fu:=Z h2;clear cn fh ra rb kb HS;refine(BK (n:=3)).1 ?_;refine BV func151 J trivial ?_ J;simp only[ntmps151,Aj,Ai,AN,Nat.reduceAdd,Nat.reduceSub,Aw,Ax,AL,AA,Ah,Am];refine wpIn_wide.2 ?_;go_upto_region 1 with fail
 rw[Ub.o];clear Ub Qs;go_upto_region 8 with(go_at_call 176;refine(Ua.o _).mono ?_;rintro e w' ⟨rfl,e1⟩;have e2:=e1.symm;subst e2;clear e1)
 refine J4 Dj [[],[],[0,1],[],[],[3,4,2],[],[6],[5,7],[],[],[9,2,5,0,1,2,9,10],[10,8,11,0,1,2,3,4,5,6,7,8,9,10,11]] TS DI
  (λD ac V=>∃t9 bc bd bf bg bh bi cg bj bk cj:Value,ac={ tmps:=#[C a f ca,C (some ⟨x,y,none⟩) lb cb,E,L (some ⟨w.heap.size,0,none⟩),C none 0 0,C none 0 0,E,E,F G (s:Nat),t9,bc,E,E,C a f ca,F N (f:Nat),C (some ⟨x,y,none⟩) lb cb,F N (lb:Nat),.bool false,E,E,C (some ⟨x,y,none⟩) lb cb,F N (lb:Nat),.bool false,E,E,E,E,E,E,E,E,E,E,E,E,C (some ⟨x,y,none⟩) lb cb,C (some ⟨x,y,none⟩) lb cb,F N (lb:Nat),F N (l1:Nat),L (some ⟨x,y+l1,none⟩),F G (d:Nat),F N (s:Nat),F G (s:Nat),bd,bf,bg,bh,bi,cg,bj,bk,cj,E,E,E,E,E,E,E,E,E,E,E,E,E,E,E,E,E,E,E,E,E,E,E,E,E,E,E,E],defers:=[] }/\Hid (D 0=true->bd=C a f ca)/\Hid (D 1=true->bf=F G (s:Nat))/\Hid (D 2=true->∃g bm,EB V W0.heap.size bg g (f+1) (m*2^s) bm)/\Hid (D 3=true->bh=C (some ⟨x,y,none⟩) lb cb)/\Hid (D 4=true->bi=F G (s:Nat))/\Hid (D 5=true->∃gR Zr gZ Zb,EB V W0.heap.size bg gR (f+1) (m*2^s) Zr/\EB V W0.heap.size cg gZ (lb+1) (n*2^s) Zb/\gR≠gZ)/\Hid (D 6=true->bj=C (some ⟨x,y,none⟩) lb cb)/\Hid (D 7=true->bk=F N (lb:Nat))/\Hid (D 8=true->∃gZ,cg=C (some ⟨gZ,0,none⟩) (lb+1) (lb+1)/\cj=C (some ⟨gZ,0,none⟩) lb (lb+1))/\Hid (D 9=true->D 11=false->∃B,t9=L (some ⟨B,0,none⟩)/\Boxed V B 34 (C none 0 0)/\W0.heap.size<=B)/\Hid (D 10=true->D 12=false->∃B,bc=L (some ⟨B,0,none⟩)/\Boxed V B 34 (C none 0 0)/\W0.heap.size<=B)/\Hid (D 9=true->D 10=true->t9≠bc)/\Hid (D 11=true->∃B,t9=L (some ⟨B,0,none⟩)/\Boxed V B 34 bg/\W0.heap.size<=B)/\Hid (D 12=true->∃B,bc=L (some ⟨B,0,none⟩)/\Boxed V B 34 cj/\W0.heap.size<=B)/\Bl W0 V)
  (E8 ⟨_,_,_,J,Z DT,Z DT,Z DT,Z DT,Z DT,Z DT,Z DT,Z DT,Z DT,Z DT,Z DT,Z DT,Z DT,Z DT,(BB _ W0).drew⟩) ?step8 ?fin8
 case step8=>
  rintro D a2 V i ds ai et b aj ⟨t9,bc,bd,bf,bg,bh,bi,cg,bj,bk,cj,rfl,R,S,g2,T,U,t,X,g7,g8,P,z,gx,ae,ah,r⟩;have Qx:i<13:=(As.1 et).1;obtain rfl|rfl|rfl|rfl|rfl|rfl|rfl|rfl|rfl|rfl|rfl|rfl|rfl:=Gs i O
  all_goals
   simp only[AY,AQ,AU]at et;subst et;clear Qx
  . clear b ai;refine Dk ?_;exact⟨Z λ_=>rfl,S,g2,T,U,t,X,g7,g8,P,z,gx,ae,ah,r⟩
  . clear b ai;refine Dk ?_;exact⟨R,Z λ_=>rfl,g2,T,U,t,X,g7,g8,P,z,gx,ae,ah,r⟩
  . have Ut:D 5=false:=DZ ai aj;have Qb:D 11=false:=DZ ai aj;have Qa:D 12=false:=DZ ai aj;obtain rfl:=R.o (b 0 sp);obtain rfl:=S.o (b 1 sp);clear b ai;refine JG J J λK hK=>?_;go_simp;go_wp2_with(go_at_call 178;refine(Qr.o _ r).mono ?_;rintro e w5 ⟨t,Z5,rfl,⟨eh,ei,en⟩,hA5,bz,aq⟩)
    exact E8 ⟨_,_,_,J,Z λ_=>rfl,Z λ_=>rfl,Z λ_=>⟨t,Z5,J,hA5,eh,ei,en,AM r.size bz⟩,T,U,Z (λh=>by simp[Ut]at h),X,g7,g8,Z (λh h2=>by obtain⟨B,e,q,q2⟩:=P.o h h2;exact⟨B,e,Jk q aq,q2⟩),Z (λh h2=>by obtain⟨B,e,q,q2⟩:=z.o h h2;exact⟨B,e,Jk q aq,q2⟩),gx,Z (λh=>by simp[Qb]at h),Z (λh=>by simp[Qa]at h),Bt r aq⟩
  . have k0:=(Jk Qf r).cell;clear b ai;refine Dk ?_;exact⟨R,S,g2,Z λ_=>rfl,U,t,X,g7,g8,P,z,gx,ae,ah,r⟩
  . clear b ai;refine Dk ?_;exact⟨R,S,g2,T,Z λ_=>rfl,t,X,g7,g8,P,z,gx,ae,ah,r⟩
  . have Uo:D 8=false:=DZ ai aj;have Qb:D 11=false:=DZ ai aj;have Qa:D 12=false:=DZ ai aj;obtain rfl:=T.o (b 3 sp);obtain rfl:=U.o (b 4 sp);obtain⟨gR,Zr,hR⟩:=g2.o (b 2 sp);have gg:=hR.2.1.lt;clear b ai;refine JG J J λK hK=>?_;go_simp;go_wp2_with(go_at_call 178;refine(Qp.o _ r).mono ?_;rintro e w5 ⟨t,Z5,rfl,⟨eh,ei,en⟩,hA5,bz,aq⟩)
    exact⟨_,_,_,_,_,_,_,_,_,_,_,J,R,S,Z λ_=>⟨gR,Zr,hR.below aq⟩,Z λ_=>rfl,Z λ_=>rfl,Z λ_=>⟨gR,Zr,t,Z5,hR.below aq,⟨J,hA5,eh,ei,en,AM r.size bz⟩,O⟩,X,g7,Z (λh=>by simp[Uo]at h),Z (λh h2=>by obtain⟨B,e,q,q2⟩:=P.o h h2;exact⟨B,e,Jk q aq,q2⟩),Z (λh h2=>by obtain⟨B,e,q,q2⟩:=z.o h h2;exact⟨B,e,Jk q aq,q2⟩),gx,Z (λh=>by simp[Qb]at h),Z (λh=>by simp[Qa]at h),Bt r aq⟩
  . have k0:=(Jk Qf r).cell;clear b ai;refine Dk ?_;exact⟨R,S,g2,T,U,t,Z λ_=>rfl,g7,g8,P,z,gx,ae,ah,r⟩
  . obtain rfl:=X.o (b 6 sp);clear b ai;refine Dk ?_;exact⟨R,S,g2,T,U,t,Z λ_=>rfl,Z λ_=>rfl,g8,P,z,gx,ae,ah,r⟩
  . have Qa:D 12=false:=DZ ai aj;obtain⟨gR,Zr,gZ,Zb,hR,hZ,az⟩:=t.o (b 5 sp);obtain rfl:=hZ.1;obtain rfl:=g7.o (b 7 sp);have b1:(0:Int)<=(lb:Int):=O
    have b2:(lb:Int)<=(lb:Int)+1:=O
    have b3:lb<=lb+1:=O
    have b4:¬((lb:Int)+1<(lb:Int)):=O
    clear b ai;refine Dk ?_;exact⟨R,S,g2,T,U,Z λ_=>⟨gR,Zr,gZ,Zb,hR,hZ,az⟩,X,Z λ_=>rfl,Z λ_=>⟨gZ,J,J⟩,P,z,gx,ae,Z (λh=>by simp[Qa]at h),r⟩
  . have Qb:D 11=false:=DZ ai aj;have Qa:D 12=false:=DZ ai aj;clear b ai;refine Dk ?_;exact⟨R,S,Z (λh=>by obtain⟨g,bm,q⟩:=g2.o h;exact⟨g,bm,q.below (Ba V _)⟩),T,U,Z (λh=>by obtain⟨gR,Zr,gZ,Zb,q1,q2,q3⟩:=t.o h;exact⟨gR,Zr,gZ,Zb,q1.below (Ba V _),q2.below (Ba V _),q3⟩),X,g7,g8,Z λ_ _=>⟨_,J,BI _ _ _,r.size⟩,Z (λh h2=>by obtain⟨B,e,q,q2⟩:=z.o h h2;exact⟨B,e,q.alloc _,q2⟩),Z (λ_ h e=>by obtain⟨B,e2,q,q2⟩:=z.o (by simpa using h) Qa;have:=q.lt;rw[e2]at e;cases e;omega),Z (λh=>by simp[Qb]at h),Z (λh=>by simp[Qa]at h),r.alloc r.size _⟩
  . have Qb:D 11=false:=DZ ai aj;have Qa:D 12=false:=DZ ai aj;clear b ai;refine Dk ?_;exact⟨R,S,Z (λh=>by obtain⟨g,bm,q⟩:=g2.o h;exact⟨g,bm,q.below (Ba V _)⟩),T,U,Z (λh=>by obtain⟨gR,Zr,gZ,Zb,q1,q2,q3⟩:=t.o h;exact⟨gR,Zr,gZ,Zb,q1.below (Ba V _),q2.below (Ba V _),q3⟩),X,g7,g8,Z (λh h2=>by obtain⟨B,e,q,q2⟩:=P.o h h2;exact⟨B,e,q.alloc _,q2⟩),Z λ_ _=>⟨_,J,BI _ _ _,r.size⟩,Z (λh _ e=>by obtain⟨B,e2,q,q2⟩:=P.o (by simpa using h) Qb;have:=q.lt;rw[e2]at e;cases e;omega),Z (λh=>by simp[Qb]at h),Z (λh=>by simp[Qa]at h),r.alloc r.size _⟩
  . have Qa:D 12=false:=DZ ai aj;obtain⟨B,rfl,am,ce⟩:=P.o (b 9 sp) aj;obtain⟨gR,Zr,gZ,Zb,hR,hZ,az⟩:=t.o (b 5 sp);have k0:=am.cell;have f0:=am.frozen;obtain⟨B2,bn,er,f9⟩:=z.o (b 10 sp) Qa;have Qt:B≠B2:=λe=>gx.o (b 9 sp) (b 10 sp) (by rw[bn,e]);obtain rfl:=bn;obtain rfl:=hR.1;clear P ae;clear b ai;refine Dk ?_;exact⟨R,S,Z λ_=>⟨gR,Zr,hR.box O am⟩,T,U,Z λ_=>⟨gR,Zr,gZ,Zb,hR.box O am,hZ.box O am,az⟩,X,g7,g8,Z (λ_ h=>by simp at h),Z λ_ _=>⟨B2,J,er.kept (Bw _ B _) (λe=>by injection e;omega),f9⟩,gx,Z λ_=>⟨B,J,am.set _,ce⟩,Z (λh=>by simp[Qa]at h),r.setCell (p:=⟨B,0,none⟩) ce _⟩
  . obtain⟨B,rfl,am,ce⟩:=z.o (b 10 sp) aj;obtain⟨gR,Zr,gZ,Zb,hR,hZ,az⟩:=t.o (b 5 sp);obtain⟨fe,ck,ef⟩:=g8.o (b 8 sp);have k0:=am.cell;have f0:=am.frozen;obtain⟨B2,bn,er,f9⟩:=ae.o (b 11 sp);have Qt:B≠B2:=λe=>gx.o (b 9 sp) (b 10 sp) (by rw[bn,e]);obtain rfl:=ef;obtain rfl:=ck;obtain rfl:=bn;have Qy:=b 11 sp;clear z ah;clear b ai;refine Dk ?_;exact⟨R,S,Z λ_=>⟨gR,Zr,hR.box O am⟩,T,U,Z λ_=>⟨gR,Zr,gZ,Zb,hR.box O am,hZ.box O am,az⟩,X,g7,Z λ_=>⟨fe,J,J⟩,Z (λ_ h=>by simp[Qy]at h),Z (λ_ h=>by simp at h),gx,Z λ_=>⟨B2,J,er.kept (Bw _ B _) (λe=>by injection e;omega),f9⟩,Z λ_=>⟨B,J,am.set _,ce⟩,r.setCell (p:=⟨B,0,none⟩) ce _⟩
 rintro D a2 o an ⟨t9,bc,bd,bf,bg,bh,bi,cg,bj,bk,cj,rfl,R,S,g2,T,U,t,X,g7,g8,P,z,gx,ae,ah,r⟩;obtain⟨gR,Zr,gZ,Zb,hR,hZ,az⟩:=t.o (an 5 DI);obtain⟨fe,ck,ef⟩:=g8.o (an 8 DI);obtain⟨B9,rfl,bu,gp⟩:=ae.o (an 11 DI);obtain⟨B10,rfl,bt,go⟩:=ah.o (an 12 DI);obtain rfl:=ef;obtain rfl:=hR.1;have e0:=hZ.1;rw[ck]at e0;cases e0;obtain rfl:=ck;clear R S g2 T U t X g7 g8 P z gx ae ah an Qr Qp Ua;obtain⟨K,hK⟩:∃K:Nat,(f:Int)+1-(lb:Int)=(K:Int):=⟨f+1-lb,O⟩;have gb:N.wrap (K:Int)=(K:Int):=BO _ O;have Uw:=XZ K O o;have k9:=bu.cell;have Us:=bt.cell;have Qj:K+lb=f+1:=O
 have Qi:=Z Qj;clear Qj;go_wp2_with(go_at_call 147;refine((BK (n:=2)).1 (Fb Fence.wide _ trivial J _ _ _ _)).mono ?_;rintro e w' ⟨rfl,rfl⟩)
 refine(wpIn_wide (n:=3)).1 ?_;obtain⟨WQ,ay⟩:=ex (((o.alloc (.cells (cellsOf G (TT K 0)).toArray 163)).alloc (.cells #[C (some ⟨o.heap.size,0,none⟩) K K] 34)).alloc (.cells #[C (some ⟨o.heap.size,0,none⟩) K K] 34));have Uv:WQ.heap.size=o.heap.size+1+1+1:=by rw[<-ay];simp
 have Qk:Bl w o:=Bt Qg r;have Qs:=Ur.o;have Um:Bl w WQ:=by rw[<-ay];exact((Qk.alloc Qk.size _).alloc (by have:=Qk.size;simp;omega) _).alloc (by have:=Qk.size;simp;omega) _
 have lR:=hR.2.1.lt;have lZ:=hZ.2.1.lt;have l9:=bu.lt;have gr:=bt.lt;have n9:gR≠B9:=λe=>hR.ne_box O bu e;have gu:gR≠B10:=λe=>hR.ne_box O bt e;have fv:=hR.2.2.2.2.2;have fw:=hZ.2.2.2.2.2;obtain⟨c,hc⟩:∃c:SplC,c=⟨w,C (some ⟨x,y,none⟩) lb cb,C (some ⟨gR,0,none⟩) (f+1) (f+1),C (some ⟨gZ,0,none⟩) lb (lb+1),C (some ⟨o.heap.size,0,none⟩) K K,B9,B10,o.heap.size+1,o.heap.size+1+1,gR,gZ,o.heap.size,Zb⟩:=⟨_,J⟩;have Ue:c.Apart:=by
  rw[hc];constructor<;>(simp only;omega)
 have Uc:c.Holds WQ:=by
  rw[hc,<-ay];have Ui:=(BI (o.alloc (.cells (cellsOf G (TT K 0)).toArray 163)) 34 (C (some ⟨o.heap.size,0,none⟩) K K)).alloc (.cells #[C (some ⟨o.heap.size,0,none⟩) K K] 34);have Uf:=BI ((o.alloc (.cells (cellsOf G (TT K 0)).toArray 163)).alloc (.cells #[C (some ⟨o.heap.size,0,none⟩) K K] 34)) 34 (C (some ⟨o.heap.size,0,none⟩) K K);simp only[A1]at Ui Uf;exact⟨(((Jk Qf r).alloc _).alloc _).alloc _,((bu.alloc _).alloc _).alloc _,((bt.alloc _).alloc _).alloc _,Ui,Uf,((hZ.2.1.alloc _).alloc _).alloc _,by rw[ay];exact Um⟩
 have Uh:DG WQ gR Zr:=by rw[<-ay];exact((hR.2.1.alloc _).alloc _).alloc _
 have Qz:DG WQ o.heap.size (TT K 0):=by rw[<-ay];exact((DG.made (BD o _)).alloc _).alloc _
 have Qu:Xq (m*2^s) (n*2^s) lb K K Zr (TT K 0):=Xq.start (by have:=Qi.o;rw[hR.2.2.1];omega) hR.2.2.2.1 hR.2.2.2.2.1 (by
  have h:=fm.o;rwa[show f-(l+1)=K from by have:=Qi.o;have:=Qc.o;omega]at h)
 obtain⟨f8,fj⟩:=Pk hZ.2.2.2.1 (by rw[hZ.2.2.1,Qc.o]) hZ.2.2.2.2.1 fc.o fd.o;have Ux:0<n*2^s:=by
  have h:=fd.o;have:=DC (AW 63) (C5 (n:=l+1) (show 0<Y by unfold Y;omega));omega
 have Qh:n*2^s<Y^lb:=by rw[Qc.o];exact fc.o
 have Up:=hZ.2.2.2.1;have gh:=hZ.2.2.1;rw[ay];clear ay Uw bu bt Qf Uq k9 Us hR hZ r Qk Uz;refine YJ J O (gf:=174) (lb:=#[L (some ⟨o.heap.size+1+1,0,none⟩)]) J trivial (DB func174 TS J)
  (Fa Fence.wide _ trivial J O (o.heap.size+1+1) (some ⟨o.heap.size,0,none⟩) K K (λ_=>0) O) (λ_=>rfl)
  (LV c (m*2^s) (n*2^s) lb K) (λ_ _ _=>False) (Pm c _ _ _ _ (by rw[hc,Uv];simp only;omega)) (λc _ _ _ _ h _ _=>h.elim)
  ⟨Uc,Zr,TT K 0,by rw[hc];exact Uh,by rw[hc];exact Qz,by rw[CP];exact Qu⟩ ?rd
  (λk=>{ tmps:=#[C a f ca,C (some ⟨x,y,none⟩) lb cb,E,L (some ⟨w.heap.size,0,none⟩),C none 0 0,C none 0 0,E,E,F G (s:Nat),L (some ⟨B9,0,none⟩),L (some ⟨B10,0,none⟩),L (some ⟨o.heap.size+1,0,none⟩),F N ((K:Int)-1-k),C a f ca,F N (f:Nat),C (some ⟨x,y,none⟩) lb cb,F N (lb:Nat),.bool false,E,E,C (some ⟨x,y,none⟩) lb cb,F N (lb:Nat),.bool false,E,E,E,E,E,E,E,E,E,E,E,E,C (some ⟨x,y,none⟩) lb cb,C (some ⟨x,y,none⟩) lb cb,F N (lb:Nat),F N (l1:Nat),L (some ⟨x,y+l1,none⟩),F G (d:Nat),F N (s:Nat),F G (s:Nat),bd,bf,C (some ⟨gR,0,none⟩) (f+1) (f+1),bh,bi,C (some ⟨gZ,0,none⟩) (lb+1) (lb+1),bj,bk,C (some ⟨gZ,0,none⟩) lb (lb+1),C (some ⟨gR,0,none⟩) (f+1) (f+1),F N ((f:Int)+1),C (some ⟨gZ,0,none⟩) lb (lb+1),F N (lb:Nat),F N (K:Nat),C (some ⟨o.heap.size,0,none⟩) K K,C (some ⟨o.heap.size,0,none⟩) K K,.func (.func 174) #[] #[L (some ⟨o.heap.size+1+1,0,none⟩)],F N ((K:Int)-1-k),F G 0,E,E,E,E,E,E,E,E,E,E,E,E,E,E,E,E,E,E],defers:=[] }) ?assign ?body ?done ?stop
 case rd=>
  rintro k W ⟨hh,D,Q,_,hQ,hL⟩;have Ud:=hh.b12;rw[hc]at Ud hQ;refine⟨Ud.cell,λhk=>⟨o.heap.size,0,J,?_⟩⟩;rw[Cd,hQ.cell (j:=K-1-k) (by rw[hL.2.2.1];omega),hL.2.2.2.2.2.2 (K-1-k) O]
 case assign=>
  intro l k W K hK;unfold Xf;gi_wp2;exact hK
 case stop=>
  rintro D c k W _ _ h _;exact h.elim
 case body=>
  rintro l' k W ⟨hh,D,Q,hD,hQ,hL⟩ hk gn;have Ug:K-k=K-1-k+1:=O
  rw[Ug]at hL;have e1:((K:Int)-1-k)=((K-1-k:Nat):Int):=O
  have HI:=Z (show K-(k+1)=K-1-k by omega);have Qn:K-1-k<K:=O
  rw[e1];obtain⟨i,hi⟩:=ex (K-1-k);rw[hi]at hL Qn HI ⊢;clear Ug e1 hi;obtain⟨w1,w2,w3⟩:=hL.win Qn Qh;have Uu:=hL.1;have gc:=hL.2.2.1;have Ul:=Z (show ∀(V:I) (nn:Nat),DG V gR D->DG V gZ Zb->CallsIn (Fence.wide.inRound l') nn M 179 #[C (some ⟨gR,i,none⟩) (lb+1) (f+1-i),C (some ⟨gZ,0,none⟩) lb (lb+1)] V λe w'=>
   ∃q,e=.returned (F G ((val Y ((D.drop i).take (lb+1))/(n*2^s):Nat):Int))/\(q.length=lb+1/\DE Y q/\val Y q=val Y ((D.drop i).take (lb+1))%(n*2^s))/\DG w' gR (DL D i (lb+1) q)/\V.grownBy w' (some gR)from λV nn h1 h2=>by
   have Qj:=Qi.o;have hz:=h2.row 0 lb (lb+1) O O O O;have Qw:=Pj gR i l (f+1-i) D (some ⟨gZ,0,none⟩) (lb+1) (Zb.take (l+2)) V h1 hL.2.1 (by rw[Uu];have:=Qc.o;omega) (by have:=Qc.o;omega) O (by have:=Qc.o;omega)
    (by rw[AB,Qc.o]at hz;rw[Qc.o];exact hz) (Up.take _) (λp e _=>by cases e;exact λh=>az h.symm) fj (by rw[f8];have:=w1;rw[Qc.o]at this;exact this)
   rw[f8]at Qw;have e3:l+3=lb+1:=by rw[Qc.o]
   have e2:l+2=lb:=Qc.o.symm;rw[e3,e2]at Qw;exact Bb l' ((BK (n:=nn)).2 Qw))
  have Un:=Z λ(q:Ja) (h1:q.length=lb+1) (h2:DE Y q) (h3:val Y q=val Y ((D.drop i).take (lb+1))%(n*2^s))=>hL.step Qn Qh h1 h2 h3 Ux;obtain⟨qd,fi⟩:=ex (val Y ((D.drop i).take (lb+1))/(n*2^s));rw[fi]at Un Ul;clear fi w1 w2 w3 hL f8 fj Qu;obtain⟨H1,fx⟩:∃H1:Nat,(i:Int)+(lb:Int)=(H1:Int):=⟨i+lb,O⟩;obtain⟨H,hH⟩:∃H:Nat,(H1:Int)+1=(H:Int):=⟨H1+1,O⟩;have fy:H-i=lb+1:=O
  have ga:H<=f+1:=by have:=Qi.o;omega
  have gi:i<=H:=O
  have y1:(i:Int)<=(H:Int):=O
  have y2:(H:Int)<=(f:Int)+1:=O
  have y3:(0:Int)<=(i:Int):=O
  have y4:(i:Int)<(K:Int):=O
  have y5:N.wrap (H1:Int)=(H1:Int):=BO _ O;have y6:N.wrap (H:Int)=(H:Int):=BO _ O;gi_wp2_with fail
  refine Xp Dj [[],[],[],[],[],[],[5],[4,6],[7],[2,3,8],[],[9,10],[0,1,0,1,2,3,4,5,6,7,8,9,10,11],[12,11,11,0,1,2,3,4,5,6,7,8,9,10,11]] TS DI
   (λDD ac V=>∃co cy cz de dh di dj dt du dw dx dz ed:Value,ac={ tmps:=#[C a f ca,C (some ⟨x,y,none⟩) lb cb,E,L (some ⟨w.heap.size,0,none⟩),C none 0 0,C none 0 0,E,E,F G (s:Nat),L (some ⟨B9,0,none⟩),L (some ⟨B10,0,none⟩),L (some ⟨o.heap.size+1,0,none⟩),F N (i:Nat),C a f ca,F N (f:Nat),C (some ⟨x,y,none⟩) lb cb,F N (lb:Nat),.bool false,E,E,C (some ⟨x,y,none⟩) lb cb,F N (lb:Nat),.bool false,E,E,E,E,E,E,E,E,E,E,E,E,C (some ⟨x,y,none⟩) lb cb,C (some ⟨x,y,none⟩) lb cb,F N (lb:Nat),F N (l1:Nat),L (some ⟨x,y+l1,none⟩),F G (d:Nat),F N (s:Nat),F G (s:Nat),bd,bf,C (some ⟨gR,0,none⟩) (f+1) (f+1),bh,bi,C (some ⟨gZ,0,none⟩) (lb+1) (lb+1),bj,bk,C (some ⟨gZ,0,none⟩) lb (lb+1),C (some ⟨gR,0,none⟩) (f+1) (f+1),F N ((f:Int)+1),C (some ⟨gZ,0,none⟩) lb (lb+1),F N (lb:Nat),F N (K:Nat),C (some ⟨o.heap.size,0,none⟩) K K,C (some ⟨o.heap.size,0,none⟩) K K,.func (.func 174) #[] #[L (some ⟨o.heap.size+1+1,0,none⟩)],F N (i:Nat),F G 0,co,cy,cz,de,dh,di,dj,dt,du,dw,dx,dz,ed,E,E,E,E,E],defers:=[] }/\Hid (DD 0=true->co=C (some ⟨o.heap.size,0,none⟩) K K)/\Hid (DD 1=true->cy=F N (i:Nat))/\Hid (DD 2=true->cz=C (some ⟨gR,0,none⟩) (f+1) (f+1))/\Hid (DD 3=true->de=F N (i:Nat))/\Hid (DD 4=true->dh=F N (i:Nat))/\Hid (DD 5=true->di=C (some ⟨x,y,none⟩) lb cb)/\Hid (DD 6=true->dj=F N (lb:Nat))/\Hid (DD 7=true->dt=F N (H1:Nat))/\Hid (DD 8=true->du=F N (H:Nat))/\Hid (DD 9=true->dw=C (some ⟨gR,i,none⟩) (lb+1) (f+1-i))/\Hid (DD 10=true->dx=C (some ⟨gZ,0,none⟩) lb (lb+1))/\Hid (DD 11=true->dz=F G (qd:Nat))/\Hid (DD 12=true->ed=L (some ⟨o.heap.size,i,none⟩))/\∃D2,Hid (DD 11=true->∃q,(q.length=lb+1/\DE Y q/\val Y q=val Y ((D.drop i).take (lb+1))%(n*2^s))/\D2=DL D i (lb+1) q)/\SplM c W D D2 Q (Q.set i qd) (DD 11) (DD 13) V)
   (E8 ⟨_,_,_,_,_,J,Z DT,Z DT,Z DT,Z DT,Z DT,Z DT,Z DT,Z DT,Z DT,Z DT,Z DT,Z DT,Z DT,D,Z DT,SplM.drew ⟨KeepsOthers.refl _,hh,hD,hQ⟩⟩) ?step ?fin
  case fin=>
   rintro DD ac V an ⟨co,cy,cz,de,dh,di,dj,dt,du,dw,dx,dz,ed,rfl,R,S,g2,T,U,t,X,g7,g8,P,z,ae,ah,D2,gd,A⟩;rw[an 11 DI,an 13 DI]at A;obtain⟨q,⟨ew,f6,f7⟩,rfl⟩:=gd.o (an 11 DI);refine⟨A.k.from _,A.h,DL D i (lb+1) q,Q.set i qd,A.r,A.q,?_⟩;rw[HI.o];exact Un.o q ew f6 f7
  case step=>
   rintro DD ac V j ds ak hj b aj ⟨co,cy,cz,de,dh,di,dj,dt,du,dw,dx,dz,ed,rfl,R,S,g2,T,U,t,X,g7,g8,P,z,ae,ah,D2,gd,A⟩;have Qv:j<14:=(As.1 hj).1;obtain rfl|rfl|rfl|rfl|rfl|rfl|rfl|rfl|rfl|rfl|rfl|rfl|rfl|rfl:=FR j O
   all_goals
    simp only[AY,AQ,AU]at hj;subst hj;clear Qv
   . have b11:Boxed V (o.heap.size+1) 34 (C (some ⟨o.heap.size,0,none⟩) K K):=by have:=A.h.b11;rw[hc]at this;exact this
     have k0:=b11.cell;clear b ak;refine BZ J λK2 ad=>?_;go_simp;exact ad _ _ (E8 ⟨_,_,_,_,_,J,Z λ_=>rfl,S,g2,T,U,t,X,g7,g8,P,z,ae,ah,D2,gd,A⟩)
   . clear b ak;refine BZ J λK2 ad=>?_;go_simp;exact ad _ _ ⟨_,_,_,_,_,_,_,_,_,_,_,_,_,J,R,Z λ_=>rfl,g2,T,U,t,X,g7,g8,P,z,ae,ah,D2,gd,A⟩
   . have b9:Boxed V B9 34 (C (some ⟨gR,0,none⟩) (f+1) (f+1)):=by have:=A.h.b9;rw[hc]at this;exact this
     have k0:=b9.cell;clear b ak;refine BZ J λK2 ad=>?_;go_simp;exact ad _ _ ⟨_,_,_,_,_,_,_,_,_,_,_,_,_,J,R,S,Z λ_=>rfl,T,U,t,X,g7,g8,P,z,ae,ah,D2,gd,A⟩
   . clear b ak;refine BZ J λK2 ad=>?_;go_simp;exact ad _ _ ⟨_,_,_,_,_,_,_,_,_,_,_,_,_,J,R,S,g2,Z λ_=>rfl,U,t,X,g7,g8,P,z,ae,ah,D2,gd,A⟩
   . clear b ak;refine BZ J λK2 ad=>?_;go_simp;exact ad _ _ ⟨_,_,_,_,_,_,_,_,_,_,_,_,_,J,R,S,g2,T,Z λ_=>rfl,t,X,g7,g8,P,z,ae,ah,D2,gd,A⟩
   . have b0:Boxed V w.heap.size 34 (C (some ⟨x,y,none⟩) lb cb):=by have:=A.h.b0;rw[hc]at this;exact this
     have k0:=b0.cell;clear b ak;refine BZ J λK2 ad=>?_;go_simp;exact ad _ _ ⟨_,_,_,_,_,_,_,_,_,_,_,_,_,J,R,S,g2,T,U,Z λ_=>rfl,X,g7,g8,P,z,ae,ah,D2,gd,A⟩
   . obtain rfl:=t.o (b 5 sp);clear b ak;refine BZ J λK2 ad=>?_;go_simp;exact ad _ _ ⟨_,_,_,_,_,_,_,_,_,_,_,_,_,J,R,S,g2,T,U,Z λ_=>rfl,Z λ_=>rfl,g7,g8,P,z,ae,ah,D2,gd,A⟩
   . obtain rfl:=U.o (b 4 sp);obtain rfl:=X.o (b 6 sp);clear b ak;refine BZ J λK2 ad=>?_;go_simp;exact ad _ _ ⟨_,_,_,_,_,_,_,_,_,_,_,_,_,J,R,S,g2,T,Z λ_=>rfl,t,Z λ_=>rfl,Z λ_=>rfl,g8,P,z,ae,ah,D2,gd,A⟩
   . obtain rfl:=g7.o (b 7 sp);clear b ak;refine BZ J λK2 ad=>?_;go_simp;exact ad _ _ ⟨_,_,_,_,_,_,_,_,_,_,_,_,_,J,R,S,g2,T,U,t,X,Z λ_=>rfl,Z λ_=>rfl,P,z,ae,ah,D2,gd,A⟩
   . obtain rfl:=g2.o (b 2 sp);obtain rfl:=T.o (b 3 sp);obtain rfl:=g8.o (b 8 sp);have gl:¬(f+1=i):=O
     clear b ak;refine BZ J λK2 ad=>?_;go_simp;exact ad _ _ ⟨_,_,_,_,_,_,_,_,_,_,_,_,_,J,R,S,Z λ_=>rfl,Z λ_=>rfl,U,t,X,g7,Z λ_=>rfl,Z λ_=>rfl,z,ae,ah,D2,gd,A⟩
   . have b10:Boxed V B10 34 (C (some ⟨gZ,0,none⟩) lb (lb+1)):=by have:=A.h.b10;rw[hc]at this;exact this
     have k0:=b10.cell;clear b ak;refine BZ J λK2 ad=>?_;go_simp;exact ad _ _ ⟨_,_,_,_,_,_,_,_,_,_,_,_,_,J,R,S,g2,T,U,t,X,g7,g8,P,Z λ_=>rfl,ae,ah,D2,gd,A⟩
   . obtain rfl:=P.o (b 9 sp);obtain rfl:=z.o (b 10 sp);rw[aj]at A;have hr:DG V gR D:=by have:=A.r;rw[hc]at this;exact this
     have hz:DG V gZ Zb:=by have:=A.h.z;rw[hc]at this;exact this
     have HV:=Z A;clear A;clear b ak;refine BZ J λK2 ad=>?_;go_simp;gi_wp2_with(refine⟨trivial,?_⟩;gi_at_call 179;refine(Ul.o _ _ hr hz).mono ?_;rintro e w5 ⟨q,rfl,⟨ew,f6,f7⟩,hA5,bz⟩)
     exact⟨_,_,_,_,_,_,_,_,_,_,_,_,_,J,R,S,g2,T,U,t,X,g7,g8,Z λ_=>rfl,Z λ_=>rfl,Z λ_=>rfl,ah,DL D i (lb+1) q,Z λ_=>⟨q,⟨ew,f6,f7⟩,J⟩,SplM.split (HV.o.any _) Ue (by rw[hc];exact bz) (by rw[hc];exact hA5)⟩
   . obtain rfl:=R.o (b 0 sp);obtain rfl:=S.o (b 1 sp);clear b ak;refine BZ J λK2 ad=>?_;go_simp;exact ad _ _ (E8 ⟨_,_,_,_,_,J,Z λ_=>rfl,Z λ_=>rfl,g2,T,U,t,X,g7,g8,P,z,ae,Z λ_=>rfl,D2,gd,A⟩)
   . obtain rfl:=ae.o (b 11 sp);obtain rfl:=ah.o (b 12 sp);rw[aj]at A;have Ql:DG V o.heap.size Q:=by have:=A.q;rw[hc]at this;exact this
     have k0:=Ql.cell (j:=i) O;have f0:=Ql.frozen i;have Qm:SplM c W D D2 Q (Q.set i qd) (DD 11) true (V.setCell ⟨o.heap.size,i,none⟩ (F G (qd:Nat))):=by have:=A.store Ue (j:=i) (v:=qd) J;rw[hc]at this ⊢;exact this
     have Qo:=Z Qm;clear Qm A;clear b ak;refine BZ J λK2 ad=>?_;go_simp;exact ad _ _ ⟨_,_,_,_,_,_,_,_,_,_,_,_,_,J,R,S,g2,T,U,t,X,g7,g8,P,z,Z λ_=>rfl,Z λ_=>rfl,D2,gd,Qo.o⟩
 case done=>
  rintro D W hD ⟨hh,D2,Q2,an,ff,hL⟩ ad;rw[A0]at hL;obtain⟨f1,f2⟩:=hL.fin J J;have b11:Boxed W (o.heap.size+1) 34 (C (some ⟨o.heap.size,0,none⟩) K K):=by have:=hh.b11;rw[hc]at this;exact this
  have b9:Boxed W B9 34 (C (some ⟨gR,0,none⟩) (f+1) (f+1)):=by have:=hh.b9;rw[hc]at this;exact this
  have Uj:Bl w W:=by have:=hh.B;rw[hc]at this;exact this
  have hr:DG W gR D2:=by have:=an;rw[hc]at this;exact this
  have Ql:DG W o.heap.size Q2:=by have:=ff;rw[hc]at this;exact this
  have Qj:=Qi.o;have Qd:Row G W (C (some ⟨o.heap.size,0,none⟩) K K) Q2:=by
   have h1:=Ql.row 0 K K (by rw[hL.2.2.1];omega) (Aa _) O O;rwa[AB,Ac (by rw[hL.2.2.1];exact Aa _)]at h1
  have Qe:Row G W (C (some ⟨gR,0,none⟩) (f+1) (f+1)) D2:=by
   have h1:=hr.row 0 (f+1) (f+1) (by rw[hL.1];omega) (Aa _) O O;rwa[AB,Ac (by rw[hL.1];omega)]at h1
  have HT:=Z (show ∀V:I,Bl W V->Calls M 132 #[C (some ⟨o.heap.size,0,none⟩) K K] V λe w'=>∃u,e=.returned u/\UN w' u (m/n)/\Bl V w' from λV h=>by
   have h1:=Ye _ Q2 V (Row.below Qd h);rw[f1]at h1;exact h1)
  have Uy:=Z (show ∀V:I,Bl W V->Calls M 180 #[C (some ⟨gR,0,none⟩) (f+1) (f+1),F G (s:Nat)] V λe w'=>∃u,e=.returned u/\UN w' u (m%n)/\Bl V w' from λV h=>by
   have h1:=PN _ _ _ D2 s V hs (Row.below Qe h) hL.2.1;rw[f2,Nat.mul_div_cancel _ (AW s)]at h1;exact h1)
  have gt:=b11.lt;have l9:=b9.lt;have Uk:=b11.cell;have k9:=b9.cell;clear hL f1 f2 Qd Qe hr Ql hh an ff Uc Uh Qz Qu Qj;go_upto_region 13 with fail
  have r:Bl W W.drew:=(BB _ W).drew;go_region_held3 (λw'=>w'.cell? ⟨o.heap.size+1,0,none⟩=some (C (some ⟨o.heap.size,0,none⟩) K K)/\w'.cell? ⟨B9,0,none⟩=some (C (some ⟨gR,0,none⟩) (f+1) (f+1))) (refine⟨?_,?_⟩<;>(first|(go_keep;done)|(simp[*];done)))
   (first
    |(go_at_call 132;refine(HT.o _ r).mono ?_;rintro e w5 ⟨u5,rfl,fk,aq⟩;obtain⟨ua,uc,rfl⟩:=UN.form fk;have r:=Bt r aq;have Uk:=(Jk b11 r).cell;have k9:=(Jk b9 r).cell)
    |(go_at_call 180;refine(Uy.o _ r).mono ?_;rintro e w6 ⟨u6,rfl,fl,fg⟩;obtain⟨va,vc,rfl⟩:=UN.form fl;have r:=Bt r fg;have Uk:=(Jk b11 r).cell;have k9:=(Jk b9 r).cell))
  all_goals go_wp2_with fail
  have Qq:w6.heap[D]?=some (.deferred (some [])):=(r.block D (Ab.1 ad).1).trans ad;refine⟨sp,.inl ⟨_,_,J,Bc Qq,?_⟩⟩;refine⟨.tuple #[C ua (Jb Y (m/n)).length uc,C va (Jb Y (m%n)).length vc],by simp[results,results151,go_sem],_,_,J,IV (UN.below fk fg) Qq,IV fl Qq,?_⟩;exact below_grown (Bt Uj r) (BW _ D (.deferred none)) (by have:=Um.size;omega)
end
section
variable{a:Ja}{P d g l rc:Nat}{u:Value}{W:I}
def IZ(a:TR)(c f:Nat)(b:TR)(lb g m n:Nat)(w:I)(k:Row G w (C a c f) (Jb Y m))(o:Row G w (C b lb g) (Jb Y n))(hn:n≠0)(X:c<1099511627776):
 Calls M 151 #[C a c f,C b lb g] w λe p=>∃u v,e=.returned (.tuple #[u,v])/\UN p u (m/n)/\UN p v (m%n)/\Bl w p:=by
 obtain⟨W,ad,am,ai,ah⟩:=Jm k;obtain⟨j,ae,an,aj,V⟩:=Jm o;have ak:lb≠0:=λe=>hn ((Jt Jc).1 (Ag (by rw[<-j,e])));by_cases Q:c<lb
 . exact PO a c f b lb g m n w k o Q
 . by_cases R:lb=1
   . subst R;exact PQ a c f b g m n w k o O
   . obtain⟨l,rfl⟩:∃l,lb=l+2:=⟨lb-2,O⟩;obtain⟨B,D,rfl,U,kb⟩:=V (l+1) O;have q:=Jh Jc n;have t:(Jb Y n)[l+1]?.getD 0≠0:=by
      intro e;have S:=Jl Y (Jb Y n) (l+1);rw[Ac O,e,A8,AX,Ji Jc]at S;have h4:=JX q (l+1);have r:=Yp Jc j.symm O;rw[show l+2-1=l+1 from J]at r;omega
     have i:(Jb Y n)[l+1]?.getD 0<Y:=q.getD uo _;obtain⟨d,x⟩:=ex ((Jb Y n)[l+1]?.getD 0);rw[x]at kb t i;obtain⟨H,K,P⟩:=bitLen_spec d t (by rw[<-Em];exact i);have T:Lib.bitLen d<=64:=by
      rcases Az 64 (Lib.bitLen d)with h|h
      . exfalso
        have r:2^64<=2^(Lib.bitLen d-1):=Ap O O;rw[Em]at i;omega
      . exact h
     obtain⟨y,z⟩:=LU (s:=64-Lib.bitLen d) q j.symm x K P H T J;rw[Ji Jc]at y z;have hm:m<Y^c:=by
      have:=JS (Jh Jc m);rwa[Ji Jc,<-W]at this
     have A:Y^(l+1)<=n:=Yp Jc j.symm O;exact Po a c f B D l (l+2) (l+1) g m n d (64-Lib.bitLen d) w J O U k o kb i O (show _=_ by omega) O X y z (Pl hm A O)
theorem Ia{p:Nat}(a:p≠0)(h:p<Y):Jb Y p=[p]:=by
 grind[YI,Cb,AV,Js]
def Pp(a:TR)(t:Nat)(b:TR)(lb v x y:Nat)(w:I)(d:Row G w (C a 1 t) (Jb Y x))(r:Row G w (C b lb v) (Jb Y y))(B:y<Y):
 Calls M 152 #[C a 1 t,C b lb v] w λe D=>∃u,e=.returned u/\UN D u (Nat.gcd x y)/\Bl w D:=by
 obtain⟨n,ae,am,ai,l⟩:=Jm d;obtain⟨c,ah,an,aj,m⟩:=Jm r;obtain⟨o,aq,T⟩:=IW n.symm;rcases AF lb with z|z
 . subst z;have k:=(Jt Jc).1 (Ag c.symm);subst k;have K:=Z d;clear l m n c d r o;go_enter func152,ntmps152
   go_wp2_with fail
   go_ret;exact⟨_,J,by rw[Nat.gcd_zero_right];exact K.o,BB _ w⟩
 . have k:y≠0:=λe=>by rw[e,Js]at c;simp at c;omega
   have i:=Ia k B;obtain rfl:lb=1:=by rw[c,i];rfl
   obtain⟨P,Q,rfl,X,ka⟩:=l 0 O;obtain⟨R,S,rfl,ad,kb⟩:=m 0 O;rw[o]at ka;rw[i]at kb;have ay:w.cell? ⟨P,Q,none⟩=some (F G (x:Nat)):=ka;have az:w.cell? ⟨R,S,none⟩=some (F G (y:Nat)):=kb;clear l m n c d r o i ka kb;go_enter func152,ntmps152
   go_upto_region 3 with fail
   go_quiet (fail)
   go_wp2_with fail
   go_loopw [5,6] (λW s wr=>∃(p q j:Nat),W=F G (p:Nat)/\s=F G (q:Nat)/\p<Y/\q<Y/\p≠0/\Hid (Nat.gcd p q=Nat.gcd x y)/\wr=w.drewN j) (λ_ s _=>(intOf s).toNat)
   case atStart=>exact⟨x,y,_,J,J,T,B,O,Z J,J⟩
   case round=>
    obtain⟨p,q,j,rfl,rfl,hp,V,U,g,rfl⟩:=hrel;by_cases A:q=0
    . subst A;have f:=Z (show p=Nat.gcd x y by rw[<-g.o,Nat.gcd_zero_right]);have H:=Z (Ia U hp);clear g;go_wp2_with fail
      go_ret;refine⟨C (some ⟨w.heap.size,0,none⟩) 1 1,J,?_,(Fm (BB _ w) _).alloc (Aa _) _⟩;unfold UN;rw[<-f.o,H.o];exact(DG.made (xs:=[p]) (BD (w.drewN j) (.cells #[F G (p:Nat)] 163))).row 0 1 1 sp O O O
    . have f:=Z (show Nat.gcd q (p%q)=Nat.gcd x y by rw[<-g.o,CH q,<-Nat.gcd_rec,CH]);have ak:=AK p (show q>0 by omega);go_upto_region 5 with fail
      go_quiet (fail)
      go_wp2_with fail
      exact⟨⟨q,p%q,j+nq,J,sp,V,O,A,f,sp⟩,by simp[intOf];omega⟩
def D7(W:I)(b:Nat)(u:Value)(g l rc P:Nat)(a:Ja):Prop:=
 u=C (some ⟨g,0,none⟩) l rc/\DG W g a/\DE Y a/\l<=a.length/\l<=rc/\rc<=9223372036854775807/\l<=1099511627776/\a.take l=Jb Y P/\b<=g
def D7.below{W W':I}{a g l rc P:Nat}{u:Value}{b:Ja}(h:D7 W a u g l rc P b)(c:Bl W W'):D7 W' a u g l rc P b:=
 ⟨h.1,h.2.1.below c,h.2.2⟩
def D7.un(h:D7 W d u g l rc P a):UN W u P:=by
 obtain⟨rfl,b,j,k,c,e,f,i,m⟩:=h;have:=b.row 0 l rc O c e f;rw[AB,i]at this;exact this
theorem Pq{ds:Ja}(d:DG W g a)(k:Row G W (C (some ⟨g,0,none⟩) l rc) ds)(hl:l<=a.length):a.take l=ds:=by
 obtain⟨m,_,_,_,c⟩:=Jm k;apply List.ext_getElem?;intro j;by_cases i:j<l
 . obtain⟨b,n,e,_,f⟩:=c j i;cases e;rw[Cd,d.cell O]at f;grind
 grind
def LW(a:TR)(c s:Nat)(b:TR)(lb t:Nat)(d f:Ja)(w:I)(W:DE Y d)(X:DE Y f)(U:c+lb<=1099511627776)
(m:Row G w (C a c s) d)(n:Row G w (C b lb t) f):
 Calls M 118 #[C a c s,C b lb t] w λe v=>∃u,e=.returned u/\UN v u (val Y d*val Y f)/\(val Y d*val Y f≠0->∃g l rc q,D7 v w.heap.size u g l rc (val Y d*val Y f) q)/\Bl w v:=by
 have z:=XZ (c+lb) O w;rw[show((c+lb:Nat):Int)=(c:Int)+(lb:Int)from by omega]at z;obtain⟨j,o⟩:∃j,j=w.alloc (.cells (cellsOf G (TT (c+lb) 0)).toArray 163):=⟨_,J⟩;have r:Bl w j:=by rw[o];exact Ba w _
 have y:DG j w.heap.size (TT (c+lb) 0):=by rw[o];exact DG.made (BD w _)
 rw[<-o]at z;have P:=Z (O8 w.heap.size (c+lb) (c+lb) (TT (c+lb) 0) a c s b lb t d f j W X y (λx V=>by rw[CI V];unfold Y;omega) DO (Aa _) O U (Row.below m r) (Row.below n r)
  (λp e k=>by have:=El m e k;omega) λp e k=>by have:=El n e k;omega)
 have ad:=(Jm m).2.1;have ae:=(Jm m).2.2.1;have ah:=(Jm n).2.1;have ai:=(Jm n).2.2.1;clear o y m n;go_enter func118,ntmps118
 go_wp2_with(go_at_call 153;refine P.o.mono ?_;rintro e w5 ⟨u,rfl,⟨i,T⟩,S,q,H,R,K⟩;obtain⟨ua,uc,rfl⟩:=UN.form i)
 go_ret;refine⟨_,J,i,λk=>?_,below_grown r T (Aa _)⟩;have Q:(Jb Y (val Y d*val Y f)).length≠0:=λe=>k ((Jt Jc).1 (Ag e));rcases S with e|⟨l,e⟩
 . injection e with A B D
   exact absurd B Q
 . injection e with A B D
   subst A;subst D;rw[AZ]at K;have hl:(Jb Y (val Y d*val Y f)).length<=q.length:=by rw[K];exact(Jm i).2.1
   exact⟨_,_,_,q,J,H,R,hl,(Jm i).2.1,(Jm i).2.2.1,(Jm i).2.2.2.1,Pq H i hl,Aa _⟩
theorem LX{Q:Nat}(h:D7 W d u g l rc P a)(b:TR)(lb i:Nat)(m:UN W (C b lb i) Q)(y:Q<=P)(A:∀p,b=some p->0<lb->p.block≠g):
 Calls M 148 #[u,C b lb i] W λe j=>∃c q,e=.returned (F G (c:Nat))/\(Row G j u q/\Jp q=Jb Y (P-Q))/\W.grownBy j (some g):=by
 obtain⟨rfl,r,s,B,k,t,v,D,H⟩:=h;have hl:l=(Jb Y P).length:=DO
 have o:=(Jm m).1;refine(Kt g 0 l rc a b lb i (Jb Y Q) W r s O k O (by rw[hl,o];exact Yr y) m (Jh Jc Q) A).mono ?_;rintro e j ⟨c,q,rfl,f,x,hg⟩;have z:DL a 0 l q=q++a.drop l:=by rw[DL,C8,Ah,Cd]
 have n:=f.1;refine⟨c,q,J,⟨?_,?_⟩,hg⟩
 . have w:=x.row 0 l rc DO k t v;rwa[z,AB,A3 O,Ac O]at w
 . have hs:XN (Jb Y P) (Jb Y Q) 0 l c q:=by
    refine⟨n,f.2.1,f.2.2.1,?_⟩;have:=f.2.2.2;grind
   grind[Ku,Yr]
def LY{w V a:I}{o:Obj}(h:Bl w V)(k:Below (V.alloc o).heap.size (V.alloc o) a):Bl w a:=(h.alloc h.size o).trans (k.mono (h.alloc h.size o).size)
def LZ(x:Nat):val Y [x]=x:=by rw[JO,FV,A8,AX]
theorem La(ma t:Nat)(a:TR)(la ca:Nat)(b:TR)(lb cb A B:Nat)(w:I)(ra:Row G w (C a la ca) (Jb Y A))(rb:Row G w (C b lb cb) (Jb Y B))(cg:ma<Y)(cj:t<Y)(co:la<1099511627776)(cy:lb<1099511627776)(h0:t*B≠0):
 Calls M 150 #[.agg #[F G (ma:Nat),F G (t:Nat)],C a la ca,C b lb cb] w λe w'=>∃u,e=.returned u/\UN w' u (Y2 (ma*A) (t*B))/\Bl w w':=by
 obtain⟨W0,az⟩:=ex (w.alloc (.cells #[F G (ma:Nat),F G (t:Nat)] 180));have Qa:Bl w W0:=by rw[<-az];exact Ba w _
 have bx:Jf W0 w.heap.size 180 (F G (ma:Nat)) (F G (t:Nat)):=by rw[<-az];exact Jf.new w _ _ _
 have Qp:=Z (show ∀(V:I) (g:Nat),Bl W0 V->DG V g [ma]->Calls M 118 #[C a la ca,C (some ⟨g,0,none⟩) 1 1] V λe w'=>∃u,e=.returned u/\UN w' u (ma*A)/\(ma*A≠0->∃g l rc zs,D7 w' V.heap.size u g l rc (ma*A) zs)/\Bl V w' from λV g h hA=>by
  have o:=LW a la ca (some ⟨g,0,none⟩) 1 1 (Jb Y A) [ma] V (Jh Jc A) (DE.cons cg (DE.nil _)) O (Row.below (Row.below ra Qa) h) (hA.row 0 1 1 sp O O O);rw[LZ,Ji Jc,AC A ma]at o;exact o)
 have Qo:=Z (show ∀(V:I) (g:Nat),Bl W0 V->DG V g [t]->Calls M 118 #[C b lb cb,C (some ⟨g,0,none⟩) 1 1] V λe w'=>∃u,e=.returned u/\UN w' u (t*B)/\(t*B≠0->∃g l rc zs,D7 w' V.heap.size u g l rc (t*B) zs)/\Bl V w' from λV g h hA=>by
  have o:=LW b lb cb (some ⟨g,0,none⟩) 1 1 (Jb Y B) [t] V (Jh Jc B) (DE.cons cj (DE.nil _)) O (Row.below (Row.below rb Qa) h) (hA.row 0 1 1 sp O O O);rw[LZ,Ji Jc,AC B t]at o;exact o)
 have Qq:=Z az;clear az ra rb;generalize ma*A=n at *;generalize t*B=X at *;go_enter func150,ntmps150
 go_upto_region 1 with fail
 rw[Qq.o];refine J4 Dj [[],[],[1],[2],[0,3],[],[],[6],[7],[5,8,4],[4,9,0,1,2,3,4],[9,10,0,1,2,3,4,5,6,7,8,9,10]] TS DI (λf ac V=>∃t7 t8 t9 bc bd bf ah bg bh bi bj aq:Value,ac={ tmps:=#[.agg #[F G (ma:Nat),F G (t:Nat)],C a la ca,C b lb cb,L (some ⟨w.heap.size,0,none⟩),E,E,C none 0 0,t7,t8,t9,bc,bd,bf,ah,bg,bh,bi,bj,aq,E,E,E,E,E,E,E,E,E,E,E],defers:=[] }/\Hid (f 0=true->t9=C a la ca)/\Hid (f 1=true->bc=L (some ⟨w.heap.size,0,none⟩))/\Hid (f 2=true->bd=F G (ma:Nat))/\Hid (f 3=true->∃g,bf=C (some ⟨g,0,none⟩) 1 1/\DG V g [ma])/\Hid (f 4=true->UN V ah n/\(n≠0->∃d v x y,D7 V W0.heap.size ah d v x n y))/\Hid (f 5=true->bg=C b lb cb)/\Hid (f 6=true->bh=L (some ⟨w.heap.size,1,none⟩))/\Hid (f 7=true->bi=F G (t:Nat))/\Hid (f 8=true->∃g,bj=C (some ⟨g,0,none⟩) 1 1/\DG V g [t])/\Hid (f 9=true->∃m l2 ai aj,D7 V W0.heap.size aq m l2 ai X aj/\UN V ah n/\(n≠0->∃d v x y,D7 V W0.heap.size ah d v x n y/\d≠m))/\Hid (f 10=true->t7=ah)/\Hid (f 11=true->t8=aq)/\Bl W0 V)
  (E8 ⟨_,_,_,_,J,Z DT,Z DT,Z DT,Z DT,Z DT,Z DT,Z DT,Z DT,Z DT,Z DT,Z DT,Z DT,(BB _ W0).drew⟩) ?step1 ?fin1
 case step1=>
  rintro f a2 V i ds s bn k ae ⟨t7,t8,t9,bc,bd,bf,ah,bg,bh,bi,bj,aq,rfl,z,d,m,P,Q,R,S,T,U,W,D,H,j⟩;have Qm:i<12:=(As.1 bn).1;obtain rfl|rfl|rfl|rfl|rfl|rfl|rfl|rfl|rfl|rfl|rfl|rfl:=FQ i O
  all_goals
   simp only[AY,AQ,AU]at bn;subst bn;clear Qm
  . clear k s;refine Dk ?_;exact⟨Z λ_=>rfl,d,m,P,Q,R,S,T,U,W,D,H,j⟩
  . clear k s;refine Dk ?_;exact⟨z,Z λ_=>rfl,m,P,Q,R,S,T,U,W,D,H,j⟩
  . obtain rfl:=d.o (k 1 sp);have k0:=(bx.below j).c0;clear k s;refine Dk ?_;exact⟨z,Z λ_=>rfl,Z λ_=>rfl,P,Q,R,S,T,U,W,D,H,j⟩
  . have Qr:f 4=false:=by
     cases h:f 4 with
     |false=>rfl
     |true=>rw[s 4 _ J h 3 sp]at ae;cases ae
    obtain rfl:=m.o (k 2 sp);clear k s;refine Dk ?_;exact⟨z,d,Z λ_=>rfl,Z λ_=>⟨_,J,DG.made (xs:=[ma]) (BD V _)⟩,Z (λh=>by simp[Qr]at h),R,S,T,Z (λh=>by obtain⟨g,e,q⟩:=U.o h;exact⟨g,e,q.below (Ba V _)⟩),Z (λh=>by obtain⟨m,l2,ai,aj,q1,q2,q3⟩:=W.o h;exact⟨m,l2,ai,aj,q1.below (Ba V _),q2.below (Ba V _),λo=>by obtain⟨d,v,x,y,q,q4⟩:=q3 o;exact⟨d,v,x,y,q.below (Ba V _),q4⟩⟩),D,H,j.alloc j.size _⟩
  . have Qk:f 9=false:=by
     cases h:f 9 with
     |false=>rfl
     |true=>rw[s 9 _ J h 4 sp]at ae;cases ae
    have Qn:f 10=false:=by
     cases h:f 10 with
     |false=>rfl
     |true=>rw[s 10 _ J h 4 sp]at ae;cases ae
    obtain rfl:=z.o (k 0 sp);obtain⟨gm,rfl,am⟩:=P.o (k 3 sp);clear k s;refine JG J J λK hK=>?_;go_simp;go_wp2_with(go_at_call 118;refine(Qp.o _ _ j am).mono ?_;rintro e w5 ⟨u5,rfl,bz,bt,ad⟩)
    exact E8 ⟨_,_,_,_,J,Z λ_=>rfl,d,m,Z λ_=>⟨gm,J,am.below ad⟩,Z λ_=>⟨bz,λo=>by obtain⟨d,v,x,y,q⟩:=bt o;exact⟨d,v,x,y,q.1,q.2.1,q.2.2.1,q.2.2.2.1,q.2.2.2.2.1,q.2.2.2.2.2.1,q.2.2.2.2.2.2.1,q.2.2.2.2.2.2.2.1,AM j.size q.2.2.2.2.2.2.2.2⟩⟩,R,S,T,Z (λh=>by obtain⟨g,e,q⟩:=U.o h;exact⟨g,e,q.below (ad)⟩),Z (λh=>by simp[Qk]at h),Z (λh=>by simp[Qn]at h),H,Bt j ad⟩
  . clear k s;refine Dk ?_;exact⟨z,d,m,P,Q,Z λ_=>rfl,S,T,U,W,D,H,j⟩
  . clear k s;refine Dk ?_;exact⟨z,d,m,P,Q,R,Z λ_=>rfl,T,U,W,D,H,j⟩
  . obtain rfl:=S.o (k 6 sp);have k0:=(bx.below j).c1;clear k s;refine Dk ?_;exact⟨z,d,m,P,Q,R,Z λ_=>rfl,Z λ_=>rfl,U,W,D,H,j⟩
  . have Qk:f 9=false:=by
     cases h:f 9 with
     |false=>rfl
     |true=>rw[s 9 _ J h 8 sp]at ae;cases ae
    obtain rfl:=T.o (k 7 sp);clear k s;refine Dk ?_;exact⟨z,d,m,Z (λh=>by obtain⟨g,e,q⟩:=P.o h;exact⟨g,e,q.below (Ba V _)⟩),Z (λh=>by obtain⟨q1,q2⟩:=Q.o h;exact⟨q1.below (Ba V _),λo=>by obtain⟨d,v,x,y,q⟩:=q2 o;exact⟨d,v,x,y,q.below (Ba V _)⟩⟩),R,S,Z λ_=>rfl,Z λ_=>⟨_,J,DG.made (xs:=[t]) (BD V _)⟩,Z (λh=>by simp[Qk]at h),D,H,j.alloc j.size _⟩
  . have Ql:f 11=false:=by
     cases h:f 11 with
     |false=>rfl
     |true=>rw[s 11 _ J h 9 sp]at ae;cases ae
    obtain rfl:=R.o (k 5 sp);obtain⟨gm,rfl,am⟩:=U.o (k 8 sp);obtain⟨p1,p2⟩:=Q.o (k 4 sp);clear k s;refine JG J J λK hK=>?_;go_simp;go_wp2_with(go_at_call 118;refine(Qo.o _ _ j am).mono ?_;rintro e w5 ⟨u5,rfl,bz,bt,ad⟩)
    exact⟨_,_,_,_,_,_,_,_,_,_,_,_,J,z,d,m,Z (λh=>by obtain⟨g,e,q⟩:=P.o h;exact⟨g,e,q.below (ad)⟩),Z (λh=>by obtain⟨q1,q2⟩:=Q.o h;exact⟨q1.below (ad),λo=>by obtain⟨d,v,x,y,q⟩:=q2 o;exact⟨d,v,x,y,q.below (ad)⟩⟩),Z λ_=>rfl,S,T,Z λ_=>⟨gm,J,am.below ad⟩,Z (λ_=>by obtain⟨m,l2,ai,aj,q⟩:=bt h0;exact⟨m,l2,ai,aj,⟨q.1,q.2.1,q.2.2.1,q.2.2.2.1,q.2.2.2.2.1,q.2.2.2.2.2.1,q.2.2.2.2.2.2.1,q.2.2.2.2.2.2.2.1,AM j.size q.2.2.2.2.2.2.2.2⟩,p1.below ad,λo=>by obtain⟨d,v,x,y,r⟩:=p2 o;exact⟨d,v,x,y,r.below ad,by have:=r.2.1.lt;have:=q.2.2.2.2.2.2.2.2;omega⟩⟩),D,Z (λh=>by simp[Ql]at h),Bt j ad⟩
  . clear k s;refine Dk ?_;exact⟨z,d,m,P,Q,R,S,T,U,W,Z λ_=>rfl,H,j⟩
  . clear k s;refine Dk ?_;exact⟨z,d,m,P,Q,R,S,T,U,W,D,Z λ_=>rfl,j⟩
 rintro f ck V1 ay ⟨t7,t8,t9,bc,bd,bf,ah,bg,bh,bi,bj,aq,rfl,z,d,m,P,Q,R,S,T,U,W,D,H,j⟩;obtain⟨gB,l2,ai,aj,o2,an,o1⟩:=W.o (ay 9 DI);obtain rfl:=D.o (ay 10 DI);obtain rfl:=H.o (ay 11 DI);obtain⟨a1,c1,rfl⟩:=UN.form an;have Qd:=o2.un;obtain⟨a2,c2,rfl⟩:=UN.form Qd;clear z d m P Q R S T U W D H ay Qp Qo;have Qi:∀p,a1=some p->0<(Jb Y n).length->p.block≠gB:=λp e o=>by
  have hp:n≠0:=λe0=>by rw[e0,Js]at o;simp at o
  obtain⟨d,v,x,y,r,r2⟩:=o1 hp;have:=r.1;grind
 have HO:=Z (IE _ _ (Jb Y n) (Jb Y X) V1 an Qd (Jh Jc n) (Jh Jc X) (JT Jc n) (JT Jc X));rw[Ji Jc,Ji Jc]at HO;have Qg:=Bt Qa j;have Qj:=o2.2.2.2.2.2.2.2.2;by_cases ce:n<X
 . have Qb:=Xe ce;rw[Qb]at HO;have Qf:=Z λ(V:I) (h:Bl V1 V)=>LX (o2.below h) a1 (Jb Y n).length c1 (an.below h) O Qi;have HD:=Z (show X-n=Y2 n X by unfold Y2;omega);clear Qb an Qd o1 Qi;go_upto_region 4 with(go_at_call 114;refine HO.o.mono ?_;rintro e w2 ⟨rfl,ak⟩)
   go_upto_region 5 with(go_at_call 148;refine(Qf.o _ ak).mono ?_;rintro e w3 ⟨c,q,rfl,⟨hr,bu⟩,bm⟩)
   have Qc:=Z (Ye _ q _ hr);rw[bu,HD.o]at Qc;clear Qf HO;go_wp2_with(go_at_call 132;refine Qc.o.mono ?_;rintro e w4 ⟨u,rfl,hu,bk⟩;obtain⟨ua,uc,rfl⟩:=UN.form hu)
   go_ret;have Qe:=below_grown (Bt Qg ak) bm (AM Qa.size Qj);exact⟨_,J,hu,Bt Qe bk⟩
 . obtain⟨cm,Qb,cn⟩:∃cm:Int,Ym n X=cm/\¬(cm<0):=⟨_,J,by unfold Ym;omega⟩;rw[Qb]at HO;obtain⟨d,v,x,y,r,r2⟩:=o1 O;have Qh:=r.2.2.2.2.2.2.2.2;have Qf:=Z (λ(V:I) (h:Bl V1 V)=>LX (r.below h) a2 (Jb Y X).length c2 (Qd.below h) O (λp e _=>by
    have:=o2.1;grind))
   have HD:=Z (show n-X=Y2 n X by unfold Y2;omega);clear Qb an Qd o1 Qi;go_upto_region 4 with(go_at_call 114;refine HO.o.mono ?_;rintro e w2 ⟨rfl,ak⟩)
   go_upto_region 5 with(go_at_call 148;refine(Qf.o _ ak).mono ?_;rintro e w3 ⟨c,q,rfl,⟨hr,bu⟩,bm⟩)
   have Qc:=Z (Ye _ q _ hr);rw[bu,HD.o]at Qc;clear Qf HO;go_wp2_with(go_at_call 132;refine Qc.o.mono ?_;rintro e w4 ⟨u,rfl,hu,bk⟩;obtain⟨ua,uc,rfl⟩:=UN.form hu)
   go_ret;have Qe:=below_grown (Bt Qg ak) bm (AM Qa.size Qh);exact⟨_,J,hu,Bt Qe bk⟩
end
def X1(x k s:Nat):Nat:=x/(Y^k*2^(64-s))
variable{a:Ja}{k s:Nat}
def Pr(hl:a.length=k+2)(b:DE Y a)(hs:s<=63)(f:a[k+1]?.getD 0<2^(64-s)):
 X1 (val Y a) k s=Dg (a[k+1]?.getD 0) s+Dc (a[k]?.getD 0) (64-s)/\Dg (a[k+1]?.getD 0) s ||| Dc (a[k]?.getD 0) (64-s)=Dg (a[k+1]?.getD 0) s+Dc (a[k]?.getD 0) (64-s):=by
 have g:=LS hl;have c:=JX b k;have i:=b.getD (show 0<Y by unfold Y;omega) k;have hp:=X0 (s:=s) O;have e:Dg (a[k+1]?.getD 0) s=a[k+1]?.getD 0*2^s:=by rw[Fk O,Cb f]
 rw[e];have d:Dc (a[k]?.getD 0) (64-s)<2^s:=by
  unfold Dc;rw[Aq (AW _),hp];exact i
 refine⟨?_,by rw[AC,<-CA d]⟩;unfold X1 Dc;rw[g,<-Nat.div_div_eq_div_mul,AC _ (Y^k),Nat.mul_add_div (C5 uo),AV c,AX,<-hp,<-Cf,CO,Nat.add_mul_div_right _ _ (AW _)];omega
def Ps(hl:a.length=k+1)(d:DE Y a):X1 (val Y a) k s=Dc (a[k]?.getD 0) (64-s):=by
 have b:=Jl Y a k;rw[Ac O]at b;have c:=JX d k;unfold X1 Dc;rw[b,<-Nat.div_div_eq_div_mul,CO,Nat.mul_add_div (C5 uo),AV c,AX]
def Pt(hl:a.length<=k)(b:DE Y a):X1 (val Y a) k s=0:=by
 unfold X1;apply AV;have c:=JS b;have d:Y^a.length<=Y^k:=Ap uo hl;have e:=Ch (Y^k) (AW (64-s));omega
def Lb(a:TR)(c u:Nat)(d:Ja)(k g f s:Nat)(w:I)(o:Row G w (C a c u) d)(p:DE Y d)(r:f=k+2)(B:(f:Int)-1=g)(D:(f:Int)-2=k)(hs:s<=63)(U:c<=f)(W:f<=1099511627776)(n:c=f->d[k+1]?.getD 0<2^(64-s)):
 Calls M 177 #[C a c u,F N (f:Nat),F G (s:Nat)] w λe R=>e=.returned (F G (X1 (val Y d) k s:Nat))/\Bl w R:=by
 obtain⟨hl,S,V,T,j⟩:=Jm o;have i1:N.wrap ((f:Int)-1)=(g:Int):=by rw[B];exact BO _ O
 have i2:N.wrap ((f:Int)-2)=(k:Int):=by rw[D];exact BO _ O
 have i3:N.wrap (g:Int)=(g:Int):=BO _ O;have i4:N.wrap (k:Int)=(k:Int):=BO _ O;have i5:G.wrap ((64:Int)-s)=((64-s:Nat):Int):=by rw[BR];omega
 have q:=IQ (d[k+1]?.getD 0) s;have z:=IR (d[k]?.getD 0) (64-s);have l:=p.getD (show 0<Y by unfold Y;omega) k;have m:=IU (show Dg (d[k+1]?.getD 0) s<Y by unfold Dg;exact AK _ uo) (show Dc (d[k]?.getD 0) (64-s)<Y from Nat.lt_of_le_of_lt (CF _ _) l);obtain rfl|X:=Decidable.em (c=f)
 . obtain⟨b,Q,rfl,K,c1⟩:=j (k+1) O;obtain⟨_,_,A,_,c0⟩:=j k O;cases A;obtain⟨v,x⟩:=Pr O p hs (n J);rw[x]at m;have i:=Z v;have t:g=k+1:=O
   rw[<-t]at c1 q m i;have j1:(g:Int)<(c:Int):=O
   have j2:(k:Int)<(c:Int):=O
   have j3:(0:Int)<=(g:Int):=O
   have j4:(0:Int)<=(k:Int):=O
   have j5:g<c:=O
   have P:k<c:=O
   clear t j o v x n hl r l;generalize d[g]?.getD 0=x1 at *;generalize d[k]?.getD 0=x0 at *;go_enter func177,ntmps177
   go_upto_region 3 with fail
   go_quiet (fail)
   go_wp2_with fail
   go_ret;refine⟨?_,Fm (BB _ w) _⟩;rw[i.o];first|rfl|(simp;done)
 . by_cases H:c=g
   . subst H;obtain⟨b,Q,rfl,K,c0⟩:=j k O;have i:=Z (Ps (s:=s) (show d.length=k+1 by omega) p);have P:k<c:=O
     have y:¬((c:Int)=(f:Int)):=O
     clear j o n hl r l m q;generalize d[k]?.getD 0=x0 at *;go_enter func177,ntmps177
     go_wp2_with fail
     go_ret;refine⟨?_,BB _ w⟩;rw[i.o];first|rfl|(simp;done)
   . have i:=Z (Pt (s:=s) (show d.length<=k by omega) p);have y:¬((c:Int)=(f:Int)):=O
     have ad:¬((c:Int)=(g:Int)):=O
     clear j o n hl r l q z m;go_enter func177,ntmps177
     go_wp2_with fail
     go_ret;refine⟨?_,BB _ w⟩;rw[i.o];first|rfl|(simp;done)

