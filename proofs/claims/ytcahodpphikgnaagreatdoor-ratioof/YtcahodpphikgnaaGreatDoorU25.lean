import Derived.Test.YtcahodpphikgnaaGreatDoorU19
import Derived.Test.YtcahodpphikgnaaGreatDoorU03
set_option linter.all false
open Go.Value renaming slice->C,int->F,pointer->I
open Go renaming undef->E,World->H
open Go.IntKind renaming u64->G,i64->M
open Go.Proofs.Tryz renaming prog->L
set_option maxRecDepth 99999
set_option maxHeartbeats 0
namespace Go.Proofs.YtcahodpphikgnaaGreatDoor
open List renaming replicate->MF
open Proofs.Tryz
open Go.RowKit Go.Shelf
attribute [local go_sem] Oper.semAt_some
section
def BX:=@IntWalk.u64_in
def BH:=@IntWalk.i64_in
variable{ds f xs:Ja}{B V c d0 d1 g j l len n q r ro s u0 y:Nat}{v:Value}{w:H}
theorem GO(h:ds.length=n+2):val O ds=(ds[n+1]?.getD 0*O+ds[n]?.getD 0)*O^n+val O (ds.take n):=by
 have a:=Jh O ds (n+1);rw[Ab Y,Jh,AR]at a;rw[a];grind
theorem LA(h:ds.length=n+3):val O ds=((ds[n+2]?.getD 0*O+ds[n+1]?.getD 0)*O+ds[n]?.getD 0)*O^n+val O (ds.take n):=by
 have a:=Jh O ds (n+2);rw[Ab Y,Jh,Jh,AR,AR]at a;rw[a];grind
theorem JR(h:Br O ds)(n:Nat):val O (ds.take n)<O^n:=by
 have:=JI (h.take n);grind[An,Ak,O]
def XF{a:H}(h:Below B a w)(n:Nat):Below B a (w.drewN n):=h.trans ⟨J,J,J,Aa _,λ_ _=>rfl⟩
theorem GP(a:u0<O)(h:Yl q d0<r\/Yl q d0=r/\JL q d0<=u0):q*d0<=r*O+u0:=by
 grind[Yl,JL,O]
theorem LB(b:u0<O)(h:¬(Yl q d0<r))(a:¬(Yl q d0=r/\JL q d0<=u0)):r*O+u0<q*d0:=by
 grind[Yl,JL,O]
theorem LC{u2 u1 E:Nat}(b:c=((u2*O+u1)*O+u0)*E+j)(e:V=(d1*O+d0)*E+y)(i:y<E)(f:O<=2*d1)(g:d0<O)(d:c<V*O)(h:d1<=u2):DF c V (O-1):=by
 have a:d0*E+y<O*E:=by
  have:=Ae E (show d0+1<=O from g);grind
 refine HJ (d1:=d1) (E:=O*E) (lo:=(u2-d1)*(O*(O*E))+(u1*O+u0)*E+j) (lo2:=d0*E+y) ?_ ?_ a f d Jc
 . obtain⟨t,rfl⟩:∃t,u2=d1+t:=⟨u2-d1,Y⟩;rw[b,Nat.add_sub_cancel_left];grind
 . rw[e];grind
def LD{U E:Nat}(a:c=(U*O+u0)*E+j)(d:V=(d1*O+d0)*E+y)(b:j<E)(e:y<E)(f:O<=2*d1)(i:q<O)(h:q=(U*O+u0)/(d1*O+d0)):DF c V q:=by
 rw[h];have hp:0<d1:=by unfold O at f;omega
 have g:=Cn O hp;exact G9 a d b e (by rw[<-h];omega) Y
def LE(l c m:Nat)(h1:(l:Int)-1=c)(h2:(l:Int)-2=m)(a i T W ca cb u2 u1 u0 d1 d0 R V:Nat)(w:H)(hl:l<=1099511627776)
(ka:w.cell? ⟨a,i+l,none⟩=some (F G (u2:Nat)))(ai:w.cell? ⟨a,i+c,none⟩=some (F G (u1:Nat)))(ah:w.cell? ⟨a,i+m,none⟩=some (F G (u0:Nat)))
(kb:w.cell? ⟨T,W+c,none⟩=some (F G (d1:Nat)))(aq:w.cell? ⟨T,W+m,none⟩=some (F G (d0:Nat)))(X:a<w.heap.size)
(ag:u1<O)(N:u0<O)(aa:d1<O)(n:d0<O)(ad:0<d1)
(HT:Hid (d1<=u2->DF R V (O-1)))(A:Hid (∀q:Nat,q<O->q=((u2*O+u1)*O+u0)/(d1*O+d0)->DF R V q)):
 Calls L 139 #[C (some ⟨a,i,none⟩) (l+1) ca,C (some ⟨T,W,none⟩) l cb] w λe d=>∃g,e=.returned (F G (g:Nat))/\g<O/\DF R V g/\Bl w d:=by
 have i1:M.wrap ((l:Int)-1)=(c:Int):=by rw[h1];exact BH _ Y
 have i2:M.wrap ((l:Int)-2)=(m:Int):=by rw[h2];exact BH _ Y
 have j1:(c:Int)<(l:Int):=Y
 have j2:(m:Int)<(l:Int):=Y
 have j3:(c:Int)<(l:Int)+1:=Y
 have j4:(m:Int)<(l:Int)+1:=Y
 have i3:M.wrap (c:Int)=(c:Int):=BH _ Y;have j7:(l:Int)<(l:Int)+1:=Y
 have j8:(0:Int)<=(l:Int):=Y
 have j9:(0:Int)<=(c:Int):=Y
 have ap:(0:Int)<=(m:Int):=Y
 go_enter func139,ntmps139
 go_upto_region 2 with fail
 go_quiet (fail)
 by_cases ae:d1<=u2
 . go_wp2_with fail
   go_ret;exact⟨O-1,J,by unfold O;omega,HT.o ae,XF (BC _ w) _⟩
 . have D:=G6 (B:=O) (u:=u2*O+u1) (u1:=u0) (d1:=d1) (d0:=d0) ad aa N (by
    have:=Ae O (show u2+1<=d1 by omega);rw[Cg,CN]at this;omega)
   have Qd:=Z λV=>Fn u2 u1 d1 Y ag aa V;have Qf:=D.2.2.1;have Qe:=D.2.2.2;have f:=Z D;clear D HT;generalize hX:(u2*O+u1)/d1=q0 at *;generalize hY:(u2*O+u1)%d1=r0 at *;generalize hZ:u2*O+u1=U at *;clear hX hY hZ;go_wp2_with fail
   have v:Bl w (w.drewN (nq+1)):=XF (BC _ w) _;go_region_held3 (λd=>d.cell? ⟨a,i+l,none⟩=some (F G (u2:Nat))/\d.cell? ⟨a,i+c,none⟩=some (F G (u1:Nat))) (refine⟨?_,?_⟩<;>(first|(go_keep;done)|(simp[*];done)))
    (first|(go_at_call 109;refine(Qd.o _).mono ?_;rintro e w1 ⟨rfl,K⟩;have az:=(K.cell (p:=⟨a,i+l,none⟩) (show a<w.heap.size from X)).trans ka;have ay:=(K.cell (p:=⟨a,i+c,none⟩) (show a<w.heap.size from X)).trans ai;have aw:=(K.cell (p:=⟨a,i+m,none⟩) (show a<w.heap.size from X)).trans ah))
   have v:Bl w w1:=Bt v K;go_wp2_with fail
   go_loopw [8,9] (λqv rv wr=>∃(q r:Nat),qv=F G (q:Nat)/\rv=F G (r:Nat)/\q<O/\r<O/\Hid (Dj O U u0 d1 d0 q r)/\wr=w1) (λqv _ _=>(intOf qv).toNat)
   case atStart=>exact⟨q0,r0,J,J,Qf,Qe,f,J⟩
   case round=>
    clear Qd f;obtain⟨q,r,rfl,rfl,b,an,f,rfl⟩:=hrel;have j:0<d1*O:=Bp ad uo;by_cases c1:Yl q d0<r
    . have t:=Z (A.o q b (Xs f.o.1 f.o.2.1 j (GP N (Aq c1))));clear j;go_wp2_with(first
       |(go_at_call 119;refine(YY _ _ b n _).mono ?_;rintro e d ⟨rfl,rfl⟩))
      go_ret;exact⟨q,J,b,t.o,v⟩
    . by_cases c2:Yl q d0=r/\JL q d0<=u0
      . have t:=Z (A.o q b (Xs f.o.1 f.o.2.1 j (GP N (AK c2))));obtain⟨c2,c3⟩:=c2;subst c2;clear j;go_wp2_with(first
         |(go_at_call 119;refine(YY _ _ b n _).mono ?_;rintro e d ⟨rfl,rfl⟩))
        go_ret;exact⟨q,J,b,t.o,v⟩
      . obtain⟨g1,x,y,k⟩:=G7 f.o j (LB N c1 c2);obtain⟨p,hp⟩:=ex (q-1:Nat);rw[hp]at x y k;have aj:(q:Int)-1=(p:Int):=Y
        have ak:p<q:=Y
        have am:G.wrap (p:Int)=(p:Int):=by rw[BK];unfold O at b;omega
        clear hp g1 f;have S:=Ds r d1;have P:=Z (A.o p);clear A;by_cases o:r+d1<O
        . have v1:JQ r d1 0=r+d1:=by unfold JQ;rw[AJ,AX o]
          have z:J2 r d1 0=0:=by unfold J2;rw[AJ,AC o]
          rw[v1,z]at S;have Q:=Z (show Dj O U u0 d1 d0 p (r+d1)from⟨x,y,k,o⟩);clear x y v1 z j P;obtain⟨s,hs⟩:=ex (r+d1);rw[hs]at S Q o;clear hs;by_cases c3:Yl q d0=r
          . have c4:¬(JL q d0<=u0):=λh=>c2 ⟨c3,h⟩;clear c2;go_wp2_with(first
             |(go_at_call 119;refine(YY _ _ b n _).mono ?_;rintro e d ⟨rfl,rfl⟩))
            exact⟨⟨p,s,J,J,k,o,Q,by first|trivial|rfl⟩,by simp[intOf];omega⟩
          . clear c2;go_wp2_with(first
             |(go_at_call 119;refine(YY _ _ b n _).mono ?_;rintro e d ⟨rfl,rfl⟩))
            exact⟨⟨p,s,J,J,k,o,Q,by first|trivial|rfl⟩,by simp[intOf];omega⟩
        . have t:=Z (P.o k (G8 x y k n j Y));have z:J2 r d1 0=1:=by unfold J2;unfold O at *;omega
          rw[z]at S;generalize JQ r d1 0=s at *;clear x y z j P o;by_cases c3:Yl q d0=r
          . have c4:¬(JL q d0<=u0):=λh=>c2 ⟨c3,h⟩;clear c2;go_wp2_with(first
             |(go_at_call 119;refine(YY _ _ b n _).mono ?_;rintro e d ⟨rfl,rfl⟩))
            go_ret;exact⟨p,J,k,t.o,v⟩
          . clear c2;go_wp2_with(first
             |(go_at_call 119;refine(YY _ _ b n _).mono ?_;rintro e d ⟨rfl,rfl⟩))
            go_ret;exact⟨p,J,k,t.o,v⟩
def LF(a b:MD)(n j k:Nat)(i bs:Ja)(w:H)(Q:Row G w (C a (n+3) j) i)(R:Row G w (C b (n+2) k) bs)(o:Br O i)(f:Br O bs)
(l:O<=2*bs[n+1]?.getD 0)(y:val O i<val O bs*O):
 Calls L 139 #[C a (n+3) j,C b (n+2) k] w λe S=>∃g,e=.returned (F G (g:Nat))/\g<O/\DF (val O i) (val O bs) g/\Bl w S:=by
 obtain⟨A,U,aa,W,m⟩:=Jj Q;obtain⟨B,V,ad,X,s⟩:=Jj R;obtain⟨t,u,rfl,z,ka⟩:=m (n+2) Y;obtain⟨_,_,c,_,N⟩:=m (n+1) Y;cases c;obtain⟨_,_,c,_,K⟩:=m n Y;cases c;obtain⟨v,x,rfl,T,kb⟩:=s (n+1) Y;obtain⟨_,_,c,_,P⟩:=s n Y;cases c;have d:0<O:=by unfold O;omega
 have p:=LA A.symm;have r:=GO B.symm;exact LE (n+2) (n+1) n Y Y t u v x j k _ _ _ _ _ _ _ w Y ka N K kb P z (o.getD d _) (o.getD d _) (f.getD d _) (f.getD d _) (by unfold O at l;omega)
  (λh=>LC p r (JR f n) l (f.getD d _) y h) λq D h=>LD p r (JR o n) (JR f n) l D h
def Bs.win{W:H}{b:Nat}(h:Bs W b xs)(a len cap:Nat)(c:a+len<=xs.length)(d:len<=cap)(e:cap<=9223372036854775807)(f:len<=1099511627776):Row G W (C (some ⟨b,a,none⟩) len cap) ((xs.drop a).take len):=
 h.row a len cap c d e f
def LG{q:Ja}(a:q.length=len)(h:ro+len<=xs.length):((Bw xs ro len q).drop ro).take len=q:=by
 rw[Bw,List.drop_append_of_le_length (by rw[Af];omega),AF (by rw[Af];omega),Aj,AN Y,Ab Y]
def LH{p q:Ja}(hp:p.length=len)(h:ro+len<=xs.length):Bw (Bw xs ro len p) ro len q=Bw xs ro len q:=by
 have a:(xs.take ro).length=ro:=by rw[Af];omega
 rw[Bw,Bw,Bw,AN Y,Ab Y,List.drop_append,a,show ro+len-ro=len from by omega,AF Y,Aj,List.drop_append,hp,AU,AF Y,Aj,Ap]
def LI{q:Ja}(a:Br O xs)(c:Br O q):Br O (Bw xs ro len q):=by
 intro x b;rw[Bw]at b;rcases Cs.1 b with h|h
 . exact(a.take ro) x h
 . rcases Cs.1 h with h|h
   . exact c x h
   . exact(a.drop _) x h
def LJ(d ro n cap:Nat)(xs:Ja)(a:MD)(j:Nat)(bs:Ja)(w:H)
(u:Bs w d xs)(z:Br O xs)(ag:ro+(n+3)<=xs.length)(y:n+3<=cap)(ah:cap<=9223372036854775807)(hn:n+3<=1099511627776)(l:Row G w (C a (n+2) j) bs)(m:Br O bs)(aa:∀p,a=some p->0<n+2->p.block≠d)
(W:O<=2*bs[n+1]?.getD 0)(V:val O ((xs.drop ro).take (n+3))<val O bs*O):
 Calls L 115 #[C (some ⟨d,ro,none⟩) (n+3) cap,C a (n+2) j] w λe w'=>
  ∃q,e=.returned (F G ((val O ((xs.drop ro).take (n+3))/val O bs:Nat):Int))/\(q.length=n+3/\Br O q/\val O q=val O ((xs.drop ro).take (n+3))%val O bs)/\Bs w' d (Bw xs ro (n+3) q)/\w.grownBy w' (some d):=by
 have Q:=u.win ro (n+3) cap ag y ah hn;have B:=Z (LF _ a n cap j _ bs w Q l ((z.drop ro).take _) m W V);have t:=(Jj l).1;have K:val O bs<O^(n+2):=by have:=JI m;rwa[<-t]at this
 have Qk:val O bs<O^(n+3):=An K (Ak uo Y);obtain⟨A,s,D,S,HA,i,Qj⟩:=H5 l aa z m u ag t;clear Q W V t K Qk l aa z m u;go_enter func115,ntmps115
 go_upto_region 2 with(go_at_call 139;refine B.o.mono ?_;rintro e w1 ⟨g,rfl,X,U,k⟩;have r:=Z U;clear U B)
 have R:=Z (KM d ro (n+2) cap xs a j bs g w1 (HA.o.below k) D.o i.o y (Row.below A.o k) S.o s.o X);go_upto_if 13 with(go_at_call 140;refine R.o.mono ?_;rintro e w2 ⟨c,q,rfl,⟨hc,ae⟩,hA2,v⟩;have b:=Z ae;clear ae R)
 obtain rfl|rfl:c=0\/c=1:=Y
 . have o:=Z (Ha r.o (by have:=b.o.2.2;rw[AQ,AJ]at this;exact this));have HE:=Z o.o.1;have HM:=Z o.o.2;clear o r;go_wp2_with fail
   go_ret;exact⟨q,by rw[<-HE.o];rfl,⟨b.o.1,b.o.2.1,HM.o⟩,hA2,Jp (J8 k _) v⟩
 . have N:=Z (EZ d ro (n+3) cap (Bw xs ro (n+3) q) a (n+2) j bs w2 hA2 (LI D.o b.o.2.1) (by rw[Jz b.o.1 i.o];exact i.o) y Y Y (Row.grown (Row.below A.o k) v s.o) S.o s.o);have Ql:1<=g:=by
    rcases Am g with h|h
    . exfalso
      have h1:=b.o.2.2;have h2:=JI b.o.2.1;rw[b.o.1]at h2;rw[h,AQ,Nat.mul_one]at h1;omega
    . exact h
   obtain⟨p,hp⟩:=ex (g-1:Nat);have aj:(g:Int)-1=(p:Int):=Y
   have ak:G.wrap (p:Int)=(p:Int):=by rw[BK];unfold O at X;omega
   have HP:=Z hp;clear hp Ql;go_wp2_with(go_at_call 106;refine N.o.mono ?_;rintro e w3 ⟨c3,q3,rfl,ad,hA3,ai⟩;have f:=Z ad;clear ad N)
   go_ret;have x:=Hb r.o (P:=O^(n+3)) (by have:=b.o.2.2;rw[Nat.mul_one]at this;exact this) (by have:=JI b.o.2.1;rw[b.o.1]at this;exact this) (q2:=val O q3) (c2:=c3)
    (by
     have T:=f.o.2.2.2;rw[LG b.o.1 i.o,Ab (show bs.length<=n+3 by rw[<-Qj.o];omega)]at T;exact T)
    (by have:=JI f.o.2.1;rw[f.o.1]at this;exact this) f.o.2.2.1
   rw[HP.o]at x;rw[LH b.o.1 i.o]at hA3;exact⟨q3,by rw[<-x.2.1];rfl,⟨f.o.1,f.o.2.1,x.2.2⟩,hA3,Jp (Jp (J8 k _) v) ai⟩
def GQ{bs:Ja}{d:Nat}(j:Br O bs)(hl:bs.length=l+2)(g:bs[l+1]?.getD 0=d)(e:2^(c-1)<=d)(f:d<2^c)(m:1<=c)(k:c<=64)(hs:s=64-c):
 val O bs*2^s<O^(l+2)/\2^63*O^(l+1)<=val O bs*2^s:=by
 have o:val O bs=val O (bs.take (l+1))+O^(l+1)*d:=by
  have h:=Jh O bs (l+1);rwa[Ab Y,g]at h
 have n:=JR j (l+1);have p1:2^c*2^s=O:=by rw[<-Cj,Xj];congr 1;omega
 have i:2^(c-1)*2^s=2^63:=by rw[<-Cj];congr 1;omega
 constructor
 . have b:val O bs+1<=O^(l+1)*2^c:=by
    have:=Ai (O^(l+1)) (show d+1<=2^c from f);rw[CA,Nat.mul_one]at this;omega
   have a:=Ae (2^s) b;rw[AZ,p1,<-AR,Cg,CN]at a;exact An (Nat.lt_add_of_pos_right (AE s)) a
 . have b:O^(l+1)*2^(c-1)<=val O bs:=by
    have:=Ai (O^(l+1)) e;omega
   have a:=Ae (2^s) b;rw[AZ,i,Al]at a;exact a
def LK(i:Br O f)(hl:f.length=l+3)(b:val O f=V)(c:V<O^(l+2))(j:2^63*O^(l+1)<=V):
 val O (f.take (l+2))=V/\O<=2*(f.take (l+2))[l+1]?.getD 0:=by
 have g:=Y5 (B:=O) (k:=l+2) (D:=f) Y (by rw[b];exact c);have a:val O (f.take (l+2))=V:=by
  have h:=val_append O (f.take (l+2)) (f.drop (l+2));rw[AA,g,AQ,AJ,b]at h;exact h.symm
 refine⟨a,?_⟩;rw[A7 Y];have d:=Jh O f (l+1);have m:=JR i (l+1);rw[show l+1+1=l+2 from J,a]at d;rcases AG (f[l+1]?.getD 0) (2^63)with h|h
 . exfalso
   have e:=Ai (O^(l+1)) (show f[l+1]?.getD 0+1<=2^63 from h);rw[CA,Nat.mul_one,Al _ (2^63)]at e;omega
 . rw[Xj];omega
def LL{m:Nat}(d:m<O^c)(e:O^(l+1)<=n)(hl:l+1<=c):m*2^s<n*2^s*O^(c-(l+1)):=by
 have b:O^(l+1)*O^(c-(l+1))=O^c:=by rw[<-Cj];congr 1;omega
 have a:=Ae (O^(c-(l+1))) e;rw[b]at a;rw[Nat.mul_right_comm];exact Nat.mul_lt_mul_of_pos_right (An d a) (AE s)
def Jv{P:Program}{ops:Array Oper}{Q:Exit->Act->H->Prop}{i:Nat}{o:Oper}{K:Act->H->Prop}{a:Act}(c:ops[i]?=some o)(b:o.guard=none)
(h:∀K':Act->H->Prop,(∀a w,K a w->K' a w)->o.wp P a w K' Q):wpOp P ops Q i K a w:=by
 unfold wpOp;rw[c];simp only[Region.wanted,b,if_true];exact Aq (h K λ_ _ h=>h)
def C2{p q:Prop}(k:q)(h:Hid q->p:=by intro x;refine Jv rfl rfl λK a=>?_;go_simp;refine a _ _ ?_;(repeat apply Exists.intro);refine ⟨rfl,?_⟩;exact x.o):p:=h k
def DC(V:H)(b:Nat)(v:Value)(g len c:Nat)(a:Ja):Prop:=
 v=C (some ⟨g,0,none⟩) len len/\Bs V g a/\a.length=len/\Br O a/\val O a=c/\b<=g
def DC.below{V V':H}{b g len c:Nat}{v:Value}{a:Ja}(h:DC V b v g len c a)(d:Bl V V'):DC V' b v g len c a:=
 ⟨h.1,h.2.1.below d,h.2.2⟩
def DC.box{V:H}{u:Value}(h:DC V c v g len j f)(hl:0<len)(d:Boxed V B 23 (C none 0 0)):DC (V.setCell ⟨B,0,none⟩ u) c v g len j f:=
 ⟨h.1,h.2.1.far (by
  intro e;simp only at e;obtain⟨i,b⟩:=h.2.1;rw[e,show V.heap[B]?=_ from d]at b;obtain⟨z,a,rfl⟩:∃z a,f=z::a:=by
   cases f with
    |nil=>have:=h.2.2.1;simp at this;omega
    |cons z a=>exact⟨z,a,J⟩
  simp[cellsOf]at b) u,h.2.2⟩
def DC.ne_box{V:H}{b:MD}{i:Nat}(h:DC V c v g len j f)(hl:0<len)(k:Boxed V B 23 (C b y i)):g≠B:=by
 intro e;obtain⟨l,d⟩:=h.2.1;rw[e,show V.heap[B]?=_ from k]at d;obtain⟨z,a,rfl⟩:∃z a,f=z::a:=by
  cases f with
  |nil=>have:=h.2.2.1;simp at this;omega
  |cons z a=>exact⟨z,a,J⟩
 simp[cellsOf]at d
end
section
structure SplC where
 w:World
 bs:Value
 rs:Value
 ds:Value
 qs:Value
 B9:Nat
 B10:Nat
 B11:Nat
 B12:Nat
 gR:Nat
 gZ:Nat
 gQ:Nat
 Zb:Ja
structure SplC.Apart(c:SplC):Prop where
 r0:c.gR≠c.w.heap.size
 r9:c.gR≠c.B9
 r10:c.gR≠c.B10
 r11:c.gR≠c.B11
 r12:c.gR≠c.B12
 rz:c.gR≠c.gZ
 rq:c.gR≠c.gQ
 q0:c.gQ≠c.w.heap.size
 q9:c.gQ≠c.B9
 q10:c.gQ≠c.B10
 q11:c.gQ≠c.B11
 q12:c.gQ≠c.B12
 qz:c.gQ≠c.gZ
 lr:c.w.heap.size<=c.gR
 lq:c.w.heap.size<=c.gQ
structure SplC.Holds(c:SplC)(W:World):Prop where
 b0:Boxed W c.w.heap.size 23 c.bs
 b9:Boxed W c.B9 23 c.rs
 b10:Boxed W c.B10 23 c.ds
 b11:Boxed W c.B11 23 c.qs
 b12:Boxed W c.B12 23 c.qs
 z:Bs W c.gZ c.Zb
 B:Below c.w.heap.size c.w W
theorem SplC.Holds.kept{c:SplC}{W W':H}{g:Nat}(h:c.Holds W)(a:W.grownBy W' (some g))(b:g≠c.w.heap.size)(j:g≠c.B9)(d:g≠c.B10)(f:g≠c.B11)(i:g≠c.B12)(k:g≠c.gZ)(hl:c.w.heap.size<=g):c.Holds W':=
 ⟨h.b0.kept a (λe=>by grind),h.b9.kept a (λe=>by grind),h.b10.kept a (λe=>by grind),h.b11.kept a (λe=>by grind),
  h.b12.kept a (λe=>by grind),h.z.kept a (λe=>by grind),below_grown h.B a hl⟩
def SplC.Holds.drew{c:SplC}{W:H}(h:c.Holds W):c.Holds W.drew:=
 ⟨h.b0,h.b9,h.b10,h.b11,h.b12,h.z,h.B.drew⟩
variable{f:Bool}{D D' Q Q':Ja}{B:Nat}{W W' W0:H}
def SplC.own(c:SplC)(d:c.w.heap.size<=B):OwnFrom B (λ(_:Nat) W=>c.Holds W):=λk W W' row hs a b=>
 ⟨Yh hs.b0 a b,Yh hs.b9 a b,Yh hs.b10 a b,Yh hs.b11 a b,Yh hs.b12 a b,XA hs.z a b,Fz d k W W' row hs.B a b⟩
def GR(c:SplC)(a V n K:Nat)(k:Nat)(W:H):Prop:=
 c.Holds W/\∃D Q,Bs W c.gR D/\Bs W c.gQ Q/\YL a V n K (K-k) D Q
def LM(c:SplC)(d V n K:Nat)(i:c.w.heap.size<=B):OwnFrom B (GR c d V n K):=
 BI (c.own i) (λ_ _ _ _ hs a b=>by obtain⟨D,Q,e,f,g⟩:=hs;exact⟨D,Q,XA e a b,XA f a b,g⟩)
structure SplM(c:SplC)(W0:World)(D D' Q Q':Ja)(e f:Bool)(W:World):Prop where
 k:KeepsOthers W0 W
 h:c.Holds W
 r:Bs W c.gR (bif e then D' else D)
 q:Bs W c.gQ (bif f then Q' else Q)
def SplM.drew{c:SplC}{W0 W:H}{D D' Q Q':Ja}{e f:Bool}(h:SplM c W0 D D' Q Q' e f W):SplM c W0 D D' Q Q' e f W.drew:=
 ⟨h.k.trans (KeepsOthers.drew W),h.h.drew,h.r,h.q⟩
def LN{g:Nat}{xs:Ja}(b:Bs W g xs)(c:W.grownBy W' (some g)):KeepsOthers W W':=
 KeepsOthers.of_grownBy c λj o a d=>by cases a;exact b.other d
def SplM.any{c:SplC}(h:SplM c W0 D D' Q Q' false f W)(a:Ja):SplM c W0 D a Q Q' false f W:=⟨h.k,h.h,h.r,h.q⟩
def SplM.split{c:SplC}(h:SplM c W0 D D' Q Q' false f W)(a:c.Apart)(b:W.grownBy W' (some c.gR))(d:Bs W' c.gR D'):SplM c W0 D D' Q Q' true f W':=
 ⟨h.k.trans (LN h.r b),h.h.kept b a.r0 a.r9 a.r10 a.r11 a.r12 a.rz a.lr,d,h.q.kept b λe=>by injection e with e;exact a.rq e.symm⟩
theorem SplM.store{c:SplC}{e:Bool}(h:SplM c W0 D D' Q Q' e false W)(a:c.Apart){j v:Nat}(d:Q.set j v=Q'):SplM c W0 D D' Q Q' e true (W.setCell ⟨c.gQ,j,none⟩ (F G (v:Nat))):=
 have b:=JB W c.gQ j (F G (v:Nat))
 ⟨h.k.trans (BO _ _ _),h.h.kept b a.q0 a.q9 a.q10 a.q11 a.q12 a.qz a.lq,h.r.kept b (λe=>by injection e with e;exact a.rq e),by have:=h.q.set j v;grind⟩
def LO(a:MD)(f ca:Nat)(x y l lb l1 cb m n d s:Nat)(w:H)(en:lb=l+2)(h2:(lb:Int)-1=l1)(f7:x<w.heap.size)
(ra:Row G w (C a f ca) (Jb O m))(rb:Row G w (C (some ⟨x,y,none⟩) lb cb) (Jb O n))
(kb:w.cell? ⟨x,y+l1,none⟩=some (F G (d:Nat)))(f8:d<O)(hs:s<=63)(HS:Hid ((64:Int)-(Lib.bitLen d:Int)=(s:Int)))(fk:lb<=f)(f9:f<1099511627776)
(ed:Hid (n*2^s<O^(l+2)))(ef:Hid (2^63*O^(l+1)<=n*2^s))(f6:Hid (m*2^s<n*2^s*O^(f-(l+1)))):
 Calls L 84 #[C a f ca,C (some ⟨x,y,none⟩) lb cb] w λe w'=>∃u v,e=.returned (.tuple #[u,v])/\UN w' u (m/n)/\UN w' v (m%n)/\Bl w w':=by
 have Qc:=Z en;have i1:M.wrap ((lb:Int)-1)=(l1:Int):=by rw[h2];exact BH _ Y
 have i3:M.wrap (l1:Int)=(l1:Int):=BH _ Y;have j1:(l1:Int)<(lb:Int):=Y
 have j9:(0:Int)<=(l1:Int):=Y
 have fl:¬(lb=1):=Y
 have Qg:Bl w (w.alloc (.cells #[C (some ⟨x,y,none⟩) lb cb] 23)):=Ba w _;have Qf:=BN w 23 (C (some ⟨x,y,none⟩) lb cb);obtain⟨W0,ce⟩:=ex (w.alloc (.cells #[C (some ⟨x,y,none⟩) lb cb] 23));have Qs:W0.heap.size=w.heap.size+1:=by rw[<-ce];simp
 rw[ce]at Qg Qf;have Uq:=Qf.cell;have Uz:=(Qg.cell (p:=⟨x,y+l1,none⟩) f7).trans kb;have Qr:=Z λ(V:H) (h:Bl W0 V)=>Fy a f ca (Jb O m) s V hs (Row.below (Row.below ra Qg) h) (Jf Jc m) f9;have Qp:=Z λ(V:H) (h:Bl W0 V)=>Fy (some ⟨x,y,none⟩) lb cb (Jb O n) s V hs (Row.below (Row.below rb Qg) h) (Jf Jc n) Y;rw[Je Jc]at Qr Qp;have Ub:=Z ce;have Ua:=Z (show ∀V:H,Calls L 113 #[F G (d:Nat)] V λe w'=>e=.returned (F M (s:Nat))/\w'=V from λV=>by
  have h:=Tryz.bits_LeadingZeros64 (d:Nat) V Y (by unfold O at f8;omega);rw[Int.toNat_natCast,HS.o]at h;exact h)
 have ft:G.wrap (s:Int)=(s:Int):=BX _ Y;have Ur:=Z Qs;clear ce en ra rb kb HS;refine(BL (n:=3)).1 ?_;refine BP func84 J trivial ?_ J;simp only[ntmps84,AB,Ao,AP,Nat.reduceAdd,Nat.reduceSub,Au,Aw,AL,AD,Aj,AH];refine wpIn_wide.2 ?_;go_upto_region 1 with fail
 rw[Ub.o];clear Ub Qs;go_upto_region 8 with(go_at_call 113;refine(Ua.o _).mono ?_;rintro e w' ⟨rfl,e1⟩;have e2:=e1.symm;subst e2;clear e1)
 refine YF DM [[],[],[0,1],[],[],[3,4,2],[],[6],[5,7],[],[],[9,2,5,0,1,2,9,10],[10,8,11,0,1,2,3,4,5,6,7,8,9,10,11]] ME Bz
  (λD ac V=>∃t9 aw ay az bc bd bf bt bg bh bu:Value,ac={ tmps:=#[C a f ca,C (some ⟨x,y,none⟩) lb cb,E,I (some ⟨w.heap.size,0,none⟩),C none 0 0,C none 0 0,E,E,F G (s:Nat),t9,aw,E,E,C a f ca,F M (f:Nat),C (some ⟨x,y,none⟩) lb cb,F M (lb:Nat),.bool false,E,E,C (some ⟨x,y,none⟩) lb cb,F M (lb:Nat),.bool false,E,E,E,E,E,E,E,E,E,E,E,E,C (some ⟨x,y,none⟩) lb cb,C (some ⟨x,y,none⟩) lb cb,F M (lb:Nat),F M (l1:Nat),I (some ⟨x,y+l1,none⟩),F G (d:Nat),F M (s:Nat),F G (s:Nat),ay,az,bc,bd,bf,bt,bg,bh,bu,E,E,E,E,E,E,E,E,E,E,E,E,E,E,E,E,E,E,E,E,E,E,E,E,E,E,E,E],defers:=[] }/\Hid (D 0=true->ay=C a f ca)/\Hid (D 1=true->az=F G (s:Nat))/\Hid (D 2=true->∃g bi,DC V W0.heap.size bc g (f+1) (m*2^s) bi)/\Hid (D 3=true->bd=C (some ⟨x,y,none⟩) lb cb)/\Hid (D 4=true->bf=F G (s:Nat))/\Hid (D 5=true->∃gR Zr gZ Zb,DC V W0.heap.size bc gR (f+1) (m*2^s) Zr/\DC V W0.heap.size bt gZ (lb+1) (n*2^s) Zb/\gR≠gZ)/\Hid (D 6=true->bg=C (some ⟨x,y,none⟩) lb cb)/\Hid (D 7=true->bh=F M (lb:Nat))/\Hid (D 8=true->∃gZ,bt=C (some ⟨gZ,0,none⟩) (lb+1) (lb+1)/\bu=C (some ⟨gZ,0,none⟩) lb (lb+1))/\Hid (D 9=true->D 11=false->∃B,t9=I (some ⟨B,0,none⟩)/\Boxed V B 23 (C none 0 0)/\W0.heap.size<=B)/\Hid (D 10=true->D 12=false->∃B,aw=I (some ⟨B,0,none⟩)/\Boxed V B 23 (C none 0 0)/\W0.heap.size<=B)/\Hid (D 9=true->D 10=true->t9≠aw)/\Hid (D 11=true->∃B,t9=I (some ⟨B,0,none⟩)/\Boxed V B 23 bc/\W0.heap.size<=B)/\Hid (D 12=true->∃B,aw=I (some ⟨B,0,none⟩)/\Boxed V B 23 bu/\W0.heap.size<=B)/\Bl W0 V)
  (E8 ⟨_,_,_,J,Z B7,Z B7,Z B7,Z B7,Z B7,Z B7,Z B7,Z B7,Z B7,Z B7,Z B7,Z B7,Z B7,Z B7,(BC _ W0).drew⟩) ?step8 ?fin8
 case step8=>
  rintro D a2 V i ds ag dw b ah ⟨t9,aw,ay,az,bc,bd,bf,bt,bg,bh,bu,rfl,P,R,g2,S,T,t,U,X,g8,N,z,gx,ad,ae,r⟩;have Qx:i<13:=(AO.1 dw).1;obtain rfl|rfl|rfl|rfl|rfl|rfl|rfl|rfl|rfl|rfl|rfl|rfl|rfl:=EF i Y
  all_goals
   simp only[Ck,Ca,Cl]at dw;subst dw;clear Qx
  . clear b ag;refine C2 ?_;exact⟨Z λ_=>rfl,R,g2,S,T,t,U,X,g8,N,z,gx,ad,ae,r⟩
  . clear b ag;refine C2 ?_;exact⟨P,Z λ_=>rfl,g2,S,T,t,U,X,g8,N,z,gx,ad,ae,r⟩
  . have Ut:D 5=false:=C4 ag ah;have Qb:D 11=false:=C4 ag ah;have Qa:D 12=false:=C4 ag ah;obtain rfl:=P.o (b 0 Bq);obtain rfl:=R.o (b 1 Bq);clear b ag;refine Jv J J λK hK=>?_;go_simp;go_wp2_with(go_at_call 114;refine(Qr.o _ r).mono ?_;rintro e w5 ⟨t,Z5,rfl,⟨di,dj,dt⟩,hA5,bn,am⟩)
    exact E8 ⟨_,_,_,J,Z λ_=>rfl,Z λ_=>rfl,Z λ_=>⟨t,Z5,J,hA5,di,dj,dt,A1 r.size bn⟩,S,T,Z (λh=>by simp[Ut]at h),U,X,g8,Z (λh h2=>by obtain⟨B,e,q,q2⟩:=N.o h h2;exact⟨B,e,Jm q am,q2⟩),Z (λh h2=>by obtain⟨B,e,q,q2⟩:=z.o h h2;exact⟨B,e,Jm q am,q2⟩),gx,Z (λh=>by simp[Qb]at h),Z (λh=>by simp[Qa]at h),Bt r am⟩
  . have k0:=(Jm Qf r).cell;clear b ag;refine C2 ?_;exact⟨P,R,g2,Z λ_=>rfl,T,t,U,X,g8,N,z,gx,ad,ae,r⟩
  . clear b ag;refine C2 ?_;exact⟨P,R,g2,S,Z λ_=>rfl,t,U,X,g8,N,z,gx,ad,ae,r⟩
  . have Uo:D 8=false:=C4 ag ah;have Qb:D 11=false:=C4 ag ah;have Qa:D 12=false:=C4 ag ah;obtain rfl:=S.o (b 3 Bq);obtain rfl:=T.o (b 4 Bq);obtain⟨gR,Zr,hR⟩:=g2.o (b 2 Bq);have fi:=hR.2.1.lt;clear b ag;refine Jv J J λK hK=>?_;go_simp;go_wp2_with(go_at_call 114;refine(Qp.o _ r).mono ?_;rintro e w5 ⟨t,Z5,rfl,⟨di,dj,dt⟩,hA5,bn,am⟩)
    exact⟨_,_,_,_,_,_,_,_,_,_,_,J,P,R,Z λ_=>⟨gR,Zr,hR.below am⟩,Z λ_=>rfl,Z λ_=>rfl,Z λ_=>⟨gR,Zr,t,Z5,hR.below am,⟨J,hA5,di,dj,dt,A1 r.size bn⟩,Y⟩,U,X,Z (λh=>by simp[Uo]at h),Z (λh h2=>by obtain⟨B,e,q,q2⟩:=N.o h h2;exact⟨B,e,Jm q am,q2⟩),Z (λh h2=>by obtain⟨B,e,q,q2⟩:=z.o h h2;exact⟨B,e,Jm q am,q2⟩),gx,Z (λh=>by simp[Qb]at h),Z (λh=>by simp[Qa]at h),Bt r am⟩
  . have k0:=(Jm Qf r).cell;clear b ag;refine C2 ?_;exact⟨P,R,g2,S,T,t,Z λ_=>rfl,X,g8,N,z,gx,ad,ae,r⟩
  . obtain rfl:=U.o (b 6 Bq);clear b ag;refine C2 ?_;exact⟨P,R,g2,S,T,t,Z λ_=>rfl,Z λ_=>rfl,g8,N,z,gx,ad,ae,r⟩
  . have Qa:D 12=false:=C4 ag ah;obtain⟨gR,Zr,gZ,Zb,hR,hZ,aq⟩:=t.o (b 5 Bq);obtain rfl:=hZ.1;obtain rfl:=X.o (b 7 Bq);have b1:(0:Int)<=(lb:Int):=Y
    have b2:(lb:Int)<=(lb:Int)+1:=Y
    clear b ag;refine C2 ?_;exact⟨P,R,g2,S,T,Z λ_=>⟨gR,Zr,gZ,Zb,hR,hZ,aq⟩,U,Z λ_=>rfl,Z λ_=>⟨gZ,J,J⟩,N,z,gx,ad,Z (λh=>by simp[Qa]at h),r⟩
  . have Qb:D 11=false:=C4 ag ah;have Qa:D 12=false:=C4 ag ah;clear b ag;refine C2 ?_;exact⟨P,R,Z (λh=>by obtain⟨g,bi,q⟩:=g2.o h;exact⟨g,bi,q.below (Ba V _)⟩),S,T,Z (λh=>by obtain⟨gR,Zr,gZ,Zb,q1,q2,q3⟩:=t.o h;exact⟨gR,Zr,gZ,Zb,q1.below (Ba V _),q2.below (Ba V _),q3⟩),U,X,g8,Z λ_ _=>⟨_,J,BN _ _ _,r.size⟩,Z (λh h2=>by obtain⟨B,e,q,q2⟩:=z.o h h2;exact⟨B,e,q.alloc _,q2⟩),Z (λ_ h e=>by obtain⟨B,e2,q,q2⟩:=z.o (by simpa using h) Qa;have:=q.lt;rw[e2]at e;cases e;omega),Z (λh=>by simp[Qb]at h),Z (λh=>by simp[Qa]at h),r.alloc r.size _⟩
  . have Qb:D 11=false:=C4 ag ah;have Qa:D 12=false:=C4 ag ah;clear b ag;refine C2 ?_;exact⟨P,R,Z (λh=>by obtain⟨g,bi,q⟩:=g2.o h;exact⟨g,bi,q.below (Ba V _)⟩),S,T,Z (λh=>by obtain⟨gR,Zr,gZ,Zb,q1,q2,q3⟩:=t.o h;exact⟨gR,Zr,gZ,Zb,q1.below (Ba V _),q2.below (Ba V _),q3⟩),U,X,g8,Z (λh h2=>by obtain⟨B,e,q,q2⟩:=N.o h h2;exact⟨B,e,q.alloc _,q2⟩),Z λ_ _=>⟨_,J,BN _ _ _,r.size⟩,Z (λh _ e=>by obtain⟨B,e2,q,q2⟩:=N.o (by simpa using h) Qb;have:=q.lt;rw[e2]at e;cases e;omega),Z (λh=>by simp[Qb]at h),Z (λh=>by simp[Qa]at h),r.alloc r.size _⟩
  . have Qa:D 12=false:=C4 ag ah;obtain⟨B,rfl,aj,bp⟩:=N.o (b 9 Bq) ah;obtain⟨gR,Zr,gZ,Zb,hR,hZ,aq⟩:=t.o (b 5 Bq);have k0:=aj.cell;have f0:=aj.frozen;obtain⟨B2,bj,du,eb⟩:=z.o (b 10 Bq) Qa;have Qt:B≠B2:=λe=>gx.o (b 9 Bq) (b 10 Bq) (by rw[bj,e]);obtain rfl:=bj;obtain rfl:=hR.1;clear N ad;clear b ag;refine C2 ?_;exact⟨P,R,Z λ_=>⟨gR,Zr,hR.box Y aj⟩,S,T,Z λ_=>⟨gR,Zr,gZ,Zb,hR.box Y aj,hZ.box Y aj,aq⟩,U,X,g8,Z (λ_ h=>by simp at h),Z λ_ _=>⟨B2,J,du.kept (Bn _ B _) (λe=>by injection e;omega),eb⟩,gx,Z λ_=>⟨B,J,aj.set _,bp⟩,Z (λh=>by simp[Qa]at h),r.setCell (p:=⟨B,0,none⟩) bp _⟩
  . obtain⟨B,rfl,aj,bp⟩:=z.o (b 10 Bq) ah;obtain⟨gR,Zr,gZ,Zb,hR,hZ,aq⟩:=t.o (b 5 Bq);obtain⟨eh,bz,dh⟩:=g8.o (b 8 Bq);have k0:=aj.cell;have f0:=aj.frozen;obtain⟨B2,bj,du,eb⟩:=ad.o (b 11 Bq);have Qt:B≠B2:=λe=>gx.o (b 9 Bq) (b 10 Bq) (by rw[bj,e]);obtain rfl:=dh;obtain rfl:=bz;obtain rfl:=bj;have Qy:=b 11 Bq;clear z ae;clear b ag;refine C2 ?_;exact⟨P,R,Z λ_=>⟨gR,Zr,hR.box Y aj⟩,S,T,Z λ_=>⟨gR,Zr,gZ,Zb,hR.box Y aj,hZ.box Y aj,aq⟩,U,X,Z λ_=>⟨eh,J,J⟩,Z (λ_ h=>by simp[Qy]at h),Z (λ_ h=>by simp at h),gx,Z λ_=>⟨B2,J,du.kept (Bn _ B _) (λe=>by injection e;omega),eb⟩,Z λ_=>⟨B,J,aj.set _,bp⟩,r.setCell (p:=⟨B,0,none⟩) bp _⟩
 rintro D a2 o ak ⟨t9,aw,ay,az,bc,bd,bf,bt,bg,bh,bu,rfl,P,R,g2,S,T,t,U,X,g8,N,z,gx,ad,ae,r⟩;obtain⟨gR,Zr,gZ,Zb,hR,hZ,aq⟩:=t.o (ak 5 Bz);obtain⟨eh,bz,dh⟩:=g8.o (ak 8 Bz);obtain⟨B9,rfl,bm,fs⟩:=ad.o (ak 11 Bz);obtain⟨B10,rfl,bk,fr⟩:=ae.o (ak 12 Bz);obtain rfl:=dh;obtain rfl:=hR.1;have e0:=hZ.1;rw[bz]at e0;cases e0;obtain rfl:=bz;clear P R g2 S T t U X g8 N z gx ad ae ak Qr Qp Ua;obtain⟨K,hK⟩:∃K:Nat,(f:Int)+1-(lb:Int)=(K:Int):=⟨f+1-lb,Y⟩;have fg:M.wrap (K:Int)=(K:Int):=BH _ Y;have Uw:=Xa K Y o;have k9:=bm.cell;have Us:=bk.cell;have Qi:K+lb=f+1:=Y
 have Qm:=Z Qi;clear Qi;go_wp2_with(go_at_call 103;refine((BL (n:=2)).1 (DZ Fence.wide _ trivial J _ _ _ _)).mono ?_;rintro e w' ⟨rfl,rfl⟩)
 refine(wpIn_wide (n:=3)).1 ?_;obtain⟨WQ,ap⟩:=ex (((o.alloc (.cells (cellsOf G (MF K 0)).toArray 94)).alloc (.cells #[C (some ⟨o.heap.size,0,none⟩) K K] 23)).alloc (.cells #[C (some ⟨o.heap.size,0,none⟩) K K] 23));have Uv:WQ.heap.size=o.heap.size+1+1+1:=by rw[<-ap];simp
 have Qj:Bl w o:=Bt Qg r;have Qs:=Ur.o;have Um:Bl w WQ:=by rw[<-ap];exact((Qj.alloc Qj.size _).alloc (by have:=Qj.size;simp;omega) _).alloc (by have:=Qj.size;simp;omega) _
 have lR:=hR.2.1.lt;have lZ:=hZ.2.1.lt;have l9:=bm.lt;have fu:=bk.lt;have n9:gR≠B9:=λe=>hR.ne_box Y bm e;have fv:gR≠B10:=λe=>hR.ne_box Y bk e;have fc:=hR.2.2.2.2.2;have fd:=hZ.2.2.2.2.2;obtain⟨c,hc⟩:∃c:SplC,c=⟨w,C (some ⟨x,y,none⟩) lb cb,C (some ⟨gR,0,none⟩) (f+1) (f+1),C (some ⟨gZ,0,none⟩) lb (lb+1),C (some ⟨o.heap.size,0,none⟩) K K,B9,B10,o.heap.size+1,o.heap.size+1+1,gR,gZ,o.heap.size,Zb⟩:=⟨_,J⟩;have Ue:c.Apart:=by
  rw[hc];constructor<;>(simp only;omega)
 have Uc:c.Holds WQ:=by
  rw[hc,<-ap];have Ui:=(BN (o.alloc (.cells (cellsOf G (MF K 0)).toArray 94)) 23 (C (some ⟨o.heap.size,0,none⟩) K K)).alloc (.cells #[C (some ⟨o.heap.size,0,none⟩) K K] 23);have Uf:=BN ((o.alloc (.cells (cellsOf G (MF K 0)).toArray 94)).alloc (.cells #[C (some ⟨o.heap.size,0,none⟩) K K] 23)) 23 (C (some ⟨o.heap.size,0,none⟩) K K);simp only[BA]at Ui Uf;exact⟨(((Jm Qf r).alloc _).alloc _).alloc _,((bm.alloc _).alloc _).alloc _,((bk.alloc _).alloc _).alloc _,Ui,Uf,((hZ.2.1.alloc _).alloc _).alloc _,by rw[ap];exact Um⟩
 have Uh:Bs WQ gR Zr:=by rw[<-ap];exact((hR.2.1.alloc _).alloc _).alloc _
 have Qz:Bs WQ o.heap.size (MF K 0):=by rw[<-ap];exact((Bs.made (BD o _)).alloc _).alloc _
 have Qu:YL (m*2^s) (n*2^s) lb K K Zr (MF K 0):=YL.start (by have:=Qm.o;rw[hR.2.2.1];omega) hR.2.2.2.1 hR.2.2.2.2.1 (by
  have h:=f6.o;rwa[show f-(l+1)=K from by have:=Qm.o;have:=Qc.o;omega]at h)
 obtain⟨e7,et⟩:=LK hZ.2.2.2.1 (by rw[hZ.2.2.1,Qc.o]) hZ.2.2.2.2.1 ed.o ef.o;have Ux:0<n*2^s:=by
  have h:=ef.o;have:=Bp (AE 63) (CO (n:=l+1) (show 0<O by unfold O;omega));omega
 have Qh:n*2^s<O^lb:=by rw[Qc.o];exact ed.o
 have Up:=hZ.2.2.2.1;have fj:=hZ.2.2.1;rw[ap];clear ap Uw bm bk Qf Uq k9 Us hR hZ r Qj Uz;refine Yk J Y (gf:=126) (lb:=#[I (some ⟨o.heap.size+1+1,0,none⟩)]) J trivial (enters_of func126 ME J)
  (Xt Fence.wide _ trivial J Y (o.heap.size+1+1) (some ⟨o.heap.size,0,none⟩) K K (λ_=>0) Y) (λ_=>rfl)
  (GR c (m*2^s) (n*2^s) lb K) (λ_ _ _=>False) (LM c _ _ _ _ (by rw[hc,Uv];simp only;omega)) (λc _ _ _ _ h _ _=>h.elim)
  ⟨Uc,Zr,MF K 0,by rw[hc];exact Uh,by rw[hc];exact Qz,by rw[CT];exact Qu⟩ ?rd
  (λk=>{ tmps:=#[C a f ca,C (some ⟨x,y,none⟩) lb cb,E,I (some ⟨w.heap.size,0,none⟩),C none 0 0,C none 0 0,E,E,F G (s:Nat),I (some ⟨B9,0,none⟩),I (some ⟨B10,0,none⟩),I (some ⟨o.heap.size+1,0,none⟩),F M ((K:Int)-1-k),C a f ca,F M (f:Nat),C (some ⟨x,y,none⟩) lb cb,F M (lb:Nat),.bool false,E,E,C (some ⟨x,y,none⟩) lb cb,F M (lb:Nat),.bool false,E,E,E,E,E,E,E,E,E,E,E,E,C (some ⟨x,y,none⟩) lb cb,C (some ⟨x,y,none⟩) lb cb,F M (lb:Nat),F M (l1:Nat),I (some ⟨x,y+l1,none⟩),F G (d:Nat),F M (s:Nat),F G (s:Nat),ay,az,C (some ⟨gR,0,none⟩) (f+1) (f+1),bd,bf,C (some ⟨gZ,0,none⟩) (lb+1) (lb+1),bg,bh,C (some ⟨gZ,0,none⟩) lb (lb+1),C (some ⟨gR,0,none⟩) (f+1) (f+1),F M ((f:Int)+1),C (some ⟨gZ,0,none⟩) lb (lb+1),F M (lb:Nat),F M (K:Nat),C (some ⟨o.heap.size,0,none⟩) K K,C (some ⟨o.heap.size,0,none⟩) K K,.func (.func 126) #[] #[I (some ⟨o.heap.size+1+1,0,none⟩)],F M ((K:Int)-1-k),F G 0,E,E,E,E,E,E,E,E,E,E,E,E,E,E,E,E,E,E],defers:=[] }) ?assign ?body ?done ?stop
 case rd=>
  rintro k W ⟨hh,D,Q,_,hQ,hL⟩;have Ud:=hh.b12;rw[hc]at Ud hQ;refine⟨Ud.cell,λhk=>⟨o.heap.size,0,J,?_⟩⟩;rw[A8,hQ.cell (j:=K-1-k) (by rw[hL.2.2.1];omega),hL.2.2.2.2.2.2 (K-1-k) Y]
 case assign=>
  intro l k W K hK;unfold YC;gi_wp2;exact hK
 case stop=>
  rintro D c k W _ _ h _;exact h.elim
 case body=>
  rintro l' k W ⟨hh,D,Q,hD,hQ,hL⟩ hk fo;have Ug:K-k=K-1-k+1:=Y
  rw[Ug]at hL;have e1:((K:Int)-1-k)=((K-1-k:Nat):Int):=Y
  have HI:=Z (show K-(k+1)=K-1-k by omega);have Qn:K-1-k<K:=Y
  rw[e1];obtain⟨i,hi⟩:=ex (K-1-k);rw[hi]at hL Qn HI ⊢;clear Ug e1 hi;obtain⟨w1,w2,w3⟩:=hL.win Qn Qh;have Uu:=hL.1;have fh:=hL.2.2.1;have Ul:=Z (show ∀(V:H) (nn:Nat),Bs V gR D->Bs V gZ Zb->CallsIn (Fence.wide.inRound l') nn L 115 #[C (some ⟨gR,i,none⟩) (lb+1) (f+1-i),C (some ⟨gZ,0,none⟩) lb (lb+1)] V λe w'=>
   ∃q,e=.returned (F G ((val O ((D.drop i).take (lb+1))/(n*2^s):Nat):Int))/\(q.length=lb+1/\Br O q/\val O q=val O ((D.drop i).take (lb+1))%(n*2^s))/\Bs w' gR (Bw D i (lb+1) q)/\V.grownBy w' (some gR)from λV nn h1 h2=>by
   have Qi:=Qm.o;have hz:=h2.row 0 lb (lb+1) Y Y Y Y;have Qw:=LJ gR i l (f+1-i) D (some ⟨gZ,0,none⟩) (lb+1) (Zb.take (l+2)) V h1 hL.2.1 (by rw[Uu];have:=Qc.o;omega) (by have:=Qc.o;omega) Y (by have:=Qc.o;omega)
    (by rw[Ap,Qc.o]at hz;rw[Qc.o];exact hz) (Up.take _) (λp e _=>by cases e;exact λh=>aq h.symm) et (by rw[e7];have:=w1;rw[Qc.o]at this;exact this)
   rw[e7]at Qw;have e3:l+3=lb+1:=by rw[Qc.o]
   have e2:l+2=lb:=Qc.o.symm;rw[e3,e2]at Qw;exact Bc l' ((BL (n:=nn)).2 Qw))
  have Un:=Z λ(q:Ja) (h1:q.length=lb+1) (h2:Br O q) (h3:val O q=val O ((D.drop i).take (lb+1))%(n*2^s))=>hL.step Qn Qh h1 h2 h3 Ux;obtain⟨qd,er⟩:=ex (val O ((D.drop i).take (lb+1))/(n*2^s));rw[er]at Un Ul;clear er w1 w2 w3 hL e7 et Qu;obtain⟨H1,fe⟩:∃H1:Nat,(i:Int)+(lb:Int)=(H1:Int):=⟨i+lb,Y⟩;obtain⟨an,hH⟩:∃an:Nat,(H1:Int)+1=(an:Int):=⟨H1+1,Y⟩;have ff:an-i=lb+1:=Y
  have y1:(i:Int)<=(an:Int):=Y
  have y2:(an:Int)<=(f:Int)+1:=Y
  have y3:(0:Int)<=(i:Int):=Y
  have y4:(i:Int)<(K:Int):=Y
  have y5:M.wrap (H1:Int)=(H1:Int):=BH _ Y;have y6:M.wrap (an:Int)=(an:Int):=BH _ Y;gi_wp2_with fail
  refine Xp DM [[],[],[],[],[],[],[5],[4,6],[7],[2,3,8],[],[9,10],[0,1,0,1,2,3,4,5,6,7,8,9,10,11],[12,11,11,0,1,2,3,4,5,6,7,8,9,10,11]] ME Bz
   (λDD ac V=>∃cg ci cj ck cn co cw cy cz d8 d9 de dg:Value,ac={ tmps:=#[C a f ca,C (some ⟨x,y,none⟩) lb cb,E,I (some ⟨w.heap.size,0,none⟩),C none 0 0,C none 0 0,E,E,F G (s:Nat),I (some ⟨B9,0,none⟩),I (some ⟨B10,0,none⟩),I (some ⟨o.heap.size+1,0,none⟩),F M (i:Nat),C a f ca,F M (f:Nat),C (some ⟨x,y,none⟩) lb cb,F M (lb:Nat),.bool false,E,E,C (some ⟨x,y,none⟩) lb cb,F M (lb:Nat),.bool false,E,E,E,E,E,E,E,E,E,E,E,E,C (some ⟨x,y,none⟩) lb cb,C (some ⟨x,y,none⟩) lb cb,F M (lb:Nat),F M (l1:Nat),I (some ⟨x,y+l1,none⟩),F G (d:Nat),F M (s:Nat),F G (s:Nat),ay,az,C (some ⟨gR,0,none⟩) (f+1) (f+1),bd,bf,C (some ⟨gZ,0,none⟩) (lb+1) (lb+1),bg,bh,C (some ⟨gZ,0,none⟩) lb (lb+1),C (some ⟨gR,0,none⟩) (f+1) (f+1),F M ((f:Int)+1),C (some ⟨gZ,0,none⟩) lb (lb+1),F M (lb:Nat),F M (K:Nat),C (some ⟨o.heap.size,0,none⟩) K K,C (some ⟨o.heap.size,0,none⟩) K K,.func (.func 126) #[] #[I (some ⟨o.heap.size+1+1,0,none⟩)],F M (i:Nat),F G 0,cg,ci,cj,ck,cn,co,cw,cy,cz,d8,d9,de,dg,E,E,E,E,E],defers:=[] }/\Hid (DD 0=true->cg=C (some ⟨o.heap.size,0,none⟩) K K)/\Hid (DD 1=true->ci=F M (i:Nat))/\Hid (DD 2=true->cj=C (some ⟨gR,0,none⟩) (f+1) (f+1))/\Hid (DD 3=true->ck=F M (i:Nat))/\Hid (DD 4=true->cn=F M (i:Nat))/\Hid (DD 5=true->co=C (some ⟨x,y,none⟩) lb cb)/\Hid (DD 6=true->cw=F M (lb:Nat))/\Hid (DD 7=true->cy=F M (H1:Nat))/\Hid (DD 8=true->cz=F M (an:Nat))/\Hid (DD 9=true->d8=C (some ⟨gR,i,none⟩) (lb+1) (f+1-i))/\Hid (DD 10=true->d9=C (some ⟨gZ,0,none⟩) lb (lb+1))/\Hid (DD 11=true->de=F G (qd:Nat))/\Hid (DD 12=true->dg=I (some ⟨o.heap.size,i,none⟩))/\∃D2,Hid (DD 11=true->∃q,(q.length=lb+1/\Br O q/\val O q=val O ((D.drop i).take (lb+1))%(n*2^s))/\D2=Bw D i (lb+1) q)/\SplM c W D D2 Q (Q.set i qd) (DD 11) (DD 13) V)
   (E8 ⟨_,_,_,_,_,J,Z B7,Z B7,Z B7,Z B7,Z B7,Z B7,Z B7,Z B7,Z B7,Z B7,Z B7,Z B7,Z B7,D,Z B7,SplM.drew ⟨KeepsOthers.refl _,hh,hD,hQ⟩⟩) ?step ?fin
  case fin=>
   rintro DD ac V ak ⟨cg,ci,cj,ck,cn,co,cw,cy,cz,d8,d9,de,dg,rfl,P,R,g2,S,T,t,U,X,g8,N,z,ad,ae,D2,gd,A⟩;rw[ak 11 Bz,ak 13 Bz]at A;obtain⟨q,⟨dx,dz,e6⟩,rfl⟩:=gd.o (ak 11 Bz);refine⟨A.k.from _,A.h,Bw D i (lb+1) q,Q.set i qd,A.r,A.q,?_⟩;rw[HI.o];exact Un.o q dx dz e6
  case step=>
   rintro DD ac V j ds ai hj b ah ⟨cg,ci,cj,ck,cn,co,cw,cy,cz,d8,d9,de,dg,rfl,P,R,g2,S,T,t,U,X,g8,N,z,ad,ae,D2,gd,A⟩;have Qv:j<14:=(AO.1 hj).1;obtain rfl|rfl|rfl|rfl|rfl|rfl|rfl|rfl|rfl|rfl|rfl|rfl|rfl|rfl:=EG j Y
   all_goals
    simp only[Ck,Ca,Cl]at hj;subst hj;clear Qv
   . have b11:Boxed V (o.heap.size+1) 23 (C (some ⟨o.heap.size,0,none⟩) K K):=by have:=A.h.b11;rw[hc]at this;exact this
     have k0:=b11.cell;clear b ai;refine BG J λK2 aa=>?_;go_simp;exact aa _ _ (E8 ⟨_,_,_,_,_,J,Z λ_=>rfl,R,g2,S,T,t,U,X,g8,N,z,ad,ae,D2,gd,A⟩)
   . clear b ai;refine BG J λK2 aa=>?_;go_simp;exact aa _ _ ⟨_,_,_,_,_,_,_,_,_,_,_,_,_,J,P,Z λ_=>rfl,g2,S,T,t,U,X,g8,N,z,ad,ae,D2,gd,A⟩
   . have b9:Boxed V B9 23 (C (some ⟨gR,0,none⟩) (f+1) (f+1)):=by have:=A.h.b9;rw[hc]at this;exact this
     have k0:=b9.cell;clear b ai;refine BG J λK2 aa=>?_;go_simp;exact aa _ _ ⟨_,_,_,_,_,_,_,_,_,_,_,_,_,J,P,R,Z λ_=>rfl,S,T,t,U,X,g8,N,z,ad,ae,D2,gd,A⟩
   . clear b ai;refine BG J λK2 aa=>?_;go_simp;exact aa _ _ ⟨_,_,_,_,_,_,_,_,_,_,_,_,_,J,P,R,g2,Z λ_=>rfl,T,t,U,X,g8,N,z,ad,ae,D2,gd,A⟩
   . clear b ai;refine BG J λK2 aa=>?_;go_simp;exact aa _ _ ⟨_,_,_,_,_,_,_,_,_,_,_,_,_,J,P,R,g2,S,Z λ_=>rfl,t,U,X,g8,N,z,ad,ae,D2,gd,A⟩
   . have b0:Boxed V w.heap.size 23 (C (some ⟨x,y,none⟩) lb cb):=by have:=A.h.b0;rw[hc]at this;exact this
     have k0:=b0.cell;clear b ai;refine BG J λK2 aa=>?_;go_simp;exact aa _ _ ⟨_,_,_,_,_,_,_,_,_,_,_,_,_,J,P,R,g2,S,T,Z λ_=>rfl,U,X,g8,N,z,ad,ae,D2,gd,A⟩
   . obtain rfl:=t.o (b 5 Bq);clear b ai;refine BG J λK2 aa=>?_;go_simp;exact aa _ _ ⟨_,_,_,_,_,_,_,_,_,_,_,_,_,J,P,R,g2,S,T,Z λ_=>rfl,Z λ_=>rfl,X,g8,N,z,ad,ae,D2,gd,A⟩
   . obtain rfl:=T.o (b 4 Bq);obtain rfl:=U.o (b 6 Bq);clear b ai;refine BG J λK2 aa=>?_;go_simp;exact aa _ _ ⟨_,_,_,_,_,_,_,_,_,_,_,_,_,J,P,R,g2,S,Z λ_=>rfl,t,Z λ_=>rfl,Z λ_=>rfl,g8,N,z,ad,ae,D2,gd,A⟩
   . obtain rfl:=X.o (b 7 Bq);clear b ai;refine BG J λK2 aa=>?_;go_simp;exact aa _ _ ⟨_,_,_,_,_,_,_,_,_,_,_,_,_,J,P,R,g2,S,T,t,U,Z λ_=>rfl,Z λ_=>rfl,N,z,ad,ae,D2,gd,A⟩
   . obtain rfl:=g2.o (b 2 Bq);obtain rfl:=S.o (b 3 Bq);obtain rfl:=g8.o (b 8 Bq);have fm:¬(f+1=i):=Y
     clear b ai;refine BG J λK2 aa=>?_;go_simp;exact aa _ _ ⟨_,_,_,_,_,_,_,_,_,_,_,_,_,J,P,R,Z λ_=>rfl,Z λ_=>rfl,T,t,U,X,Z λ_=>rfl,Z λ_=>rfl,z,ad,ae,D2,gd,A⟩
   . have b10:Boxed V B10 23 (C (some ⟨gZ,0,none⟩) lb (lb+1)):=by have:=A.h.b10;rw[hc]at this;exact this
     have k0:=b10.cell;clear b ai;refine BG J λK2 aa=>?_;go_simp;exact aa _ _ ⟨_,_,_,_,_,_,_,_,_,_,_,_,_,J,P,R,g2,S,T,t,U,X,g8,N,Z λ_=>rfl,ad,ae,D2,gd,A⟩
   . obtain rfl:=N.o (b 9 Bq);obtain rfl:=z.o (b 10 Bq);rw[ah]at A;have hr:Bs V gR D:=by have:=A.r;rw[hc]at this;exact this
     have hz:Bs V gZ Zb:=by have:=A.h.z;rw[hc]at this;exact this
     have HV:=Z A;clear A;clear b ai;refine BG J λK2 aa=>?_;go_simp;gi_wp2_with(refine⟨trivial,?_⟩;gi_at_call 115;refine(Ul.o _ _ hr hz).mono ?_;rintro e w5 ⟨q,rfl,⟨dx,dz,e6⟩,hA5,bn⟩)
     exact⟨_,_,_,_,_,_,_,_,_,_,_,_,_,J,P,R,g2,S,T,t,U,X,g8,Z λ_=>rfl,Z λ_=>rfl,Z λ_=>rfl,ae,Bw D i (lb+1) q,Z λ_=>⟨q,⟨dx,dz,e6⟩,J⟩,SplM.split (HV.o.any _) Ue (by rw[hc];exact bn) (by rw[hc];exact hA5)⟩
   . obtain rfl:=P.o (b 0 Bq);obtain rfl:=R.o (b 1 Bq);clear b ai;refine BG J λK2 aa=>?_;go_simp;exact aa _ _ (E8 ⟨_,_,_,_,_,J,Z λ_=>rfl,Z λ_=>rfl,g2,S,T,t,U,X,g8,N,z,ad,Z λ_=>rfl,D2,gd,A⟩)
   . obtain rfl:=ad.o (b 11 Bq);obtain rfl:=ae.o (b 12 Bq);rw[ah]at A;have Qk:Bs V o.heap.size Q:=by have:=A.q;rw[hc]at this;exact this
     have k0:=Qk.cell (j:=i) Y;have f0:=Qk.frozen i;have Ql:SplM c W D D2 Q (Q.set i qd) (DD 11) true (V.setCell ⟨o.heap.size,i,none⟩ (F G (qd:Nat))):=by have:=A.store Ue (j:=i) (v:=qd) J;rw[hc]at this ⊢;exact this
     have Qo:=Z Ql;clear Ql A;clear b ai;refine BG J λK2 aa=>?_;go_simp;exact aa _ _ ⟨_,_,_,_,_,_,_,_,_,_,_,_,_,J,P,R,g2,S,T,t,U,X,g8,N,z,Z λ_=>rfl,Z λ_=>rfl,D2,gd,Qo.o⟩
 case done=>
  rintro D W hD ⟨hh,D2,Q2,ak,ei,hL⟩ aa;rw[AU]at hL;obtain⟨f1,f2⟩:=hL.fin J J;have b11:Boxed W (o.heap.size+1) 23 (C (some ⟨o.heap.size,0,none⟩) K K):=by have:=hh.b11;rw[hc]at this;exact this
  have b9:Boxed W B9 23 (C (some ⟨gR,0,none⟩) (f+1) (f+1)):=by have:=hh.b9;rw[hc]at this;exact this
  have Uj:Bl w W:=by have:=hh.B;rw[hc]at this;exact this
  have hr:Bs W gR D2:=by have:=ak;rw[hc]at this;exact this
  have Qk:Bs W o.heap.size Q2:=by have:=ei;rw[hc]at this;exact this
  have Qi:=Qm.o;have Qd:Row G W (C (some ⟨o.heap.size,0,none⟩) K K) Q2:=by
   have h1:=Qk.row 0 K K (by rw[hL.2.2.1];omega) (Aa _) Y Y;rwa[Ap,Ab (by rw[hL.2.2.1];exact Aa _)]at h1
  have Qe:Row G W (C (some ⟨gR,0,none⟩) (f+1) (f+1)) D2:=by
   have h1:=hr.row 0 (f+1) (f+1) (by rw[hL.1];omega) (Aa _) Y Y;rwa[Ap,Ab (by rw[hL.1];omega)]at h1
  have HT:=Z (show ∀V:H,Bl W V->Calls L 73 #[C (some ⟨o.heap.size,0,none⟩) K K] V λe w'=>∃u,e=.returned u/\UN w' u (m/n)/\Bl V w' from λV h=>by
   have h1:=J0 _ Q2 V (Row.below Qd h);rw[f1]at h1;exact h1)
  have Uy:=Z (show ∀V:H,Bl W V->Calls L 116 #[C (some ⟨gR,0,none⟩) (f+1) (f+1),F G (s:Nat)] V λe w'=>∃u,e=.returned u/\UN w' u (m%n)/\Bl V w' from λV h=>by
   have h1:=KW _ _ _ D2 s V hs (Row.below Qe h) hL.2.1;rw[f2,Nat.mul_div_cancel _ (AE s)]at h1;exact h1)
  have l9:=b9.lt;have Uk:=b11.cell;have k9:=b9.cell;clear hL f1 f2 Qd Qe hr Qk hh ak ei Uc Uh Qz Qu Qi;go_upto_region 13 with fail
  have r:Bl W W.drew:=(BC _ W).drew;go_region_held3 (λw'=>w'.cell? ⟨o.heap.size+1,0,none⟩=some (C (some ⟨o.heap.size,0,none⟩) K K)/\w'.cell? ⟨B9,0,none⟩=some (C (some ⟨gR,0,none⟩) (f+1) (f+1))) (refine⟨?_,?_⟩<;>(first|(go_keep;done)|(simp[*];done)))
   (first
    |(go_at_call 73;refine(HT.o _ r).mono ?_;rintro e w5 ⟨u5,rfl,ew,am⟩;obtain⟨ua,uc,rfl⟩:=UN.form ew;have r:=Bt r am;have Uk:=(Jm b11 r).cell;have k9:=(Jm b9 r).cell)
    |(go_at_call 116;refine(Uy.o _ r).mono ?_;rintro e w6 ⟨u6,rfl,f5,ek⟩;obtain⟨va,vc,rfl⟩:=UN.form f5;have r:=Bt r ek;have Uk:=(Jm b11 r).cell;have k9:=(Jm b9 r).cell))
  all_goals go_wp2_with fail
  have Qq:w6.heap[D]?=some (.deferred (some [])):=(r.block D (Ac.1 aa).1).trans aa;refine⟨Bq,.inl ⟨_,_,J,BW Qq,?_⟩⟩;refine⟨.tuple #[C ua (Jb O (m/n)).length uc,C va (Jb O (m%n)).length vc],by simp[results,results84,go_sem],_,_,J,Em (UN.below ew ek) Qq,Em f5 Qq,?_⟩;exact below_grown (Bt Uj r) (BT _ D (.deferred none)) (by have:=Um.size;omega)
end
section
variable{a:Ja}{P d g l:Nat}{u:Value}{W:H}
def Ey(a:MD)(c f:Nat)(b:MD)(lb g m n:Nat)(w:H)(k:Row G w (C a c f) (Jb O m))(o:Row G w (C b lb g) (Jb O n))(hn:n≠0)(X:c<1099511627776):
 Calls L 84 #[C a c f,C b lb g] w λe p=>∃u v,e=.returned (.tuple #[u,v])/\UN p u (m/n)/\UN p v (m%n)/\Bl w p:=by
 obtain⟨W,aa,aj,ag,ae⟩:=Jj k;obtain⟨j,ad,ak,ah,V⟩:=Jj o;have ai:lb≠0:=λe=>hn ((Jo Jc).1 (Ad (by rw[<-j,e])));by_cases Q:c<lb
 . exact KX a c f b lb g m n w k o Q
 . by_cases R:lb=1
   . subst R;exact KZ a c f b g m n w k o Y
   . obtain⟨l,rfl⟩:∃l,lb=l+2:=⟨lb-2,Y⟩;obtain⟨B,D,rfl,U,kb⟩:=V (l+1) Y;have q:=Jf Jc n;have t:(Jb O n)[l+1]?.getD 0≠0:=by
      intro e;have S:=Jh O (Jb O n) (l+1);rw[Ab Y,e,AQ,AJ,Je Jc]at S;have h4:=JR q (l+1);have r:=J5 Jc j.symm Y;rw[show l+2-1=l+1 from J]at r;omega
     have i:(Jb O n)[l+1]?.getD 0<O:=q.getD uo _;obtain⟨d,x⟩:=ex ((Jb O n)[l+1]?.getD 0);rw[x]at kb t i;obtain⟨K,N,P⟩:=bitLen_spec d t (by rw[<-Xj];exact i);have T:Lib.bitLen d<=64:=by
      rcases AG 64 (Lib.bitLen d)with h|h
      . exfalso
        have r:2^64<=2^(Lib.bitLen d-1):=Ak Y Y;rw[Xj]at i;omega
      . exact h
     obtain⟨y,z⟩:=GQ (s:=64-Lib.bitLen d) q j.symm x N P K T J;rw[Je Jc]at y z;have hm:m<O^c:=by
      have:=JI (Jf Jc m);rwa[Je Jc,<-W]at this
     have A:O^(l+1)<=n:=J5 Jc j.symm Y;exact LO a c f B D l (l+2) (l+1) g m n d (64-Lib.bitLen d) w J Y U k o kb i Y (show _=_ by omega) Y X y z (LL hm A Y)
theorem XG{p:Nat}(a:p≠0)(h:p<O):Jb O p=[p]:=by
 grind[Yj,AX,AC,Jn]
def LP(a:MD)(t:Nat)(b:MD)(lb v x y:Nat)(w:H)(d:Row G w (C a 1 t) (Jb O x))(r:Row G w (C b lb v) (Jb O y))(B:y<O):
 Calls L 102 #[C a 1 t,C b lb v] w λe D=>∃u,e=.returned u/\UN D u (Nat.gcd x y)/\Bl w D:=by
 obtain⟨n,ad,aj,ag,l⟩:=Jj d;obtain⟨c,ae,ak,ah,m⟩:=Jj r;obtain⟨o,am,T⟩:=Xk n.symm;rcases Am lb with z|z
 . subst z;have k:=(Jo Jc).1 (Ad c.symm);subst k;have N:=Z d;clear l m n c d r o;go_enter func102,ntmps102
   go_wp2_with fail
   go_ret;exact⟨_,J,by rw[Nat.gcd_zero_right];exact N.o,BC _ w⟩
 . have k:y≠0:=λe=>by rw[e,Jn]at c;simp at c;omega
   have i:=XG k B;obtain rfl:lb=1:=by rw[c,i];rfl
   obtain⟨P,Q,rfl,X,ka⟩:=l 0 Y;obtain⟨R,S,rfl,aa,kb⟩:=m 0 Y;rw[o]at ka;rw[i]at kb;have an:w.cell? ⟨P,Q,none⟩=some (F G (x:Nat)):=ka;have ap:w.cell? ⟨R,S,none⟩=some (F G (y:Nat)):=kb;clear l m n c d r o i ka kb;go_enter func102,ntmps102
   go_upto_region 3 with fail
   go_quiet (fail)
   go_wp2_with fail
   go_loopw [5,6] (λW s wr=>∃(p q j:Nat),W=F G (p:Nat)/\s=F G (q:Nat)/\p<O/\q<O/\p≠0/\Hid (Nat.gcd p q=Nat.gcd x y)/\wr=w.drewN j) (λ_ s _=>(intOf s).toNat)
   case atStart=>exact⟨x,y,_,J,J,T,B,Y,Z J,J⟩
   case round=>
    obtain⟨p,q,j,rfl,rfl,hp,V,U,g,rfl⟩:=hrel;by_cases A:q=0
    . subst A;have f:=Z (show p=Nat.gcd x y by rw[<-g.o,Nat.gcd_zero_right]);have K:=Z (XG U hp);clear g;go_wp2_with fail
      go_ret;refine⟨C (some ⟨w.heap.size,0,none⟩) 1 1,J,?_,(XF (BC _ w) _).alloc (Aa _) _⟩;unfold UN;rw[<-f.o,K.o];exact(Bs.made (xs:=[p]) (BD (w.drewN j) (.cells #[F G (p:Nat)] 94))).row 0 1 1 Bq Y Y Y
    . have f:=Z (show Nat.gcd q (p%q)=Nat.gcd x y by rw[<-g.o,Cw q,<-Nat.gcd_rec,Cw]);have ai:=Ar p (show q>0 by omega);go_upto_region 5 with fail
      go_quiet (fail)
      go_wp2_with fail
      exact⟨⟨q,p%q,j+nq,J,Bq,V,Y,A,f,Bq⟩,by simp[intOf];omega⟩
def DA(W:H)(c:Nat)(u:Value)(g l b P:Nat)(a:Ja):Prop:=
 u=C (some ⟨g,0,none⟩) l b/\Bs W g a/\Br O a/\l<=a.length/\l<=b/\b<=9223372036854775807/\l<=1099511627776/\a.take l=Jb O P/\c<=g
def DA.below{W W':H}{a g l b P:Nat}{u:Value}{c:Ja}(h:DA W a u g l b P c)(d:Bl W W'):DA W' a u g l b P c:=
 ⟨h.1,h.2.1.below d,h.2.2⟩
def DA.un{b:Nat}(h:DA W d u g l b P a):UN W u P:=by
 obtain⟨rfl,c,k,m,e,f,i,j,n⟩:=h;have:=c.row 0 l b Y e f i;rw[Ap,j]at this;exact this
theorem LQ{ds:Ja}(f:Bs W g a)(m:Row G W (C (some ⟨g,0,none⟩) l d) ds)(hl:l<=a.length):a.take l=ds:=by
 obtain⟨n,_,_,_,c⟩:=Jj m;apply List.ext_getElem?;intro j;by_cases k:j<l
 . obtain⟨b,o,e,_,i⟩:=c j k;cases e;rw[A8,f.cell Y]at i;grind
 grind
def GS(a:MD)(c q:Nat)(b:MD)(lb r:Nat)(d f:Ja)(w:H)(X:Br O d)(xb:Br O f)(U:c+lb<=1099511627776)
(s:Row G w (C a c q) d)(t:Row G w (C b lb r) f):
 Calls L 86 #[C a c q,C b lb r] w λe v=>∃u,e=.returned u/\UN v u (val O d*val O f)/\(val O d*val O f≠0->∃g l W n,DA v w.heap.size u g l W (val O d*val O f) n)/\Bl w v:=by
 have z:=Xa (c+lb) Y w;rw[show((c+lb:Nat):Int)=(c:Int)+(lb:Int)from by omega]at z;obtain⟨j,m⟩:∃j,j=w.alloc (.cells (cellsOf G (MF (c+lb) 0)).toArray 94):=⟨_,J⟩;have o:Bl w j:=by rw[m];exact Ba w _
 have y:Bs j w.heap.size (MF (c+lb) 0):=by rw[m];exact Bs.made (BD w _)
 rw[<-m]at z;have P:=Z (KH w.heap.size (c+lb) (c+lb) (MF (c+lb) 0) a c q b lb r d f j X xb y (λx V=>by rw[Cx V];unfold O;omega) B5 (Aa _) Y U (Row.below s o) (Row.below t o)
  (λp e k=>by have:=X1 s e k;omega) λp e k=>by have:=X1 t e k;omega)
 clear m y s t;go_enter func86,ntmps86
 go_wp2_with(go_at_call 105;refine P.o.mono ?_;rintro e w5 ⟨u,rfl,⟨i,T⟩,S,n,K,R,N⟩;obtain⟨ua,uc,rfl⟩:=UN.form i)
 go_ret;refine⟨_,J,i,λk=>?_,below_grown o T (Aa _)⟩;have Q:(Jb O (val O d*val O f)).length≠0:=λe=>k ((Jo Jc).1 (Ad e));rcases S with e|⟨l,e⟩
 . injection e with A B D
   exact absurd B Q
 . injection e with A B D
   subst A;subst D;rw[A0]at N;have hl:(Jb O (val O d*val O f)).length<=n.length:=by rw[N];exact(Jj i).2.1
   exact⟨_,_,_,n,J,K,R,hl,(Jj i).2.1,(Jj i).2.2.1,(Jj i).2.2.2.1,LQ K i hl,Aa _⟩
theorem GT{j Q:Nat}(h:DA W d u g l j P a)(b:MD)(lb i:Nat)(n:UN W (C b lb i) Q)(z:Q<=P)(D:∀p,b=some p->0<lb->p.block≠g):
 Calls L 107 #[u,C b lb i] W λe k=>∃c q,e=.returned (F G (c:Nat))/\(Row G k u q/\Ji q=Jb O (P-Q))/\W.grownBy k (some g):=by
 obtain⟨rfl,s,t,K,m,v,w,N,R⟩:=h;have hl:l=(Jb O P).length:=B5
 have r:=(Jj n).1;refine(Fb g 0 l j a b lb i (Jb O Q) W s t Y m Y (by rw[hl,r];exact J9 z) n (Jf Jc Q) D).mono ?_;rintro e k ⟨c,q,rfl,f,y,A⟩;have B:Bw a 0 l q=q++a.drop l:=by rw[Bw,CR,Aj,A8]
 have o:=f.1;refine⟨c,q,J,⟨?_,?_⟩,A⟩
 . have x:=y.row 0 l j B5 m v w;rwa[B,Ap,AN Y,Ab Y]at x
 . have hs:YX (Jb O P) (Jb O Q) 0 l c q:=by
    refine⟨o,f.2.1,f.2.2.1,?_⟩;have:=f.2.2.2;grind
   grind[Fc,J9]
def GU{w V a:H}{o:Obj}(h:Bl w V)(k:Below (V.alloc o).heap.size (V.alloc o) a):Bl w a:=(h.alloc h.size o).trans (k.mono (h.alloc h.size o).size)
def GV(x:Nat):val O [x]=x:=by rw[JC,X6,AQ,AJ]
theorem GW(v t:Nat)(a:MD)(la ca:Nat)(b:MD)(lb cb ae B:Nat)(w:H)(ra:Row G w (C a la ca) (Jb O ae))(rb:Row G w (C b lb cb) (Jb O B))(bt:v<O)(bu:t<O)(cg:la<1099511627776)(ci:lb<1099511627776)(h0:t*B≠0):
 Calls L 101 #[.agg #[F G (v:Nat),F G (t:Nat)],C a la ca,C b lb cb] w λe w'=>∃u,e=.returned u/\UN w' u (Yu (v*ae) (t*B))/\Bl w w':=by
 obtain⟨W0,aq⟩:=ex (w.alloc (.cells #[F G (v:Nat),F G (t:Nat)] 124));have Qa:Bl w W0:=by rw[<-aq];exact Ba w _
 have bx:Jd W0 w.heap.size 124 (F G (v:Nat)) (F G (t:Nat)):=by rw[<-aq];exact Jd.new w _ _ _
 have Qp:=Z (show ∀(V:H) (g:Nat),Bl W0 V->Bs V g [v]->Calls L 86 #[C a la ca,C (some ⟨g,0,none⟩) 1 1] V λe w'=>∃u,e=.returned u/\UN w' u (v*ae)/\(v*ae≠0->∃g l rc zs,DA w' V.heap.size u g l rc (v*ae) zs)/\Bl V w' from λV g h hA=>by
  have o:=GS a la ca (some ⟨g,0,none⟩) 1 1 (Jb O ae) [v] V (Jf Jc ae) (Br.cons bt (Br.nil _)) Y (Row.below (Row.below ra Qa) h) (hA.row 0 1 1 Bq Y Y Y);rw[GV,Je Jc,Al ae v]at o;exact o)
 have Qo:=Z (show ∀(V:H) (g:Nat),Bl W0 V->Bs V g [t]->Calls L 86 #[C b lb cb,C (some ⟨g,0,none⟩) 1 1] V λe w'=>∃u,e=.returned u/\UN w' u (t*B)/\(t*B≠0->∃g l rc zs,DA w' V.heap.size u g l rc (t*B) zs)/\Bl V w' from λV g h hA=>by
  have o:=GS b lb cb (some ⟨g,0,none⟩) 1 1 (Jb O B) [t] V (Jf Jc B) (Br.cons bu (Br.nil _)) Y (Row.below (Row.below rb Qa) h) (hA.row 0 1 1 Bq Y Y Y);rw[GV,Je Jc,Al B t]at o;exact o)
 have Qq:=Z aq;clear aq ra rb;generalize v*ae=n at *;generalize t*B=X at *;go_enter func101,ntmps101
 go_upto_region 1 with fail
 rw[Qq.o];refine YF DM [[],[],[1],[2],[0,3],[],[],[6],[7],[5,8,4],[4,9,0,1,2,3,4],[9,10,0,1,2,3,4,5,6,7,8,9,10]] ME Bz (λf ac V=>∃t7 t8 t9 aw ay az ag bc bd bf bg an:Value,ac={ tmps:=#[.agg #[F G (v:Nat),F G (t:Nat)],C a la ca,C b lb cb,I (some ⟨w.heap.size,0,none⟩),E,E,C none 0 0,t7,t8,t9,aw,ay,az,ag,bc,bd,bf,bg,an,E,E,E,E,E,E,E,E,E,E,E],defers:=[] }/\Hid (f 0=true->t9=C a la ca)/\Hid (f 1=true->aw=I (some ⟨w.heap.size,0,none⟩))/\Hid (f 2=true->ay=F G (v:Nat))/\Hid (f 3=true->∃g,az=C (some ⟨g,0,none⟩) 1 1/\Bs V g [v])/\Hid (f 4=true->UN V ag n/\(n≠0->∃d x y z,DA V W0.heap.size ag d x y n z))/\Hid (f 5=true->bc=C b lb cb)/\Hid (f 6=true->bd=I (some ⟨w.heap.size,1,none⟩))/\Hid (f 7=true->bf=F G (t:Nat))/\Hid (f 8=true->∃g,bg=C (some ⟨g,0,none⟩) 1 1/\Bs V g [t])/\Hid (f 9=true->∃m l2 ah ai,DA V W0.heap.size an m l2 ah X ai/\UN V ag n/\(n≠0->∃d x y z,DA V W0.heap.size ag d x y n z/\d≠m))/\Hid (f 10=true->t7=ag)/\Hid (f 11=true->t8=an)/\Bl W0 V)
  (E8 ⟨_,_,_,_,J,Z B7,Z B7,Z B7,Z B7,Z B7,Z B7,Z B7,Z B7,Z B7,Z B7,Z B7,Z B7,(BC _ W0).drew⟩) ?step1 ?fin1
 case step1=>
  rintro f a2 V i ds s bj k ad ⟨t7,t8,t9,aw,ay,az,ag,bc,bd,bf,bg,an,rfl,A,d,m,P,Q,R,S,T,U,W,D,N,j⟩;have Qm:i<12:=(AO.1 bj).1;obtain rfl|rfl|rfl|rfl|rfl|rfl|rfl|rfl|rfl|rfl|rfl|rfl:=DX i Y
  all_goals
   simp only[Ck,Ca,Cl]at bj;subst bj;clear Qm
  . clear k s;refine C2 ?_;exact⟨Z λ_=>rfl,d,m,P,Q,R,S,T,U,W,D,N,j⟩
  . clear k s;refine C2 ?_;exact⟨A,Z λ_=>rfl,m,P,Q,R,S,T,U,W,D,N,j⟩
  . obtain rfl:=d.o (k 1 Bq);have k0:=(bx.below j).c0;clear k s;refine C2 ?_;exact⟨A,Z λ_=>rfl,Z λ_=>rfl,P,Q,R,S,T,U,W,D,N,j⟩
  . have Qr:f 4=false:=by
     cases h:f 4 with
     |false=>rfl
     |true=>rw[s 4 _ J h 3 Bq]at ad;cases ad
    obtain rfl:=m.o (k 2 Bq);clear k s;refine C2 ?_;exact⟨A,d,Z λ_=>rfl,Z λ_=>⟨_,J,Bs.made (xs:=[v]) (BD V _)⟩,Z (λh=>by simp[Qr]at h),R,S,T,Z (λh=>by obtain⟨g,e,q⟩:=U.o h;exact⟨g,e,q.below (Ba V _)⟩),Z (λh=>by obtain⟨m,l2,ah,ai,q1,q2,q3⟩:=W.o h;exact⟨m,l2,ah,ai,q1.below (Ba V _),q2.below (Ba V _),λo=>by obtain⟨d,x,y,z,q,q4⟩:=q3 o;exact⟨d,x,y,z,q.below (Ba V _),q4⟩⟩),D,N,j.alloc j.size _⟩
  . have Qk:f 9=false:=by
     cases h:f 9 with
     |false=>rfl
     |true=>rw[s 9 _ J h 4 Bq]at ad;cases ad
    have Qn:f 10=false:=by
     cases h:f 10 with
     |false=>rfl
     |true=>rw[s 10 _ J h 4 Bq]at ad;cases ad
    obtain rfl:=A.o (k 0 Bq);obtain⟨gm,rfl,ak⟩:=P.o (k 3 Bq);clear k s;refine Jv J J λK hK=>?_;go_simp;go_wp2_with(go_at_call 86;refine(Qp.o _ _ j ak).mono ?_;rintro e w5 ⟨u5,rfl,bn,bk,aa⟩)
    exact E8 ⟨_,_,_,_,J,Z λ_=>rfl,d,m,Z λ_=>⟨gm,J,ak.below aa⟩,Z λ_=>⟨bn,λo=>by obtain⟨d,x,y,z,q⟩:=bk o;exact⟨d,x,y,z,q.1,q.2.1,q.2.2.1,q.2.2.2.1,q.2.2.2.2.1,q.2.2.2.2.2.1,q.2.2.2.2.2.2.1,q.2.2.2.2.2.2.2.1,A1 j.size q.2.2.2.2.2.2.2.2⟩⟩,R,S,T,Z (λh=>by obtain⟨g,e,q⟩:=U.o h;exact⟨g,e,q.below (aa)⟩),Z (λh=>by simp[Qk]at h),Z (λh=>by simp[Qn]at h),N,Bt j aa⟩
  . clear k s;refine C2 ?_;exact⟨A,d,m,P,Q,Z λ_=>rfl,S,T,U,W,D,N,j⟩
  . clear k s;refine C2 ?_;exact⟨A,d,m,P,Q,R,Z λ_=>rfl,T,U,W,D,N,j⟩
  . obtain rfl:=S.o (k 6 Bq);have k0:=(bx.below j).c1;clear k s;refine C2 ?_;exact⟨A,d,m,P,Q,R,Z λ_=>rfl,Z λ_=>rfl,U,W,D,N,j⟩
  . have Qk:f 9=false:=by
     cases h:f 9 with
     |false=>rfl
     |true=>rw[s 9 _ J h 8 Bq]at ad;cases ad
    obtain rfl:=T.o (k 7 Bq);clear k s;refine C2 ?_;exact⟨A,d,m,Z (λh=>by obtain⟨g,e,q⟩:=P.o h;exact⟨g,e,q.below (Ba V _)⟩),Z (λh=>by obtain⟨q1,q2⟩:=Q.o h;exact⟨q1.below (Ba V _),λo=>by obtain⟨d,x,y,z,q⟩:=q2 o;exact⟨d,x,y,z,q.below (Ba V _)⟩⟩),R,S,Z λ_=>rfl,Z λ_=>⟨_,J,Bs.made (xs:=[t]) (BD V _)⟩,Z (λh=>by simp[Qk]at h),D,N,j.alloc j.size _⟩
  . have Ql:f 11=false:=by
     cases h:f 11 with
     |false=>rfl
     |true=>rw[s 11 _ J h 9 Bq]at ad;cases ad
    obtain rfl:=R.o (k 5 Bq);obtain⟨gm,rfl,ak⟩:=U.o (k 8 Bq);obtain⟨p1,p2⟩:=Q.o (k 4 Bq);clear k s;refine Jv J J λK hK=>?_;go_simp;go_wp2_with(go_at_call 86;refine(Qo.o _ _ j ak).mono ?_;rintro e w5 ⟨u5,rfl,bn,bk,aa⟩)
    exact⟨_,_,_,_,_,_,_,_,_,_,_,_,J,A,d,m,Z (λh=>by obtain⟨g,e,q⟩:=P.o h;exact⟨g,e,q.below (aa)⟩),Z (λh=>by obtain⟨q1,q2⟩:=Q.o h;exact⟨q1.below (aa),λo=>by obtain⟨d,x,y,z,q⟩:=q2 o;exact⟨d,x,y,z,q.below (aa)⟩⟩),Z λ_=>rfl,S,T,Z λ_=>⟨gm,J,ak.below aa⟩,Z (λ_=>by obtain⟨m,l2,ah,ai,q⟩:=bk h0;exact⟨m,l2,ah,ai,⟨q.1,q.2.1,q.2.2.1,q.2.2.2.1,q.2.2.2.2.1,q.2.2.2.2.2.1,q.2.2.2.2.2.2.1,q.2.2.2.2.2.2.2.1,A1 j.size q.2.2.2.2.2.2.2.2⟩,p1.below aa,λo=>by obtain⟨d,x,y,z,r⟩:=p2 o;exact⟨d,x,y,z,r.below aa,by have:=r.2.1.lt;have:=q.2.2.2.2.2.2.2.2;omega⟩⟩),D,Z (λh=>by simp[Ql]at h),Bt j aa⟩
  . clear k s;refine C2 ?_;exact⟨A,d,m,P,Q,R,S,T,U,W,Z λ_=>rfl,N,j⟩
  . clear k s;refine C2 ?_;exact⟨A,d,m,P,Q,R,S,T,U,W,D,Z λ_=>rfl,j⟩
 rintro f bz V1 ap ⟨t7,t8,t9,aw,ay,az,ag,bc,bd,bf,bg,an,rfl,A,d,m,P,Q,R,S,T,U,W,D,N,j⟩;obtain⟨gB,l2,ah,ai,o2,am,o1⟩:=W.o (ap 9 Bz);obtain rfl:=D.o (ap 10 Bz);obtain rfl:=N.o (ap 11 Bz);obtain⟨a1,c1,rfl⟩:=UN.form am;have Qd:=o2.un;obtain⟨a2,c2,rfl⟩:=UN.form Qd;clear A d m P Q R S T U W D N ap Qp Qo;have Qi:∀p,a1=some p->0<(Jb O n).length->p.block≠gB:=λp e o=>by
  have hp:n≠0:=λe0=>by rw[e0,Jn]at o;simp at o
  obtain⟨d,x,y,z,r,r2⟩:=o1 hp;have:=r.1;grind
 have HO:=Z (Ec _ _ (Jb O n) (Jb O X) V1 am Qd (Jf Jc n) (Jf Jc X) (JJ Jc n) (JJ Jc X));rw[Je Jc,Je Jc]at HO;have Qg:=Bt Qa j;have Qj:=o2.2.2.2.2.2.2.2.2;by_cases bp:n<X
 . have Qb:=YB bp;rw[Qb]at HO;have Qf:=Z λ(V:H) (h:Bl V1 V)=>GT (o2.below h) a1 (Jb O n).length c1 (am.below h) Y Qi;have HD:=Z (show X-n=Yu n X by unfold Yu;omega);clear Qb am Qd o1 Qi;go_upto_region 4 with(go_at_call 72;refine HO.o.mono ?_;rintro e w2 ⟨rfl,aj⟩)
   go_upto_region 5 with(go_at_call 107;refine(Qf.o _ aj).mono ?_;rintro e w3 ⟨c,q,rfl,⟨hr,bm⟩,bi⟩)
   have Qc:=Z (J0 _ q _ hr);rw[bm,HD.o]at Qc;clear Qf HO;go_wp2_with(go_at_call 73;refine Qc.o.mono ?_;rintro e w4 ⟨u,rfl,hu,bh⟩;obtain⟨ua,uc,rfl⟩:=UN.form hu)
   go_ret;have Qe:=below_grown (Bt Qg aj) bi (A1 Qa.size Qj);exact⟨_,J,hu,Bt Qe bh⟩
 . obtain⟨cm,Qb,ce⟩:∃cm:Int,J3 n X=cm/\¬(cm<0):=⟨_,J,by unfold J3;omega⟩;rw[Qb]at HO;obtain⟨d,x,y,z,r,r2⟩:=o1 Y;have Qh:=r.2.2.2.2.2.2.2.2;have Qf:=Z (λ(V:H) (h:Bl V1 V)=>GT (r.below h) a2 (Jb O X).length c2 (Qd.below h) Y (λp e _=>by
    have:=o2.1;grind))
   have HD:=Z (show n-X=Yu n X by unfold Yu;omega);clear Qb am Qd o1 Qi;go_upto_region 4 with(go_at_call 72;refine HO.o.mono ?_;rintro e w2 ⟨rfl,aj⟩)
   go_upto_region 5 with(go_at_call 107;refine(Qf.o _ aj).mono ?_;rintro e w3 ⟨c,q,rfl,⟨hr,bm⟩,bi⟩)
   have Qc:=Z (J0 _ q _ hr);rw[bm,HD.o]at Qc;clear Qf HO;go_wp2_with(go_at_call 73;refine Qc.o.mono ?_;rintro e w4 ⟨u,rfl,hu,bh⟩;obtain⟨ua,uc,rfl⟩:=UN.form hu)
   go_ret;have Qe:=below_grown (Bt Qg aj) bi (A1 Qa.size Qh);exact⟨_,J,hu,Bt Qe bh⟩
end
def Xd(x k s:Nat):Nat:=x/(O^k*2^(64-s))
variable{a:Ja}{k s:Nat}
def LR(hl:a.length=k+2)(b:Br O a)(hs:s<=63)(f:a[k+1]?.getD 0<2^(64-s)):
 Xd (val O a) k s=C0 (a[k+1]?.getD 0) s+CY (a[k]?.getD 0) (64-s)/\C0 (a[k+1]?.getD 0) s ||| CY (a[k]?.getD 0) (64-s)=C0 (a[k+1]?.getD 0) s+CY (a[k]?.getD 0) (64-s):=by
 have g:=GO hl;have c:=JR b k;have i:=b.getD (show 0<O by unfold O;omega) k;have hp:=Xb (s:=s) Y;have e:C0 (a[k+1]?.getD 0) s=a[k+1]?.getD 0*2^s:=by rw[Dc Y,AX f]
 rw[e];have d:CY (a[k]?.getD 0) (64-s)<2^s:=by
  unfold CY;rw[Ah (AE _),hp];exact i
 refine⟨?_,by rw[Al,<-Co d]⟩;unfold Xd CY;rw[g,<-Nat.div_div_eq_div_mul,Al _ (O^k),Nat.mul_add_div (CO uo),AC c,AJ,<-hp,<-AZ,CH,Nat.add_mul_div_right _ _ (AE _)];omega
def LS(hl:a.length=k+1)(d:Br O a):Xd (val O a) k s=CY (a[k]?.getD 0) (64-s):=by
 have b:=Jh O a k;rw[Ab Y]at b;have c:=JR d k;unfold Xd CY;rw[b,<-Nat.div_div_eq_div_mul,CH,Nat.mul_add_div (CO uo),AC c,AJ]
def LT(hl:a.length<=k)(b:Br O a):Xd (val O a) k s=0:=by
 unfold Xd;apply AC;have c:=JI b;have d:O^a.length<=O^k:=Ak uo hl;have e:=A2 (O^k) (AE (64-s));omega
def GX(a:MD)(c u:Nat)(d:Ja)(k g f s:Nat)(w:H)(o:Row G w (C a c u) d)(p:Br O d)(r:f=k+2)(B:(f:Int)-1=g)(D:(f:Int)-2=k)(hs:s<=63)(U:c<=f)(W:f<=1099511627776)(n:c=f->d[k+1]?.getD 0<2^(64-s)):
 Calls L 125 #[C a c u,F M (f:Nat),F G (s:Nat)] w λe R=>e=.returned (F G (Xd (val O d) k s:Nat))/\Bl w R:=by
 obtain⟨hl,S,V,T,j⟩:=Jj o;have i1:M.wrap ((f:Int)-1)=(g:Int):=by rw[B];exact BH _ Y
 have i2:M.wrap ((f:Int)-2)=(k:Int):=by rw[D];exact BH _ Y
 have i3:M.wrap (g:Int)=(g:Int):=BH _ Y;have i4:M.wrap (k:Int)=(k:Int):=BH _ Y;have i5:G.wrap ((64:Int)-s)=((64-s:Nat):Int):=by rw[BK];omega
 have q:=Ej (d[k+1]?.getD 0) s;have z:=Ek (d[k]?.getD 0) (64-s);have l:=p.getD (show 0<O by unfold O;omega) k;have m:=El (show C0 (d[k+1]?.getD 0) s<O by unfold C0;exact Ar _ uo) (show CY (d[k]?.getD 0) (64-s)<O from Nat.lt_of_le_of_lt (Ct _ _) l);obtain rfl|X:=Decidable.em (c=f)
 . obtain⟨b,Q,rfl,N,c1⟩:=j (k+1) Y;obtain⟨_,_,A,_,c0⟩:=j k Y;cases A;obtain⟨v,x⟩:=LR Y p hs (n J);rw[x]at m;have i:=Z v;have t:g=k+1:=Y
   rw[<-t]at c1 q m i;have j1:(g:Int)<(c:Int):=Y
   have j2:(k:Int)<(c:Int):=Y
   have j3:(0:Int)<=(g:Int):=Y
   have j4:(0:Int)<=(k:Int):=Y
   have P:k<c:=Y
   clear t j o v x n hl r l;generalize d[g]?.getD 0=x1 at *;generalize d[k]?.getD 0=x0 at *;go_enter func125,ntmps125
   go_upto_region 3 with fail
   go_quiet (fail)
   go_wp2_with fail
   go_ret;refine⟨?_,XF (BC _ w) _⟩;rw[i.o];first|rfl|(simp;done)
 . by_cases K:c=g
   . subst K;obtain⟨b,Q,rfl,N,c0⟩:=j k Y;have i:=Z (LS (s:=s) (show d.length=k+1 by omega) p);have P:k<c:=Y
     have y:¬((c:Int)=(f:Int)):=Y
     clear j o n hl r l m q;generalize d[k]?.getD 0=x0 at *;go_enter func125,ntmps125
     go_wp2_with fail
     go_ret;refine⟨?_,BC _ w⟩;rw[i.o];first|rfl|(simp;done)
   . have i:=Z (LT (s:=s) (show d.length<=k by omega) p);have y:¬((c:Int)=(f:Int)):=Y
     have aa:¬((c:Int)=(g:Int)):=Y
     clear j o n hl r l q z m;go_enter func125,ntmps125
     go_wp2_with fail
     go_ret;refine⟨?_,BC _ w⟩;rw[i.o];first|rfl|(simp;done)

