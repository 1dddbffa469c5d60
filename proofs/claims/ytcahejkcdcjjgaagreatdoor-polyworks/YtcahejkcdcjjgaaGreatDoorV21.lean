import Derived.Test.YtcahejkcdcjjgaaGreatDoorV18
import Derived.Test.YtcahejkcdcjjgaaGreatDoorV04
set_option linter.all false
open Go.Value renaming slice->C,int->F,pointer->I
open Go renaming undef->E,World->H
open Go.IntKind renaming u64->G,i64->M
open Go.Proofs.Tryz renaming prog->L
set_option maxRecDepth 99999
set_option maxHeartbeats 0
namespace Go.Proofs.YtcahejkcdcjjgaaGreatDoor
open List renaming replicate->WC
open Proofs.Tryz
open Go.RowKit Go.Shelf
attribute [local go_sem] Oper.semAt_some
section
def Bq:=@IntWalk.u64_in
def BU:=@IntWalk.i64_in
variable{c ds xs:Ja}{B R V d0 d1 f g j l len n q r ro s u0:Nat}{v:Value}{w:H}
theorem Mu(h:ds.length=n+2):val Y ds=(ds[n+1]?.getD 0*Y+ds[n]?.getD 0)*Y^n+val Y (ds.take n):=by
 have a:=Jm Y ds (n+1);rw[Ac O,Jm,Ca]at a;rw[a];grind
theorem Ro(h:ds.length=n+3):val Y ds=((ds[n+2]?.getD 0*Y+ds[n+1]?.getD 0)*Y+ds[n]?.getD 0)*Y^n+val Y (ds.take n):=by
 have a:=Jm Y ds (n+2);rw[Ac O,Jm,Jm,Ca,Ca]at a;rw[a];grind
theorem J5(h:DK Y ds)(n:Nat):val Y (ds.take n)<Y^n:=by
 have:=J1 (h.take n);grind[Al,Ag,Y]
def Gd{a:H}(h:Below B a w)(n:Nat):Below B a (w.drewN n):=h.trans ⟨J,J,J,Aa _,λ_ _=>rfl⟩
theorem Mv(a:u0<Y)(h:Y5 q d0<r\/Y5 q d0=r/\J7 q d0<=u0):q*d0<=r*Y+u0:=by
 grind[Y5,J7,Y]
theorem Rp(b:u0<Y)(h:¬(Y5 q d0<r))(a:¬(Y5 q d0=r/\J7 q d0<=u0)):r*Y+u0<q*d0:=by
 grind[Y5,J7,Y]
theorem Rq{u2 u1 E:Nat}(b:R=((u2*Y+u1)*Y+u0)*E+f)(d:V=(d1*Y+d0)*E+j)(i:j<E)(e:Y<=2*d1)(g:d0<Y)(c:R<V*Y)(h:d1<=u2):Eo R V (Y-1):=by
 have a:d0*E+j<Y*E:=by
  have:=Ae E (show d0+1<=Y from g);grind
 refine PV (d1:=d1) (E:=Y*E) (lo:=(u2-d1)*(Y*(Y*E))+(u1*Y+u0)*E+f) (lo2:=d0*E+j) ?_ ?_ a e c Jc
 . obtain⟨t,rfl⟩:∃t,u2=d1+t:=⟨u2-d1,O⟩;rw[b,Nat.add_sub_cancel_left];grind
 . rw[d];grind
def Rr{U E:Nat}(a:R=(U*Y+u0)*E+f)(c:V=(d1*Y+d0)*E+j)(b:f<E)(d:j<E)(e:Y<=2*d1)(i:q<Y)(h:q=(U*Y+u0)/(d1*Y+d0)):Eo R V q:=by
 rw[h];have hp:0<d1:=by unfold Y at e;omega
 have g:=Cf Y hp;exact PU a c b d (by rw[<-h];omega) O
def Rs(l a j:Nat)(h1:(l:Int)-1=a)(h2:(l:Int)-2=j)(b i S T ca cb u2 u1 u0 d1 d0 R V:Nat)(w:H)(hl:l<=1099511627776)
(ka:w.cell? ⟨b,i+l,none⟩=some (F G (u2:Nat)))(ak:w.cell? ⟨b,i+a,none⟩=some (F G (u1:Nat)))(aj:w.cell? ⟨b,i+j,none⟩=some (F G (u0:Nat)))
(kb:w.cell? ⟨S,T+a,none⟩=some (F G (d1:Nat)))(bg:w.cell? ⟨S,T+j,none⟩=some (F G (d0:Nat)))(W:b<w.heap.size)
(ai:u1<Y)(K:u0<Y)(ad:d1<Y)(m:d0<Y)(ae:0<d1)
(HT:Hid (d1<=u2->Eo R V (Y-1)))(z:Hid (∀q:Nat,q<Y->q=((u2*Y+u1)*Y+u0)/(d1*Y+d0)->Eo R V q)):
 Calls L 198 #[C (some ⟨b,i,none⟩) (l+1) ca,C (some ⟨S,T,none⟩) l cb] w λe d=>∃g,e=.returned (F G (g:Nat))/\g<Y/\Eo R V g/\Bl w d:=by
 have i1:M.wrap ((l:Int)-1)=(a:Int):=by rw[h1];exact BU _ O
 have i2:M.wrap ((l:Int)-2)=(j:Int):=by rw[h2];exact BU _ O
 have j1:(a:Int)<(l:Int):=O
 have j2:(j:Int)<(l:Int):=O
 have j3:(a:Int)<(l:Int)+1:=O
 have j4:(j:Int)<(l:Int)+1:=O
 have i3:M.wrap (a:Int)=(a:Int):=BU _ O;have j5:a<l:=O
 have bc:a<l+1:=O
 have bd:a<=l:=O
 have bf:(a:Int)<=(l:Int):=O
 have j7:(l:Int)<(l:Int)+1:=O
 have j8:(0:Int)<=(l:Int):=O
 have j9:(0:Int)<=(a:Int):=O
 have az:(0:Int)<=(j:Int):=O
 have j6:j<l:=O
 go_enter func198,ntmps198
 go_upto_region 2 with fail
 go_quiet (fail)
 by_cases ah:d1<=u2
 . go_wp2_with fail
   go_ret;exact⟨Y-1,J,by unfold Y;omega,HT.o ah,Gd (BF _ w) _⟩
 . have A:=PR (B:=Y) (u:=u2*Y+u1) (u1:=u0) (d1:=d1) (d0:=d0) ae ad K (by
    have:=Ae Y (show u2+1<=d1 by omega);rw[Cm,C4]at this;omega)
   have Qd:=Z λV=>MY u2 u1 d1 O ai ad V;have Qf:=A.2.2.1;have Qe:=A.2.2.2;have f:=Z A;clear A HT;generalize hX:(u2*Y+u1)/d1=q0 at *;generalize hY:(u2*Y+u1)%d1=r0 at *;generalize hZ:u2*Y+u1=U at *;clear hX hY hZ;go_wp2_with fail
   have t:Bl w (w.drewN (nq+1)):=Gd (BF _ w) _;go_region_held3 (λd=>d.cell? ⟨b,i+l,none⟩=some (F G (u2:Nat))/\d.cell? ⟨b,i+a,none⟩=some (F G (u1:Nat))) (refine⟨?_,?_⟩<;>(first|(go_keep;done)|(simp[*];done)))
    (first|(go_at_call 164;refine(Qd.o _).mono ?_;rintro e w1 ⟨rfl,D⟩;have bj:=(D.cell (p:=⟨b,i+l,none⟩) (show b<w.heap.size from W)).trans ka;have bi:=(D.cell (p:=⟨b,i+a,none⟩) (show b<w.heap.size from W)).trans ak;have bh:=(D.cell (p:=⟨b,i+j,none⟩) (show b<w.heap.size from W)).trans aj))
   have t:Bl w w1:=Bt t D;go_wp2_with fail
   go_loopw [8,9] (λX rv wr=>∃(q r:Nat),X=F G (q:Nat)/\rv=F G (r:Nat)/\q<Y/\r<Y/\Hid (Hl Y U u0 d1 d0 q r)/\wr=w1)
    (λX _ _=>(intOf X).toNat)
   case atStart=>exact⟨q0,r0,J,J,Qf,Qe,f,J⟩
   case round=>
    clear Qd f;obtain⟨q,r,rfl,rfl,c,aq,f,rfl⟩:=hrel;have k:0<d1*Y:=DI ae uo;by_cases c1:Y5 q d0<r
    . have o:=Z (z.o q c (KJ f.o.1 f.o.2.1 k (Mv K (An c1))));clear k;go_wp2_with(first
       |(go_at_call 190;refine(FM _ _ c m _).mono ?_;rintro e d ⟨rfl,rfl⟩))
      go_ret;exact⟨q,J,c,o.o,t⟩
    . by_cases c2:Y5 q d0=r/\J7 q d0<=u0
      . have o:=Z (z.o q c (KJ f.o.1 f.o.2.1 k (Mv K (Ar c2))));obtain⟨c2,c3⟩:=c2;subst c2;clear k;go_wp2_with(first
         |(go_at_call 190;refine(FM _ _ c m _).mono ?_;rintro e d ⟨rfl,rfl⟩))
        go_ret;exact⟨q,J,c,o.o,t⟩
      . obtain⟨g1,v,x,g4⟩:=PS f.o k (Rp K c1 c2);obtain⟨p,hp⟩:=ex (q-1:Nat);rw[hp]at v x g4;have am:(q:Int)-1=(p:Int):=O
        have an:p<q:=O
        have ap:G.wrap (p:Int)=(p:Int):=by rw[BV];unfold Y at c;omega
        clear hp g1 f;have Q:=Hy r d1;have N:=Z (z.o p);clear z;by_cases n:r+d1<Y
        . have v1:Ya r d1 0=r+d1:=by unfold Ya;rw[AX,Ce n]
          have y:Yv r d1 0=0:=by unfold Yv;rw[AX,AV n]
          rw[v1,y]at Q;have P:=Z (show Hl Y U u0 d1 d0 p (r+d1)from⟨v,x,g4,n⟩);clear v x v1 y k N;obtain⟨s,hs⟩:=ex (r+d1);rw[hs]at Q P n;clear hs;by_cases c3:Y5 q d0=r
          . have c4:¬(J7 q d0<=u0):=λh=>c2 ⟨c3,h⟩;clear c2;go_wp2_with(first
             |(go_at_call 190;refine(FM _ _ c m _).mono ?_;rintro e d ⟨rfl,rfl⟩))
            exact⟨⟨p,s,J,J,g4,n,P,by first|trivial|rfl⟩,by simp[intOf];omega⟩
          . clear c2;go_wp2_with(first
             |(go_at_call 190;refine(FM _ _ c m _).mono ?_;rintro e d ⟨rfl,rfl⟩))
            exact⟨⟨p,s,J,J,g4,n,P,by first|trivial|rfl⟩,by simp[intOf];omega⟩
        . have o:=Z (N.o g4 (PT v x g4 m k O));have y:Yv r d1 0=1:=by unfold Yv;unfold Y at *;omega
          rw[y]at Q;generalize Ya r d1 0=s at *;clear v x y k N n;by_cases c3:Y5 q d0=r
          . have c4:¬(J7 q d0<=u0):=λh=>c2 ⟨c3,h⟩;clear c2;go_wp2_with(first
             |(go_at_call 190;refine(FM _ _ c m _).mono ?_;rintro e d ⟨rfl,rfl⟩))
            go_ret;exact⟨p,J,g4,o.o,t⟩
          . clear c2;go_wp2_with(first
             |(go_at_call 190;refine(FM _ _ c m _).mono ?_;rintro e d ⟨rfl,rfl⟩))
            go_ret;exact⟨p,J,g4,o.o,t⟩
def Rt(a b:V8)(n j k:Nat)(i bs:Ja)(w:H)(Q:Row G w (C a (n+3) j) i)(R:Row G w (C b (n+2) k) bs)(o:DK Y i)(f:DK Y bs)
(l:Y<=2*bs[n+1]?.getD 0)(y:val Y i<val Y bs*Y):
 Calls L 198 #[C a (n+3) j,C b (n+2) k] w λe S=>∃g,e=.returned (F G (g:Nat))/\g<Y/\Eo (val Y i) (val Y bs) g/\Bl w S:=by
 obtain⟨A,U,ad,W,m⟩:=Jn Q;obtain⟨B,V,ae,X,s⟩:=Jn R;obtain⟨t,u,rfl,z,ka⟩:=m (n+2) O;obtain⟨_,_,c,_,N⟩:=m (n+1) O;cases c;obtain⟨_,_,c,_,K⟩:=m n O;cases c;obtain⟨v,x,rfl,T,kb⟩:=s (n+1) O;obtain⟨_,_,c,_,P⟩:=s n O;cases c;have d:0<Y:=by unfold Y;omega
 have p:=Ro A.symm;have r:=Mu B.symm;exact Rs (n+2) (n+1) n O O t u v x j k _ _ _ _ _ _ _ w O ka N K kb P z (o.getD d _) (o.getD d _) (f.getD d _) (f.getD d _) (by unfold Y at l;omega)
  (λh=>Rq p r (J5 f n) l (f.getD d _) y h) λq D h=>Rr p r (J5 o n) (J5 f n) l D h
def DN.win{W:H}{b:Nat}(h:DN W b xs)(a len cap:Nat)(c:a+len<=xs.length)(d:len<=cap)(e:cap<=9223372036854775807)(f:len<=1099511627776):Row G W (C (some ⟨b,a,none⟩) len cap) ((xs.drop a).take len):=
 h.row a len cap c d e f
def Ru{q:Ja}(a:q.length=len)(h:ro+len<=xs.length):((DT xs ro len q).drop ro).take len=q:=by
 rw[DT,List.drop_append_of_le_length (by rw[Af];omega),AC (by rw[Af];omega),Ai,A7 O,Ac O]
def Rv{p q:Ja}(hp:p.length=len)(h:ro+len<=xs.length):DT (DT xs ro len p) ro len q=DT xs ro len q:=by
 have a:(xs.take ro).length=ro:=by rw[Af];omega
 rw[DT,DT,DT,A7 O,Ac O,List.drop_append,a,show ro+len-ro=len from by omega,AC O,Ai,List.drop_append,hp,AY,AC O,Ai,AF]
def Rw{q:Ja}(a:DK Y xs)(c:DK Y q):DK Y (DT xs ro len q):=by
 intro x b;rw[DT]at b;rcases Cr.1 b with h|h
 . exact(a.take ro) x h
 . rcases Cr.1 h with h|h
   . exact c x h
   . exact(a.drop _) x h
def Rx(d ro n cap:Nat)(xs:Ja)(a:V8)(j:Nat)(bs:Ja)(w:H)
(u:DN w d xs)(z:DK Y xs)(ai:ro+(n+3)<=xs.length)(y:n+3<=cap)(aj:cap<=9223372036854775807)(hn:n+3<=1099511627776)(l:Row G w (C a (n+2) j) bs)(m:DK Y bs)(ad:∀p,a=some p->0<n+2->p.block≠d)
(X:Y<=2*bs[n+1]?.getD 0)(W:val Y ((xs.drop ro).take (n+3))<val Y bs*Y):
 Calls L 179 #[C (some ⟨d,ro,none⟩) (n+3) cap,C a (n+2) j] w λe w'=>
  ∃q,e=.returned (F G ((val Y ((xs.drop ro).take (n+3))/val Y bs:Nat):Int))/\(q.length=n+3/\DK Y q/\val Y q=val Y ((xs.drop ro).take (n+3))%val Y bs)/\DN w' d (DT xs ro (n+3) q)/\w.grownBy w' (some d):=by
 have R:=u.win ro (n+3) cap ai y aj hn;have B:=Z (Rt _ a n cap j _ bs w R l ((z.drop ro).take _) m X W);have s:=(Jn l).1;have K:val Y bs<Y^(n+2):=by have:=J1 m;rwa[<-s]at this
 have N:val Y bs<Y^(n+3):=Al K (Ag uo O);obtain⟨am,A,t,D,T,HA,i,Qk⟩:=Ep N l ad z m u ai s;clear R X W s K N l ad z m u;go_enter func179,ntmps179
 go_upto_region 2 with(go_at_call 198;refine B.o.mono ?_;rintro e w1 ⟨g,rfl,hg,V,k⟩;have r:=Z V;clear V B)
 have S:=Z (RQ d ro (n+2) cap xs a j bs g w1 (HA.o.below k) D.o i.o y (Row.below A.o k) T.o t.o hg);go_upto_if 13 with(go_at_call 199;refine S.o.mono ?_;rintro e w2 ⟨c,q,rfl,⟨hc,ah⟩,hA2,v⟩;have b:=Z ah;clear ah S)
 obtain rfl|rfl:c=0\/c=1:=O
 . have o:=Z (PW r.o (by have:=b.o.2.2;rw[Cc,AX]at this;exact this));have HE:=Z o.o.1;have HM:=Z o.o.2;clear o r;go_wp2_with fail
   go_ret;exact⟨q,by rw[<-HE.o];rfl,⟨b.o.1,b.o.2.1,HM.o⟩,hA2,Jd (JM k _) v⟩
 . have Q:=Z (Ki d ro (n+3) cap (DT xs ro (n+3) q) a (n+2) j bs w2 hA2 (Rw D.o b.o.2.1) (by rw[JN b.o.1 i.o];exact i.o) y O O (Row.grown (Row.below A.o k) v t.o) T.o t.o);have Ql:1<=g:=by
    rcases AJ g with h|h
    . exfalso
      have h1:=b.o.2.2;have h2:=J1 b.o.2.1;rw[b.o.1]at h2;rw[h,Cc,Nat.mul_one]at h1;omega
    . exact h
   obtain⟨p,hp⟩:=ex (g-1:Nat);have an:(g:Int)-1=(p:Int):=O
   have ap:G.wrap (p:Int)=(p:Int):=by rw[BV];unfold Y at hg;omega
   have HP:=Z hp;clear hp Ql;go_wp2_with(go_at_call 146;refine Q.o.mono ?_;rintro e w3 ⟨c3,q3,rfl,ae,hA3,ak⟩;have f:=Z ae;clear ae Q)
   go_ret;have x:=PX r.o (P:=Y^(n+3)) (by have:=b.o.2.2;rw[Nat.mul_one]at this;exact this) (by have:=J1 b.o.2.1;rw[b.o.1]at this;exact this) (q2:=val Y q3) (c2:=c3)
    (by
     have U:=f.o.2.2.2;rw[Ru b.o.1 i.o,Ac (show bs.length<=n+3 by rw[<-Qk.o];omega)]at U;exact U)
    (by have:=J1 f.o.2.1;rw[f.o.1]at this;exact this) f.o.2.2.1
   rw[HP.o]at x;rw[Rv b.o.1 i.o]at hA3;exact⟨q3,by rw[<-x.2.1];rfl,⟨f.o.1,f.o.2.1,x.2.2⟩,hA3,Jd (Jd (JM k _) v) ak⟩
def Mw{bs:Ja}{d:Nat}(j:DK Y bs)(hl:bs.length=l+2)(g:bs[l+1]?.getD 0=d)(c:2^(f-1)<=d)(e:d<2^f)(m:1<=f)(k:f<=64)(hs:s=64-f):
 val Y bs*2^s<Y^(l+2)/\2^63*Y^(l+1)<=val Y bs*2^s:=by
 have o:val Y bs=val Y (bs.take (l+1))+Y^(l+1)*d:=by
  have h:=Jm Y bs (l+1);rwa[Ac O,g]at h
 have n:=J5 j (l+1);have p1:2^f*2^s=Y:=by rw[<-CC,Fg];congr 1;omega
 have i:2^(f-1)*2^s=2^63:=by rw[<-CC];congr 1;omega
 constructor
 . have b:val Y bs+1<=Y^(l+1)*2^f:=by
    have:=Aq (Y^(l+1)) (show d+1<=2^f from e);rw[CN,Nat.mul_one]at this;omega
   have a:=Ae (2^s) b;rw[A4,p1,<-Ca,Cm,C4]at a;exact Al (Nat.lt_add_of_pos_right (AW s)) a
 . have b:Y^(l+1)*2^(f-1)<=val Y bs:=by
    have:=Aq (Y^(l+1)) c;omega
   have a:=Ae (2^s) b;rw[A4,i,AE]at a;exact a
def Ry(i:DK Y c)(hl:c.length=l+3)(b:val Y c=V)(d:V<Y^(l+2))(j:2^63*Y^(l+1)<=V):
 val Y (c.take (l+2))=V/\Y<=2*(c.take (l+2))[l+1]?.getD 0:=by
 have g:=Ku (B:=Y) (k:=l+2) (D:=c) O (by rw[b];exact d);have a:val Y (c.take (l+2))=V:=by
  have h:=val_append Y (c.take (l+2)) (c.drop (l+2));rw[AU,g,Cc,AX,b]at h;exact h.symm
 refine⟨a,?_⟩;rw[Ch O];have e:=Jm Y c (l+1);have m:=J5 i (l+1);rw[show l+1+1=l+2 from J,a]at e;rcases AD (c[l+1]?.getD 0) (2^63)with h|h
 . exfalso
   have f:=Aq (Y^(l+1)) (show c[l+1]?.getD 0+1<=2^63 from h);rw[CN,Nat.mul_one,AE _ (2^63)]at f;omega
 . rw[Fg];omega
def Rz{m la:Nat}(c:m<Y^la)(d:Y^(l+1)<=n)(hl:l+1<=la):m*2^s<n*2^s*Y^(la-(l+1)):=by
 have b:Y^(l+1)*Y^(la-(l+1))=Y^la:=by rw[<-CC];congr 1;omega
 have a:=Ae (Y^(la-(l+1))) d;rw[b]at a;rw[Nat.mul_right_comm];exact Nat.mul_lt_mul_of_pos_right (Al c a) (AW s)
def JI{P:Program}{ops:Array Oper}{Q:Exit->Act->H->Prop}{i:Nat}{o:Oper}{K:Act->H->Prop}{a:Act}(c:ops[i]?=some o)(b:o.guard=none)
(h:∀K':Act->H->Prop,(∀a w,K a w->K' a w)->o.wp P a w K' Q):wpOp P ops Q i K a w:=by
 unfold wpOp;rw[c];simp only[Region.wanted,b,if_true];exact An (h K λ_ _ h=>h)
def Dt{p q:Prop}(k:q)(h:Hid q->p:=by intro x;refine JI rfl rfl λK a=>?_;go_simp;refine a _ _ ?_;(repeat apply Exists.intro);refine ⟨rfl,?_⟩;exact x.o):p:=h k
def Ef(V:H)(b:Nat)(v:Value)(g len c:Nat)(a:Ja):Prop:=
 v=C (some ⟨g,0,none⟩) len len/\DN V g a/\a.length=len/\DK Y a/\val Y a=c/\b<=g
def Ef.below{V V':H}{b g len c:Nat}{v:Value}{a:Ja}(h:Ef V b v g len c a)(d:Bl V V'):Ef V' b v g len c a:=
 ⟨h.1,h.2.1.below d,h.2.2⟩
def Ef.box{V:H}{u:Value}(h:Ef V f v g len j c)(hl:0<len)(d:Boxed V B 34 (C none 0 0)):Ef (V.setCell ⟨B,0,none⟩ u) f v g len j c:=
 ⟨h.1,h.2.1.far (by
  intro e;simp only at e;obtain⟨i,b⟩:=h.2.1;rw[e,show V.heap[B]?=_ from d]at b;obtain⟨z,a,rfl⟩:∃z a,c=z::a:=by
   cases c with
    |nil=>have:=h.2.2.1;simp at this;omega
    |cons z a=>exact⟨z,a,J⟩
  simp[cellsOf]at b) u,h.2.2⟩
def Ef.ne_box{V:H}{b:V8}{l i:Nat}(h:Ef V f v g len j c)(hl:0<len)(k:Boxed V B 34 (C b l i)):g≠B:=by
 intro e;obtain⟨m,d⟩:=h.2.1;rw[e,show V.heap[B]?=_ from k]at d;obtain⟨z,a,rfl⟩:∃z a,c=z::a:=by
  cases c with
  |nil=>have:=h.2.2.1;simp at this;omega
  |cons z a=>exact⟨z,a,J⟩
 simp[cellsOf]at d
end
section
structure SplC where
 w:World
 bs:Value
 rs:Value
 ds:Value
 qs:Value
 B9:Nat
 B10:Nat
 B11:Nat
 B12:Nat
 gR:Nat
 gZ:Nat
 gQ:Nat
 Zb:Ja
structure SplC.Apart(c:SplC):Prop where
 r0:c.gR≠c.w.heap.size
 r9:c.gR≠c.B9
 r10:c.gR≠c.B10
 r11:c.gR≠c.B11
 r12:c.gR≠c.B12
 rz:c.gR≠c.gZ
 rq:c.gR≠c.gQ
 q0:c.gQ≠c.w.heap.size
 q9:c.gQ≠c.B9
 q10:c.gQ≠c.B10
 q11:c.gQ≠c.B11
 q12:c.gQ≠c.B12
 qz:c.gQ≠c.gZ
 lr:c.w.heap.size<=c.gR
 lq:c.w.heap.size<=c.gQ
structure SplC.Holds(c:SplC)(W:World):Prop where
 b0:Boxed W c.w.heap.size 34 c.bs
 b9:Boxed W c.B9 34 c.rs
 b10:Boxed W c.B10 34 c.ds
 b11:Boxed W c.B11 34 c.qs
 b12:Boxed W c.B12 34 c.qs
 z:DN W c.gZ c.Zb
 B:Below c.w.heap.size c.w W
theorem SplC.Holds.kept{c:SplC}{W W':H}{g:Nat}(h:c.Holds W)(hg:W.grownBy W' (some g))(a:g≠c.w.heap.size)(i:g≠c.B9)(b:g≠c.B10)(d:g≠c.B11)(f:g≠c.B12)(j:g≠c.gZ)(hl:c.w.heap.size<=g):c.Holds W':=
 ⟨h.b0.kept hg (λe=>by grind),h.b9.kept hg (λe=>by grind),h.b10.kept hg (λe=>by grind),h.b11.kept hg (λe=>by grind),
  h.b12.kept hg (λe=>by grind),h.z.kept hg (λe=>by grind),below_grown h.B hg hl⟩
def SplC.Holds.drew{c:SplC}{W:H}(h:c.Holds W):c.Holds W.drew:=
 ⟨h.b0,h.b9,h.b10,h.b11,h.b12,h.z,h.B.drew⟩
variable{f:Bool}{D D' Q Q':Ja}{B:Nat}{W W' W0:H}
def SplC.own(c:SplC)(b:c.w.heap.size<=B):OwnFrom B (λ(_:Nat) W=>c.Holds W):=λk W W' row hs hg a=>
 ⟨Y1 hs.b0 hg a,Y1 hs.b9 hg a,Y1 hs.b10 hg a,Y1 hs.b11 hg a,Y1 hs.b12 hg a,Gc hs.z hg a,Mk b k W W' row hs.B hg a⟩
def Mx(c:SplC)(a V n K:Nat)(k:Nat)(W:H):Prop:=
 c.Holds W/\∃D Q,DN W c.gR D/\DN W c.gQ Q/\XQ a V n K (K-k) D Q
def R0(c:SplC)(b V n K:Nat)(g:c.w.heap.size<=B):OwnFrom B (Mx c b V n K):=
 BS (c.own g) (λ_ _ _ _ hs hg a=>by obtain⟨D,Q,d,e,f⟩:=hs;exact⟨D,Q,Gc d hg a,Gc e hg a,f⟩)
structure SplM(c:SplC)(W0:World)(D D' Q Q':Ja)(e f:Bool)(W:World):Prop where
 k:KeepsOthers W0 W
 h:c.Holds W
 r:DN W c.gR (bif e then D' else D)
 q:DN W c.gQ (bif f then Q' else Q)
def SplM.drew{c:SplC}{W0 W:H}{D D' Q Q':Ja}{e f:Bool}(h:SplM c W0 D D' Q Q' e f W):SplM c W0 D D' Q Q' e f W.drew:=
 ⟨h.k.trans (KeepsOthers.drew W),h.h.drew,h.r,h.q⟩
def R1{g:Nat}{xs:Ja}(b:DN W g xs)(hg:W.grownBy W' (some g)):KeepsOthers W W':=
 KeepsOthers.of_grownBy hg λj o a c=>by cases a;exact b.other c
def SplM.any{c:SplC}(h:SplM c W0 D D' Q Q' false f W)(a:Ja):SplM c W0 D a Q Q' false f W:=⟨h.k,h.h,h.r,h.q⟩
def SplM.split{c:SplC}(h:SplM c W0 D D' Q Q' false f W)(a:c.Apart)(hg:W.grownBy W' (some c.gR))(b:DN W' c.gR D'):SplM c W0 D D' Q Q' true f W':=
 ⟨h.k.trans (R1 h.r hg),h.h.kept hg a.r0 a.r9 a.r10 a.r11 a.r12 a.rz a.lr,b,h.q.kept hg λe=>by injection e with e;exact a.rq e.symm⟩
theorem SplM.store{c:SplC}{e:Bool}(h:SplM c W0 D D' Q Q' e false W)(a:c.Apart){j v:Nat}(d:Q.set j v=Q'):SplM c W0 D D' Q Q' e true (W.setCell ⟨c.gQ,j,none⟩ (F G (v:Nat))):=
 have b:=Jy W c.gQ j (F G (v:Nat))
 ⟨h.k.trans (BO _ _ _),h.h.kept b a.q0 a.q9 a.q10 a.q11 a.q12 a.qz a.lq,h.r.kept b (λe=>by injection e with e;exact a.rq e),by have:=h.q.set j v;grind⟩
def R2(a:V8)(la ca:Nat)(t x l lb l1 cb m n d s:Nat)(w:H)(fh:lb=l+2)(h2:(lb:Int)-1=l1)(fo:t<w.heap.size)
(ra:Row G w (C a la ca) (Jb Y m))(rb:Row G w (C (some ⟨t,x,none⟩) lb cb) (Jb Y n))
(kb:w.cell? ⟨t,x+l1,none⟩=some (F G (d:Nat)))(fr:d<Y)(hs:s<=63)(HS:Hid ((64:Int)-(Lib.bitLen d:Int)=(s:Int)))(gi:lb<=la)(fs:la<1099511627776)
(fc:Hid (n*2^s<Y^(l+2)))(fd:Hid (2^63*Y^(l+1)<=n*2^s))(fm:Hid (m*2^s<n*2^s*Y^(la-(l+1)))):
 Calls L 151 #[C a la ca,C (some ⟨t,x,none⟩) lb cb] w λe w'=>∃u v,e=.returned (.tuple #[u,v])/\UN w' u (m/n)/\UN w' v (m%n)/\Bl w w':=by
 have Qc:=Z fh;have i1:M.wrap ((lb:Int)-1)=(l1:Int):=by rw[h2];exact BU _ O
 have i3:M.wrap (l1:Int)=(l1:Int):=BU _ O;have j1:(l1:Int)<(lb:Int):=O
 have j9:(0:Int)<=(l1:Int):=O
 have j2:l1<lb:=O
 have gj:¬(lb=1):=O
 have Qg:Bl w (w.alloc (.cells #[C (some ⟨t,x,none⟩) lb cb] 34)):=Ba w _;have Qf:=BK w 34 (C (some ⟨t,x,none⟩) lb cb);obtain⟨W0,cn⟩:=ex (w.alloc (.cells #[C (some ⟨t,x,none⟩) lb cb] 34));have Qs:W0.heap.size=w.heap.size+1:=by rw[<-cn];simp
 rw[cn]at Qg Qf;have Uq:=Qf.cell;have Uz:=(Qg.cell (p:=⟨t,x+l1,none⟩) fo).trans kb;have Qr:=Z λ(V:H) (h:Bl W0 V)=>Mj a la ca (Jb Y m) s V hs (Row.below (Row.below ra Qg) h) (Jj Jc m) fs;have Qp:=Z λ(V:H) (h:Bl W0 V)=>Mj (some ⟨t,x,none⟩) lb cb (Jb Y n) s V hs (Row.below (Row.below rb Qg) h) (Jj Jc n) O;rw[Jk Jc]at Qr Qp;have Ub:=Z cn;have Ua:=Z (show ∀V:H,Calls L 176 #[F G (d:Nat)] V λe w'=>e=.returned (F M (s:Nat))/\w'=V from λV=>by
  have h:=Tryz.bits_LeadingZeros64 (d:Nat) V O (by unfold Y at fr;omega);rw[Ci,HS.o]at h;exact h)
 have gp:G.wrap (s:Int)=(s:Int):=Bq _ O;have Ur:=Z Qs;have ft:=Z h2;clear cn fh ra rb kb HS;refine(BN (n:=3)).1 ?_;refine BW func151 J trivial ?_ J;simp only[ntmps151,Aj,Ak,AO,Nat.reduceAdd,Nat.reduceSub,At,Au,AK,AA,Ai,Ao];refine wpIn_wide.2 ?_;go_upto_region 1 with fail
 rw[Ub.o];clear Ub Qs;go_upto_region 8 with(go_at_call 176;refine(Ua.o _).mono ?_;rintro e w' ⟨rfl,e1⟩;have e2:=e1.symm;subst e2;clear e1)
 refine Yb Dm [[],[],[0,1],[],[],[3,4,2],[],[6],[5,7],[],[],[9,2,5,0,1,2,9,10],[10,8,11,0,1,2,3,4,5,6,7,8,9,10,11]] V9 DQ
  (λD ac V=>∃t9 bc bd bf bg bh bi cg bj bk cj:Value,ac={ tmps:=#[C a la ca,C (some ⟨t,x,none⟩) lb cb,E,I (some ⟨w.heap.size,0,none⟩),C none 0 0,C none 0 0,E,E,F G (s:Nat),t9,bc,E,E,C a la ca,F M (la:Nat),C (some ⟨t,x,none⟩) lb cb,F M (lb:Nat),.bool false,E,E,C (some ⟨t,x,none⟩) lb cb,F M (lb:Nat),.bool false,E,E,E,E,E,E,E,E,E,E,E,E,C (some ⟨t,x,none⟩) lb cb,C (some ⟨t,x,none⟩) lb cb,F M (lb:Nat),F M (l1:Nat),I (some ⟨t,x+l1,none⟩),F G (d:Nat),F M (s:Nat),F G (s:Nat),bd,bf,bg,bh,bi,cg,bj,bk,cj,E,E,E,E,E,E,E,E,E,E,E,E,E,E,E,E,E,E,E,E,E,E,E,E,E,E,E,E],defers:=[] }/\Hid (D 0=true->bd=C a la ca)/\Hid (D 1=true->bf=F G (s:Nat))/\Hid (D 2=true->∃g bm,Ef V W0.heap.size bg g (la+1) (m*2^s) bm)/\Hid (D 3=true->bh=C (some ⟨t,x,none⟩) lb cb)/\Hid (D 4=true->bi=F G (s:Nat))/\Hid (D 5=true->∃gR Zr gZ Zb,Ef V W0.heap.size bg gR (la+1) (m*2^s) Zr/\Ef V W0.heap.size cg gZ (lb+1) (n*2^s) Zb/\gR≠gZ)/\Hid (D 6=true->bj=C (some ⟨t,x,none⟩) lb cb)/\Hid (D 7=true->bk=F M (lb:Nat))/\Hid (D 8=true->∃gZ,cg=C (some ⟨gZ,0,none⟩) (lb+1) (lb+1)/\cj=C (some ⟨gZ,0,none⟩) lb (lb+1))/\Hid (D 9=true->D 11=false->∃B,t9=I (some ⟨B,0,none⟩)/\Boxed V B 34 (C none 0 0)/\W0.heap.size<=B)/\Hid (D 10=true->D 12=false->∃B,bc=I (some ⟨B,0,none⟩)/\Boxed V B 34 (C none 0 0)/\W0.heap.size<=B)/\Hid (D 9=true->D 10=true->t9≠bc)/\Hid (D 11=true->∃B,t9=I (some ⟨B,0,none⟩)/\Boxed V B 34 bg/\W0.heap.size<=B)/\Hid (D 12=true->∃B,bc=I (some ⟨B,0,none⟩)/\Boxed V B 34 cj/\W0.heap.size<=B)/\Bl W0 V)
  (E8 ⟨_,_,_,J,Z Dc,Z Dc,Z Dc,Z Dc,Z Dc,Z Dc,Z Dc,Z Dc,Z Dc,Z Dc,Z Dc,Z Dc,Z Dc,Z Dc,(BF _ W0).drew⟩) ?step8 ?fin8
 case step8=>
  rintro D a2 V i ds ah et b ai ⟨t9,bc,bd,bf,bg,bh,bi,cg,bj,bk,cj,rfl,N,P,g2,R,g4,r,S,T,U,A,y,gx,ad,ae,o⟩;have Qx:i<13:=(Ax.1 et).1;obtain rfl|rfl|rfl|rfl|rfl|rfl|rfl|rfl|rfl|rfl|rfl|rfl|rfl:=Iu i O
  all_goals
   simp only[AZ,AR,A0]at et;subst et;clear Qx
  . clear b ah;refine Dt ?_;exact⟨Z λ_=>rfl,P,g2,R,g4,r,S,T,U,A,y,gx,ad,ae,o⟩
  . clear b ah;refine Dt ?_;exact⟨N,Z λ_=>rfl,g2,R,g4,r,S,T,U,A,y,gx,ad,ae,o⟩
  . have Ut:D 5=false:=DU ah ai;have Qb:D 11=false:=DU ah ai;have Qa:D 12=false:=DU ah ai;obtain rfl:=N.o (b 0 DJ);obtain rfl:=P.o (b 1 DJ);clear b ah;refine JI J J λK hK=>?_;go_simp;go_wp2_with(go_at_call 178;refine(Qr.o _ o).mono ?_;rintro e w5 ⟨r,Z5,rfl,⟨eh,ei,en⟩,hA5,bz,an⟩)
    exact E8 ⟨_,_,_,J,Z λ_=>rfl,Z λ_=>rfl,Z λ_=>⟨r,Z5,J,hA5,eh,ei,en,As o.size bz⟩,R,g4,Z (λh=>by simp[Ut]at h),S,T,U,Z (λh h2=>by obtain⟨B,e,q,q2⟩:=A.o h h2;exact⟨B,e,boxed_below q an,q2⟩),Z (λh h2=>by obtain⟨B,e,q,q2⟩:=y.o h h2;exact⟨B,e,boxed_below q an,q2⟩),gx,Z (λh=>by simp[Qb]at h),Z (λh=>by simp[Qa]at h),Bt o an⟩
  . have k0:=(boxed_below Qf o).cell;clear b ah;refine Dt ?_;exact⟨N,P,g2,Z λ_=>rfl,g4,r,S,T,U,A,y,gx,ad,ae,o⟩
  . clear b ah;refine Dt ?_;exact⟨N,P,g2,R,Z λ_=>rfl,r,S,T,U,A,y,gx,ad,ae,o⟩
  . have Uo:D 8=false:=DU ah ai;have Qb:D 11=false:=DU ah ai;have Qa:D 12=false:=DU ah ai;obtain rfl:=R.o (b 3 DJ);obtain rfl:=g4.o (b 4 DJ);obtain⟨gR,Zr,hR⟩:=g2.o (b 2 DJ);have gc:=hR.2.1.lt;clear b ah;refine JI J J λK hK=>?_;go_simp;go_wp2_with(go_at_call 178;refine(Qp.o _ o).mono ?_;rintro e w5 ⟨r,Z5,rfl,⟨eh,ei,en⟩,hA5,bz,an⟩)
    exact⟨_,_,_,_,_,_,_,_,_,_,_,J,N,P,Z λ_=>⟨gR,Zr,hR.below an⟩,Z λ_=>rfl,Z λ_=>rfl,Z λ_=>⟨gR,Zr,r,Z5,hR.below an,⟨J,hA5,eh,ei,en,As o.size bz⟩,O⟩,S,T,Z (λh=>by simp[Uo]at h),Z (λh h2=>by obtain⟨B,e,q,q2⟩:=A.o h h2;exact⟨B,e,boxed_below q an,q2⟩),Z (λh h2=>by obtain⟨B,e,q,q2⟩:=y.o h h2;exact⟨B,e,boxed_below q an,q2⟩),gx,Z (λh=>by simp[Qb]at h),Z (λh=>by simp[Qa]at h),Bt o an⟩
  . have k0:=(boxed_below Qf o).cell;clear b ah;refine Dt ?_;exact⟨N,P,g2,R,g4,r,Z λ_=>rfl,T,U,A,y,gx,ad,ae,o⟩
  . obtain rfl:=S.o (b 6 DJ);clear b ah;refine Dt ?_;exact⟨N,P,g2,R,g4,r,Z λ_=>rfl,Z λ_=>rfl,U,A,y,gx,ad,ae,o⟩
  . have Qa:D 12=false:=DU ah ai;obtain⟨gR,Zr,gZ,Zb,hR,hZ,az⟩:=r.o (b 5 DJ);obtain rfl:=hZ.1;obtain rfl:=T.o (b 7 DJ);have b1:(0:Int)<=(lb:Int):=O
    have b2:(lb:Int)<=(lb:Int)+1:=O
    have b3:lb<=lb+1:=O
    have b4:¬((lb:Int)+1<(lb:Int)):=O
    clear b ah;refine Dt ?_;exact⟨N,P,g2,R,g4,Z λ_=>⟨gR,Zr,gZ,Zb,hR,hZ,az⟩,S,Z λ_=>rfl,Z λ_=>⟨gZ,J,J⟩,A,y,gx,ad,Z (λh=>by simp[Qa]at h),o⟩
  . have Qb:D 11=false:=DU ah ai;have Qa:D 12=false:=DU ah ai;clear b ah;refine Dt ?_;exact⟨N,P,Z (λh=>by obtain⟨g,bm,q⟩:=g2.o h;exact⟨g,bm,q.below (Ba V _)⟩),R,g4,Z (λh=>by obtain⟨gR,Zr,gZ,Zb,q1,q2,q3⟩:=r.o h;exact⟨gR,Zr,gZ,Zb,q1.below (Ba V _),q2.below (Ba V _),q3⟩),S,T,U,Z λ_ _=>⟨_,J,BK _ _ _,o.size⟩,Z (λh h2=>by obtain⟨B,e,q,q2⟩:=y.o h h2;exact⟨B,e,q.alloc _,q2⟩),Z (λ_ h e=>by obtain⟨B,e2,q,q2⟩:=y.o (by simpa using h) Qa;have:=q.lt;rw[e2]at e;cases e;omega),Z (λh=>by simp[Qb]at h),Z (λh=>by simp[Qa]at h),o.alloc o.size _⟩
  . have Qb:D 11=false:=DU ah ai;have Qa:D 12=false:=DU ah ai;clear b ah;refine Dt ?_;exact⟨N,P,Z (λh=>by obtain⟨g,bm,q⟩:=g2.o h;exact⟨g,bm,q.below (Ba V _)⟩),R,g4,Z (λh=>by obtain⟨gR,Zr,gZ,Zb,q1,q2,q3⟩:=r.o h;exact⟨gR,Zr,gZ,Zb,q1.below (Ba V _),q2.below (Ba V _),q3⟩),S,T,U,Z (λh h2=>by obtain⟨B,e,q,q2⟩:=A.o h h2;exact⟨B,e,q.alloc _,q2⟩),Z λ_ _=>⟨_,J,BK _ _ _,o.size⟩,Z (λh _ e=>by obtain⟨B,e2,q,q2⟩:=A.o (by simpa using h) Qb;have:=q.lt;rw[e2]at e;cases e;omega),Z (λh=>by simp[Qb]at h),Z (λh=>by simp[Qa]at h),o.alloc o.size _⟩
  . have Qa:D 12=false:=DU ah ai;obtain⟨B,rfl,ak,ce⟩:=A.o (b 9 DJ) ai;obtain⟨gR,Zr,gZ,Zb,hR,hZ,az⟩:=r.o (b 5 DJ);have k0:=ak.cell;have f0:=ak.frozen;obtain⟨B2,bn,er,f9⟩:=y.o (b 10 DJ) Qa;have Qt:B≠B2:=λe=>gx.o (b 9 DJ) (b 10 DJ) (by rw[bn,e]);obtain rfl:=bn;obtain rfl:=hR.1;clear A ad;clear b ah;refine Dt ?_;exact⟨N,P,Z λ_=>⟨gR,Zr,hR.box O ak⟩,R,g4,Z λ_=>⟨gR,Zr,gZ,Zb,hR.box O ak,hZ.box O ak,az⟩,S,T,U,Z (λ_ h=>by simp at h),Z λ_ _=>⟨B2,J,er.kept (B7 _ B _) (λe=>by injection e;omega),f9⟩,gx,Z λ_=>⟨B,J,ak.set _,ce⟩,Z (λh=>by simp[Qa]at h),o.setCell (p:=⟨B,0,none⟩) ce _⟩
  . obtain⟨B,rfl,ak,ce⟩:=y.o (b 10 DJ) ai;obtain⟨gR,Zr,gZ,Zb,hR,hZ,az⟩:=r.o (b 5 DJ);obtain⟨fe,ck,ef⟩:=U.o (b 8 DJ);have k0:=ak.cell;have f0:=ak.frozen;obtain⟨B2,bn,er,f9⟩:=ad.o (b 11 DJ);have Qt:B≠B2:=λe=>gx.o (b 9 DJ) (b 10 DJ) (by rw[bn,e]);obtain rfl:=ef;obtain rfl:=ck;obtain rfl:=bn;have Qy:=b 11 DJ;clear y ae;clear b ah;refine Dt ?_;exact⟨N,P,Z λ_=>⟨gR,Zr,hR.box O ak⟩,R,g4,Z λ_=>⟨gR,Zr,gZ,Zb,hR.box O ak,hZ.box O ak,az⟩,S,T,Z λ_=>⟨fe,J,J⟩,Z (λ_ h=>by simp[Qy]at h),Z (λ_ h=>by simp at h),gx,Z λ_=>⟨B2,J,er.kept (B7 _ B _) (λe=>by injection e;omega),f9⟩,Z λ_=>⟨B,J,ak.set _,ce⟩,o.setCell (p:=⟨B,0,none⟩) ce _⟩
 rintro D a2 f am ⟨t9,bc,bd,bf,bg,bh,bi,cg,bj,bk,cj,rfl,N,P,g2,R,g4,r,S,T,U,A,y,gx,ad,ae,o⟩;obtain⟨gR,Zr,gZ,Zb,hR,hZ,az⟩:=r.o (am 5 DQ);obtain⟨fe,ck,ef⟩:=U.o (am 8 DQ);obtain⟨B9,rfl,bu,go⟩:=ad.o (am 11 DQ);obtain⟨B10,rfl,bt,gn⟩:=ae.o (am 12 DQ);obtain rfl:=ef;obtain rfl:=hR.1;have e0:=hZ.1;rw[ck]at e0;cases e0;obtain rfl:=ck;clear N P g2 R g4 r S T U A y gx ad ae am Qr Qp Ua;obtain⟨K,hK⟩:∃K:Nat,(la:Int)+1-(lb:Int)=(K:Int):=⟨la+1-lb,O⟩;have ga:M.wrap (K:Int)=(K:Int):=BU _ O;have Uw:=Fx K O f;have k9:=bu.cell;have Us:=bt.cell;have Qj:K+lb=la+1:=O
 have Qi:=Z Qj;clear Qj;go_wp2_with(go_at_call 147;refine((BN (n:=2)).1 (GM Fence.wide _ trivial J _ _ _ _)).mono ?_;rintro e w' ⟨rfl,rfl⟩)
 refine(wpIn_wide (n:=3)).1 ?_;obtain⟨WQ,aq⟩:=ex (((f.alloc (.cells (cellsOf G (WC K 0)).toArray 163)).alloc (.cells #[C (some ⟨f.heap.size,0,none⟩) K K] 34)).alloc (.cells #[C (some ⟨f.heap.size,0,none⟩) K K] 34));have Uv:WQ.heap.size=f.heap.size+1+1+1:=by rw[<-aq];simp
 have Qk:Bl w f:=Bt Qg o;have Qs:=Ur.o;have Um:Bl w WQ:=by rw[<-aq];exact((Qk.alloc Qk.size _).alloc (by have:=Qk.size;simp;omega) _).alloc (by have:=Qk.size;simp;omega) _
 have lR:=hR.2.1.lt;have lZ:=hZ.2.1.lt;have l9:=bu.lt;have gq:=bt.lt;have n9:gR≠B9:=λe=>hR.ne_box O bu e;have gt:gR≠B10:=λe=>hR.ne_box O bt e;have fu:=hR.2.2.2.2.2;have fv:=hZ.2.2.2.2.2;obtain⟨c,hc⟩:∃c:SplC,c=⟨w,C (some ⟨t,x,none⟩) lb cb,C (some ⟨gR,0,none⟩) (la+1) (la+1),C (some ⟨gZ,0,none⟩) lb (lb+1),C (some ⟨f.heap.size,0,none⟩) K K,B9,B10,f.heap.size+1,f.heap.size+1+1,gR,gZ,f.heap.size,Zb⟩:=⟨_,J⟩;have Ue:c.Apart:=by
  rw[hc];constructor<;>(simp only;omega)
 have Uc:c.Holds WQ:=by
  rw[hc,<-aq];have Ui:=(BK (f.alloc (.cells (cellsOf G (WC K 0)).toArray 163)) 34 (C (some ⟨f.heap.size,0,none⟩) K K)).alloc (.cells #[C (some ⟨f.heap.size,0,none⟩) K K] 34);have Uf:=BK ((f.alloc (.cells (cellsOf G (WC K 0)).toArray 163)).alloc (.cells #[C (some ⟨f.heap.size,0,none⟩) K K] 34)) 34 (C (some ⟨f.heap.size,0,none⟩) K K);simp only[A1]at Ui Uf;exact⟨(((boxed_below Qf o).alloc _).alloc _).alloc _,((bu.alloc _).alloc _).alloc _,((bt.alloc _).alloc _).alloc _,Ui,Uf,((hZ.2.1.alloc _).alloc _).alloc _,by rw[aq];exact Um⟩
 have Uh:DN WQ gR Zr:=by rw[<-aq];exact((hR.2.1.alloc _).alloc _).alloc _
 have Qz:DN WQ f.heap.size (WC K 0):=by rw[<-aq];exact((DN.made (BG f _)).alloc _).alloc _
 have Qu:XQ (m*2^s) (n*2^s) lb K K Zr (WC K 0):=XQ.start (by have:=Qi.o;rw[hR.2.2.1];omega) hR.2.2.2.1 hR.2.2.2.2.1 (by
  have h:=fm.o;rwa[show la-(l+1)=K from by have:=Qi.o;have:=Qc.o;omega]at h)
 obtain⟨f8,fj⟩:=Ry hZ.2.2.2.1 (by rw[hZ.2.2.1,Qc.o]) hZ.2.2.2.2.1 fc.o fd.o;have Ux:0<n*2^s:=by
  have h:=fd.o;have:=DI (AW 63) (C5 (n:=l+1) (show 0<Y by unfold Y;omega));omega
 have Qh:n*2^s<Y^lb:=by rw[Qc.o];exact fc.o
 have Up:=hZ.2.2.2.1;have gg:=hZ.2.2.1;rw[aq];clear aq Uw bu bt Qf Uq k9 Us hR hZ o Qk Uz;refine YG J O (gf:=174) (lb:=#[I (some ⟨f.heap.size+1+1,0,none⟩)]) J trivial (DF func174 V9 J)
  (GL Fence.wide _ trivial J O (f.heap.size+1+1) (some ⟨f.heap.size,0,none⟩) K K (λ_=>0) O) (λ_=>rfl)
  (Mx c (m*2^s) (n*2^s) lb K) (λ_ _ _=>False) (R0 c _ _ _ _ (by rw[hc,Uv];simp only;omega)) (λc _ _ _ _ h _ _=>h.elim)
  ⟨Uc,Zr,WC K 0,by rw[hc];exact Uh,by rw[hc];exact Qz,by rw[CQ];exact Qu⟩ ?rd
  (λk=>{ tmps:=#[C a la ca,C (some ⟨t,x,none⟩) lb cb,E,I (some ⟨w.heap.size,0,none⟩),C none 0 0,C none 0 0,E,E,F G (s:Nat),I (some ⟨B9,0,none⟩),I (some ⟨B10,0,none⟩),I (some ⟨f.heap.size+1,0,none⟩),F M ((K:Int)-1-k),C a la ca,F M (la:Nat),C (some ⟨t,x,none⟩) lb cb,F M (lb:Nat),.bool false,E,E,C (some ⟨t,x,none⟩) lb cb,F M (lb:Nat),.bool false,E,E,E,E,E,E,E,E,E,E,E,E,C (some ⟨t,x,none⟩) lb cb,C (some ⟨t,x,none⟩) lb cb,F M (lb:Nat),F M (l1:Nat),I (some ⟨t,x+l1,none⟩),F G (d:Nat),F M (s:Nat),F G (s:Nat),bd,bf,C (some ⟨gR,0,none⟩) (la+1) (la+1),bh,bi,C (some ⟨gZ,0,none⟩) (lb+1) (lb+1),bj,bk,C (some ⟨gZ,0,none⟩) lb (lb+1),C (some ⟨gR,0,none⟩) (la+1) (la+1),F M ((la:Int)+1),C (some ⟨gZ,0,none⟩) lb (lb+1),F M (lb:Nat),F M (K:Nat),C (some ⟨f.heap.size,0,none⟩) K K,C (some ⟨f.heap.size,0,none⟩) K K,.func (.func 174) #[] #[I (some ⟨f.heap.size+1+1,0,none⟩)],F M ((K:Int)-1-k),F G 0,E,E,E,E,E,E,E,E,E,E,E,E,E,E,E,E,E,E],defers:=[] }) ?assign ?body ?done ?stop
 case rd=>
  rintro k W ⟨hh,D,Q,_,hQ,hL⟩;have Ud:=hh.b12;rw[hc]at Ud hQ;refine⟨Ud.cell,λhk=>⟨f.heap.size,0,J,?_⟩⟩;rw[Cj,hQ.cell (j:=K-1-k) (by rw[hL.2.2.1];omega),hL.2.2.2.2.2.2 (K-1-k) O]
 case assign=>
  intro l k W K hK;unfold XG;gi_wp2;exact hK
 case stop=>
  rintro D c k W _ _ h _;exact h.elim
 case body=>
  rintro l' k W ⟨hh,D,Q,hD,hQ,hL⟩ hk gl;have Ug:K-k=K-1-k+1:=O
  rw[Ug]at hL;have e1:((K:Int)-1-k)=((K-1-k:Nat):Int):=O
  have HI:=Z (show K-(k+1)=K-1-k by omega);have Qn:K-1-k<K:=O
  rw[e1];obtain⟨i,hi⟩:=ex (K-1-k);rw[hi]at hL Qn HI ⊢;clear Ug e1 hi;obtain⟨w1,w2,w3⟩:=hL.win Qn Qh;have Uu:=hL.1;have gb:=hL.2.2.1;have Ul:=Z (show ∀(V:H) (nn:Nat),DN V gR D->DN V gZ Zb->CallsIn (Fence.wide.inRound l') nn L 179 #[C (some ⟨gR,i,none⟩) (lb+1) (la+1-i),C (some ⟨gZ,0,none⟩) lb (lb+1)] V λe w'=>
   ∃q,e=.returned (F G ((val Y ((D.drop i).take (lb+1))/(n*2^s):Nat):Int))/\(q.length=lb+1/\DK Y q/\val Y q=val Y ((D.drop i).take (lb+1))%(n*2^s))/\DN w' gR (DT D i (lb+1) q)/\V.grownBy w' (some gR)from λV nn h1 h2=>by
   have Qj:=Qi.o;have hz:=h2.row 0 lb (lb+1) O O O O;have Qw:=Rx gR i l (la+1-i) D (some ⟨gZ,0,none⟩) (lb+1) (Zb.take (l+2)) V h1 hL.2.1 (by rw[Uu];have:=Qc.o;omega) (by have:=Qc.o;omega) O (by have:=Qc.o;omega)
    (by rw[AF,Qc.o]at hz;rw[Qc.o];exact hz) (Up.take _) (λp e _=>by cases e;exact λh=>az h.symm) fj (by rw[f8];have:=w1;rw[Qc.o]at this;exact this)
   rw[f8]at Qw;have e3:l+3=lb+1:=by rw[Qc.o]
   have e2:l+2=lb:=Qc.o.symm;rw[e3,e2]at Qw;exact Bh l' ((BN (n:=nn)).2 Qw))
  have Un:=Z λ(q:Ja) (h1:q.length=lb+1) (h2:DK Y q) (h3:val Y q=val Y ((D.drop i).take (lb+1))%(n*2^s))=>hL.step Qn Qh h1 h2 h3 Ux;obtain⟨qd,fi⟩:=ex (val Y ((D.drop i).take (lb+1))/(n*2^s));rw[fi]at Un Ul;clear fi w1 w2 w3 hL f8 fj Qu;obtain⟨H1,fw⟩:∃H1:Nat,(i:Int)+(lb:Int)=(H1:Int):=⟨i+lb,O⟩;obtain⟨ap,hH⟩:∃ap:Nat,(H1:Int)+1=(ap:Int):=⟨H1+1,O⟩;have fx:ap-i=lb+1:=O
  have fy:ap<=la+1:=by have:=Qi.o;omega
  have gh:i<=ap:=O
  have y1:(i:Int)<=(ap:Int):=O
  have y2:(ap:Int)<=(la:Int)+1:=O
  have y3:(0:Int)<=(i:Int):=O
  have y4:(i:Int)<(K:Int):=O
  have y5:M.wrap (H1:Int)=(H1:Int):=BU _ O;have y6:M.wrap (ap:Int)=(ap:Int):=BU _ O;gi_wp2_with fail
  refine YY Dm [[],[],[],[],[],[],[5],[4,6],[7],[2,3,8],[],[9,10],[0,1,0,1,2,3,4,5,6,7,8,9,10,11],[12,11,11,0,1,2,3,4,5,6,7,8,9,10,11]] V9 DQ
   (λDD ac V=>∃co cz de dh di dj dt du dw dx dz eb ed:Value,ac={ tmps:=#[C a la ca,C (some ⟨t,x,none⟩) lb cb,E,I (some ⟨w.heap.size,0,none⟩),C none 0 0,C none 0 0,E,E,F G (s:Nat),I (some ⟨B9,0,none⟩),I (some ⟨B10,0,none⟩),I (some ⟨f.heap.size+1,0,none⟩),F M (i:Nat),C a la ca,F M (la:Nat),C (some ⟨t,x,none⟩) lb cb,F M (lb:Nat),.bool false,E,E,C (some ⟨t,x,none⟩) lb cb,F M (lb:Nat),.bool false,E,E,E,E,E,E,E,E,E,E,E,E,C (some ⟨t,x,none⟩) lb cb,C (some ⟨t,x,none⟩) lb cb,F M (lb:Nat),F M (l1:Nat),I (some ⟨t,x+l1,none⟩),F G (d:Nat),F M (s:Nat),F G (s:Nat),bd,bf,C (some ⟨gR,0,none⟩) (la+1) (la+1),bh,bi,C (some ⟨gZ,0,none⟩) (lb+1) (lb+1),bj,bk,C (some ⟨gZ,0,none⟩) lb (lb+1),C (some ⟨gR,0,none⟩) (la+1) (la+1),F M ((la:Int)+1),C (some ⟨gZ,0,none⟩) lb (lb+1),F M (lb:Nat),F M (K:Nat),C (some ⟨f.heap.size,0,none⟩) K K,C (some ⟨f.heap.size,0,none⟩) K K,.func (.func 174) #[] #[I (some ⟨f.heap.size+1+1,0,none⟩)],F M (i:Nat),F G 0,co,cz,de,dh,di,dj,dt,du,dw,dx,dz,eb,ed,E,E,E,E,E],defers:=[] }/\Hid (DD 0=true->co=C (some ⟨f.heap.size,0,none⟩) K K)/\Hid (DD 1=true->cz=F M (i:Nat))/\Hid (DD 2=true->de=C (some ⟨gR,0,none⟩) (la+1) (la+1))/\Hid (DD 3=true->dh=F M (i:Nat))/\Hid (DD 4=true->di=F M (i:Nat))/\Hid (DD 5=true->dj=C (some ⟨t,x,none⟩) lb cb)/\Hid (DD 6=true->dt=F M (lb:Nat))/\Hid (DD 7=true->du=F M (H1:Nat))/\Hid (DD 8=true->dw=F M (ap:Nat))/\Hid (DD 9=true->dx=C (some ⟨gR,i,none⟩) (lb+1) (la+1-i))/\Hid (DD 10=true->dz=C (some ⟨gZ,0,none⟩) lb (lb+1))/\Hid (DD 11=true->eb=F G (qd:Nat))/\Hid (DD 12=true->ed=I (some ⟨f.heap.size,i,none⟩))/\∃D2,Hid (DD 11=true->∃q,(q.length=lb+1/\DK Y q/\val Y q=val Y ((D.drop i).take (lb+1))%(n*2^s))/\D2=DT D i (lb+1) q)/\SplM c W D D2 Q (Q.set i qd) (DD 11) (DD 13) V)
   (E8 ⟨_,_,_,_,_,J,Z Dc,Z Dc,Z Dc,Z Dc,Z Dc,Z Dc,Z Dc,Z Dc,Z Dc,Z Dc,Z Dc,Z Dc,Z Dc,D,Z Dc,SplM.drew ⟨KeepsOthers.refl _,hh,hD,hQ⟩⟩) ?step ?fin
  case fin=>
   rintro DD ac V am ⟨co,cz,de,dh,di,dj,dt,du,dw,dx,dz,eb,ed,rfl,N,P,g2,R,g4,r,S,T,U,A,y,ad,ae,D2,gd,z⟩;rw[am 11 DQ,am 13 DQ]at z;obtain⟨q,⟨ew,f6,f7⟩,rfl⟩:=gd.o (am 11 DQ);refine⟨z.k.from _,z.h,DT D i (lb+1) q,Q.set i qd,z.r,z.q,?_⟩;rw[HI.o];exact Un.o q ew f6 f7
  case step=>
   rintro DD ac V j ds aj hj b ai ⟨co,cz,de,dh,di,dj,dt,du,dw,dx,dz,eb,ed,rfl,N,P,g2,R,g4,r,S,T,U,A,y,ad,ae,D2,gd,z⟩;have Qv:j<14:=(Ax.1 hj).1;obtain rfl|rfl|rfl|rfl|rfl|rfl|rfl|rfl|rfl|rfl|rfl|rfl|rfl|rfl:=FV j O
   all_goals
    simp only[AZ,AR,A0]at hj;subst hj;clear Qv
   . have b11:Boxed V (f.heap.size+1) 34 (C (some ⟨f.heap.size,0,none⟩) K K):=by have:=z.h.b11;rw[hc]at this;exact this
     have k0:=b11.cell;clear b aj;refine Bg J λK2 X=>?_;go_simp;exact X _ _ (E8 ⟨_,_,_,_,_,J,Z λ_=>rfl,P,g2,R,g4,r,S,T,U,A,y,ad,ae,D2,gd,z⟩)
   . clear b aj;refine Bg J λK2 X=>?_;go_simp;exact X _ _ ⟨_,_,_,_,_,_,_,_,_,_,_,_,_,J,N,Z λ_=>rfl,g2,R,g4,r,S,T,U,A,y,ad,ae,D2,gd,z⟩
   . have b9:Boxed V B9 34 (C (some ⟨gR,0,none⟩) (la+1) (la+1)):=by have:=z.h.b9;rw[hc]at this;exact this
     have k0:=b9.cell;clear b aj;refine Bg J λK2 X=>?_;go_simp;exact X _ _ ⟨_,_,_,_,_,_,_,_,_,_,_,_,_,J,N,P,Z λ_=>rfl,R,g4,r,S,T,U,A,y,ad,ae,D2,gd,z⟩
   . clear b aj;refine Bg J λK2 X=>?_;go_simp;exact X _ _ ⟨_,_,_,_,_,_,_,_,_,_,_,_,_,J,N,P,g2,Z λ_=>rfl,g4,r,S,T,U,A,y,ad,ae,D2,gd,z⟩
   . clear b aj;refine Bg J λK2 X=>?_;go_simp;exact X _ _ ⟨_,_,_,_,_,_,_,_,_,_,_,_,_,J,N,P,g2,R,Z λ_=>rfl,r,S,T,U,A,y,ad,ae,D2,gd,z⟩
   . have b0:Boxed V w.heap.size 34 (C (some ⟨t,x,none⟩) lb cb):=by have:=z.h.b0;rw[hc]at this;exact this
     have k0:=b0.cell;clear b aj;refine Bg J λK2 X=>?_;go_simp;exact X _ _ ⟨_,_,_,_,_,_,_,_,_,_,_,_,_,J,N,P,g2,R,g4,Z λ_=>rfl,S,T,U,A,y,ad,ae,D2,gd,z⟩
   . obtain rfl:=r.o (b 5 DJ);clear b aj;refine Bg J λK2 X=>?_;go_simp;exact X _ _ ⟨_,_,_,_,_,_,_,_,_,_,_,_,_,J,N,P,g2,R,g4,Z λ_=>rfl,Z λ_=>rfl,T,U,A,y,ad,ae,D2,gd,z⟩
   . obtain rfl:=g4.o (b 4 DJ);obtain rfl:=S.o (b 6 DJ);clear b aj;refine Bg J λK2 X=>?_;go_simp;exact X _ _ ⟨_,_,_,_,_,_,_,_,_,_,_,_,_,J,N,P,g2,R,Z λ_=>rfl,r,Z λ_=>rfl,Z λ_=>rfl,U,A,y,ad,ae,D2,gd,z⟩
   . obtain rfl:=T.o (b 7 DJ);clear b aj;refine Bg J λK2 X=>?_;go_simp;exact X _ _ ⟨_,_,_,_,_,_,_,_,_,_,_,_,_,J,N,P,g2,R,g4,r,S,Z λ_=>rfl,Z λ_=>rfl,A,y,ad,ae,D2,gd,z⟩
   . obtain rfl:=g2.o (b 2 DJ);obtain rfl:=R.o (b 3 DJ);obtain rfl:=U.o (b 8 DJ);have gk:¬(la+1=i):=O
     clear b aj;refine Bg J λK2 X=>?_;go_simp;exact X _ _ ⟨_,_,_,_,_,_,_,_,_,_,_,_,_,J,N,P,Z λ_=>rfl,Z λ_=>rfl,g4,r,S,T,Z λ_=>rfl,Z λ_=>rfl,y,ad,ae,D2,gd,z⟩
   . have b10:Boxed V B10 34 (C (some ⟨gZ,0,none⟩) lb (lb+1)):=by have:=z.h.b10;rw[hc]at this;exact this
     have k0:=b10.cell;clear b aj;refine Bg J λK2 X=>?_;go_simp;exact X _ _ ⟨_,_,_,_,_,_,_,_,_,_,_,_,_,J,N,P,g2,R,g4,r,S,T,U,A,Z λ_=>rfl,ad,ae,D2,gd,z⟩
   . obtain rfl:=A.o (b 9 DJ);obtain rfl:=y.o (b 10 DJ);rw[ai]at z;have hr:DN V gR D:=by have:=z.r;rw[hc]at this;exact this
     have hz:DN V gZ Zb:=by have:=z.h.z;rw[hc]at this;exact this
     have HV:=Z z;clear z;clear b aj;refine Bg J λK2 X=>?_;go_simp;gi_wp2_with(refine⟨trivial,?_⟩;gi_at_call 179;refine(Ul.o _ _ hr hz).mono ?_;rintro e w5 ⟨q,rfl,⟨ew,f6,f7⟩,hA5,bz⟩)
     exact⟨_,_,_,_,_,_,_,_,_,_,_,_,_,J,N,P,g2,R,g4,r,S,T,U,Z λ_=>rfl,Z λ_=>rfl,Z λ_=>rfl,ae,DT D i (lb+1) q,Z λ_=>⟨q,⟨ew,f6,f7⟩,J⟩,SplM.split (HV.o.any _) Ue (by rw[hc];exact bz) (by rw[hc];exact hA5)⟩
   . obtain rfl:=N.o (b 0 DJ);obtain rfl:=P.o (b 1 DJ);clear b aj;refine Bg J λK2 X=>?_;go_simp;exact X _ _ (E8 ⟨_,_,_,_,_,J,Z λ_=>rfl,Z λ_=>rfl,g2,R,g4,r,S,T,U,A,y,ad,Z λ_=>rfl,D2,gd,z⟩)
   . obtain rfl:=ad.o (b 11 DJ);obtain rfl:=ae.o (b 12 DJ);rw[ai]at z;have Ql:DN V f.heap.size Q:=by have:=z.q;rw[hc]at this;exact this
     have k0:=Ql.cell (j:=i) O;have f0:=Ql.frozen i;have Qm:SplM c W D D2 Q (Q.set i qd) (DD 11) true (V.setCell ⟨f.heap.size,i,none⟩ (F G (qd:Nat))):=by have:=z.store Ue (j:=i) (v:=qd) J;rw[hc]at this ⊢;exact this
     have Qo:=Z Qm;clear Qm z;clear b aj;refine Bg J λK2 X=>?_;go_simp;exact X _ _ ⟨_,_,_,_,_,_,_,_,_,_,_,_,_,J,N,P,g2,R,g4,r,S,T,U,A,y,Z λ_=>rfl,Z λ_=>rfl,D2,gd,Qo.o⟩
 case done=>
  rintro D W hD ⟨hh,D2,Q2,am,ff,hL⟩ X;rw[AY]at hL;obtain⟨f1,f2⟩:=hL.fin J J;have b11:Boxed W (f.heap.size+1) 34 (C (some ⟨f.heap.size,0,none⟩) K K):=by have:=hh.b11;rw[hc]at this;exact this
  have b9:Boxed W B9 34 (C (some ⟨gR,0,none⟩) (la+1) (la+1)):=by have:=hh.b9;rw[hc]at this;exact this
  have Uj:Bl w W:=by have:=hh.B;rw[hc]at this;exact this
  have hr:DN W gR D2:=by have:=am;rw[hc]at this;exact this
  have Ql:DN W f.heap.size Q2:=by have:=ff;rw[hc]at this;exact this
  have Qj:=Qi.o;have Qd:Row G W (C (some ⟨f.heap.size,0,none⟩) K K) Q2:=by
   have h1:=Ql.row 0 K K (by rw[hL.2.2.1];omega) (Aa _) O O;rwa[AF,Ac (by rw[hL.2.2.1];exact Aa _)]at h1
  have Qe:Row G W (C (some ⟨gR,0,none⟩) (la+1) (la+1)) D2:=by
   have h1:=hr.row 0 (la+1) (la+1) (by rw[hL.1];omega) (Aa _) O O;rwa[AF,Ac (by rw[hL.1];omega)]at h1
  have HT:=Z (show ∀V:H,Bl W V->Calls L 132 #[C (some ⟨f.heap.size,0,none⟩) K K] V λe w'=>∃u,e=.returned u/\UN w' u (m/n)/\Bl V w' from λV h=>by
   have h1:=Yq _ Q2 V (Row.below Qd h);rw[f1]at h1;exact h1)
  have Uy:=Z (show ∀V:H,Bl W V->Calls L 180 #[C (some ⟨gR,0,none⟩) (la+1) (la+1),F G (s:Nat)] V λe w'=>∃u,e=.returned u/\UN w' u (m%n)/\Bl V w' from λV h=>by
   have h1:=Ra _ _ _ D2 s V hs (Row.below Qe h) hL.2.1;rw[f2,Nat.mul_div_cancel _ (AW s)]at h1;exact h1)
  have gr:=b11.lt;have l9:=b9.lt;have Uk:=b11.cell;have k9:=b9.cell;clear hL f1 f2 Qd Qe hr Ql hh am ff Uc Uh Qz Qu Qj;go_upto_region 13 with fail
  have o:Bl W W.drew:=(BF _ W).drew;go_region_held3 (λw'=>w'.cell? ⟨f.heap.size+1,0,none⟩=some (C (some ⟨f.heap.size,0,none⟩) K K)/\w'.cell? ⟨B9,0,none⟩=some (C (some ⟨gR,0,none⟩) (la+1) (la+1))) (refine⟨?_,?_⟩<;>(first|(go_keep;done)|(simp[*];done)))
   (first
    |(go_at_call 132;refine(HT.o _ o).mono ?_;rintro e w5 ⟨u5,rfl,fk,an⟩;obtain⟨ua,uc,rfl⟩:=UN.form fk;have o:=Bt o an;have Uk:=(boxed_below b11 o).cell;have k9:=(boxed_below b9 o).cell)
    |(go_at_call 180;refine(Uy.o _ o).mono ?_;rintro e w6 ⟨u6,rfl,fl,fg⟩;obtain⟨va,vc,rfl⟩:=UN.form fl;have o:=Bt o fg;have Uk:=(boxed_below b11 o).cell;have k9:=(boxed_below b9 o).cell))
  all_goals go_wp2_with fail
  have Qq:w6.heap[D]?=some (.deferred (some [])):=(o.block D (Ab.1 X).1).trans X;refine⟨DJ,.inl ⟨_,_,J,Be Qq,?_⟩⟩;refine⟨.tuple #[C ua (Jb Y (m/n)).length uc,C va (Jb Y (m%n)).length vc],by simp[results,results151,go_sem],_,_,J,Kz (UN.below fk fg) Qq,Kz fl Qq,?_⟩;exact below_grown (Bt Uj o) (BX _ D (.deferred none)) (by have:=Um.size;omega)
end
section
variable{a:Ja}{P d g l rc:Nat}{u:Value}{W:H}
def K4(a:V8)(la c:Nat)(b:V8)(lb f m n:Nat)(w:H)(j:Row G w (C a la c) (Jb Y m))(k:Row G w (C b lb f) (Jb Y n))(hn:n≠0)(W:la<1099511627776):
 Calls L 151 #[C a la c,C b lb f] w λe o=>∃u v,e=.returned (.tuple #[u,v])/\UN o u (m/n)/\UN o v (m%n)/\Bl w o:=by
 obtain⟨V,ad,am,ai,ah⟩:=Jn j;obtain⟨i,ae,an,aj,U⟩:=Jn k;have ak:lb≠0:=λe=>hn ((Jz Jc).1 (Ah (by rw[<-i,e])));by_cases P:la<lb
 . exact Rb a la c b lb f m n w j k P
 . by_cases Q:lb=1
   . subst Q;exact Re a la c b f m n w j k O
   . obtain⟨l,rfl⟩:∃l,lb=l+2:=⟨lb-2,O⟩;obtain⟨A,B,rfl,T,kb⟩:=U (l+1) O;have p:=Jj Jc n;have r:(Jb Y n)[l+1]?.getD 0≠0:=by
      intro e;have R:=Jm Y (Jb Y n) (l+1);rw[Ac O,e,Cc,AX,Jk Jc]at R;have h4:=J5 p (l+1);have q:=YE Jc i.symm O;rw[show l+2-1=l+1 from J]at q;omega
     have g:(Jb Y n)[l+1]?.getD 0<Y:=p.getD uo _;obtain⟨d,t⟩:=ex ((Jb Y n)[l+1]?.getD 0);rw[t]at kb r g;obtain⟨D,K,N⟩:=bitLen_spec d r (by rw[<-Fg];exact g);have S:Lib.bitLen d<=64:=by
      rcases AD 64 (Lib.bitLen d)with h|h
      . exfalso
        have q:2^64<=2^(Lib.bitLen d-1):=Ag O O;rw[Fg]at g;omega
      . exact h
     obtain⟨x,y⟩:=Mw (s:=64-Lib.bitLen d) p i.symm t K N D S J;rw[Jk Jc]at x y;have X:m<Y^la:=by
      have:=J1 (Jj Jc m);rwa[Jk Jc,<-V]at this
     have z:Y^(l+1)<=n:=YE Jc i.symm O;exact R2 a la c A B l (l+2) (l+1) f m n d (64-Lib.bitLen d) w J O T j k kb g O (show _=_ by omega) O W x y (Rz X z O)
theorem K5{p:Nat}(a:p≠0)(h:p<Y):Jb Y p=[p]:=by
 grind[Y4,Ce,AV,Jw]
def R3(a:V8)(t:Nat)(b:V8)(lb v x y:Nat)(w:H)(d:Row G w (C a 1 t) (Jb Y x))(r:Row G w (C b lb v) (Jb Y y))(B:y<Y):
 Calls L 152 #[C a 1 t,C b lb v] w λe D=>∃u,e=.returned u/\UN D u (Nat.gcd x y)/\Bl w D:=by
 obtain⟨n,ae,am,ai,l⟩:=Jn d;obtain⟨c,ah,an,aj,m⟩:=Jn r;obtain⟨o,ap,T⟩:=K0 n.symm;rcases AJ lb with z|z
 . subst z;have k:=(Jz Jc).1 (Ah c.symm);subst k;have N:=Z d;clear l m n c d r o;go_enter func152,ntmps152
   go_wp2_with fail
   go_ret;exact⟨_,J,by rw[Nat.gcd_zero_right];exact N.o,BF _ w⟩
 . have k:y≠0:=λe=>by rw[e,Jw]at c;simp at c;omega
   have i:=K5 k B;obtain rfl:lb=1:=by rw[c,i];rfl
   obtain⟨P,Q,rfl,X,ka⟩:=l 0 O;obtain⟨R,S,rfl,ad,kb⟩:=m 0 O;rw[o]at ka;rw[i]at kb;have aq:w.cell? ⟨P,Q,none⟩=some (F G (x:Nat)):=ka;have az:w.cell? ⟨R,S,none⟩=some (F G (y:Nat)):=kb;clear l m n c d r o i ka kb;go_enter func152,ntmps152
   go_upto_region 3 with fail
   go_quiet (fail)
   go_wp2_with fail
   go_loopw [5,6] (λW s wr=>∃(p q j:Nat),W=F G (p:Nat)/\s=F G (q:Nat)/\p<Y/\q<Y/\p≠0/\Hid (Nat.gcd p q=Nat.gcd x y)/\wr=w.drewN j) (λ_ s _=>(intOf s).toNat)
   case atStart=>exact⟨x,y,_,J,J,T,B,O,Z J,J⟩
   case round=>
    obtain⟨p,q,j,rfl,rfl,hp,V,U,g,rfl⟩:=hrel;by_cases A:q=0
    . subst A;have f:=Z (show p=Nat.gcd x y by rw[<-g.o,Nat.gcd_zero_right]);have K:=Z (K5 U hp);clear g;go_wp2_with fail
      go_ret;refine⟨C (some ⟨w.heap.size,0,none⟩) 1 1,J,?_,(Gd (BF _ w) _).alloc (Aa _) _⟩;unfold UN;rw[<-f.o,K.o];exact(DN.made (xs:=[p]) (BG (w.drewN j) (.cells #[F G (p:Nat)] 163))).row 0 1 1 DJ O O O
    . have f:=Z (show Nat.gcd q (p%q)=Nat.gcd x y by rw[<-g.o,CK q,<-Nat.gcd_rec,CK]);have ak:=AN p (show q>0 by omega);go_upto_region 5 with fail
      go_quiet (fail)
      go_wp2_with fail
      exact⟨⟨q,p%q,j+nq,J,DJ,V,O,A,f,DJ⟩,by simp[intOf];omega⟩
def EY(W:H)(b:Nat)(u:Value)(g l rc P:Nat)(a:Ja):Prop:=
 u=C (some ⟨g,0,none⟩) l rc/\DN W g a/\DK Y a/\l<=a.length/\l<=rc/\rc<=9223372036854775807/\l<=1099511627776/\a.take l=Jb Y P/\b<=g
def EY.below{W W':H}{a g l rc P:Nat}{u:Value}{b:Ja}(h:EY W a u g l rc P b)(c:Bl W W'):EY W' a u g l rc P b:=
 ⟨h.1,h.2.1.below c,h.2.2⟩
def EY.un(h:EY W d u g l rc P a):UN W u P:=by
 obtain⟨rfl,b,j,k,c,e,f,i,m⟩:=h;have:=b.row 0 l rc O c e f;rw[AF,i]at this;exact this
theorem R4{ds:Ja}(d:DN W g a)(k:Row G W (C (some ⟨g,0,none⟩) l rc) ds)(hl:l<=a.length):a.take l=ds:=by
 obtain⟨m,_,_,_,c⟩:=Jn k;apply List.ext_getElem?;intro j;by_cases i:j<l
 . obtain⟨b,n,e,_,f⟩:=c j i;cases e;rw[Cj,d.cell O]at f;grind
 grind
def My(a:V8)(la r:Nat)(b:V8)(lb s:Nat)(c d:Ja)(w:H)(V:DK Y c)(W:DK Y d)(T:la+lb<=1099511627776)
(k:Row G w (C a la r) c)(m:Row G w (C b lb s) d):
 Calls L 118 #[C a la r,C b lb s] w λe t=>∃u,e=.returned u/\UN t u (val Y c*val Y d)/\(val Y c*val Y d≠0->∃g l rc o,EY t w.heap.size u g l rc (val Y c*val Y d) o)/\Bl w t:=by
 have y:=Fx (la+lb) O w;rw[show((la+lb:Nat):Int)=(la:Int)+(lb:Int)from by omega]at y;obtain⟨i,n⟩:∃i,i=w.alloc (.cells (cellsOf G (WC (la+lb) 0)).toArray 163):=⟨_,J⟩;have q:Bl w i:=by rw[n];exact Ba w _
 have v:DN i w.heap.size (WC (la+lb) 0):=by rw[n];exact DN.made (BG w _)
 rw[<-n]at y;have N:=Z (RK w.heap.size (la+lb) (la+lb) (WC (la+lb) 0) a la r b lb s c d i V W v (λx U=>by rw[CL U];unfold Y;omega) DX (Aa _) O T (Row.below k q) (Row.below m q)
  (λp e j=>by have:=Ff k e j;omega) λp e j=>by have:=Ff m e j;omega)
 have X:=(Jn k).2.1;have ad:=(Jn k).2.2.1;have ae:=(Jn m).2.1;have ah:=(Jn m).2.2.1;clear n v k m;go_enter func118,ntmps118
 go_wp2_with(go_at_call 153;refine N.o.mono ?_;rintro e w5 ⟨u,rfl,⟨f,S⟩,R,o,D,Q,K⟩;obtain⟨ua,uc,rfl⟩:=UN.form f)
 go_ret;refine⟨_,J,f,λj=>?_,below_grown q S (Aa _)⟩;have P:(Jb Y (val Y c*val Y d)).length≠0:=λe=>j ((Jz Jc).1 (Ah e));rcases R with e|⟨l,e⟩
 . injection e with z A B
   exact absurd A P
 . injection e with z A B
   subst z;subst B;rw[AG]at K;have hl:(Jb Y (val Y c*val Y d)).length<=o.length:=by rw[K];exact(Jn f).2.1
   exact⟨_,_,_,o,J,D,Q,hl,(Jn f).2.1,(Jn f).2.2.1,(Jn f).2.2.2.1,R4 D f hl,Aa _⟩
theorem Mz{Q:Nat}(h:EY W d u g l rc P a)(b:V8)(lb i:Nat)(m:UN W (C b lb i) Q)(y:Q<=P)(A:∀p,b=some p->0<lb->p.block≠g):
 Calls L 148 #[u,C b lb i] W λe j=>∃c q,e=.returned (F G (c:Nat))/\(Row G j u q/\Jr q=Jb Y (P-Q))/\W.grownBy j (some g):=by
 obtain⟨rfl,r,s,B,k,t,v,D,K⟩:=h;have hl:l=(Jb Y P).length:=DX
 have o:=(Jn m).1;refine(ML g 0 l rc a b lb i (Jb Y Q) W r s O k O (by rw[hl,o];exact YH y) m (Jj Jc Q) A).mono ?_;rintro e j ⟨c,q,rfl,f,x,hg⟩;have z:DT a 0 l q=q++a.drop l:=by rw[DT,C8,Ai,Cj]
 have n:=f.1;refine⟨c,q,J,⟨?_,?_⟩,hg⟩
 . have w:=x.row 0 l rc DX k t v;rwa[z,AF,A7 O,Ac O]at w
 . have hs:EB (Jb Y P) (Jb Y Q) 0 l c q:=by
    refine⟨n,f.2.1,f.2.2.1,?_⟩;have:=f.2.2.2;grind
   grind[MN,YH]
def M6{w V a:H}{o:Obj}(h:Bl w V)(k:Below (V.alloc o).heap.size (V.alloc o) a):Bl w a:=(h.alloc h.size o).trans (k.mono (h.alloc h.size o).size)
def M7(x:Nat):val Y [x]=x:=by rw[JS,GH,Cc,AX]
theorem M8(v t:Nat)(a:V8)(la ca:Nat)(b:V8)(lb cb A B:Nat)(w:H)(ra:Row G w (C a la ca) (Jb Y A))(rb:Row G w (C b lb cb) (Jb Y B))(cg:v<Y)(cj:t<Y)(co:la<1099511627776)(cz:lb<1099511627776)(h0:t*B≠0):
 Calls L 150 #[.agg #[F G (v:Nat),F G (t:Nat)],C a la ca,C b lb cb] w λe w'=>∃u,e=.returned u/\UN w' u (Xq (v*A) (t*B))/\Bl w w':=by
 obtain⟨W0,az⟩:=ex (w.alloc (.cells #[F G (v:Nat),F G (t:Nat)] 180));have Qa:Bl w W0:=by rw[<-az];exact Ba w _
 have bx:Ji W0 w.heap.size 180 (F G (v:Nat)) (F G (t:Nat)):=by rw[<-az];exact Ji.new w _ _ _
 have Qp:=Z (show ∀(V:H) (g:Nat),Bl W0 V->DN V g [v]->Calls L 118 #[C a la ca,C (some ⟨g,0,none⟩) 1 1] V λe w'=>∃u,e=.returned u/\UN w' u (v*A)/\(v*A≠0->∃g l rc zs,EY w' V.heap.size u g l rc (v*A) zs)/\Bl V w' from λV g h hA=>by
  have o:=My a la ca (some ⟨g,0,none⟩) 1 1 (Jb Y A) [v] V (Jj Jc A) (DK.cons cg (DK.nil _)) O (Row.below (Row.below ra Qa) h) (hA.row 0 1 1 DJ O O O);rw[M7,Jk Jc,AE A v]at o;exact o)
 have Qo:=Z (show ∀(V:H) (g:Nat),Bl W0 V->DN V g [t]->Calls L 118 #[C b lb cb,C (some ⟨g,0,none⟩) 1 1] V λe w'=>∃u,e=.returned u/\UN w' u (t*B)/\(t*B≠0->∃g l rc zs,EY w' V.heap.size u g l rc (t*B) zs)/\Bl V w' from λV g h hA=>by
  have o:=My b lb cb (some ⟨g,0,none⟩) 1 1 (Jb Y B) [t] V (Jj Jc B) (DK.cons cj (DK.nil _)) O (Row.below (Row.below rb Qa) h) (hA.row 0 1 1 DJ O O O);rw[M7,Jk Jc,AE B t]at o;exact o)
 have Qq:=Z az;clear az ra rb;generalize v*A=n at *;generalize t*B=X at *;go_enter func150,ntmps150
 go_upto_region 1 with fail
 rw[Qq.o];refine Yb Dm [[],[],[1],[2],[0,3],[],[],[6],[7],[5,8,4],[4,9,0,1,2,3,4],[9,10,0,1,2,3,4,5,6,7,8,9,10]] V9 DQ (λf ac V=>∃t7 t8 t9 bc bd bf ah bg bh bi bj ap:Value,ac={ tmps:=#[.agg #[F G (v:Nat),F G (t:Nat)],C a la ca,C b lb cb,I (some ⟨w.heap.size,0,none⟩),E,E,C none 0 0,t7,t8,t9,bc,bd,bf,ah,bg,bh,bi,bj,ap,E,E,E,E,E,E,E,E,E,E,E],defers:=[] }/\Hid (f 0=true->t9=C a la ca)/\Hid (f 1=true->bc=I (some ⟨w.heap.size,0,none⟩))/\Hid (f 2=true->bd=F G (v:Nat))/\Hid (f 3=true->∃g,bf=C (some ⟨g,0,none⟩) 1 1/\DN V g [v])/\Hid (f 4=true->UN V ah n/\(n≠0->∃d x y z,EY V W0.heap.size ah d x y n z))/\Hid (f 5=true->bg=C b lb cb)/\Hid (f 6=true->bh=I (some ⟨w.heap.size,1,none⟩))/\Hid (f 7=true->bi=F G (t:Nat))/\Hid (f 8=true->∃g,bj=C (some ⟨g,0,none⟩) 1 1/\DN V g [t])/\Hid (f 9=true->∃m l2 ai aj,EY V W0.heap.size ap m l2 ai X aj/\UN V ah n/\(n≠0->∃d x y z,EY V W0.heap.size ah d x y n z/\d≠m))/\Hid (f 10=true->t7=ah)/\Hid (f 11=true->t8=ap)/\Bl W0 V)
  (E8 ⟨_,_,_,_,J,Z Dc,Z Dc,Z Dc,Z Dc,Z Dc,Z Dc,Z Dc,Z Dc,Z Dc,Z Dc,Z Dc,Z Dc,(BF _ W0).drew⟩) ?step1 ?fin1
 case step1=>
  rintro f a2 V i ds s bn k ae ⟨t7,t8,t9,bc,bd,bf,ah,bg,bh,bi,bj,ap,rfl,D,d,m,Q,g4,R,S,T,U,W,N,P,j⟩;have Qm:i<12:=(Ax.1 bn).1;obtain rfl|rfl|rfl|rfl|rfl|rfl|rfl|rfl|rfl|rfl|rfl|rfl:=GE i O
  all_goals
   simp only[AZ,AR,A0]at bn;subst bn;clear Qm
  . clear k s;refine Dt ?_;exact⟨Z λ_=>rfl,d,m,Q,g4,R,S,T,U,W,N,P,j⟩
  . clear k s;refine Dt ?_;exact⟨D,Z λ_=>rfl,m,Q,g4,R,S,T,U,W,N,P,j⟩
  . obtain rfl:=d.o (k 1 DJ);have k0:=(bx.below j).c0;clear k s;refine Dt ?_;exact⟨D,Z λ_=>rfl,Z λ_=>rfl,Q,g4,R,S,T,U,W,N,P,j⟩
  . have Qr:f 4=false:=by
     cases h:f 4 with
     |false=>rfl
     |true=>rw[s 4 _ J h 3 DJ]at ae;cases ae
    obtain rfl:=m.o (k 2 DJ);clear k s;refine Dt ?_;exact⟨D,d,Z λ_=>rfl,Z λ_=>⟨_,J,DN.made (xs:=[v]) (BG V _)⟩,Z (λh=>by simp[Qr]at h),R,S,T,Z (λh=>by obtain⟨g,e,q⟩:=U.o h;exact⟨g,e,q.below (Ba V _)⟩),Z (λh=>by obtain⟨m,l2,ai,aj,q1,q2,q3⟩:=W.o h;exact⟨m,l2,ai,aj,q1.below (Ba V _),q2.below (Ba V _),λo=>by obtain⟨d,x,y,z,q,q4⟩:=q3 o;exact⟨d,x,y,z,q.below (Ba V _),q4⟩⟩),N,P,j.alloc j.size _⟩
  . have Qk:f 9=false:=by
     cases h:f 9 with
     |false=>rfl
     |true=>rw[s 9 _ J h 4 DJ]at ae;cases ae
    have Qn:f 10=false:=by
     cases h:f 10 with
     |false=>rfl
     |true=>rw[s 10 _ J h 4 DJ]at ae;cases ae
    obtain rfl:=D.o (k 0 DJ);obtain⟨gm,rfl,am⟩:=Q.o (k 3 DJ);clear k s;refine JI J J λK hK=>?_;go_simp;go_wp2_with(go_at_call 118;refine(Qp.o _ _ j am).mono ?_;rintro e w5 ⟨u5,rfl,bz,bt,ad⟩)
    exact E8 ⟨_,_,_,_,J,Z λ_=>rfl,d,m,Z λ_=>⟨gm,J,am.below ad⟩,Z λ_=>⟨bz,λo=>by obtain⟨d,x,y,z,q⟩:=bt o;exact⟨d,x,y,z,q.1,q.2.1,q.2.2.1,q.2.2.2.1,q.2.2.2.2.1,q.2.2.2.2.2.1,q.2.2.2.2.2.2.1,q.2.2.2.2.2.2.2.1,As j.size q.2.2.2.2.2.2.2.2⟩⟩,R,S,T,Z (λh=>by obtain⟨g,e,q⟩:=U.o h;exact⟨g,e,q.below (ad)⟩),Z (λh=>by simp[Qk]at h),Z (λh=>by simp[Qn]at h),P,Bt j ad⟩
  . clear k s;refine Dt ?_;exact⟨D,d,m,Q,g4,Z λ_=>rfl,S,T,U,W,N,P,j⟩
  . clear k s;refine Dt ?_;exact⟨D,d,m,Q,g4,R,Z λ_=>rfl,T,U,W,N,P,j⟩
  . obtain rfl:=S.o (k 6 DJ);have k0:=(bx.below j).c1;clear k s;refine Dt ?_;exact⟨D,d,m,Q,g4,R,Z λ_=>rfl,Z λ_=>rfl,U,W,N,P,j⟩
  . have Qk:f 9=false:=by
     cases h:f 9 with
     |false=>rfl
     |true=>rw[s 9 _ J h 8 DJ]at ae;cases ae
    obtain rfl:=T.o (k 7 DJ);clear k s;refine Dt ?_;exact⟨D,d,m,Z (λh=>by obtain⟨g,e,q⟩:=Q.o h;exact⟨g,e,q.below (Ba V _)⟩),Z (λh=>by obtain⟨q1,q2⟩:=g4.o h;exact⟨q1.below (Ba V _),λo=>by obtain⟨d,x,y,z,q⟩:=q2 o;exact⟨d,x,y,z,q.below (Ba V _)⟩⟩),R,S,Z λ_=>rfl,Z λ_=>⟨_,J,DN.made (xs:=[t]) (BG V _)⟩,Z (λh=>by simp[Qk]at h),N,P,j.alloc j.size _⟩
  . have Ql:f 11=false:=by
     cases h:f 11 with
     |false=>rfl
     |true=>rw[s 11 _ J h 9 DJ]at ae;cases ae
    obtain rfl:=R.o (k 5 DJ);obtain⟨gm,rfl,am⟩:=U.o (k 8 DJ);obtain⟨p1,p2⟩:=g4.o (k 4 DJ);clear k s;refine JI J J λK hK=>?_;go_simp;go_wp2_with(go_at_call 118;refine(Qo.o _ _ j am).mono ?_;rintro e w5 ⟨u5,rfl,bz,bt,ad⟩)
    exact⟨_,_,_,_,_,_,_,_,_,_,_,_,J,D,d,m,Z (λh=>by obtain⟨g,e,q⟩:=Q.o h;exact⟨g,e,q.below (ad)⟩),Z (λh=>by obtain⟨q1,q2⟩:=g4.o h;exact⟨q1.below (ad),λo=>by obtain⟨d,x,y,z,q⟩:=q2 o;exact⟨d,x,y,z,q.below (ad)⟩⟩),Z λ_=>rfl,S,T,Z λ_=>⟨gm,J,am.below ad⟩,Z (λ_=>by obtain⟨m,l2,ai,aj,q⟩:=bt h0;exact⟨m,l2,ai,aj,⟨q.1,q.2.1,q.2.2.1,q.2.2.2.1,q.2.2.2.2.1,q.2.2.2.2.2.1,q.2.2.2.2.2.2.1,q.2.2.2.2.2.2.2.1,As j.size q.2.2.2.2.2.2.2.2⟩,p1.below ad,λo=>by obtain⟨d,x,y,z,r⟩:=p2 o;exact⟨d,x,y,z,r.below ad,by have:=r.2.1.lt;have:=q.2.2.2.2.2.2.2.2;omega⟩⟩),N,Z (λh=>by simp[Ql]at h),Bt j ad⟩
  . clear k s;refine Dt ?_;exact⟨D,d,m,Q,g4,R,S,T,U,W,Z λ_=>rfl,P,j⟩
  . clear k s;refine Dt ?_;exact⟨D,d,m,Q,g4,R,S,T,U,W,N,Z λ_=>rfl,j⟩
 rintro f ck V1 aq ⟨t7,t8,t9,bc,bd,bf,ah,bg,bh,bi,bj,ap,rfl,D,d,m,Q,g4,R,S,T,U,W,N,P,j⟩;obtain⟨gB,l2,ai,aj,o2,an,o1⟩:=W.o (aq 9 DQ);obtain rfl:=N.o (aq 10 DQ);obtain rfl:=P.o (aq 11 DQ);obtain⟨a1,c1,rfl⟩:=UN.form an;have Qd:=o2.un;obtain⟨a2,c2,rfl⟩:=UN.form Qd;clear D d m Q g4 R S T U W N P aq Qp Qo;have Qi:∀p,a1=some p->0<(Jb Y n).length->p.block≠gB:=λp e o=>by
  have hp:n≠0:=λe0=>by rw[e0,Jw]at o;simp at o
  obtain⟨d,x,y,z,r,r2⟩:=o1 hp;have:=r.1;grind
 have HO:=Z (Kl _ _ (Jb Y n) (Jb Y X) V1 an Qd (Jj Jc n) (Jj Jc X) (J4 Jc n) (J4 Jc X));rw[Jk Jc,Jk Jc]at HO;have Qg:=Bt Qa j;have Qj:=o2.2.2.2.2.2.2.2.2;by_cases ce:n<X
 . have Qb:=XF ce;rw[Qb]at HO;have Qf:=Z λ(V:H) (h:Bl V1 V)=>Mz (o2.below h) a1 (Jb Y n).length c1 (an.below h) O Qi;have HD:=Z (show X-n=Xq n X by unfold Xq;omega);clear Qb an Qd o1 Qi;go_upto_region 4 with(go_at_call 114;refine HO.o.mono ?_;rintro e w2 ⟨rfl,ak⟩)
   go_upto_region 5 with(go_at_call 148;refine(Qf.o _ ak).mono ?_;rintro e w3 ⟨c,q,rfl,⟨hr,bu⟩,bm⟩)
   have Qc:=Z (Yq _ q _ hr);rw[bu,HD.o]at Qc;clear Qf HO;go_wp2_with(go_at_call 132;refine Qc.o.mono ?_;rintro e w4 ⟨u,rfl,hu,bk⟩;obtain⟨ua,uc,rfl⟩:=UN.form hu)
   go_ret;have Qe:=below_grown (Bt Qg ak) bm (As Qa.size Qj);exact⟨_,J,hu,Bt Qe bk⟩
 . obtain⟨cm,Qb,cn⟩:∃cm:Int,Yy n X=cm/\¬(cm<0):=⟨_,J,by unfold Yy;omega⟩;rw[Qb]at HO;obtain⟨d,x,y,z,r,r2⟩:=o1 O;have Qh:=r.2.2.2.2.2.2.2.2;have Qf:=Z (λ(V:H) (h:Bl V1 V)=>Mz (r.below h) a2 (Jb Y X).length c2 (Qd.below h) O (λp e _=>by
    have:=o2.1;grind))
   have HD:=Z (show n-X=Xq n X by unfold Xq;omega);clear Qb an Qd o1 Qi;go_upto_region 4 with(go_at_call 114;refine HO.o.mono ?_;rintro e w2 ⟨rfl,ak⟩)
   go_upto_region 5 with(go_at_call 148;refine(Qf.o _ ak).mono ?_;rintro e w3 ⟨c,q,rfl,⟨hr,bu⟩,bm⟩)
   have Qc:=Z (Yq _ q _ hr);rw[bu,HD.o]at Qc;clear Qf HO;go_wp2_with(go_at_call 132;refine Qc.o.mono ?_;rintro e w4 ⟨u,rfl,hu,bk⟩;obtain⟨ua,uc,rfl⟩:=UN.form hu)
   go_ret;have Qe:=below_grown (Bt Qg ak) bm (As Qa.size Qh);exact⟨_,J,hu,Bt Qe bk⟩
end
def EO(x k s:Nat):Nat:=x/(Y^k*2^(64-s))
variable{a:Ja}{k s:Nat}
def R5(hl:a.length=k+2)(b:DK Y a)(hs:s<=63)(f:a[k+1]?.getD 0<2^(64-s)):
 EO (val Y a) k s=Dn (a[k+1]?.getD 0) s+Dh (a[k]?.getD 0) (64-s)/\Dn (a[k+1]?.getD 0) s ||| Dh (a[k]?.getD 0) (64-s)=Dn (a[k+1]?.getD 0) s+Dh (a[k]?.getD 0) (64-s):=by
 have g:=Mu hl;have c:=J5 b k;have i:=b.getD (show 0<Y by unfold Y;omega) k;have hp:=Ga (s:=s) O;have e:Dn (a[k+1]?.getD 0) s=a[k+1]?.getD 0*2^s:=by rw[Gb O,Ce f]
 rw[e];have d:Dh (a[k]?.getD 0) (64-s)<2^s:=by
  unfold Dh;rw[Aw (AW _),hp];exact i
 refine⟨?_,by rw[AE,<-CF d]⟩;unfold EO Dh;rw[g,<-Nat.div_div_eq_div_mul,AE _ (Y^k),Nat.mul_add_div (C5 uo),AV c,AX,<-hp,<-A4,CP,Nat.add_mul_div_right _ _ (AW _)];omega
def R6(hl:a.length=k+1)(d:DK Y a):EO (val Y a) k s=Dh (a[k]?.getD 0) (64-s):=by
 have b:=Jm Y a k;rw[Ac O]at b;have c:=J5 d k;unfold EO Dh;rw[b,<-Nat.div_div_eq_div_mul,CP,Nat.mul_add_div (C5 uo),AV c,AX]
def R7(hl:a.length<=k)(b:DK Y a):EO (val Y a) k s=0:=by
 unfold EO;apply AV;have c:=J1 b;have d:Y^a.length<=Y^k:=Ag uo hl;have e:=Ck (Y^k) (AW (64-s));omega
def M9(a:V8)(la t:Nat)(c:Ja)(k f d s:Nat)(w:H)(n:Row G w (C a la t) c)(o:DK Y c)(q:d=k+2)(A:(d:Int)-1=f)(B:(d:Int)-2=k)(hs:s<=63)(T:la<=d)(V:d<=1099511627776)(m:la=d->c[k+1]?.getD 0<2^(64-s)):
 Calls L 177 #[C a la t,F M (d:Nat),F G (s:Nat)] w λe Q=>e=.returned (F G (EO (val Y c) k s:Nat))/\Bl w Q:=by
 obtain⟨hl,R,U,S,i⟩:=Jn n;have i1:M.wrap ((d:Int)-1)=(f:Int):=by rw[A];exact BU _ O
 have i2:M.wrap ((d:Int)-2)=(k:Int):=by rw[B];exact BU _ O
 have i3:M.wrap (f:Int)=(f:Int):=BU _ O;have i4:M.wrap (k:Int)=(k:Int):=BU _ O;have i5:G.wrap ((64:Int)-s)=((64-s:Nat):Int):=by rw[BV];omega
 have p:=Kw (c[k+1]?.getD 0) s;have y:=Kx (c[k]?.getD 0) (64-s);have j:=o.getD (show 0<Y by unfold Y;omega) k;have l:=Ky (show Dn (c[k+1]?.getD 0) s<Y by unfold Dn;exact AN _ uo) (show Dh (c[k]?.getD 0) (64-s)<Y from Cy (CJ _ _) j);obtain rfl|W:=Decidable.em (la=d)
 . obtain⟨b,P,rfl,K,c1⟩:=i (k+1) O;obtain⟨_,_,z,_,c0⟩:=i k O;cases z;obtain⟨u,v⟩:=R5 O o hs (m J);rw[v]at l;have g:=Z u;have r:f=k+1:=O
   rw[<-r]at c1 p l g;have j1:(f:Int)<(la:Int):=O
   have j2:(k:Int)<(la:Int):=O
   have j3:(0:Int)<=(f:Int):=O
   have j4:(0:Int)<=(k:Int):=O
   have j5:f<la:=O
   have N:k<la:=O
   clear r i n u v m hl q j;generalize c[f]?.getD 0=x1 at *;generalize c[k]?.getD 0=x0 at *;go_enter func177,ntmps177
   go_upto_region 3 with fail
   go_quiet (fail)
   go_wp2_with fail
   go_ret;refine⟨?_,Gd (BF _ w) _⟩;rw[g.o];first|rfl|(simp;done)
 . by_cases D:la=f
   . subst D;obtain⟨b,P,rfl,K,c0⟩:=i k O;have g:=Z (R6 (s:=s) (show c.length=k+1 by omega) o);have N:k<la:=O
     have x:¬((la:Int)=(d:Int)):=O
     clear i n m hl q j l p;generalize c[k]?.getD 0=x0 at *;go_enter func177,ntmps177
     go_wp2_with fail
     go_ret;refine⟨?_,BF _ w⟩;rw[g.o];first|rfl|(simp;done)
   . have g:=Z (R7 (s:=s) (show c.length<=k by omega) o);have x:¬((la:Int)=(d:Int)):=O
     have X:¬((la:Int)=(f:Int)):=O
     clear i n m hl q j p y l;go_enter func177,ntmps177
     go_wp2_with fail
     go_ret;refine⟨?_,BF _ w⟩;rw[g.o];first|rfl|(simp;done)

