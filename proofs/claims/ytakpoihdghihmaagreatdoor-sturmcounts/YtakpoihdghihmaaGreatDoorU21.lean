import Derived.Test.YtakpoihdghihmaaGreatDoorU18
import Derived.Test.YtakpoihdghihmaaGreatDoorU04
set_option linter.all false
open Go.Value renaming slice->C,int->F,pointer->L
open Go renaming undef->E,World->I
open Go.IntKind renaming u64->G,i64->N
open Go.Proofs.Tryz renaming prog->M
set_option maxRecDepth 99999
set_option maxHeartbeats 0
namespace Go.Proofs.YtakpoihdghihmaaGreatDoor
open List renaming replicate->nL
open Proofs.Tryz
open Go.RowKit Go.Shelf
attribute [local go_sem] Oper.semAt_some
section
def Bn:=@IntWalk.u64_in
def BR:=@IntWalk.i64_in
variable{c ds xs:m4}{B R R0 V base d0 d1 f g l len n q r ro s u0:Nat}{v:Value}{w:I}
theorem SI(h:ds.length=n+2):val Z ds=(ds[n+1]?.getD 0*Z+ds[n]?.getD 0)*Z^n+val Z (ds.take n):=by
 have a:=Js Z ds (n+1);rw[Ad O,Js,Cm]at a;rw[a];grind
theorem bL(h:ds.length=n+3):val Z ds=((ds[n+2]?.getD 0*Z+ds[n+1]?.getD 0)*Z+ds[n]?.getD 0)*Z^n+val Z (ds.take n):=by
 have a:=Js Z ds (n+2);rw[Ad O,Js,Js,Cm,Cm]at a;rw[a];grind
theorem YC(h:DJ Z ds)(n:Nat):val Z (ds.take n)<Z^n:=by
 have:=Yw (h.take n);grind[Aw,Ak,Z]
def LW{a:I}(h:Below B a w)(n:Nat):Below B a (w.drewN n):=h.trans ⟨J,J,J,Aa _,λ_ _=>rfl⟩
theorem SJ(a:u0<Z)(h:EN q d0<r\/EN q d0=r/\YH q d0<=u0):q*d0<=r*Z+u0:=by
 grind[EN,YH,Z]
theorem bM(b:u0<Z)(h:¬(EN q d0<r))(a:¬(EN q d0=r/\YH q d0<=u0)):r*Z+u0<q*d0:=by
 grind[EN,YH,Z]
theorem bN{u2 u1 E:Nat}(b:R=((u2*Z+u1)*Z+u0)*E+R0)(d:V=(d1*Z+d0)*E+f)(i:f<E)(e:Z<=2*d1)(g:d0<Z)(c:R<V*Z)(h:d1<=u2):Ha R V (Z-1):=by
 have a:d0*E+f<Z*E:=by
  have:=Ae E (show d0+1<=Z from g);grind
 refine ZA (d1:=d1) (E:=Z*E) (lo:=(u2-d1)*(Z*(Z*E))+(u1*Z+u0)*E+R0) (lo2:=d0*E+f) ?_ ?_ a e c Jg
 . obtain⟨t,rfl⟩:∃t,u2=d1+t:=⟨u2-d1,O⟩;rw[b,Nat.add_sub_cancel_left];grind
 . rw[d];grind
def bO{U E:Nat}(a:R=(U*Z+u0)*E+R0)(c:V=(d1*Z+d0)*E+f)(b:R0<E)(d:f<E)(e:Z<=2*d1)(hq:q<Z)(h:q=(U*Z+u0)/(d1*Z+d0)):Ha R V q:=by
 rw[h];have hp:0<d1:=by unfold Z at e;omega
 have g:=Co Z hp;exact Y2 a c b d (by rw[<-h];omega) O
def bP(l l1 l2:Nat)(h1:(l:Int)-1=l1)(h2:(l:Int)-2=l2)(a f K P ca cb u2 u1 u0 d1 d0 R V:Nat)(w:I)(hl:l<=1099511627776)
(ka:w.cell? ⟨a,f+l,none⟩=some (F G (u2:Nat)))(aj:w.cell? ⟨a,f+l1,none⟩=some (F G (u1:Nat)))(ai:w.cell? ⟨a,f+l2,none⟩=some (F G (u0:Nat)))
(kb:w.cell? ⟨K,P+l1,none⟩=some (F G (d1:Nat)))(bf:w.cell? ⟨K,P+l2,none⟩=some (F G (d0:Nat)))(Q:a<w.heap.size)
(ah:u1<Z)(z:u0<Z)(X:d1<Z)(j:d0<Z)(ad:0<d1)
(T:Hid (d1<=u2->Ha R V (Z-1)))(v:Hid (∀q:Nat,q<Z->q=((u2*Z+u1)*Z+u0)/(d1*Z+d0)->Ha R V q)):
 Calls M 220 #[C (some ⟨a,f,none⟩) (l+1) ca,C (some ⟨K,P,none⟩) l cb] w λe c=>∃g,e=.returned (F G (g:Nat))/\g<Z/\Ha R V g/\Bl w c:=by
 have i1:N.wrap ((l:Int)-1)=(l1:Int):=by rw[h1];exact BR _ O
 have i2:N.wrap ((l:Int)-2)=(l2:Int):=by rw[h2];exact BR _ O
 have j1:(l1:Int)<(l:Int):=O
 have j2:(l2:Int)<(l:Int):=O
 have j3:(l1:Int)<(l:Int)+1:=O
 have j4:(l2:Int)<(l:Int)+1:=O
 have i3:N.wrap (l1:Int)=(l1:Int):=BR _ O;have j5:l1<l:=O
 have ay:l1<l+1:=O
 have az:l1<=l:=O
 have bc:(l1:Int)<=(l:Int):=O
 have j7:(l:Int)<(l:Int)+1:=O
 have j8:(0:Int)<=(l:Int):=O
 have j9:(0:Int)<=(l1:Int):=O
 have aq:(0:Int)<=(l2:Int):=O
 have j6:l2<l:=O
 go_enter func220,ntmps220
 go_upto_region 2 with fail
 go_quiet (fail)
 by_cases ae:d1<=u2
 . go_wp2_with fail
   go_ret;exact⟨Z-1,J,by unfold Z;omega,T.o ae,LW (BA _ w) _⟩
 . have x:=W4 (B:=Z) (u:=u2*Z+u1) (u1:=u0) (d1:=d1) (d0:=d0) ad X z (by
    have:=Ae Z (show u2+1<=d1 by omega);rw[AU,FD]at this;omega)
   have W:=Y λV=>R3 u2 u1 d1 O ah X V;have Qf:=x.2.2.1;have Qe:=x.2.2.2;have d:=Y x;clear x T;generalize hX:(u2*Z+u1)/d1=q0 at *;generalize hY:(u2*Z+u1)%d1=r0 at *;generalize hZ:u2*Z+u1=U at *;clear hX hY hZ;go_wp2_with fail
   have hq:Bl w (w.drewN (nq+1)):=LW (BA _ w) _;go_region_held3 (λc=>c.cell? ⟨a,f+l,none⟩=some (F G (u2:Nat))/\c.cell? ⟨a,f+l1,none⟩=some (F G (u1:Nat))) (refine⟨?_,?_⟩<;>(first|(go_keep;done)|(simp[*];done)))
    (first|(go_at_call 219;refine(W.o _).mono ?_;rintro e w1 ⟨rfl,y⟩;have bi:=(y.cell (p:=⟨a,f+l,none⟩) (show a<w.heap.size from Q)).trans ka;have bh:=(y.cell (p:=⟨a,f+l1,none⟩) (show a<w.heap.size from Q)).trans aj;have bg:=(y.cell (p:=⟨a,f+l2,none⟩) (show a<w.heap.size from Q)).trans ai))
   have hq:Bl w w1:=Bt hq y;go_wp2_with fail
   go_loopw [8,9] (λS rv wr=>∃(q r:Nat),S=F G (q:Nat)/\rv=F G (r:Nat)/\q<Z/\r<Z/\Hid (MR Z U u0 d1 d0 q r)/\wr=w1)
    (λS _ _=>(intOf S).toNat)
   case atStart=>exact⟨q0,r0,J,J,Qf,Qe,d,J⟩
   case round=>
    clear W d;obtain⟨q,r,rfl,rfl,b,ap,d,rfl⟩:=hrel;have i:0<d1*Z:=DF ad uo;by_cases c1:EN q d0<r
    . have m:=Y (v.o q b (OP d.o.1 d.o.2.1 i (SJ z (An c1))));clear i;go_wp2_with(first
       |(go_at_call 197;refine(IW _ _ b j _).mono ?_;rintro e c ⟨rfl,rfl⟩))
      go_ret;exact⟨q,J,b,m.o,hq⟩
    . by_cases c2:EN q d0=r/\YH q d0<=u0
      . have m:=Y (v.o q b (OP d.o.1 d.o.2.1 i (SJ z (Au c2))));obtain⟨c2,c3⟩:=c2;subst c2;clear i;go_wp2_with(first
         |(go_at_call 197;refine(IW _ _ b j _).mono ?_;rintro e c ⟨rfl,rfl⟩))
        go_ret;exact⟨q,J,b,m.o,hq⟩
      . obtain⟨g1,n,o,g4⟩:=W7 d.o i (bM z c1 c2);obtain⟨p,hp⟩:=ex (q-1:Nat);rw[hp]at n o g4;have ak:(q:Int)-1=(p:Int):=O
        have am:p<q:=O
        have an:G.wrap (p:Int)=(p:Int):=by rw[BT];unfold Z at b;omega
        clear hp g1 d;have H:=Mf r d1;have A:=Y (v.o p);clear v;by_cases k:r+d1<Z
        . have v1:YQ r d1 0=r+d1:=by unfold YQ;rw[Cl,Ct k]
          have t:Xn r d1 0=0:=by unfold Xn;rw[Cl,Cn k]
          rw[v1,t]at H;have D:=Y (show MR Z U u0 d1 d0 p (r+d1)from⟨n,o,g4,k⟩);clear n o v1 t i A;obtain⟨s,hs⟩:=ex (r+d1);rw[hs]at H D k;clear hs;by_cases c3:EN q d0=r
          . have c4:¬(YH q d0<=u0):=λh=>c2 ⟨c3,h⟩;clear c2;go_wp2_with(first
             |(go_at_call 197;refine(IW _ _ b j _).mono ?_;rintro e c ⟨rfl,rfl⟩))
            exact⟨⟨p,s,J,J,g4,k,D,by first|trivial|rfl⟩,by simp[intOf];omega⟩
          . clear c2;go_wp2_with(first
             |(go_at_call 197;refine(IW _ _ b j _).mono ?_;rintro e c ⟨rfl,rfl⟩))
            exact⟨⟨p,s,J,J,g4,k,D,by first|trivial|rfl⟩,by simp[intOf];omega⟩
        . have m:=Y (A.o g4 (X0 n o g4 j i O));have t:Xn r d1 0=1:=by unfold Xn;unfold Z at *;omega
          rw[t]at H;generalize YQ r d1 0=s at *;clear n o t i A k;by_cases c3:EN q d0=r
          . have c4:¬(YH q d0<=u0):=λh=>c2 ⟨c3,h⟩;clear c2;go_wp2_with(first
             |(go_at_call 197;refine(IW _ _ b j _).mono ?_;rintro e c ⟨rfl,rfl⟩))
            go_ret;exact⟨p,J,g4,m.o,hq⟩
          . clear c2;go_wp2_with(first
             |(go_at_call 197;refine(IW _ _ b j _).mono ?_;rintro e c ⟨rfl,rfl⟩))
            go_ret;exact⟨p,J,g4,m.o,hq⟩
def bQ(a b:nJ)(n ca cb:Nat)(i bs:m4)(w:I)(H:Row G w (C a (n+3) ca) i)(K:Row G w (C b (n+2) cb) bs)(l:DJ Z i)(f:DJ Z bs)
(j:Z<=2*bs[n+1]?.getD 0)(v:val Z i<val Z bs*Z):
 Calls M 220 #[C a (n+3) ca,C b (n+2) cb] w λe P=>∃g,e=.returned (F G (g:Nat))/\g<Z/\Ha (val Z i) (val Z bs) g/\Bl w P:=by
 obtain⟨y,R,V,T,k⟩:=Ju H;obtain⟨z,S,W,U,p⟩:=Ju K;obtain⟨r,s,rfl,x,ka⟩:=k (n+2) O;obtain⟨_,_,c,_,B⟩:=k (n+1) O;cases c;obtain⟨_,_,c,_,A⟩:=k n O;cases c;obtain⟨t,u,rfl,Q,kb⟩:=p (n+1) O;obtain⟨_,_,c,_,D⟩:=p n O;cases c;have d:0<Z:=by unfold Z;omega
 have m:=bL y.symm;have o:=SI z.symm;exact bP (n+2) (n+1) n O O r s t u ca cb _ _ _ _ _ _ _ w O ka B A kb D x (l.getD d _) (l.getD d _) (f.getD d _) (f.getD d _) (by unfold Z at j;omega)
  (λh=>bN m o (YC f n) j (f.getD d _) v h) λq hq h=>bO m o (YC l n) (YC f n) j hq h
def DO.win{W:I}{b:Nat}(h:DO W b xs)(a len cap:Nat)(c:a+len<=xs.length)(d:len<=cap)(e:cap<=9223372036854775807)(f:len<=1099511627776):Row G W (C (some ⟨b,a,none⟩) len cap) ((xs.drop a).take len):=
 h.row a len cap c d e f
def bS{q:m4}(hq:q.length=len)(h:ro+len<=xs.length):((DW xs ro len q).drop ro).take len=q:=by
 rw[DW,List.drop_append_of_le_length (by rw[Ai];omega),AN (by rw[Ai];omega),Ar,CB O,Ad O]
def bT{p q:m4}(hp:p.length=len)(h:ro+len<=xs.length):DW (DW xs ro len p) ro len q=DW xs ro len q:=by
 have a:(xs.take ro).length=ro:=by rw[Ai];omega
 rw[DW,DW,DW,CB O,Ad O,List.drop_append,a,show ro+len-ro=len from by omega,AN O,Ar,List.drop_append,hp,Cv,AN O,Ar,Ca]
def bU{q:m4}(a:DJ Z xs)(hq:DJ Z q):DJ Z (DW xs ro len q):=by
 intro x b;rw[DW]at b;rcases CS.1 b with h|h
 . exact(a.take ro) x h
 . rcases CS.1 h with h|h
   . exact hq x h
   . exact(a.drop _) x h
def bV(d ro n cap:Nat)(xs:m4)(a:nJ)(cb:Nat)(bs:m4)(w:I)
(t:DO w d xs)(y:DJ Z xs)(ah:ro+(n+3)<=xs.length)(x:n+3<=cap)(ai:cap<=9223372036854775807)(hn:n+3<=1099511627776)(k:Row G w (C a (n+2) cb) bs)(l:DJ Z bs)(X:∀p,a=some p->0<n+2->p.block≠d)
(W:Z<=2*bs[n+1]?.getD 0)(V:val Z ((xs.drop ro).take (n+3))<val Z bs*Z):
 Calls M 204 #[C (some ⟨d,ro,none⟩) (n+3) cap,C a (n+2) cb] w λe w'=>
  ∃q,e=.returned (F G ((val Z ((xs.drop ro).take (n+3))/val Z bs:Nat):Int))/\(q.length=n+3/\DJ Z q/\val Z q=val Z ((xs.drop ro).take (n+3))%val Z bs)/\DO w' d (DW xs ro (n+3) q)/\w.grownBy w' (some d):=by
 have Q:=t.win ro (n+3) cap ah x ai hn;have A:=Y (bQ _ a n cap cb _ bs w Q k ((y.drop ro).take _) l W V);have r:=(Ju k).1;have D:val Z bs<Z^(n+2):=by have:=Yw l;rwa[<-r]at this
 have H:val Z bs<Z^(n+3):=Aw D (Ak uo O);obtain⟨ak,z,s,B,S,HA,i,Qk⟩:=FZ H k X y l t ah r;clear Q W V r D H k X y l t;go_enter func204,ntmps204
 go_upto_region 2 with(go_at_call 220;refine A.o.mono ?_;rintro e w1 ⟨g,rfl,hg,U,j⟩;have o:=Y U;clear U A)
 have R:=Y (aX d ro (n+2) cap xs a cb bs g w1 (HA.o.below j) B.o i.o x (Row.below z.o j) S.o s.o hg);go_upto_if 13 with(go_at_call 221;refine R.o.mono ?_;rintro e w2 ⟨c,q,rfl,⟨hc,ae⟩,hA2,u⟩;have b:=Y ae;clear ae R)
 obtain rfl|rfl:c=0\/c=1:=O
 . have m:=Y (ZB o.o (by have:=b.o.2.2;rw[Cz,Cl]at this;exact this));have HE:=Y m.o.1;have HM:=Y m.o.2;clear m o;go_wp2_with fail
   go_ret;exact⟨q,by rw[<-HE.o];rfl,⟨b.o.1,b.o.2.1,HM.o⟩,hA2,Jf (Ya j _) u⟩
 . have K:=Y (Ol d ro (n+3) cap (DW xs ro (n+3) q) a (n+2) cb bs w2 hA2 (bU B.o b.o.2.1) (by rw[J4 b.o.1 i.o];exact i.o) x O O (Row.grown (Row.below z.o j) u s.o) S.o s.o);have Ql:1<=g:=by
    rcases AZ g with h|h
    . exfalso
      have h1:=b.o.2.2;have h2:=Yw b.o.2.1;rw[b.o.1]at h2;rw[h,Cz,FU]at h1;omega
    . exact h
   obtain⟨p,hp⟩:=ex (g-1:Nat);have am:(g:Int)-1=(p:Int):=O
   have an:G.wrap (p:Int)=(p:Int):=by rw[BT];unfold Z at hg;omega
   have HP:=Y hp;clear hp Ql;go_wp2_with(go_at_call 172;refine K.o.mono ?_;rintro e w3 ⟨c3,q3,rfl,ad,hA3,aj⟩;have f:=Y ad;clear ad K)
   go_ret;have v:=ZC o.o (P:=Z^(n+3)) (by have:=b.o.2.2;rw[FU]at this;exact this) (by have:=Yw b.o.2.1;rw[b.o.1]at this;exact this) (q2:=val Z q3) (c2:=c3)
    (by
     have T:=f.o.2.2.2;rw[bS b.o.1 i.o,Ad (show bs.length<=n+3 by rw[<-Qk.o];omega)]at T;exact T)
    (by have:=Yw f.o.2.1;rw[f.o.1]at this;exact this) f.o.2.2.1
   rw[HP.o]at v;rw[bT b.o.1 i.o]at hA3;exact⟨q3,by rw[<-v.2.1];rfl,⟨f.o.1,f.o.2.1,v.2.2⟩,hA3,Jf (Jf (Ya j _) u) aj⟩
def SK{bs:m4}{d L:Nat}(i:DJ Z bs)(hl:bs.length=l+2)(f:bs[l+1]?.getD 0=d)(c:2^(L-1)<=d)(e:d<2^L)(k:1<=L)(j:L<=64)(m:s=64-L):
 val Z bs*2^s<Z^(l+2)/\2^63*Z^(l+1)<=val Z bs*2^s:=by
 have o:val Z bs=val Z (bs.take (l+1))+Z^(l+1)*d:=by
  have h:=Js Z bs (l+1);rwa[Ad O,f]at h
 have n:=YC i (l+1);have p1:2^L*2^s=Z:=by rw[<-CV,I6];congr 1;omega
 have g:2^(L-1)*2^s=2^63:=by rw[<-CV];congr 1;omega
 constructor
 . have b:val Z bs+1<=Z^(l+1)*2^L:=by
    have:=Aj (Z^(l+1)) (show d+1<=2^L from e);rw[Fx,FU]at this;omega
   have a:=Ae (2^s) b;rw[Cp,p1,<-Cm,AU,FD]at a;exact Aw (Nat.lt_add_of_pos_right (Cj s)) a
 . have b:Z^(l+1)*2^(L-1)<=val Z bs:=by
    have:=Aj (Z^(l+1)) c;omega
   have a:=Ae (2^s) b;rw[Cp,g,AD]at a;exact a
def bW(i:DJ Z c)(hl:c.length=l+3)(b:val Z c=V)(d:V<Z^(l+2))(j:2^63*Z^(l+1)<=V):
 val Z (c.take (l+2))=V/\Z<=2*(c.take (l+2))[l+1]?.getD 0:=by
 have g:=Oz (B:=Z) (k:=l+2) (D:=c) O (by rw[b];exact d);have a:val Z (c.take (l+2))=V:=by
  have h:=val_append Z (c.take (l+2)) (c.drop (l+2));rw[Ch,g,Cz,Cl,b]at h;exact h.symm
 refine⟨a,?_⟩;rw[Cw O];have e:=Js Z c (l+1);have m:=YC i (l+1);rw[show l+1+1=l+2 from J,a]at e;rcases AQ (c[l+1]?.getD 0) (2^63)with h|h
 . exfalso
   have f:=Aj (Z^(l+1)) (show c[l+1]?.getD 0+1<=2^63 from h);rw[Fx,FU,AD _ (2^63)]at f;omega
 . rw[I6];omega
def bX{m la:Nat}(c:m<Z^la)(d:Z^(l+1)<=n)(hl:l+1<=la):m*2^s<n*2^s*Z^(la-(l+1)):=by
 have b:Z^(l+1)*Z^(la-(l+1))=Z^la:=by rw[<-CV];congr 1;omega
 have a:=Ae (Z^(la-(l+1))) d;rw[b]at a;rw[Nat.mul_right_comm];exact Nat.mul_lt_mul_of_pos_right (Aw c a) (Cj s)
def J0{P:Program}{ops:Array Oper}{Q:Exit->Act->I->Prop}{i:Nat}{o:Oper}{K:Act->I->Prop}{a:Act}(c:ops[i]?=some o)(b:o.guard=none)
(h:∀K':Act->I->Prop,(∀a w,K a w->K' a w)->o.wp P a w K' Q):wpOp P ops Q i K a w:=by
 unfold wpOp;rw[c];simp only[Region.wanted,b,if_true];exact An (h K λ_ _ h=>h)
def EI{p q:Prop}(k:q)(h:Hid q->p:=by intro x;refine J0 rfl rfl λK a=>?_;go_simp;refine a _ _ ?_;(repeat apply Exists.intro);refine ⟨rfl,?_⟩;exact x.o):p:=h k
def Gq(V:I)(base:Nat)(v:Value)(g len b:Nat)(a:m4):Prop:=
 v=C (some ⟨g,0,none⟩) len len/\DO V g a/\a.length=len/\DJ Z a/\val Z a=b/\base<=g
def Gq.below{V V':I}{base g len b:Nat}{v:Value}{a:m4}(h:Gq V base v g len b a)(c:Bl V V'):Gq V' base v g len b a:=
 ⟨h.1,h.2.1.below c,h.2.2⟩
def Gq.box{V:I}{u:Value}(h:Gq V base v g len f c)(hl:0<len)(d:Boxed V B 33 (C none 0 0)):Gq (V.setCell ⟨B,0,none⟩ u) base v g len f c:=
 ⟨h.1,h.2.1.far (by
  intro e;simp only at e;obtain⟨i,b⟩:=h.2.1;rw[e,show V.heap[B]?=_ from d]at b;obtain⟨z,a,rfl⟩:∃z a,c=z::a:=by
   cases c with
    |nil=>have:=h.2.2.1;simp at this;omega
    |cons z a=>exact⟨z,a,J⟩
  simp[cellsOf]at b) u,h.2.2⟩
def Gq.ne_box{V:I}{b:nJ}{k i:Nat}(h:Gq V base v g len f c)(hl:0<len)(j:Boxed V B 33 (C b k i)):g≠B:=by
 intro e;obtain⟨l,d⟩:=h.2.1;rw[e,show V.heap[B]?=_ from j]at d;obtain⟨z,a,rfl⟩:∃z a,c=z::a:=by
  cases c with
  |nil=>have:=h.2.2.1;simp at this;omega
  |cons z a=>exact⟨z,a,J⟩
 simp[cellsOf]at d
end
section
structure SplC where
 w:World
 bs:Value
 rs:Value
 ds:Value
 qs:Value
 B9:Nat
 B10:Nat
 B11:Nat
 B12:Nat
 gR:Nat
 gZ:Nat
 gQ:Nat
 Zb:m4
structure SplC.Apart(c:SplC):Prop where
 r0:c.gR≠c.w.heap.size
 r9:c.gR≠c.B9
 r10:c.gR≠c.B10
 r11:c.gR≠c.B11
 r12:c.gR≠c.B12
 rz:c.gR≠c.gZ
 rq:c.gR≠c.gQ
 q0:c.gQ≠c.w.heap.size
 q9:c.gQ≠c.B9
 q10:c.gQ≠c.B10
 q11:c.gQ≠c.B11
 q12:c.gQ≠c.B12
 qz:c.gQ≠c.gZ
 lr:c.w.heap.size<=c.gR
 lq:c.w.heap.size<=c.gQ
structure SplC.Holds(c:SplC)(W:World):Prop where
 b0:Boxed W c.w.heap.size 33 c.bs
 b9:Boxed W c.B9 33 c.rs
 b10:Boxed W c.B10 33 c.ds
 b11:Boxed W c.B11 33 c.qs
 b12:Boxed W c.B12 33 c.qs
 z:DO W c.gZ c.Zb
 B:Below c.w.heap.size c.w W
theorem SplC.Holds.kept{c:SplC}{W W':I}{g:Nat}(h:c.Holds W)(hg:W.grownBy W' (some g))(a:g≠c.w.heap.size)(i:g≠c.B9)(b:g≠c.B10)(d:g≠c.B11)(f:g≠c.B12)(j:g≠c.gZ)(hl:c.w.heap.size<=g):c.Holds W':=
 ⟨h.b0.kept hg (λe=>by grind),h.b9.kept hg (λe=>by grind),h.b10.kept hg (λe=>by grind),h.b11.kept hg (λe=>by grind),
  h.b12.kept hg (λe=>by grind),h.z.kept hg (λe=>by grind),below_grown h.B hg hl⟩
def SplC.Holds.drew{c:SplC}{W:I}(h:c.Holds W):c.Holds W.drew:=
 ⟨h.b0,h.b9,h.b10,h.b11,h.b12,h.z,h.B.drew⟩
variable{f:Bool}{D D' Q Q':m4}{B:Nat}{W W' W0:I}
def SplC.own(c:SplC)(d:c.w.heap.size<=B):OwnFrom B (λ(_:Nat) W=>c.Holds W):=λk W W' row b hg a=>
 ⟨X1 b.b0 hg a,X1 b.b9 hg a,X1 b.b10 hg a,X1 b.b11 hg a,X1 b.b12 hg a,LV b.z hg a,SG d k W W' row b.B hg a⟩
def SL(c:SplC)(R0 V n K:Nat)(k:Nat)(W:I):Prop:=
 c.Holds W/\∃D Q,DO W c.gR D/\DO W c.gQ Q/\GW R0 V n K (K-k) D Q
def bY(c:SplC)(R0 V n K:Nat)(f:c.w.heap.size<=B):OwnFrom B (SL c R0 V n K):=
 BP (c.own f) (λ_ _ _ _ g hg a=>by obtain⟨D,Q,b,d,e⟩:=g;exact⟨D,Q,LV b hg a,LV d hg a,e⟩)
structure SplM(c:SplC)(W0:World)(D D' Q Q':m4)(e f:Bool)(W:World):Prop where
 k:KeepsOthers W0 W
 h:c.Holds W
 r:DO W c.gR (bif e then D' else D)
 q:DO W c.gQ (bif f then Q' else Q)
def SplM.drew{c:SplC}{W0 W:I}{D D' Q Q':m4}{e f:Bool}(h:SplM c W0 D D' Q Q' e f W):SplM c W0 D D' Q Q' e f W.drew:=
 ⟨h.k.trans (KeepsOthers.drew W),h.h.drew,h.r,h.q⟩
def bZ{g:Nat}{xs:m4}(b:DO W g xs)(hg:W.grownBy W' (some g)):KeepsOthers W W':=
 KeepsOthers.of_grownBy hg λj o a c=>by cases a;exact b.other c
def SplM.any{c:SplC}(h:SplM c W0 D D' Q Q' false f W)(a:m4):SplM c W0 D a Q Q' false f W:=⟨h.k,h.h,h.r,h.q⟩
def SplM.split{c:SplC}(h:SplM c W0 D D' Q Q' false f W)(a:c.Apart)(hg:W.grownBy W' (some c.gR))(b:DO W' c.gR D'):SplM c W0 D D' Q Q' true f W':=
 ⟨h.k.trans (bZ h.r hg),h.h.kept hg a.r0 a.r9 a.r10 a.r11 a.r12 a.rz a.lr,b,h.q.kept hg λe=>by injection e with e;exact a.rq e.symm⟩
theorem SplM.store{c:SplC}{e:Bool}(h:SplM c W0 D D' Q Q' e false W)(a:c.Apart){j v:Nat}(d:Q.set j v=Q'):SplM c W0 D D' Q Q' e true (W.setCell ⟨c.gQ,j,none⟩ (F G (v:Nat))):=
 have b:=JH W c.gQ j (F G (v:Nat))
 ⟨h.k.trans (BK _ _ _),h.h.kept b a.q0 a.q9 a.q10 a.q11 a.q12 a.qz a.lq,h.r.kept b (λe=>by injection e with e;exact a.rq e),by have:=h.q.set j v;grind⟩
def bp(a:nJ)(la ca:Nat)(r t l lb l1 cb m n d s:Nat)(w:I)(fm:lb=l+2)(h2:(lb:Int)-1=l1)(ga:r<w.heap.size)
(ra:Row G w (C a la ca) (Jd Z m))(rb:Row G w (C (some ⟨r,t,none⟩) lb cb) (Jd Z n))
(kb:w.cell? ⟨r,t+l1,none⟩=some (F G (d:Nat)))(gb:d<Z)(hs:s<=63)(HS:Hid ((64:Int)-(Lib.bitLen d:Int)=(s:Int)))(gv:lb<=la)(gg:la<1099511627776)
(fh:Hid (n*2^s<Z^(l+2)))(fi:Hid (2^63*Z^(l+1)<=n*2^s))(fx:Hid (m*2^s<n*2^s*Z^(la-(l+1)))):
 Calls M 176 #[C a la ca,C (some ⟨r,t,none⟩) lb cb] w λe w'=>∃u v,e=.returned (.tuple #[u,v])/\UN w' u (m/n)/\UN w' v (m%n)/\Bl w w':=by
 have Qc:=Y fm;have i1:N.wrap ((lb:Int)-1)=(l1:Int):=by rw[h2];exact BR _ O
 have i3:N.wrap (l1:Int)=(l1:Int):=BR _ O;have j1:(l1:Int)<(lb:Int):=O
 have j9:(0:Int)<=(l1:Int):=O
 have j2:l1<lb:=O
 have gw:¬(lb=1):=O
 have Qg:Bl w (w.alloc (.cells #[C (some ⟨r,t,none⟩) lb cb] 33)):=Ba w _;have Qf:=BF w 33 (C (some ⟨r,t,none⟩) lb cb);obtain⟨W0,co⟩:=ex (w.alloc (.cells #[C (some ⟨r,t,none⟩) lb cb] 33));have Qs:W0.heap.size=w.heap.size+1:=by rw[<-co];simp
 rw[co]at Qg Qf;have Uq:=Qf.cell;have Uz:=(Qg.cell (p:=⟨r,t+l1,none⟩) ga).trans kb;have Qr:=Y λ(V:I) (h:Bl W0 V)=>SF a la ca (Jd Z m) s V hs (Row.below (Row.below ra Qg) h) (Jr Jg m) gg;have Qp:=Y λ(V:I) (h:Bl W0 V)=>SF (some ⟨r,t,none⟩) lb cb (Jd Z n) s V hs (Row.below (Row.below rb Qg) h) (Jr Jg n) O;rw[Jq Jg]at Qr Qp;have Ub:=Y co;have Ua:=Y (show ∀V:I,Calls M 200 #[F G (d:Nat)] V λe w'=>e=.returned (F N (s:Nat))/\w'=V from λV=>by
  have h:=Tryz.bits_LeadingZeros64 (d:Nat) V O (by unfold Z at gb;omega);rw[CE,HS.o]at h;exact h)
 have ie:G.wrap (s:Int)=(s:Int):=Bn _ O;have Ur:=Y Qs;have gh:=Y h2;clear co fm ra rb kb HS;refine(BM (n:=3)).1 ?_;refine BN func176 J trivial ?_ J;simp only[ntmps176,AF,Ah,AK,Nat.reduceAdd,Nat.reduceSub,As,At,AE,Ay,Ar,AC];refine wpIn_wide.2 ?_;go_upto_region 1 with fail
 rw[Ub.o];clear Ub Qs;go_upto_region 8 with(go_at_call 200;refine(Ua.o _).mono ?_;rintro e w' ⟨rfl,e1⟩;have e2:=e1.symm;subst e2;clear e1)
 refine J6 Dl [[],[],[0,1],[],[],[3,4,2],[],[6],[5,7],[],[],[9,2,5,0,1,2,9,10],[10,8,11,0,1,2,3,4,5,6,7,8,9,10,11]] nK DK
  (λD ac V=>∃t9 ay az bc bf bg bh cj bi bj ck:Value,ac={ tmps:=#[C a la ca,C (some ⟨r,t,none⟩) lb cb,E,L (some ⟨w.heap.size,0,none⟩),C none 0 0,C none 0 0,E,E,F G (s:Nat),t9,ay,E,E,C a la ca,F N (la:Nat),C (some ⟨r,t,none⟩) lb cb,F N (lb:Nat),.bool false,E,E,C (some ⟨r,t,none⟩) lb cb,F N (lb:Nat),.bool false,E,E,E,E,E,E,E,E,E,E,E,E,C (some ⟨r,t,none⟩) lb cb,C (some ⟨r,t,none⟩) lb cb,F N (lb:Nat),F N (l1:Nat),L (some ⟨r,t+l1,none⟩),F G (d:Nat),F N (s:Nat),F G (s:Nat),az,bc,bf,bg,bh,cj,bi,bj,ck,E,E,E,E,E,E,E,E,E,E,E,E,E,E,E,E,E,E,E,E,E,E,E,E,E,E,E,E],defers:=[] }/\Hid (D 0=true->az=C a la ca)/\Hid (D 1=true->bc=F G (s:Nat))/\Hid (D 2=true->∃g bk,Gq V W0.heap.size bf g (la+1) (m*2^s) bk)/\Hid (D 3=true->bg=C (some ⟨r,t,none⟩) lb cb)/\Hid (D 4=true->bh=F G (s:Nat))/\Hid (D 5=true->∃gR Zr gZ Zb,Gq V W0.heap.size bf gR (la+1) (m*2^s) Zr/\Gq V W0.heap.size cj gZ (lb+1) (n*2^s) Zb/\gR≠gZ)/\Hid (D 6=true->bi=C (some ⟨r,t,none⟩) lb cb)/\Hid (D 7=true->bj=F N (lb:Nat))/\Hid (D 8=true->∃gZ,cj=C (some ⟨gZ,0,none⟩) (lb+1) (lb+1)/\ck=C (some ⟨gZ,0,none⟩) lb (lb+1))/\Hid (D 9=true->D 11=false->∃B,t9=L (some ⟨B,0,none⟩)/\Boxed V B 33 (C none 0 0)/\W0.heap.size<=B)/\Hid (D 10=true->D 12=false->∃B,ay=L (some ⟨B,0,none⟩)/\Boxed V B 33 (C none 0 0)/\W0.heap.size<=B)/\Hid (D 9=true->D 10=true->t9≠ay)/\Hid (D 11=true->∃B,t9=L (some ⟨B,0,none⟩)/\Boxed V B 33 bf/\W0.heap.size<=B)/\Hid (D 12=true->∃B,ay=L (some ⟨B,0,none⟩)/\Boxed V B 33 ck/\W0.heap.size<=B)/\Bl W0 V)
  (E8 ⟨_,_,_,J,Y Dk,Y Dk,Y Dk,Y Dk,Y Dk,Y Dk,Y Dk,Y Dk,Y Dk,Y Dk,Y Dk,Y Dk,Y Dk,Y Dk,(BA _ W0).drew⟩) ?step8 ?fin8
 case step8=>
  rintro D a2 V i ds ah f8 b ai ⟨t9,ay,az,bc,bf,bg,bh,cj,bi,bj,ck,rfl,A,P,g2,R,g4,o,S,T,U,z,x,gx,ad,ae,hq⟩;have Qx:i<13:=(Aq.1 f8).1;obtain rfl|rfl|rfl|rfl|rfl|rfl|rfl|rfl|rfl|rfl|rfl|rfl|rfl:=Nx i O
  all_goals
   simp only[AO,AJ,AX]at f8;subst f8;clear Qx
  . clear b ah;refine EI ?_;exact⟨Y λ_=>rfl,P,g2,R,g4,o,S,T,U,z,x,gx,ad,ae,hq⟩
  . clear b ah;refine EI ?_;exact⟨A,Y λ_=>rfl,g2,R,g4,o,S,T,U,z,x,gx,ad,ae,hq⟩
  . have Ut:D 5=false:=DN ah ai;have Qb:D 11=false:=DN ah ai;have Qa:D 12=false:=DN ah ai;obtain rfl:=A.o (b 0 DG);obtain rfl:=P.o (b 1 DG);clear b ah;refine J0 J J λK hK=>?_;go_simp;go_wp2_with(go_at_call 203;refine(Qr.o _ hq).mono ?_;rintro e w5 ⟨o,Z5,rfl,⟨et,ew,f6⟩,hA5,bu,an⟩)
    exact E8 ⟨_,_,_,J,Y λ_=>rfl,Y λ_=>rfl,Y λ_=>⟨o,Z5,J,hA5,et,ew,f6,Af hq.size bu⟩,R,g4,Y (λh=>by simp[Ut]at h),S,T,U,Y (λh h2=>by obtain⟨B,e,q,q2⟩:=z.o h h2;exact⟨B,e,boxed_below q an,q2⟩),Y (λh h2=>by obtain⟨B,e,q,q2⟩:=x.o h h2;exact⟨B,e,boxed_below q an,q2⟩),gx,Y (λh=>by simp[Qb]at h),Y (λh=>by simp[Qa]at h),Bt hq an⟩
  . have k0:=(boxed_below Qf hq).cell;clear b ah;refine EI ?_;exact⟨A,P,g2,Y λ_=>rfl,g4,o,S,T,U,z,x,gx,ad,ae,hq⟩
  . clear b ah;refine EI ?_;exact⟨A,P,g2,R,Y λ_=>rfl,o,S,T,U,z,x,gx,ad,ae,hq⟩
  . have Uo:D 8=false:=DN ah ai;have Qb:D 11=false:=DN ah ai;have Qa:D 12=false:=DN ah ai;obtain rfl:=R.o (b 3 DG);obtain rfl:=g4.o (b 4 DG);obtain⟨gR,Zr,hR⟩:=g2.o (b 2 DG);have gq:=hR.2.1.lt;clear b ah;refine J0 J J λK hK=>?_;go_simp;go_wp2_with(go_at_call 203;refine(Qp.o _ hq).mono ?_;rintro e w5 ⟨o,Z5,rfl,⟨et,ew,f6⟩,hA5,bu,an⟩)
    exact⟨_,_,_,_,_,_,_,_,_,_,_,J,A,P,Y λ_=>⟨gR,Zr,hR.below an⟩,Y λ_=>rfl,Y λ_=>rfl,Y λ_=>⟨gR,Zr,o,Z5,hR.below an,⟨J,hA5,et,ew,f6,Af hq.size bu⟩,O⟩,S,T,Y (λh=>by simp[Uo]at h),Y (λh h2=>by obtain⟨B,e,q,q2⟩:=z.o h h2;exact⟨B,e,boxed_below q an,q2⟩),Y (λh h2=>by obtain⟨B,e,q,q2⟩:=x.o h h2;exact⟨B,e,boxed_below q an,q2⟩),gx,Y (λh=>by simp[Qb]at h),Y (λh=>by simp[Qa]at h),Bt hq an⟩
  . have k0:=(boxed_below Qf hq).cell;clear b ah;refine EI ?_;exact⟨A,P,g2,R,g4,o,Y λ_=>rfl,T,U,z,x,gx,ad,ae,hq⟩
  . obtain rfl:=S.o (b 6 DG);clear b ah;refine EI ?_;exact⟨A,P,g2,R,g4,o,Y λ_=>rfl,Y λ_=>rfl,U,z,x,gx,ad,ae,hq⟩
  . have Qa:D 12=false:=DN ah ai;obtain⟨gR,Zr,gZ,Zb,hR,hZ,aq⟩:=o.o (b 5 DG);obtain rfl:=hZ.1;obtain rfl:=T.o (b 7 DG);have b1:(0:Int)<=(lb:Int):=O
    have b2:(lb:Int)<=(lb:Int)+1:=O
    have b3:lb<=lb+1:=O
    have b4:¬((lb:Int)+1<(lb:Int)):=O
    clear b ah;refine EI ?_;exact⟨A,P,g2,R,g4,Y λ_=>⟨gR,Zr,gZ,Zb,hR,hZ,aq⟩,S,Y λ_=>rfl,Y λ_=>⟨gZ,J,J⟩,z,x,gx,ad,Y (λh=>by simp[Qa]at h),hq⟩
  . have Qb:D 11=false:=DN ah ai;have Qa:D 12=false:=DN ah ai;clear b ah;refine EI ?_;exact⟨A,P,Y (λh=>by obtain⟨g,bk,q⟩:=g2.o h;exact⟨g,bk,q.below (Ba V _)⟩),R,g4,Y (λh=>by obtain⟨gR,Zr,gZ,Zb,q1,q2,q3⟩:=o.o h;exact⟨gR,Zr,gZ,Zb,q1.below (Ba V _),q2.below (Ba V _),q3⟩),S,T,U,Y λ_ _=>⟨_,J,BF _ _ _,hq.size⟩,Y (λh h2=>by obtain⟨B,e,q,q2⟩:=x.o h h2;exact⟨B,e,q.alloc _,q2⟩),Y (λ_ h e=>by obtain⟨B,e2,q,q2⟩:=x.o (by simpa using h) Qa;have:=q.lt;rw[e2]at e;cases e;omega),Y (λh=>by simp[Qb]at h),Y (λh=>by simp[Qa]at h),hq.alloc hq.size _⟩
  . have Qb:D 11=false:=DN ah ai;have Qa:D 12=false:=DN ah ai;clear b ah;refine EI ?_;exact⟨A,P,Y (λh=>by obtain⟨g,bk,q⟩:=g2.o h;exact⟨g,bk,q.below (Ba V _)⟩),R,g4,Y (λh=>by obtain⟨gR,Zr,gZ,Zb,q1,q2,q3⟩:=o.o h;exact⟨gR,Zr,gZ,Zb,q1.below (Ba V _),q2.below (Ba V _),q3⟩),S,T,U,Y (λh h2=>by obtain⟨B,e,q,q2⟩:=z.o h h2;exact⟨B,e,q.alloc _,q2⟩),Y λ_ _=>⟨_,J,BF _ _ _,hq.size⟩,Y (λh _ e=>by obtain⟨B,e2,q,q2⟩:=z.o (by simpa using h) Qb;have:=q.lt;rw[e2]at e;cases e;omega),Y (λh=>by simp[Qb]at h),Y (λh=>by simp[Qa]at h),hq.alloc hq.size _⟩
  . have Qa:D 12=false:=DN ah ai;obtain⟨B,rfl,ak,ce⟩:=z.o (b 9 DG) ai;obtain⟨gR,Zr,gZ,Zb,hR,hZ,aq⟩:=o.o (b 5 DG);have k0:=ak.cell;have f0:=ak.frozen;obtain⟨B2,bm,f7,fg⟩:=x.o (b 10 DG) Qa;have Qt:B≠B2:=λe=>gx.o (b 9 DG) (b 10 DG) (by rw[bm,e]);obtain rfl:=bm;obtain rfl:=hR.1;clear z ad;clear b ah;refine EI ?_;exact⟨A,P,Y λ_=>⟨gR,Zr,hR.box O ak⟩,R,g4,Y λ_=>⟨gR,Zr,gZ,Zb,hR.box O ak,hZ.box O ak,aq⟩,S,T,U,Y (λ_ h=>by simp at h),Y λ_ _=>⟨B2,J,f7.kept (grownBy_setCell' _ B _) (λe=>by injection e;omega),fg⟩,gx,Y λ_=>⟨B,J,ak.set _,ce⟩,Y (λh=>by simp[Qa]at h),hq.setCell (p:=⟨B,0,none⟩) ce _⟩
  . obtain⟨B,rfl,ak,ce⟩:=x.o (b 10 DG) ai;obtain⟨gR,Zr,gZ,Zb,hR,hZ,aq⟩:=o.o (b 5 DG);obtain⟨fj,cn,eo⟩:=U.o (b 8 DG);have k0:=ak.cell;have f0:=ak.frozen;obtain⟨B2,bm,f7,fg⟩:=ad.o (b 11 DG);have Qt:B≠B2:=λe=>gx.o (b 9 DG) (b 10 DG) (by rw[bm,e]);obtain rfl:=eo;obtain rfl:=cn;obtain rfl:=bm;have Qy:=b 11 DG;clear x ae;clear b ah;refine EI ?_;exact⟨A,P,Y λ_=>⟨gR,Zr,hR.box O ak⟩,R,g4,Y λ_=>⟨gR,Zr,gZ,Zb,hR.box O ak,hZ.box O ak,aq⟩,S,T,Y λ_=>⟨fj,J,J⟩,Y (λ_ h=>by simp[Qy]at h),Y (λ_ h=>by simp at h),gx,Y λ_=>⟨B2,J,f7.kept (grownBy_setCell' _ B _) (λe=>by injection e;omega),fg⟩,Y λ_=>⟨B,J,ak.set _,ce⟩,hq.setCell (p:=⟨B,0,none⟩) ce _⟩
 rintro D a2 f am ⟨t9,ay,az,bc,bf,bg,bh,cj,bi,bj,ck,rfl,A,P,g2,R,g4,o,S,T,U,z,x,gx,ad,ae,hq⟩;obtain⟨gR,Zr,gZ,Zb,hR,hZ,aq⟩:=o.o (am 5 DK);obtain⟨fj,cn,eo⟩:=U.o (am 8 DK);obtain⟨B9,rfl,bt,ic⟩:=ad.o (am 11 DK);obtain⟨B10,rfl,bn,ib⟩:=ae.o (am 12 DK);obtain rfl:=eo;obtain rfl:=hR.1;have e0:=hZ.1;rw[cn]at e0;cases e0;obtain rfl:=cn;clear A P g2 R g4 o S T U z x gx ad ae am Qr Qp Ua;obtain⟨K,hK⟩:∃K:Nat,(la:Int)+1-(lb:Int)=(K:Int):=⟨la+1-lb,O⟩;have go:N.wrap (K:Int)=(K:Int):=BR _ O;have Uw:=Kb K O f;have k9:=bt.cell;have Us:=bn.cell;have Qj:K+lb=la+1:=O
 have Qi:=Y Qj;clear Qj;go_wp2_with(go_at_call 128;refine((BM (n:=2)).1 (LN Fence.wide _ trivial J _ _ _ _)).mono ?_;rintro e w' ⟨rfl,rfl⟩)
 refine(wpIn_wide (n:=3)).1 ?_;obtain⟨WQ,ap⟩:=ex (((f.alloc (.cells (cellsOf G (nL K 0)).toArray 115)).alloc (.cells #[C (some ⟨f.heap.size,0,none⟩) K K] 33)).alloc (.cells #[C (some ⟨f.heap.size,0,none⟩) K K] 33));have Uv:WQ.heap.size=f.heap.size+1+1+1:=by rw[<-ap];simp
 have Qk:Bl w f:=Bt Qg hq;have Qs:=Ur.o;have Um:Bl w WQ:=by rw[<-ap];exact((Qk.alloc Qk.size _).alloc (by have:=Qk.size;simp;omega) _).alloc (by have:=Qk.size;simp;omega) _
 have lR:=hR.2.1.lt;have lZ:=hZ.2.1.lt;have l9:=bt.lt;have ig:=bn.lt;have n9:gR≠B9:=λe=>hR.ne_box O bt e;have ij:gR≠B10:=λe=>hR.ne_box O bn e;have gi:=hR.2.2.2.2.2;have gj:=hZ.2.2.2.2.2;obtain⟨c,hc⟩:∃c:SplC,c=⟨w,C (some ⟨r,t,none⟩) lb cb,C (some ⟨gR,0,none⟩) (la+1) (la+1),C (some ⟨gZ,0,none⟩) lb (lb+1),C (some ⟨f.heap.size,0,none⟩) K K,B9,B10,f.heap.size+1,f.heap.size+1+1,gR,gZ,f.heap.size,Zb⟩:=⟨_,J⟩;have Ue:c.Apart:=by
  rw[hc];constructor<;>(simp only;omega)
 have Uc:c.Holds WQ:=by
  rw[hc,<-ap];have Ui:=(BF (f.alloc (.cells (cellsOf G (nL K 0)).toArray 115)) 33 (C (some ⟨f.heap.size,0,none⟩) K K)).alloc (.cells #[C (some ⟨f.heap.size,0,none⟩) K K] 33);have Uf:=BF ((f.alloc (.cells (cellsOf G (nL K 0)).toArray 115)).alloc (.cells #[C (some ⟨f.heap.size,0,none⟩) K K] 33)) 33 (C (some ⟨f.heap.size,0,none⟩) K K);simp only[Ax]at Ui Uf;exact⟨(((boxed_below Qf hq).alloc _).alloc _).alloc _,((bt.alloc _).alloc _).alloc _,((bn.alloc _).alloc _).alloc _,Ui,Uf,((hZ.2.1.alloc _).alloc _).alloc _,by rw[ap];exact Um⟩
 have Uh:DO WQ gR Zr:=by rw[<-ap];exact((hR.2.1.alloc _).alloc _).alloc _
 have Qz:DO WQ f.heap.size (nL K 0):=by rw[<-ap];exact((DO.made (BB f _)).alloc _).alloc _
 have Qu:GW (m*2^s) (n*2^s) lb K K Zr (nL K 0):=GW.start (by have:=Qi.o;rw[hR.2.2.1];omega) hR.2.2.2.1 hR.2.2.2.2.1 (by
  have h:=fx.o;rwa[show la-(l+1)=K from by have:=Qi.o;have:=Qc.o;omega]at h)
 obtain⟨ff,fs⟩:=bW hZ.2.2.2.1 (by rw[hZ.2.2.1,Qc.o]) hZ.2.2.2.2.1 fh.o fi.o;have Ux:0<n*2^s:=by
  have h:=fi.o;have:=DF (Cj 63) (CW (n:=l+1) (show 0<Z by unfold Z;omega));omega
 have Qh:n*2^s<Z^lb:=by rw[Qc.o];exact fh.o
 have Up:=hZ.2.2.2.1;have gr:=hZ.2.2.1;rw[ap];clear ap Uw bt bn Qf Uq k9 Us hR hZ hq Qk Uz;refine X9 J O (gf:=169) (lb:=#[L (some ⟨f.heap.size+1+1,0,none⟩)]) J trivial (Bi func169 nK J)
  (LM Fence.wide _ trivial J O (f.heap.size+1+1) (some ⟨f.heap.size,0,none⟩) K K (λ_=>0) O) (λ_=>rfl)
  (SL c (m*2^s) (n*2^s) lb K) (λ_ _ _=>False) (bY c _ _ _ _ (by rw[hc,Uv];simp only;omega)) (λc _ _ _ _ h _ _=>h.elim)
  ⟨Uc,Zr,nL K 0,by rw[hc];exact Uh,by rw[hc];exact Qz,by rw[FV];exact Qu⟩ ?rd
  (λk=>{ tmps:=#[C a la ca,C (some ⟨r,t,none⟩) lb cb,E,L (some ⟨w.heap.size,0,none⟩),C none 0 0,C none 0 0,E,E,F G (s:Nat),L (some ⟨B9,0,none⟩),L (some ⟨B10,0,none⟩),L (some ⟨f.heap.size+1,0,none⟩),F N ((K:Int)-1-k),C a la ca,F N (la:Nat),C (some ⟨r,t,none⟩) lb cb,F N (lb:Nat),.bool false,E,E,C (some ⟨r,t,none⟩) lb cb,F N (lb:Nat),.bool false,E,E,E,E,E,E,E,E,E,E,E,E,C (some ⟨r,t,none⟩) lb cb,C (some ⟨r,t,none⟩) lb cb,F N (lb:Nat),F N (l1:Nat),L (some ⟨r,t+l1,none⟩),F G (d:Nat),F N (s:Nat),F G (s:Nat),az,bc,C (some ⟨gR,0,none⟩) (la+1) (la+1),bg,bh,C (some ⟨gZ,0,none⟩) (lb+1) (lb+1),bi,bj,C (some ⟨gZ,0,none⟩) lb (lb+1),C (some ⟨gR,0,none⟩) (la+1) (la+1),F N ((la:Int)+1),C (some ⟨gZ,0,none⟩) lb (lb+1),F N (lb:Nat),F N (K:Nat),C (some ⟨f.heap.size,0,none⟩) K K,C (some ⟨f.heap.size,0,none⟩) K K,.func (.func 169) #[] #[L (some ⟨f.heap.size+1+1,0,none⟩)],F N ((K:Int)-1-k),F G 0,E,E,E,E,E,E,E,E,E,E,E,E,E,E,E,E,E,E],defers:=[] }) ?assign ?body ?done ?stop
 case rd=>
  rintro k W ⟨hh,D,Q,_,hQ,hL⟩;have Ud:=hh.b12;rw[hc]at Ud hQ;refine⟨Ud.cell,λhk=>⟨f.heap.size,0,J,?_⟩⟩;rw[CA,hQ.cell (j:=K-1-k) (by rw[hL.2.2.1];omega),hL.2.2.2.2.2.2 (K-1-k) O]
 case assign=>
  intro l k W K hK;unfold Iv;gi_wp2;exact hK
 case stop=>
  rintro D c k W _ _ h _;exact h.elim
 case body=>
  rintro l' k W ⟨hh,D,Q,hD,hQ,hL⟩ hk ia;have Ug:K-k=K-1-k+1:=O
  rw[Ug]at hL;have e1:((K:Int)-1-k)=((K-1-k:Nat):Int):=O
  have HI:=Y (show K-(k+1)=K-1-k by omega);have Qn:K-1-k<K:=O
  rw[e1];obtain⟨i,hi⟩:=ex (K-1-k);rw[hi]at hL Qn HI ⊢;clear Ug e1 hi;obtain⟨w1,w2,w3⟩:=hL.win Qn Qh;have Uu:=hL.1;have gp:=hL.2.2.1;have Ul:=Y (show ∀(V:I) (nn:Nat),DO V gR D->DO V gZ Zb->CallsIn (Fence.wide.inRound l') nn M 204 #[C (some ⟨gR,i,none⟩) (lb+1) (la+1-i),C (some ⟨gZ,0,none⟩) lb (lb+1)] V λe w'=>
   ∃q,e=.returned (F G ((val Z ((D.drop i).take (lb+1))/(n*2^s):Nat):Int))/\(q.length=lb+1/\DJ Z q/\val Z q=val Z ((D.drop i).take (lb+1))%(n*2^s))/\DO w' gR (DW D i (lb+1) q)/\V.grownBy w' (some gR)from λV nn h1 h2=>by
   have Qj:=Qi.o;have hz:=h2.row 0 lb (lb+1) O O O O;have Qw:=bV gR i l (la+1-i) D (some ⟨gZ,0,none⟩) (lb+1) (Zb.take (l+2)) V h1 hL.2.1 (by rw[Uu];have:=Qc.o;omega) (by have:=Qc.o;omega) O (by have:=Qc.o;omega)
    (by rw[Ca,Qc.o]at hz;rw[Qc.o];exact hz) (Up.take _) (λp e _=>by cases e;exact λh=>aq h.symm) fs (by rw[ff];have:=w1;rw[Qc.o]at this;exact this)
   rw[ff]at Qw;have e3:l+3=lb+1:=by rw[Qc.o]
   have e2:l+2=lb:=Qc.o.symm;rw[e3,e2]at Qw;exact Bv l' ((BM (n:=nn)).2 Qw))
  have Un:=Y λ(q:m4) (h1:q.length=lb+1) (h2:DJ Z q) (h3:val Z q=val Z ((D.drop i).take (lb+1))%(n*2^s))=>hL.step Qn Qh h1 h2 h3 Ux;obtain⟨qd,fo⟩:=ex (val Z ((D.drop i).take (lb+1))/(n*2^s));rw[fo]at Un Ul;clear fo w1 w2 w3 hL ff fs Qu;obtain⟨H1,gk⟩:∃H1:Nat,(i:Int)+(lb:Int)=(H1:Int):=⟨i+lb,O⟩;obtain⟨H,hH⟩:∃H:Nat,(H1:Int)+1=(H:Int):=⟨H1+1,O⟩;have gl:H-i=lb+1:=O
  have gn:H<=la+1:=by have:=Qi.o;omega
  have gu:i<=H:=O
  have y1:(i:Int)<=(H:Int):=O
  have y2:(H:Int)<=(la:Int)+1:=O
  have y3:(0:Int)<=(i:Int):=O
  have y4:(i:Int)<(K:Int):=O
  have y5:N.wrap (H1:Int)=(H1:Int):=BR _ O;have y6:N.wrap (H:Int)=(H:Int):=BR _ O;gi_wp2_with fail
  refine Xo Dl [[],[],[],[],[],[],[5],[4,6],[7],[2,3,8],[],[9,10],[0,1,0,1,2,3,4,5,6,7,8,9,10,11],[12,11,11,0,1,2,3,4,5,6,7,8,9,10,11]] nK DK
   (λDD ac V=>∃de dh di dj dk dm dt du dw dx dz ed ei:Value,ac={ tmps:=#[C a la ca,C (some ⟨r,t,none⟩) lb cb,E,L (some ⟨w.heap.size,0,none⟩),C none 0 0,C none 0 0,E,E,F G (s:Nat),L (some ⟨B9,0,none⟩),L (some ⟨B10,0,none⟩),L (some ⟨f.heap.size+1,0,none⟩),F N (i:Nat),C a la ca,F N (la:Nat),C (some ⟨r,t,none⟩) lb cb,F N (lb:Nat),.bool false,E,E,C (some ⟨r,t,none⟩) lb cb,F N (lb:Nat),.bool false,E,E,E,E,E,E,E,E,E,E,E,E,C (some ⟨r,t,none⟩) lb cb,C (some ⟨r,t,none⟩) lb cb,F N (lb:Nat),F N (l1:Nat),L (some ⟨r,t+l1,none⟩),F G (d:Nat),F N (s:Nat),F G (s:Nat),az,bc,C (some ⟨gR,0,none⟩) (la+1) (la+1),bg,bh,C (some ⟨gZ,0,none⟩) (lb+1) (lb+1),bi,bj,C (some ⟨gZ,0,none⟩) lb (lb+1),C (some ⟨gR,0,none⟩) (la+1) (la+1),F N ((la:Int)+1),C (some ⟨gZ,0,none⟩) lb (lb+1),F N (lb:Nat),F N (K:Nat),C (some ⟨f.heap.size,0,none⟩) K K,C (some ⟨f.heap.size,0,none⟩) K K,.func (.func 169) #[] #[L (some ⟨f.heap.size+1+1,0,none⟩)],F N (i:Nat),F G 0,de,dh,di,dj,dk,dm,dt,du,dw,dx,dz,ed,ei,E,E,E,E,E],defers:=[] }/\Hid (DD 0=true->de=C (some ⟨f.heap.size,0,none⟩) K K)/\Hid (DD 1=true->dh=F N (i:Nat))/\Hid (DD 2=true->di=C (some ⟨gR,0,none⟩) (la+1) (la+1))/\Hid (DD 3=true->dj=F N (i:Nat))/\Hid (DD 4=true->dk=F N (i:Nat))/\Hid (DD 5=true->dm=C (some ⟨r,t,none⟩) lb cb)/\Hid (DD 6=true->dt=F N (lb:Nat))/\Hid (DD 7=true->du=F N (H1:Nat))/\Hid (DD 8=true->dw=F N (H:Nat))/\Hid (DD 9=true->dx=C (some ⟨gR,i,none⟩) (lb+1) (la+1-i))/\Hid (DD 10=true->dz=C (some ⟨gZ,0,none⟩) lb (lb+1))/\Hid (DD 11=true->ed=F G (qd:Nat))/\Hid (DD 12=true->ei=L (some ⟨f.heap.size,i,none⟩))/\∃D2,Hid (DD 11=true->∃q,(q.length=lb+1/\DJ Z q/\val Z q=val Z ((D.drop i).take (lb+1))%(n*2^s))/\D2=DW D i (lb+1) q)/\SplM c W D D2 Q (Q.set i qd) (DD 11) (DD 13) V)
   (E8 ⟨_,_,_,_,_,J,Y Dk,Y Dk,Y Dk,Y Dk,Y Dk,Y Dk,Y Dk,Y Dk,Y Dk,Y Dk,Y Dk,Y Dk,Y Dk,D,Y Dk,SplM.drew ⟨KeepsOthers.refl _,hh,hD,hQ⟩⟩) ?step ?fin
  case fin=>
   rintro DD ac V am ⟨de,dh,di,dj,dk,dm,dt,du,dw,dx,dz,ed,ei,rfl,A,P,g2,R,g4,o,S,T,U,z,x,ad,ae,D2,gd,y⟩;rw[am 11 DK,am 13 DK]at y;obtain⟨q,⟨f9,fc,fe⟩,rfl⟩:=gd.o (am 11 DK);refine⟨y.k.from _,y.h,DW D i (lb+1) q,Q.set i qd,y.r,y.q,?_⟩;rw[HI.o];exact Un.o q f9 fc fe
  case step=>
   rintro DD ac V j ds aj hj b ai ⟨de,dh,di,dj,dk,dm,dt,du,dw,dx,dz,ed,ei,rfl,A,P,g2,R,g4,o,S,T,U,z,x,ad,ae,D2,gd,y⟩;have Qv:j<14:=(Aq.1 hj).1;obtain rfl|rfl|rfl|rfl|rfl|rfl|rfl|rfl|rfl|rfl|rfl|rfl|rfl|rfl:=Io j O
   all_goals
    simp only[AO,AJ,AX]at hj;subst hj;clear Qv
   . have b11:Boxed V (f.heap.size+1) 33 (C (some ⟨f.heap.size,0,none⟩) K K):=by have:=y.h.b11;rw[hc]at this;exact this
     have k0:=b11.cell;clear b aj;refine BZ J λK2 X=>?_;go_simp;exact X _ _ (E8 ⟨_,_,_,_,_,J,Y λ_=>rfl,P,g2,R,g4,o,S,T,U,z,x,ad,ae,D2,gd,y⟩)
   . clear b aj;refine BZ J λK2 X=>?_;go_simp;exact X _ _ ⟨_,_,_,_,_,_,_,_,_,_,_,_,_,J,A,Y λ_=>rfl,g2,R,g4,o,S,T,U,z,x,ad,ae,D2,gd,y⟩
   . have b9:Boxed V B9 33 (C (some ⟨gR,0,none⟩) (la+1) (la+1)):=by have:=y.h.b9;rw[hc]at this;exact this
     have k0:=b9.cell;clear b aj;refine BZ J λK2 X=>?_;go_simp;exact X _ _ ⟨_,_,_,_,_,_,_,_,_,_,_,_,_,J,A,P,Y λ_=>rfl,R,g4,o,S,T,U,z,x,ad,ae,D2,gd,y⟩
   . clear b aj;refine BZ J λK2 X=>?_;go_simp;exact X _ _ ⟨_,_,_,_,_,_,_,_,_,_,_,_,_,J,A,P,g2,Y λ_=>rfl,g4,o,S,T,U,z,x,ad,ae,D2,gd,y⟩
   . clear b aj;refine BZ J λK2 X=>?_;go_simp;exact X _ _ ⟨_,_,_,_,_,_,_,_,_,_,_,_,_,J,A,P,g2,R,Y λ_=>rfl,o,S,T,U,z,x,ad,ae,D2,gd,y⟩
   . have b0:Boxed V w.heap.size 33 (C (some ⟨r,t,none⟩) lb cb):=by have:=y.h.b0;rw[hc]at this;exact this
     have k0:=b0.cell;clear b aj;refine BZ J λK2 X=>?_;go_simp;exact X _ _ ⟨_,_,_,_,_,_,_,_,_,_,_,_,_,J,A,P,g2,R,g4,Y λ_=>rfl,S,T,U,z,x,ad,ae,D2,gd,y⟩
   . obtain rfl:=o.o (b 5 DG);clear b aj;refine BZ J λK2 X=>?_;go_simp;exact X _ _ ⟨_,_,_,_,_,_,_,_,_,_,_,_,_,J,A,P,g2,R,g4,Y λ_=>rfl,Y λ_=>rfl,T,U,z,x,ad,ae,D2,gd,y⟩
   . obtain rfl:=g4.o (b 4 DG);obtain rfl:=S.o (b 6 DG);clear b aj;refine BZ J λK2 X=>?_;go_simp;exact X _ _ ⟨_,_,_,_,_,_,_,_,_,_,_,_,_,J,A,P,g2,R,Y λ_=>rfl,o,Y λ_=>rfl,Y λ_=>rfl,U,z,x,ad,ae,D2,gd,y⟩
   . obtain rfl:=T.o (b 7 DG);clear b aj;refine BZ J λK2 X=>?_;go_simp;exact X _ _ ⟨_,_,_,_,_,_,_,_,_,_,_,_,_,J,A,P,g2,R,g4,o,S,Y λ_=>rfl,Y λ_=>rfl,z,x,ad,ae,D2,gd,y⟩
   . obtain rfl:=g2.o (b 2 DG);obtain rfl:=R.o (b 3 DG);obtain rfl:=U.o (b 8 DG);have gy:¬(la+1=i):=O
     clear b aj;refine BZ J λK2 X=>?_;go_simp;exact X _ _ ⟨_,_,_,_,_,_,_,_,_,_,_,_,_,J,A,P,Y λ_=>rfl,Y λ_=>rfl,g4,o,S,T,Y λ_=>rfl,Y λ_=>rfl,x,ad,ae,D2,gd,y⟩
   . have b10:Boxed V B10 33 (C (some ⟨gZ,0,none⟩) lb (lb+1)):=by have:=y.h.b10;rw[hc]at this;exact this
     have k0:=b10.cell;clear b aj;refine BZ J λK2 X=>?_;go_simp;exact X _ _ ⟨_,_,_,_,_,_,_,_,_,_,_,_,_,J,A,P,g2,R,g4,o,S,T,U,z,Y λ_=>rfl,ad,ae,D2,gd,y⟩
   . obtain rfl:=z.o (b 9 DG);obtain rfl:=x.o (b 10 DG);rw[ai]at y;have hr:DO V gR D:=by have:=y.r;rw[hc]at this;exact this
     have hz:DO V gZ Zb:=by have:=y.h.z;rw[hc]at this;exact this
     have HV:=Y y;clear y;clear b aj;refine BZ J λK2 X=>?_;go_simp;gi_wp2_with(refine⟨trivial,?_⟩;gi_at_call 204;refine(Ul.o _ _ hr hz).mono ?_;rintro e w5 ⟨q,rfl,⟨f9,fc,fe⟩,hA5,bu⟩)
     exact⟨_,_,_,_,_,_,_,_,_,_,_,_,_,J,A,P,g2,R,g4,o,S,T,U,Y λ_=>rfl,Y λ_=>rfl,Y λ_=>rfl,ae,DW D i (lb+1) q,Y λ_=>⟨q,⟨f9,fc,fe⟩,J⟩,SplM.split (HV.o.any _) Ue (by rw[hc];exact bu) (by rw[hc];exact hA5)⟩
   . obtain rfl:=A.o (b 0 DG);obtain rfl:=P.o (b 1 DG);clear b aj;refine BZ J λK2 X=>?_;go_simp;exact X _ _ (E8 ⟨_,_,_,_,_,J,Y λ_=>rfl,Y λ_=>rfl,g2,R,g4,o,S,T,U,z,x,ad,Y λ_=>rfl,D2,gd,y⟩)
   . obtain rfl:=ad.o (b 11 DG);obtain rfl:=ae.o (b 12 DG);rw[ai]at y;have Ql:DO V f.heap.size Q:=by have:=y.q;rw[hc]at this;exact this
     have k0:=Ql.cell (j:=i) O;have f0:=Ql.frozen i;have Qm:SplM c W D D2 Q (Q.set i qd) (DD 11) true (V.setCell ⟨f.heap.size,i,none⟩ (F G (qd:Nat))):=by have:=y.store Ue (j:=i) (v:=qd) J;rw[hc]at this ⊢;exact this
     have Qo:=Y Qm;clear Qm y;clear b aj;refine BZ J λK2 X=>?_;go_simp;exact X _ _ ⟨_,_,_,_,_,_,_,_,_,_,_,_,_,J,A,P,g2,R,g4,o,S,T,U,z,x,Y λ_=>rfl,Y λ_=>rfl,D2,gd,Qo.o⟩
 case done=>
  rintro D W hD ⟨hh,D2,Q2,am,fk,hL⟩ X;rw[Cv]at hL;obtain⟨f1,f2⟩:=hL.fin J J;have b11:Boxed W (f.heap.size+1) 33 (C (some ⟨f.heap.size,0,none⟩) K K):=by have:=hh.b11;rw[hc]at this;exact this
  have b9:Boxed W B9 33 (C (some ⟨gR,0,none⟩) (la+1) (la+1)):=by have:=hh.b9;rw[hc]at this;exact this
  have Uj:Bl w W:=by have:=hh.B;rw[hc]at this;exact this
  have hr:DO W gR D2:=by have:=am;rw[hc]at this;exact this
  have Ql:DO W f.heap.size Q2:=by have:=fk;rw[hc]at this;exact this
  have Qj:=Qi.o;have Qd:Row G W (C (some ⟨f.heap.size,0,none⟩) K K) Q2:=by
   have h1:=Ql.row 0 K K (by rw[hL.2.2.1];omega) (Aa _) O O;rwa[Ca,Ad (by rw[hL.2.2.1];exact Aa _)]at h1
  have Qe:Row G W (C (some ⟨gR,0,none⟩) (la+1) (la+1)) D2:=by
   have h1:=hr.row 0 (la+1) (la+1) (by rw[hL.1];omega) (Aa _) O O;rwa[Ca,Ad (by rw[hL.1];omega)]at h1
  have HT:=Y (show ∀V:I,Bl W V->Calls M 73 #[C (some ⟨f.heap.size,0,none⟩) K K] V λe w'=>∃u,e=.returned u/\UN w' u (m/n)/\Bl V w' from λV h=>by
   have h1:=Xe _ Q2 V (Row.below Qd h);rw[f1]at h1;exact h1)
  have Uy:=Y (show ∀V:I,Bl W V->Calls M 205 #[C (some ⟨gR,0,none⟩) (la+1) (la+1),F G (s:Nat)] V λe w'=>∃u,e=.returned u/\UN w' u (m%n)/\Bl V w' from λV h=>by
   have h1:=bF _ _ _ D2 s V hs (Row.below Qe h) hL.2.1;rw[f2,Nat.mul_div_cancel _ (Cj s)]at h1;exact h1)
  have ii:=b11.lt;have l9:=b9.lt;have Uk:=b11.cell;have k9:=b9.cell;clear hL f1 f2 Qd Qe hr Ql hh am fk Uc Uh Qz Qu Qj;go_upto_region 13 with fail
  have hq:Bl W W.drew:=(BA _ W).drew;go_region_held3 (λw'=>w'.cell? ⟨f.heap.size+1,0,none⟩=some (C (some ⟨f.heap.size,0,none⟩) K K)/\w'.cell? ⟨B9,0,none⟩=some (C (some ⟨gR,0,none⟩) (la+1) (la+1))) (refine⟨?_,?_⟩<;>(first|(go_keep;done)|(simp[*];done)))
   (first
    |(go_at_call 73;refine(HT.o _ hq).mono ?_;rintro e w5 ⟨u5,rfl,ft,an⟩;obtain⟨ua,uc,rfl⟩:=UN.form ft;have hq:=Bt hq an;have Uk:=(boxed_below b11 hq).cell;have k9:=(boxed_below b9 hq).cell)
    |(go_at_call 205;refine(Uy.o _ hq).mono ?_;rintro e w6 ⟨u6,rfl,fv,fl⟩;obtain⟨va,vc,rfl⟩:=UN.form fv;have hq:=Bt hq fl;have Uk:=(boxed_below b11 hq).cell;have k9:=(boxed_below b9 hq).cell))
  all_goals go_wp2_with fail
  have Qq:w6.heap[D]?=some (.deferred (some [])):=(hq.block D (Ab.1 X).1).trans X;refine⟨DG,.inl ⟨_,_,J,BU Qq,?_⟩⟩;refine⟨.tuple #[C ua (Jd Z (m/n)).length uc,C va (Jd Z (m%n)).length vc],by simp[results,results176,go_sem],_,_,J,O5 (UN.below ft fl) Qq,O5 fv Qq,?_⟩;exact below_grown (Bt Uj hq) (BX _ D (.deferred none)) (by have:=Um.size;omega)
end
section
variable{a:m4}{P base g l rc:Nat}{u:Value}{W:I}
def O8(a:nJ)(la ca:Nat)(b:nJ)(lb cb m n:Nat)(w:I)(g:Row G w (C a la ca) (Jd Z m))(i:Row G w (C b lb cb) (Jd Z n))(W:n≠0)(U:la<1099511627776):
 Calls M 176 #[C a la ca,C b lb cb] w λe j=>∃u v,e=.returned (.tuple #[u,v])/\UN j u (m/n)/\UN j v (m%n)/\Bl w j:=by
 obtain⟨T,ad,am,ai,ah⟩:=Ju g;obtain⟨f,ae,an,aj,S⟩:=Ju i;have ak:lb≠0:=λe=>W ((JP Jg).1 (Al (by rw[<-f,e])));by_cases H:la<lb
 . exact bG a la ca b lb cb m n w g i H
 . by_cases K:lb=1
   . subst K;exact bI a la ca b cb m n w g i O
   . obtain⟨l,rfl⟩:∃l,lb=l+2:=⟨lb-2,O⟩;obtain⟨y,z,rfl,R,kb⟩:=S (l+1) O;have k:=Jr Jg n;have p:(Jd Z n)[l+1]?.getD 0≠0:=by
      intro e;have P:=Js Z (Jd Z n) (l+1);rw[Ad O,e,Cz,Cl,Jq Jg]at P;have X:=YC k (l+1);have o:=Xz Jg f.symm O;rw[show l+2-1=l+1 from J]at o;omega
     have c:(Jd Z n)[l+1]?.getD 0<Z:=k.getD uo _;obtain⟨d,q⟩:=ex ((Jd Z n)[l+1]?.getD 0);rw[q]at kb p c;obtain⟨A,B,D⟩:=bitLen_spec d p (by rw[<-I6];exact c);have Q:Lib.bitLen d<=64:=by
      rcases AQ 64 (Lib.bitLen d)with h|h
      . exfalso
        have o:2^64<=2^(Lib.bitLen d-1):=Ak O O;rw[I6]at c;omega
      . exact h
     obtain⟨r,t⟩:=SK (s:=64-Lib.bitLen d) k f.symm q B D A Q J;rw[Jq Jg]at r t;have V:m<Z^la:=by
      have:=Yw (Jr Jg m);rwa[Jq Jg,<-T]at this
     have x:Z^(l+1)<=n:=Xz Jg f.symm O;exact bp a la ca y z l (l+2) (l+1) cb m n d (64-Lib.bitLen d) w J O R g i kb c O (show _=_ by omega) O U r t (bX V x O)
theorem O9{p:Nat}(a:p≠0)(h:p<Z):Jd Z p=[p]:=by
 grind[X8,Ct,Cn,JG]
def br(a:nJ)(ca:Nat)(b:nJ)(lb cb x y:Nat)(w:I)(d:Row G w (C a 1 ca) (Jd Z x))(r:Row G w (C b lb cb) (Jd Z y))(z:y<Z):
 Calls M 178 #[C a 1 ca,C b lb cb] w λe A=>∃u,e=.returned u/\UN A u (Nat.gcd x y)/\Bl w A:=by
 obtain⟨n,W,ai,ad,l⟩:=Ju d;obtain⟨c,X,aj,ae,m⟩:=Ju r;obtain⟨o,ak,R⟩:=O6 n.symm;rcases AZ lb with t|t
 . subst t;have k:=(JP Jg).1 (Al c.symm);subst k;have D:=Y d;clear l m n c d r o;go_enter func178,ntmps178
   go_wp2_with fail
   go_ret;exact⟨_,J,by rw[Nat.gcd_zero_right];exact D.o,BA _ w⟩
 . have k:y≠0:=λe=>by rw[e,JG]at c;simp at c;omega
   have i:=O9 k z;obtain rfl:lb=1:=by rw[c,i];rfl
   obtain⟨H,K,rfl,U,ka⟩:=l 0 O;obtain⟨P,Q,rfl,V,kb⟩:=m 0 O;rw[o]at ka;rw[i]at kb;have am:w.cell? ⟨H,K,none⟩=some (F G (x:Nat)):=ka;have an:w.cell? ⟨P,Q,none⟩=some (F G (y:Nat)):=kb;clear l m n c d r o i ka kb;go_enter func178,ntmps178
   go_upto_region 3 with fail
   go_quiet (fail)
   go_wp2_with fail
   go_loopw [5,6] (λT s wr=>∃(p q j:Nat),T=F G (p:Nat)/\s=F G (q:Nat)/\p<Z/\q<Z/\p≠0/\Hid (Nat.gcd p q=Nat.gcd x y)/\wr=w.drewN j) (λ_ s _=>(intOf s).toNat)
   case atStart=>exact⟨x,y,_,J,J,R,z,O,Y J,J⟩
   case round=>
    obtain⟨p,q,j,rfl,rfl,hp,hq,S,g,rfl⟩:=hrel;by_cases v:q=0
    . subst v;have f:=Y (show p=Nat.gcd x y by rw[<-g.o,Nat.gcd_zero_right]);have B:=Y (O9 S hp);clear g;go_wp2_with fail
      go_ret;refine⟨C (some ⟨w.heap.size,0,none⟩) 1 1,J,?_,(LW (BA _ w) _).alloc (Aa _) _⟩;unfold UN;rw[<-f.o,B.o];exact(DO.made (xs:=[p]) (BB (w.drewN j) (.cells #[F G (p:Nat)] 115))).row 0 1 1 DG O O O
    . have f:=Y (show Nat.gcd q (p%q)=Nat.gcd x y by rw[<-g.o,CI q,<-Nat.gcd_rec,CI]);have ah:=A9 p (show q>0 by omega);go_upto_region 5 with fail
      go_quiet (fail)
      go_wp2_with fail
      exact⟨⟨q,p%q,j+nq,J,DG,hq,O,v,f,DG⟩,by simp[intOf];omega⟩
def GX(W:I)(base:Nat)(u:Value)(g l rc P:Nat)(a:m4):Prop:=
 u=C (some ⟨g,0,none⟩) l rc/\DO W g a/\DJ Z a/\l<=a.length/\l<=rc/\rc<=9223372036854775807/\l<=1099511627776/\a.take l=Jd Z P/\base<=g
def GX.below{W W':I}{base g l rc P:Nat}{u:Value}{a:m4}(h:GX W base u g l rc P a)(b:Bl W W'):GX W' base u g l rc P a:=
 ⟨h.1,h.2.1.below b,h.2.2⟩
def GX.un(h:GX W base u g l rc P a):UN W u P:=by
 obtain⟨rfl,b,i,j,c,d,e,f,k⟩:=h;have:=b.row 0 l rc O c d e;rw[Ca,f]at this;exact this
theorem bw{ds:m4}(d:DO W g a)(k:Row G W (C (some ⟨g,0,none⟩) l rc) ds)(hl:l<=a.length):a.take l=ds:=by
 obtain⟨m,_,_,_,c⟩:=Ju k;apply List.ext_getElem?;intro j;by_cases i:j<l
 . obtain⟨b,n,e,_,f⟩:=c j i;cases e;rw[CA,d.cell O]at f;grind
 grind
def SM(a:nJ)(la ca:Nat)(b:nJ)(lb cb:Nat)(c d:m4)(w:I)(T:DJ Z c)(U:DJ Z d)(R:la+lb<=1099511627776)
(k:Row G w (C a la ca) c)(m:Row G w (C b lb cb) d):
 Calls M 127 #[C a la ca,C b lb cb] w λe r=>∃u,e=.returned u/\UN r u (val Z c*val Z d)/\(val Z c*val Z d≠0->∃g l rc o,GX r w.heap.size u g l rc (val Z c*val Z d) o)/\Bl w r:=by
 have t:=Kb (la+lb) O w;rw[show((la+lb:Nat):Int)=(la:Int)+(lb:Int)from by omega]at t;obtain⟨i,n⟩:∃i,i=w.alloc (.cells (cellsOf G (nL (la+lb) 0)).toArray 115):=⟨_,J⟩;have q:Bl w i:=by rw[n];exact Ba w _
 have s:DO i w.heap.size (nL (la+lb) 0):=by rw[n];exact DO.made (BB w _)
 rw[<-n]at t;have D:=Y (aS w.heap.size (la+lb) (la+lb) (nL (la+lb) 0) a la ca b lb cb c d i T U s (λx S=>by rw[Fz S];unfold Z;omega) DI (Aa _) O R (Row.below k q) (Row.below m q)
  (λp e j=>by have:=I0 k e j;omega) λp e j=>by have:=I0 m e j;omega)
 have V:=(Ju k).2.1;have W:=(Ju k).2.2.1;have X:=(Ju m).2.1;have ad:=(Ju m).2.2.1;clear n s k m;go_enter func127,ntmps127
 go_wp2_with(go_at_call 168;refine D.o.mono ?_;rintro e w5 ⟨u,rfl,⟨f,Q⟩,P,o,A,K,B⟩;obtain⟨ua,uc,rfl⟩:=UN.form f)
 go_ret;refine⟨_,J,f,λj=>?_,below_grown q Q (Aa _)⟩;have H:(Jd Z (val Z c*val Z d)).length≠0:=λe=>j ((JP Jg).1 (Al e));rcases P with e|⟨l,e⟩
 . injection e with v y z
   exact absurd y H
 . injection e with v y z
   subst v;subst z;rw[AW]at B;have hl:(Jd Z (val Z c*val Z d)).length<=o.length:=by rw[B];exact(Ju f).2.1
   exact⟨_,_,_,o,J,A,K,hl,(Ju f).2.1,(Ju f).2.2.1,(Ju f).2.2.2.1,bw A f hl,Aa _⟩
theorem SN{Q:Nat}(h:GX W base u g l rc P a)(b:nJ)(lb cb:Nat)(i:UN W (C b lb cb) Q)(v:Q<=P)(x:∀p,b=some p->0<lb->p.block≠g):
 Calls M 173 #[u,C b lb cb] W λe d=>∃c q,e=.returned (F G (c:Nat))/\(Row G d u q/\Jz q=Jd Z (P-Q))/\W.grownBy d (some g):=by
 obtain⟨rfl,m,n,y,f,o,r,z,A⟩:=h;have hl:l=(Jd Z P).length:=DI
 have k:=(Ju i).1;refine(Rn g 0 l rc a b lb cb (Jd Z Q) W m n O f O (by rw[hl,k];exact XC v) i (Jr Jg Q) x).mono ?_;rintro e d ⟨c,q,rfl,hq,t,hg⟩;have w:DW a 0 l q=q++a.drop l:=by rw[DW,List.take_zero,Ar,CA]
 have j:=hq.1;refine⟨c,q,J,⟨?_,?_⟩,hg⟩
 . have s:=t.row 0 l rc DI f o r;rwa[w,Ca,CB O,Ad O]at s
 . have B:F0 (Jd Z P) (Jd Z Q) 0 l c q:=by
    refine⟨j,hq.2.1,hq.2.2.1,?_⟩;have:=hq.2.2.2;grind
   grind[Ro,XC]
def SO{w V a:I}{o:Obj}(h:Bl w V)(k:Below (V.alloc o).heap.size (V.alloc o) a):Bl w a:=(h.alloc h.size o).trans (k.mono (h.alloc h.size o).size)
def SP(x:Nat):val Z [x]=x:=by rw[Yi,LH,Cz,Cl]
theorem SQ(ma mb:Nat)(a:nJ)(la ca:Nat)(b:nJ)(lb cb A B:Nat)(w:I)(ra:Row G w (C a la ca) (Jd Z A))(rb:Row G w (C b lb cb) (Jd Z B))(bu:ma<Z)(ce:mb<Z)(cn:la<1099511627776)(co:lb<1099511627776)(h0:mb*B≠0):
 Calls M 175 #[.agg #[F G (ma:Nat),F G (mb:Nat)],C a la ca,C b lb cb] w λe W=>∃u,e=.returned u/\UN W u (Dw (ma*A) (mb*B))/\Bl w W:=by
 obtain⟨W0,an⟩:=ex (w.alloc (.cells #[F G (ma:Nat),F G (mb:Nat)] 202));have Qa:Bl w W0:=by rw[<-an];exact Ba w _
 have bx:Jp W0 w.heap.size 202 (F G (ma:Nat)) (F G (mb:Nat)):=by rw[<-an];exact Jp.new w _ _ _
 have Qp:=Y (show ∀(V:I) (g:Nat),Bl W0 V->DO V g [ma]->Calls M 127 #[C a la ca,C (some ⟨g,0,none⟩) 1 1] V λe W=>∃u,e=.returned u/\UN W u (ma*A)/\(ma*A≠0->∃g l rc zs,GX W V.heap.size u g l rc (ma*A) zs)/\Bl V W from λV g h hA=>by
  have n:=SM a la ca (some ⟨g,0,none⟩) 1 1 (Jd Z A) [ma] V (Jr Jg A) (DJ.cons bu (DJ.nil _)) O (Row.below (Row.below ra Qa) h) (hA.row 0 1 1 DG O O O);rw[SP,Jq Jg,AD A ma]at n;exact n)
 have Qo:=Y (show ∀(V:I) (g:Nat),Bl W0 V->DO V g [mb]->Calls M 127 #[C b lb cb,C (some ⟨g,0,none⟩) 1 1] V λe W=>∃u,e=.returned u/\UN W u (mb*B)/\(mb*B≠0->∃g l rc zs,GX W V.heap.size u g l rc (mb*B) zs)/\Bl V W from λV g h hA=>by
  have n:=SM b lb cb (some ⟨g,0,none⟩) 1 1 (Jd Z B) [mb] V (Jr Jg B) (DJ.cons ce (DJ.nil _)) O (Row.below (Row.below rb Qa) h) (hA.row 0 1 1 DG O O O);rw[SP,Jq Jg,AD B mb]at n;exact n)
 have Qq:=Y an;clear an ra rb;generalize ma*A=m at *;generalize mb*B=S at *;go_enter func175,ntmps175
 go_upto_region 1 with fail
 rw[Qq.o];refine J6 Dl [[],[],[1],[2],[0,3],[],[],[6],[7],[5,8,4],[4,9,0,1,2,3,4],[9,10,0,1,2,3,4,5,6,7,8,9,10]] nK DK (λf ac V=>∃t7 t8 t9 ap aq ay X az bc bf bg ak:Value,ac={ tmps:=#[.agg #[F G (ma:Nat),F G (mb:Nat)],C a la ca,C b lb cb,L (some ⟨w.heap.size,0,none⟩),E,E,C none 0 0,t7,t8,t9,ap,aq,ay,X,az,bc,bf,bg,ak,E,E,E,E,E,E,E,E,E,E,E],defers:=[] }/\Hid (f 0=true->t9=C a la ca)/\Hid (f 1=true->ap=L (some ⟨w.heap.size,0,none⟩))/\Hid (f 2=true->aq=F G (ma:Nat))/\Hid (f 3=true->∃g,ay=C (some ⟨g,0,none⟩) 1 1/\DO V g [ma])/\Hid (f 4=true->UN V X m/\(m≠0->∃d l1 s t,GX V W0.heap.size X d l1 s m t))/\Hid (f 5=true->az=C b lb cb)/\Hid (f 6=true->bc=L (some ⟨w.heap.size,1,none⟩))/\Hid (f 7=true->bf=F G (mb:Nat))/\Hid (f 8=true->∃g,bg=C (some ⟨g,0,none⟩) 1 1/\DO V g [mb])/\Hid (f 9=true->∃k l2 ad ae,GX V W0.heap.size ak k l2 ad S ae/\UN V X m/\(m≠0->∃d l1 s t,GX V W0.heap.size X d l1 s m t/\d≠k))/\Hid (f 10=true->t7=X)/\Hid (f 11=true->t8=ak)/\Bl W0 V)
  (E8 ⟨_,_,_,_,J,Y Dk,Y Dk,Y Dk,Y Dk,Y Dk,Y Dk,Y Dk,Y Dk,Y Dk,Y Dk,Y Dk,Y Dk,(BA _ W0).drew⟩) ?step1 ?fin1
 case step1=>
  rintro f a2 V i ds o bj j U ⟨t7,t8,t9,ap,aq,ay,X,az,bc,bf,bg,ak,rfl,v,d,k,z,g4,D,H,P,Q,R,x,y,hq⟩;have Qm:i<12:=(Aq.1 bj).1;obtain rfl|rfl|rfl|rfl|rfl|rfl|rfl|rfl|rfl|rfl|rfl|rfl:=LB i O
  all_goals
   simp only[AO,AJ,AX]at bj;subst bj;clear Qm
  . clear j o;refine EI ?_;exact⟨Y λ_=>rfl,d,k,z,g4,D,H,P,Q,R,x,y,hq⟩
  . clear j o;refine EI ?_;exact⟨v,Y λ_=>rfl,k,z,g4,D,H,P,Q,R,x,y,hq⟩
  . obtain rfl:=d.o (j 1 DG);have k0:=(bx.below hq).c0;clear j o;refine EI ?_;exact⟨v,Y λ_=>rfl,Y λ_=>rfl,z,g4,D,H,P,Q,R,x,y,hq⟩
  . have Qr:f 4=false:=by
     cases h:f 4 with
     |false=>rfl
     |true=>rw[o 4 _ J h 3 DG]at U;cases U
    obtain rfl:=k.o (j 2 DG);clear j o;refine EI ?_;exact⟨v,d,Y λ_=>rfl,Y λ_=>⟨_,J,DO.made (xs:=[ma]) (BB V _)⟩,Y (λh=>by simp[Qr]at h),D,H,P,Y (λh=>by obtain⟨g,e,q⟩:=Q.o h;exact⟨g,e,q.below (Ba V _)⟩),Y (λh=>by obtain⟨k,l2,ad,ae,q1,q2,q3⟩:=R.o h;exact⟨k,l2,ad,ae,q1.below (Ba V _),q2.below (Ba V _),λn=>by obtain⟨d,l1,s,t,q,q4⟩:=q3 n;exact⟨d,l1,s,t,q.below (Ba V _),q4⟩⟩),x,y,hq.alloc hq.size _⟩
  . have Qk:f 9=false:=by
     cases h:f 9 with
     |false=>rfl
     |true=>rw[o 9 _ J h 4 DG]at U;cases U
    have Qn:f 10=false:=by
     cases h:f 10 with
     |false=>rfl
     |true=>rw[o 10 _ J h 4 DG]at U;cases U
    obtain rfl:=v.o (j 0 DG);obtain⟨gm,rfl,ai⟩:=z.o (j 3 DG);clear j o;refine J0 J J λK hK=>?_;go_simp;go_wp2_with(go_at_call 127;refine(Qp.o _ _ hq ai).mono ?_;rintro e w5 ⟨u5,rfl,bn,bk,T⟩)
    exact E8 ⟨_,_,_,_,J,Y λ_=>rfl,d,k,Y λ_=>⟨gm,J,ai.below T⟩,Y λ_=>⟨bn,λn=>by obtain⟨d,l1,s,t,q⟩:=bk n;exact⟨d,l1,s,t,q.1,q.2.1,q.2.2.1,q.2.2.2.1,q.2.2.2.2.1,q.2.2.2.2.2.1,q.2.2.2.2.2.2.1,q.2.2.2.2.2.2.2.1,Af hq.size q.2.2.2.2.2.2.2.2⟩⟩,D,H,P,Y (λh=>by obtain⟨g,e,q⟩:=Q.o h;exact⟨g,e,q.below (T)⟩),Y (λh=>by simp[Qk]at h),Y (λh=>by simp[Qn]at h),y,Bt hq T⟩
  . clear j o;refine EI ?_;exact⟨v,d,k,z,g4,Y λ_=>rfl,H,P,Q,R,x,y,hq⟩
  . clear j o;refine EI ?_;exact⟨v,d,k,z,g4,D,Y λ_=>rfl,P,Q,R,x,y,hq⟩
  . obtain rfl:=H.o (j 6 DG);have k0:=(bx.below hq).c1;clear j o;refine EI ?_;exact⟨v,d,k,z,g4,D,Y λ_=>rfl,Y λ_=>rfl,Q,R,x,y,hq⟩
  . have Qk:f 9=false:=by
     cases h:f 9 with
     |false=>rfl
     |true=>rw[o 9 _ J h 8 DG]at U;cases U
    obtain rfl:=P.o (j 7 DG);clear j o;refine EI ?_;exact⟨v,d,k,Y (λh=>by obtain⟨g,e,q⟩:=z.o h;exact⟨g,e,q.below (Ba V _)⟩),Y (λh=>by obtain⟨q1,q2⟩:=g4.o h;exact⟨q1.below (Ba V _),λn=>by obtain⟨d,l1,s,t,q⟩:=q2 n;exact⟨d,l1,s,t,q.below (Ba V _)⟩⟩),D,H,Y λ_=>rfl,Y λ_=>⟨_,J,DO.made (xs:=[mb]) (BB V _)⟩,Y (λh=>by simp[Qk]at h),x,y,hq.alloc hq.size _⟩
  . have Ql:f 11=false:=by
     cases h:f 11 with
     |false=>rfl
     |true=>rw[o 11 _ J h 9 DG]at U;cases U
    obtain rfl:=D.o (j 5 DG);obtain⟨gm,rfl,ai⟩:=Q.o (j 8 DG);obtain⟨p1,p2⟩:=g4.o (j 4 DG);clear j o;refine J0 J J λK hK=>?_;go_simp;go_wp2_with(go_at_call 127;refine(Qo.o _ _ hq ai).mono ?_;rintro e w5 ⟨u5,rfl,bn,bk,T⟩)
    exact⟨_,_,_,_,_,_,_,_,_,_,_,_,J,v,d,k,Y (λh=>by obtain⟨g,e,q⟩:=z.o h;exact⟨g,e,q.below (T)⟩),Y (λh=>by obtain⟨q1,q2⟩:=g4.o h;exact⟨q1.below (T),λn=>by obtain⟨d,l1,s,t,q⟩:=q2 n;exact⟨d,l1,s,t,q.below (T)⟩⟩),Y λ_=>rfl,H,P,Y λ_=>⟨gm,J,ai.below T⟩,Y (λ_=>by obtain⟨k,l2,ad,ae,q⟩:=bk h0;exact⟨k,l2,ad,ae,⟨q.1,q.2.1,q.2.2.1,q.2.2.2.1,q.2.2.2.2.1,q.2.2.2.2.2.1,q.2.2.2.2.2.2.1,q.2.2.2.2.2.2.2.1,Af hq.size q.2.2.2.2.2.2.2.2⟩,p1.below T,λn=>by obtain⟨d,l1,s,t,r⟩:=p2 n;exact⟨d,l1,s,t,r.below T,by have:=r.2.1.lt;have:=q.2.2.2.2.2.2.2.2;omega⟩⟩),x,Y (λh=>by simp[Ql]at h),Bt hq T⟩
  . clear j o;refine EI ?_;exact⟨v,d,k,z,g4,D,H,P,Q,R,Y λ_=>rfl,y,hq⟩
  . clear j o;refine EI ?_;exact⟨v,d,k,z,g4,D,H,P,Q,R,x,Y λ_=>rfl,hq⟩
 rintro f cj V1 am ⟨t7,t8,t9,ap,aq,ay,X,az,bc,bf,bg,ak,rfl,v,d,k,z,g4,D,H,P,Q,R,x,y,hq⟩;obtain⟨gB,l2,ad,ae,o2,aj,o1⟩:=R.o (am 9 DK);obtain rfl:=x.o (am 10 DK);obtain rfl:=y.o (am 11 DK);obtain⟨a1,c1,rfl⟩:=UN.form aj;have Qd:=o2.un;obtain⟨a2,c2,rfl⟩:=UN.form Qd;clear v d k z g4 D H P Q R x y am Qp Qo;have Qi:∀p,a1=some p->0<(Jd Z m).length->p.block≠gB:=λp e n=>by
  have hp:m≠0:=λe0=>by rw[e0,JG]at n;simp at n
  obtain⟨d,l1,s,t,r,r2⟩:=o1 hp;have:=r.1;grind
 have HO:=Y (Oo _ _ (Jd Z m) (Jd Z S) V1 aj Qd (Jr Jg m) (Jr Jg S) (Y3 Jg m) (Y3 Jg S));rw[Jq Jg,Jq Jg]at HO;have Qg:=Bt Qa hq;have Qj:=o2.2.2.2.2.2.2.2.2;by_cases bt:m<S
 . have Qb:=Gz bt;rw[Qb]at HO;have Qf:=Y λ(V:I) (h:Bl V1 V)=>SN (o2.below h) a1 (Jd Z m).length c1 (aj.below h) O Qi;have HD:=Y (show S-m=Dw m S by unfold Dw;omega);clear Qb aj Qd o1 Qi;go_upto_region 4 with(go_at_call 126;refine HO.o.mono ?_;rintro e w2 ⟨rfl,ah⟩)
   go_upto_region 5 with(go_at_call 173;refine(Qf.o _ ah).mono ?_;rintro e w3 ⟨c,q,rfl,⟨hr,bm⟩,bi⟩)
   have Qc:=Y (Xe _ q _ hr);rw[bm,HD.o]at Qc;clear Qf HO;go_wp2_with(go_at_call 73;refine Qc.o.mono ?_;rintro e w4 ⟨u,rfl,hu,bh⟩;obtain⟨ua,uc,rfl⟩:=UN.form hu)
   go_ret;have Qe:=below_grown (Bt Qg ah) bi (Af Qa.size Qj);exact⟨_,J,hu,Bt Qe bh⟩
 . obtain⟨cm,Qb,ck⟩:∃cm:Int,Xt m S=cm/\¬(cm<0):=⟨_,J,by unfold Xt;omega⟩;rw[Qb]at HO;obtain⟨d,l1,s,t,r,r2⟩:=o1 O;have Qh:=r.2.2.2.2.2.2.2.2;have Qf:=Y (λ(V:I) (h:Bl V1 V)=>SN (r.below h) a2 (Jd Z S).length c2 (Qd.below h) O (λp e _=>by
    have:=o2.1;grind))
   have HD:=Y (show m-S=Dw m S by unfold Dw;omega);clear Qb aj Qd o1 Qi;go_upto_region 4 with(go_at_call 126;refine HO.o.mono ?_;rintro e w2 ⟨rfl,ah⟩)
   go_upto_region 5 with(go_at_call 173;refine(Qf.o _ ah).mono ?_;rintro e w3 ⟨c,q,rfl,⟨hr,bm⟩,bi⟩)
   have Qc:=Y (Xe _ q _ hr);rw[bm,HD.o]at Qc;clear Qf HO;go_wp2_with(go_at_call 73;refine Qc.o.mono ?_;rintro e w4 ⟨u,rfl,hu,bh⟩;obtain⟨ua,uc,rfl⟩:=UN.form hu)
   go_ret;have Qe:=below_grown (Bt Qg ah) bi (Af Qa.size Qh);exact⟨_,J,hu,Bt Qe bh⟩
end
def GJ(x k s:Nat):Nat:=x/(Z^k*2^(64-s))
variable{a:m4}{k s:Nat}
def cA(hl:a.length=k+2)(b:DJ Z a)(j:s<=63)(f:a[k+1]?.getD 0<2^(64-s)):
 GJ (val Z a) k s=EA (a[k+1]?.getD 0) s+Dx (a[k]?.getD 0) (64-s)/\EA (a[k+1]?.getD 0) s ||| Dx (a[k]?.getD 0) (64-s)=EA (a[k+1]?.getD 0) s+Dx (a[k]?.getD 0) (64-s):=by
 have g:=SI hl;have c:=YC b k;have i:=b.getD (show 0<Z by unfold Z;omega) k;have hp:=LT (s:=s) O;have e:EA (a[k+1]?.getD 0) s=a[k+1]?.getD 0*2^s:=by rw[LU O,Ct f]
 rw[e];have d:Dx (a[k]?.getD 0) (64-s)<2^s:=by
  unfold Dx;rw[AM (Cj _),hp];exact i
 refine⟨?_,by rw[AD,<-Fl d]⟩;unfold GJ Dx;rw[g,<-Nat.div_div_eq_div_mul,AD _ (Z^k),Nat.mul_add_div (CW uo),Cn c,Cl,<-hp,<-Cp,FF,Nat.add_mul_div_right _ _ (Cj _)];omega
def cB(hl:a.length=k+1)(d:DJ Z a):GJ (val Z a) k s=Dx (a[k]?.getD 0) (64-s):=by
 have b:=Js Z a k;rw[Ad O]at b;have c:=YC d k;unfold GJ Dx;rw[b,<-Nat.div_div_eq_div_mul,FF,Nat.mul_add_div (CW uo),Cn c,Cl]
def cC(hl:a.length<=k)(b:DJ Z a):GJ (val Z a) k s=0:=by
 unfold GJ;apply Cn;have c:=Yw b;have d:Z^a.length<=Z^k:=Ak uo hl;have e:=Cf (Z^k) (Cj (64-s));omega
def SU(a:nJ)(la ca:Nat)(c:m4)(k d nn s:Nat)(w:I)(m:Row G w (C a la ca) c)(n:DJ Z c)(p:nn=k+2)(y:(nn:Int)-1=d)(z:(nn:Int)-2=k)(D:s<=63)(S:la<=nn)(U:nn<=1099511627776)(l:la=nn->c[k+1]?.getD 0<2^(64-s)):
 Calls M 201 #[C a la ca,F N (nn:Nat),F G (s:Nat)] w λe P=>e=.returned (F G (GJ (val Z c) k s:Nat))/\Bl w P:=by
 obtain⟨hl,Q,T,R,g⟩:=Ju m;have X:N.wrap ((nn:Int)-1)=(d:Int):=by rw[y];exact BR _ O
 have i2:N.wrap ((nn:Int)-2)=(k:Int):=by rw[z];exact BR _ O
 have i3:N.wrap (d:Int)=(d:Int):=BR _ O;have i4:N.wrap (k:Int)=(k:Int):=BR _ O;have i5:G.wrap ((64:Int)-s)=((64-s:Nat):Int):=by rw[BT];omega
 have o:=O2 (c[k+1]?.getD 0) s;have v:=O3 (c[k]?.getD 0) (64-s);have i:=n.getD (show 0<Z by unfold Z;omega) k;have j:=O4 (show EA (c[k+1]?.getD 0) s<Z by unfold EA;exact A9 _ uo) (show Dx (c[k]?.getD 0) (64-s)<Z from Cx (Fw _ _) i);obtain rfl|V:=Decidable.em (la=nn)
 . obtain⟨b,K,rfl,B,c1⟩:=g (k+1) O;obtain⟨_,_,x,_,c0⟩:=g k O;cases x;obtain⟨r,t⟩:=cA O n D (l J);rw[t]at j;have f:=Y r;have q:d=k+1:=O
   rw[<-q]at c1 o j f;have j1:(d:Int)<(la:Int):=O
   have j2:(k:Int)<(la:Int):=O
   have j3:(0:Int)<=(d:Int):=O
   have j4:(0:Int)<=(k:Int):=O
   have j5:d<la:=O
   have H:k<la:=O
   clear q g m r t l hl p i;generalize c[d]?.getD 0=x1 at *;generalize c[k]?.getD 0=x0 at *;go_enter func201,ntmps201
   go_upto_region 3 with fail
   go_quiet (fail)
   go_wp2_with fail
   go_ret;refine⟨?_,LW (BA _ w) _⟩;rw[f.o];first|rfl|(simp;done)
 . by_cases A:la=d
   . subst A;obtain⟨b,K,rfl,B,c0⟩:=g k O;have f:=Y (cB (s:=s) (show c.length=k+1 by omega) n);have H:k<la:=O
     have u:¬((la:Int)=(nn:Int)):=O
     clear g m l hl p i j o;generalize c[k]?.getD 0=x0 at *;go_enter func201,ntmps201
     go_wp2_with fail
     go_ret;refine⟨?_,BA _ w⟩;rw[f.o];first|rfl|(simp;done)
   . have f:=Y (cC (s:=s) (show c.length<=k by omega) n);have u:¬((la:Int)=(nn:Int)):=O
     have W:¬((la:Int)=(d:Int)):=O
     clear g m l hl p i o v j;go_enter func201,ntmps201
     go_wp2_with fail
     go_ret;refine⟨?_,BA _ w⟩;rw[f.o];first|rfl|(simp;done)

