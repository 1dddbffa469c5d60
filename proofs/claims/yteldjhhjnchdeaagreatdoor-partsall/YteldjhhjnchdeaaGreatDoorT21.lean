import Derived.Test.YteldjhhjnchdeaaGreatDoorT18
import Derived.Test.YteldjhhjnchdeaaGreatDoorT04
set_option linter.all false
open Go.Value renaming slice->C,int->F,pointer->L
open Go renaming undef->E,World->I
open Go.IntKind renaming u64->G,i64->N
open Go.Proofs.Tryz renaming prog->M
set_option maxRecDepth 99999
set_option maxHeartbeats 0
namespace Go.Proofs.YteldjhhjnchdeaaGreatDoor
open List renaming replicate->kT
open Proofs.Tryz
open Go.RowKit Go.Shelf
attribute [local go_sem] Oper.semAt_some
section
def Br:=@IntWalk.u64_in
def BS:=@IntWalk.i64_in
variable{c ds xs:kQ}{B R R0 V base d0 d1 f g l len n q r ro s u0:Nat}{v:Value}{w:I}
theorem Q9(h:ds.length=n+2):val Z ds=(ds[n+1]?.getD 0*Z+ds[n]?.getD 0)*Z^n+val Z (ds.take n):=by
 have a:=Jr Z ds (n+1);rw[Ad O,Jr,Cc]at a;rw[a];grind
theorem Zo(h:ds.length=n+3):val Z ds=((ds[n+2]?.getD 0*Z+ds[n+1]?.getD 0)*Z+ds[n]?.getD 0)*Z^n+val Z (ds.take n):=by
 have a:=Jr Z ds (n+2);rw[Ad O,Jr,Jr,Cc,Cc]at a;rw[a];grind
theorem Yu(h:DM Z ds)(n:Nat):val Z (ds.take n)<Z^n:=by
 have:=Yl (h.take n);grind[Ap,Ag,Z]
def Kq{a:I}(h:Below B a w)(n:Nat):Below B a (w.drewN n):=h.trans ⟨J,J,J,Aa _,λ_ _=>rfl⟩
theorem RA(a:u0<Z)(h:XQ q d0<r\/XQ q d0=r/\Yw q d0<=u0):q*d0<=r*Z+u0:=by
 grind[XQ,Yw,Z]
theorem Zp(b:u0<Z)(h:¬(XQ q d0<r))(a:¬(XQ q d0=r/\Yw q d0<=u0)):r*Z+u0<q*d0:=by
 grind[XQ,Yw,Z]
theorem Zq{u2 u1 E:Nat}(b:R=((u2*Z+u1)*Z+u0)*E+R0)(d:V=(d1*Z+d0)*E+f)(i:f<E)(e:Z<=2*d1)(g:d0<Z)(c:R<V*Z)(h:d1<=u2):Gd R V (Z-1):=by
 have a:d0*E+f<Z*E:=by
  have:=Af E (show d0+1<=Z from g);grind
 refine VT (d1:=d1) (E:=Z*E) (lo:=(u2-d1)*(Z*(Z*E))+(u1*Z+u0)*E+R0) (lo2:=d0*E+f) ?_ ?_ a e c Je
 . obtain⟨t,rfl⟩:∃t,u2=d1+t:=⟨u2-d1,O⟩;rw[b,Nat.add_sub_cancel_left];grind
 . rw[d];grind
def Zs{U E:Nat}(a:R=(U*Z+u0)*E+R0)(c:V=(d1*Z+d0)*E+f)(b:R0<E)(d:f<E)(e:Z<=2*d1)(hq:q<Z)(h:q=(U*Z+u0)/(d1*Z+d0)):Gd R V q:=by
 rw[h];have hp:0<d1:=by unfold Z at e;omega
 have g:=Cg Z hp;exact VS a c b d (by rw[<-h];omega) O
def Zt(l l1 l2:Nat)(h1:(l:Int)-1=l1)(h2:(l:Int)-2=l2)(a f H K ca cb u2 u1 u0 d1 d0 R V:Nat)(w:I)(hl:l<=1099511627776)
(ka:w.cell? ⟨a,f+l,none⟩=some (F G (u2:Nat)))(ai:w.cell? ⟨a,f+l1,none⟩=some (F G (u1:Nat)))(ah:w.cell? ⟨a,f+l2,none⟩=some (F G (u0:Nat)))
(kb:w.cell? ⟨H,K+l1,none⟩=some (F G (d1:Nat)))(bc:w.cell? ⟨H,K+l2,none⟩=some (F G (d0:Nat)))(P:a<w.heap.size)
(ae:u1<Z)(y:u0<Z)(W:d1<Z)(j:d0<Z)(X:0<d1)
(S:Hid (d1<=u2->Gd R V (Z-1)))(t:Hid (∀q:Nat,q<Z->q=((u2*Z+u1)*Z+u0)/(d1*Z+d0)->Gd R V q)):
 Calls M 186 #[C (some ⟨a,f,none⟩) (l+1) ca,C (some ⟨H,K,none⟩) l cb] w λe c=>∃g,e=.returned (F G (g:Nat))/\g<Z/\Gd R V g/\Bl w c:=by
 have i1:N.wrap ((l:Int)-1)=(l1:Int):=by rw[h1];exact BS _ O
 have i2:N.wrap ((l:Int)-2)=(l2:Int):=by rw[h2];exact BS _ O
 have j1:(l1:Int)<(l:Int):=O
 have j2:(l2:Int)<(l:Int):=O
 have j3:(l1:Int)<(l:Int)+1:=O
 have j4:(l2:Int)<(l:Int)+1:=O
 have i3:N.wrap (l1:Int)=(l1:Int):=BS _ O;have j5:l1<l:=O
 have aq:l1<l+1:=O
 have ay:l1<=l:=O
 have az:(l1:Int)<=(l:Int):=O
 have j7:(l:Int)<(l:Int)+1:=O
 have j8:(0:Int)<=(l:Int):=O
 have j9:(0:Int)<=(l1:Int):=O
 have ap:(0:Int)<=(l2:Int):=O
 have j6:l2<l:=O
 go_enter func186,ntmps186
 go_upto_region 2 with fail
 go_quiet (fail)
 by_cases ad:d1<=u2
 . go_wp2_with fail
   go_ret;exact⟨Z-1,J,by unfold Z;omega,S.o ad,Kq (BB _ w) _⟩
 . have v:=VO (B:=Z) (u:=u2*Z+u1) (u1:=u0) (d1:=d1) (d0:=d0) X W y (by
    have:=Af Z (show u2+1<=d1 by omega);rw[AR,Fg]at this;omega)
   have T:=Y λV=>QK u2 u1 d1 O ae W V;have Qf:=v.2.2.1;have Qe:=v.2.2.2;have d:=Y v;clear v S;generalize hX:(u2*Z+u1)/d1=q0 at *;generalize hY:(u2*Z+u1)%d1=r0 at *;generalize hZ:u2*Z+u1=U at *;clear hX hY hZ;go_wp2_with fail
   have hq:Bl w (w.drewN (nq+1)):=Kq (BB _ w) _;go_region_held3 (λc=>c.cell? ⟨a,f+l,none⟩=some (F G (u2:Nat))/\c.cell? ⟨a,f+l1,none⟩=some (F G (u1:Nat))) (refine⟨?_,?_⟩<;>(first|(go_keep;done)|(simp[*];done)))
    (first|(go_at_call 175;refine(T.o _).mono ?_;rintro e w1 ⟨rfl,x⟩;have bh:=(x.cell (p:=⟨a,f+l,none⟩) (show a<w.heap.size from P)).trans ka;have bg:=(x.cell (p:=⟨a,f+l1,none⟩) (show a<w.heap.size from P)).trans ai;have bf:=(x.cell (p:=⟨a,f+l2,none⟩) (show a<w.heap.size from P)).trans ah))
   have hq:Bl w w1:=Bt hq x;go_wp2_with fail
   go_loopw [8,9] (λQ rv wr=>∃(q r:Nat),Q=F G (q:Nat)/\rv=F G (r:Nat)/\q<Z/\r<Z/\Hid (Lf Z U u0 d1 d0 q r)/\wr=w1)
    (λQ _ _=>(intOf Q).toNat)
   case atStart=>exact⟨q0,r0,J,J,Qf,Qe,d,J⟩
   case round=>
    clear T d;obtain⟨q,r,rfl,rfl,b,an,d,rfl⟩:=hrel;have i:0<d1*Z:=DI X uo;by_cases c1:XQ q d0<r
    . have m:=Y (t.o q b (NJ d.o.1 d.o.2.1 i (RA y (Am c1))));clear i;go_wp2_with(first
       |(go_at_call 183;refine(Hw _ _ b j _).mono ?_;rintro e c ⟨rfl,rfl⟩))
      go_ret;exact⟨q,J,b,m.o,hq⟩
    . by_cases c2:XQ q d0=r/\Yw q d0<=u0
      . have m:=Y (t.o q b (NJ d.o.1 d.o.2.1 i (RA y (Ax c2))));obtain⟨c2,c3⟩:=c2;subst c2;clear i;go_wp2_with(first
         |(go_at_call 183;refine(Hw _ _ b j _).mono ?_;rintro e c ⟨rfl,rfl⟩))
        go_ret;exact⟨q,J,b,m.o,hq⟩
      . obtain⟨g1,g2,n,g4⟩:=VQ d.o i (Zp y c1 c2);obtain⟨p,hp⟩:=ex (q-1:Nat);rw[hp]at g2 n g4;have aj:(q:Int)-1=(p:Int):=O
        have ak:p<q:=O
        have am:G.wrap (p:Int)=(p:Int):=by rw[BT];unfold Z at b;omega
        clear hp g1 d;have D:=Lu r d1;have z:=Y (t.o p);clear t;by_cases k:r+d1<Z
        . have v1:YF r d1 0=r+d1:=by unfold YF;rw[Cb,Ci k]
          have o:Y9 r d1 0=0:=by unfold Y9;rw[Cb,A3 k]
          rw[v1,o]at D;have A:=Y (show Lf Z U u0 d1 d0 p (r+d1)from⟨g2,n,g4,k⟩);clear g2 n v1 o i z;obtain⟨s,hs⟩:=ex (r+d1);rw[hs]at D A k;clear hs;by_cases c3:XQ q d0=r
          . have c4:¬(Yw q d0<=u0):=λh=>c2 ⟨c3,h⟩;clear c2;go_wp2_with(first
             |(go_at_call 183;refine(Hw _ _ b j _).mono ?_;rintro e c ⟨rfl,rfl⟩))
            exact⟨⟨p,s,J,J,g4,k,A,by first|trivial|rfl⟩,by simp[intOf];omega⟩
          . clear c2;go_wp2_with(first
             |(go_at_call 183;refine(Hw _ _ b j _).mono ?_;rintro e c ⟨rfl,rfl⟩))
            exact⟨⟨p,s,J,J,g4,k,A,by first|trivial|rfl⟩,by simp[intOf];omega⟩
        . have m:=Y (z.o g4 (VR g2 n g4 j i O));have o:Y9 r d1 0=1:=by unfold Y9;unfold Z at *;omega
          rw[o]at D;generalize YF r d1 0=s at *;clear g2 n o i z k;by_cases c3:XQ q d0=r
          . have c4:¬(Yw q d0<=u0):=λh=>c2 ⟨c3,h⟩;clear c2;go_wp2_with(first
             |(go_at_call 183;refine(Hw _ _ b j _).mono ?_;rintro e c ⟨rfl,rfl⟩))
            go_ret;exact⟨p,J,g4,m.o,hq⟩
          . clear c2;go_wp2_with(first
             |(go_at_call 183;refine(Hw _ _ b j _).mono ?_;rintro e c ⟨rfl,rfl⟩))
            go_ret;exact⟨p,J,g4,m.o,hq⟩
def Zu(a b:kR)(n ca cb:Nat)(i bs:kQ)(w:I)(H:Row G w (C a (n+3) ca) i)(K:Row G w (C b (n+2) cb) bs)(l:DM Z i)(f:DM Z bs)
(j:Z<=2*bs[n+1]?.getD 0)(v:val Z i<val Z bs*Z):
 Calls M 186 #[C a (n+3) ca,C b (n+2) cb] w λe P=>∃g,e=.returned (F G (g:Nat))/\g<Z/\Gd (val Z i) (val Z bs) g/\Bl w P:=by
 obtain⟨y,R,V,T,k⟩:=Js H;obtain⟨z,S,W,U,p⟩:=Js K;obtain⟨r,s,rfl,x,ka⟩:=k (n+2) O;obtain⟨_,_,c,_,B⟩:=k (n+1) O;cases c;obtain⟨_,_,c,_,A⟩:=k n O;cases c;obtain⟨t,u,rfl,Q,kb⟩:=p (n+1) O;obtain⟨_,_,c,_,D⟩:=p n O;cases c;have d:0<Z:=by unfold Z;omega
 have m:=Zo y.symm;have o:=Q9 z.symm;exact Zt (n+2) (n+1) n O O r s t u ca cb _ _ _ _ _ _ _ w O ka B A kb D x (l.getD d _) (l.getD d _) (f.getD d _) (f.getD d _) (by unfold Z at j;omega)
  (λh=>Zq m o (Yu f n) j (f.getD d _) v h) λq hq h=>Zs m o (Yu l n) (Yu f n) j hq h
def DP.win{W:I}{b:Nat}(h:DP W b xs)(a len cap:Nat)(c:a+len<=xs.length)(d:len<=cap)(e:cap<=9223372036854775807)(f:len<=1099511627776):Row G W (C (some ⟨b,a,none⟩) len cap) ((xs.drop a).take len):=
 h.row a len cap c d e f
def Zv{q:kQ}(hq:q.length=len)(h:ro+len<=xs.length):((DY xs ro len q).drop ro).take len=q:=by
 rw[DY,List.drop_append_of_le_length (by rw[Ah];omega),AN (by rw[Ah];omega),Aj,Cl O,Ad O]
def Zw{p q:kQ}(hp:p.length=len)(h:ro+len<=xs.length):DY (DY xs ro len p) ro len q=DY xs ro len q:=by
 have a:(xs.take ro).length=ro:=by rw[Ah];omega
 rw[DY,DY,DY,Cl O,Ad O,List.drop_append,a,show ro+len-ro=len from by omega,AN O,Aj,List.drop_append,hp,A7,AN O,Aj,AQ]
def Zx{q:kQ}(a:DM Z xs)(hq:DM Z q):DM Z (DY xs ro len q):=by
 intro x b;rw[DY]at b;rcases CA.1 b with h|h
 . exact(a.take ro) x h
 . rcases CA.1 h with h|h
   . exact hq x h
   . exact(a.drop _) x h
def Zy(d ro n cap:Nat)(xs:kQ)(a:kR)(cb:Nat)(bs:kQ)(w:I)
(t:DP w d xs)(y:DM Z xs)(ah:ro+(n+3)<=xs.length)(x:n+3<=cap)(ai:cap<=9223372036854775807)(hn:n+3<=1099511627776)(k:Row G w (C a (n+2) cb) bs)(l:DM Z bs)(X:∀p,a=some p->0<n+2->p.block≠d)
(W:Z<=2*bs[n+1]?.getD 0)(V:val Z ((xs.drop ro).take (n+3))<val Z bs*Z):
 Calls M 169 #[C (some ⟨d,ro,none⟩) (n+3) cap,C a (n+2) cb] w λe w'=>
  ∃q,e=.returned (F G ((val Z ((xs.drop ro).take (n+3))/val Z bs:Nat):Int))/\(q.length=n+3/\DM Z q/\val Z q=val Z ((xs.drop ro).take (n+3))%val Z bs)/\DP w' d (DY xs ro (n+3) q)/\w.grownBy w' (some d):=by
 have Q:=t.win ro (n+3) cap ah x ai hn;have A:=Y (Zu _ a n cap cb _ bs w Q k ((y.drop ro).take _) l W V);have r:=(Js k).1;have D:val Z bs<Z^(n+2):=by have:=Yl l;rwa[<-r]at this
 have H:val Z bs<Z^(n+3):=Ap D (Ag uo O);obtain⟨ak,z,s,B,S,HA,i,Qk⟩:=Gw H k X y l t ah r;clear Q W V r D H k X y l t;go_enter func169,ntmps169
 go_upto_region 2 with(go_at_call 186;refine A.o.mono ?_;rintro e w1 ⟨g,rfl,hg,U,j⟩;have o:=Y U;clear U A)
 have R:=Y (ZO d ro (n+2) cap xs a cb bs g w1 (HA.o.below j) B.o i.o x (Row.below z.o j) S.o s.o hg);go_upto_if 13 with(go_at_call 187;refine R.o.mono ?_;rintro e w2 ⟨c,q,rfl,⟨hc,ae⟩,hA2,u⟩;have b:=Y ae;clear ae R)
 obtain rfl|rfl:c=0\/c=1:=O
 . have m:=Y (VU o.o (by have:=b.o.2.2;rw[Cr,Cb]at this;exact this));have HE:=Y m.o.1;have HM:=Y m.o.2;clear m o;go_wp2_with fail
   go_ret;exact⟨q,by rw[<-HE.o];rfl,⟨b.o.1,b.o.2.1,HM.o⟩,hA2,Jg (J4 j _) u⟩
 . have K:=Y (Nr d ro (n+3) cap (DY xs ro (n+3) q) a (n+2) cb bs w2 hA2 (Zx B.o b.o.2.1) (by rw[J5 b.o.1 i.o];exact i.o) x O O (Row.grown (Row.below z.o j) u s.o) S.o s.o);have Ql:1<=g:=by
    rcases AW g with h|h
    . exfalso
      have h1:=b.o.2.2;have h2:=Yl b.o.2.1;rw[b.o.1]at h2;rw[h,Cr,Nat.mul_one]at h1;omega
    . exact h
   obtain⟨p,hp⟩:=ex (g-1:Nat);have am:(g:Int)-1=(p:Int):=O
   have an:G.wrap (p:Int)=(p:Int):=by rw[BT];unfold Z at hg;omega
   have HP:=Y hp;clear hp Ql;go_wp2_with(go_at_call 164;refine K.o.mono ?_;rintro e w3 ⟨c3,q3,rfl,ad,hA3,aj⟩;have f:=Y ad;clear ad K)
   go_ret;have v:=VV o.o (P:=Z^(n+3)) (by have:=b.o.2.2;rw[Nat.mul_one]at this;exact this) (by have:=Yl b.o.2.1;rw[b.o.1]at this;exact this) (q2:=val Z q3) (c2:=c3)
    (by
     have T:=f.o.2.2.2;rw[Zv b.o.1 i.o,Ad (show bs.length<=n+3 by rw[<-Qk.o];omega)]at T;exact T)
    (by have:=Yl f.o.2.1;rw[f.o.1]at this;exact this) f.o.2.2.1
   rw[HP.o]at v;rw[Zw b.o.1 i.o]at hA3;exact⟨q3,by rw[<-v.2.1];rfl,⟨f.o.1,f.o.2.1,v.2.2⟩,hA3,Jg (Jg (J4 j _) u) aj⟩
def RB{bs:kQ}{d L:Nat}(i:DM Z bs)(hl:bs.length=l+2)(f:bs[l+1]?.getD 0=d)(c:2^(L-1)<=d)(e:d<2^L)(k:1<=L)(j:L<=64)(hs:s=64-L):
 val Z bs*2^s<Z^(l+2)/\2^63*Z^(l+1)<=val Z bs*2^s:=by
 have n:val Z bs=val Z (bs.take (l+1))+Z^(l+1)*d:=by
  have h:=Jr Z bs (l+1);rwa[Ad O,f]at h
 have m:=Yu i (l+1);have p1:2^L*2^s=Z:=by rw[<-CK,Ib];congr 1;omega
 have g:2^(L-1)*2^s=2^63:=by rw[<-CK];congr 1;omega
 constructor
 . have b:val Z bs+1<=Z^(l+1)*2^L:=by
    have:=Ai (Z^(l+1)) (show d+1<=2^L from e);rw[Fc,Nat.mul_one]at this;omega
   have a:=Af (2^s) b;rw[Ch,p1,<-Cc,AR,Fg]at a;exact Ap (Nat.lt_add_of_pos_right (Ca s)) a
 . have b:Z^(l+1)*2^(L-1)<=val Z bs:=by
    have:=Ai (Z^(l+1)) c;omega
   have a:=Af (2^s) b;rw[Ch,g,AB]at a;exact a
def Zz(i:DM Z c)(hl:c.length=l+3)(b:val Z c=V)(d:V<Z^(l+2))(j:2^63*Z^(l+1)<=V):
 val Z (c.take (l+2))=V/\Z<=2*(c.take (l+2))[l+1]?.getD 0:=by
 have g:=N3 (B:=Z) (k:=l+2) (D:=c) O (by rw[b];exact d);have a:val Z (c.take (l+2))=V:=by
  have h:=val_append Z (c.take (l+2)) (c.drop (l+2));rw[A8,g,Cr,Cb,b]at h;exact h.symm
 refine⟨a,?_⟩;rw[Cp O];have e:=Jr Z c (l+1);have m:=Yu i (l+1);rw[show l+1+1=l+2 from J,a]at e;rcases AP (c[l+1]?.getD 0) (2^63)with h|h
 . exfalso
   have f:=Ai (Z^(l+1)) (show c[l+1]?.getD 0+1<=2^63 from h);rw[Fc,Nat.mul_one,AB _ (2^63)]at f;omega
 . rw[Ib];omega
def Z0{m la:Nat}(c:m<Z^la)(d:Z^(l+1)<=n)(hl:l+1<=la):m*2^s<n*2^s*Z^(la-(l+1)):=by
 have b:Z^(l+1)*Z^(la-(l+1))=Z^la:=by rw[<-CK];congr 1;omega
 have a:=Af (Z^(la-(l+1))) d;rw[b]at a;rw[Nat.mul_right_comm];exact Nat.mul_lt_mul_of_pos_right (Ap c a) (Ca s)
def JV{P:Program}{ops:Array Oper}{Q:Exit->Act->I->Prop}{i:Nat}{o:Oper}{K:Act->I->Prop}{a:Act}(c:ops[i]?=some o)(b:o.guard=none)
(h:∀K':Act->I->Prop,(∀a w,K a w->K' a w)->o.wp P a w K' Q):wpOp P ops Q i K a w:=by
 unfold wpOp;rw[c];simp only[Region.wanted,b,if_true];exact Am (h K λ_ _ h=>h)
def EM{p q:Prop}(k:q)(h:Hid q->p:=by intro x;refine JV rfl rfl λK a=>?_;go_simp;refine a _ _ ?_;(repeat apply Exists.intro);refine ⟨rfl,?_⟩;exact x.o):p:=h k
def GM(V:I)(base:Nat)(v:Value)(g len b:Nat)(a:kQ):Prop:=
 v=C (some ⟨g,0,none⟩) len len/\DP V g a/\a.length=len/\DM Z a/\val Z a=b/\base<=g
def GM.below{V V':I}{base g len b:Nat}{v:Value}{a:kQ}(h:GM V base v g len b a)(c:Bl V V'):GM V' base v g len b a:=
 ⟨h.1,h.2.1.below c,h.2.2⟩
def GM.box{V:I}{u:Value}(h:GM V base v g len f c)(hl:0<len)(d:Boxed V B 61 (C none 0 0)):GM (V.setCell ⟨B,0,none⟩ u) base v g len f c:=
 ⟨h.1,h.2.1.far (by
  intro e;simp only at e;obtain⟨i,b⟩:=h.2.1;rw[e,show V.heap[B]?=_ from d]at b;obtain⟨z,a,rfl⟩:∃z a,c=z::a:=by
   cases c with
    |nil=>have:=h.2.2.1;simp at this;omega
    |cons z a=>exact⟨z,a,J⟩
  simp[cellsOf]at b) u,h.2.2⟩
def GM.ne_box{V:I}{b:kR}{k i:Nat}(h:GM V base v g len f c)(hl:0<len)(j:Boxed V B 61 (C b k i)):g≠B:=by
 intro e;obtain⟨l,d⟩:=h.2.1;rw[e,show V.heap[B]?=_ from j]at d;obtain⟨z,a,rfl⟩:∃z a,c=z::a:=by
  cases c with
  |nil=>have:=h.2.2.1;simp at this;omega
  |cons z a=>exact⟨z,a,J⟩
 simp[cellsOf]at d
end
section
structure SplC where
 w:World
 bs:Value
 rs:Value
 ds:Value
 qs:Value
 B9:Nat
 B10:Nat
 B11:Nat
 B12:Nat
 gR:Nat
 gZ:Nat
 gQ:Nat
 Zb:kQ
structure SplC.Apart(c:SplC):Prop where
 r0:c.gR≠c.w.heap.size
 r9:c.gR≠c.B9
 r10:c.gR≠c.B10
 r11:c.gR≠c.B11
 r12:c.gR≠c.B12
 rz:c.gR≠c.gZ
 rq:c.gR≠c.gQ
 q0:c.gQ≠c.w.heap.size
 q9:c.gQ≠c.B9
 q10:c.gQ≠c.B10
 q11:c.gQ≠c.B11
 q12:c.gQ≠c.B12
 qz:c.gQ≠c.gZ
 lr:c.w.heap.size<=c.gR
 lq:c.w.heap.size<=c.gQ
structure SplC.Holds(c:SplC)(W:World):Prop where
 b0:Boxed W c.w.heap.size 61 c.bs
 b9:Boxed W c.B9 61 c.rs
 b10:Boxed W c.B10 61 c.ds
 b11:Boxed W c.B11 61 c.qs
 b12:Boxed W c.B12 61 c.qs
 z:DP W c.gZ c.Zb
 B:Below c.w.heap.size c.w W
theorem SplC.Holds.kept{c:SplC}{W W':I}{g:Nat}(h:c.Holds W)(hg:W.grownBy W' (some g))(a:g≠c.w.heap.size)(i:g≠c.B9)(b:g≠c.B10)(d:g≠c.B11)(f:g≠c.B12)(j:g≠c.gZ)(hl:c.w.heap.size<=g):c.Holds W':=
 ⟨h.b0.kept hg (λe=>by grind),h.b9.kept hg (λe=>by grind),h.b10.kept hg (λe=>by grind),h.b11.kept hg (λe=>by grind),
  h.b12.kept hg (λe=>by grind),h.z.kept hg (λe=>by grind),below_grown h.B hg hl⟩
def SplC.Holds.drew{c:SplC}{W:I}(h:c.Holds W):c.Holds W.drew:=
 ⟨h.b0,h.b9,h.b10,h.b11,h.b12,h.z,h.B.drew⟩
variable{f:Bool}{D D' Q Q':kQ}{B:Nat}{W W' W0:I}
def SplC.own(c:SplC)(b:c.w.heap.size<=B):OwnFrom B (λ(_:Nat) W=>c.Holds W):=λk W W' row hs hg a=>
 ⟨XM hs.b0 hg a,XM hs.b9 hg a,XM hs.b10 hg a,XM hs.b11 hg a,XM hs.b12 hg a,Kp hs.z hg a,QW b k W W' row hs.B hg a⟩
def RC(c:SplC)(R0 V n K:Nat)(k:Nat)(W:I):Prop:=
 c.Holds W/\∃D Q,DP W c.gR D/\DP W c.gQ Q/\F7 R0 V n K (K-k) D Q
def Z1(c:SplC)(R0 V n K:Nat)(f:c.w.heap.size<=B):OwnFrom B (RC c R0 V n K):=
 BN (c.own f) (λ_ _ _ _ hs hg a=>by obtain⟨D,Q,b,d,e⟩:=hs;exact⟨D,Q,Kp b hg a,Kp d hg a,e⟩)
structure SplM(c:SplC)(W0:World)(D D' Q Q':kQ)(e f:Bool)(W:World):Prop where
 k:KeepsOthers W0 W
 h:c.Holds W
 r:DP W c.gR (bif e then D' else D)
 q:DP W c.gQ (bif f then Q' else Q)
def SplM.drew{c:SplC}{W0 W:I}{D D' Q Q':kQ}{e f:Bool}(h:SplM c W0 D D' Q Q' e f W):SplM c W0 D D' Q Q' e f W.drew:=
 ⟨h.k.trans (KeepsOthers.drew W),h.h.drew,h.r,h.q⟩
def Z2{g:Nat}{xs:kQ}(b:DP W g xs)(hg:W.grownBy W' (some g)):KeepsOthers W W':=
 KeepsOthers.of_grownBy hg λj o a c=>by cases a;exact b.other c
def SplM.any{c:SplC}(h:SplM c W0 D D' Q Q' false f W)(a:kQ):SplM c W0 D a Q Q' false f W:=⟨h.k,h.h,h.r,h.q⟩
def SplM.split{c:SplC}(h:SplM c W0 D D' Q Q' false f W)(a:c.Apart)(hg:W.grownBy W' (some c.gR))(b:DP W' c.gR D'):SplM c W0 D D' Q Q' true f W':=
 ⟨h.k.trans (Z2 h.r hg),h.h.kept hg a.r0 a.r9 a.r10 a.r11 a.r12 a.rz a.lr,b,h.q.kept hg λe=>by injection e with e;exact a.rq e.symm⟩
theorem SplM.store{c:SplC}{e:Bool}(h:SplM c W0 D D' Q Q' e false W)(a:c.Apart){j v:Nat}(d:Q.set j v=Q'):SplM c W0 D D' Q Q' e true (W.setCell ⟨c.gQ,j,none⟩ (F G (v:Nat))):=
 have b:=JE W c.gQ j (F G (v:Nat))
 ⟨h.k.trans (BM _ _ _),h.h.kept b a.q0 a.q9 a.q10 a.q11 a.q12 a.qz a.lq,h.r.kept b (λe=>by injection e with e;exact a.rq e),by have:=h.q.set j v;grind⟩
def Z3(a:kR)(la ca:Nat)(r t l lb l1 cb m n d s:Nat)(w:I)(fu:lb=l+2)(h2:(lb:Int)-1=l1)(gg:r<w.heap.size)
(ra:Row G w (C a la ca) (Jc Z m))(rb:Row G w (C (some ⟨r,t,none⟩) lb cb) (Jc Z n))
(kb:w.cell? ⟨r,t+l1,none⟩=some (F G (d:Nat)))(gh:d<Z)(hs:s<=63)(HS:Hid ((64:Int)-(Lib.bitLen d:Int)=(s:Int)))(gy:lb<=la)(gi:la<1099511627776)
(fk:Hid (n*2^s<Z^(l+2)))(fm:Hid (2^63*Z^(l+1)<=n*2^s))(gb:Hid (m*2^s<n*2^s*Z^(la-(l+1)))):
 Calls M 146 #[C a la ca,C (some ⟨r,t,none⟩) lb cb] w λe w'=>∃u v,e=.returned (.tuple #[u,v])/\UN w' u (m/n)/\UN w' v (m%n)/\Bl w w':=by
 have Qc:=Y fu;have i1:N.wrap ((lb:Int)-1)=(l1:Int):=by rw[h2];exact BS _ O
 have i3:N.wrap (l1:Int)=(l1:Int):=BS _ O;have j1:(l1:Int)<(lb:Int):=O
 have j9:(0:Int)<=(l1:Int):=O
 have j2:l1<lb:=O
 have gz:¬(lb=1):=O
 have Qg:Bl w (w.alloc (.cells #[C (some ⟨r,t,none⟩) lb cb] 61)):=Ba w _;have Qf:=BK w 61 (C (some ⟨r,t,none⟩) lb cb);obtain⟨W0,cn⟩:=ex (w.alloc (.cells #[C (some ⟨r,t,none⟩) lb cb] 61));have Qs:W0.heap.size=w.heap.size+1:=by rw[<-cn];simp
 rw[cn]at Qg Qf;have Uq:=Qf.cell;have Uz:=(Qg.cell (p:=⟨r,t+l1,none⟩) gg).trans kb;have Qr:=Y λ(V:I) (h:Bl W0 V)=>QV a la ca (Jc Z m) s V hs (Row.below (Row.below ra Qg) h) (Jo Je m) gi;have Qp:=Y λ(V:I) (h:Bl W0 V)=>QV (some ⟨r,t,none⟩) lb cb (Jc Z n) s V hs (Row.below (Row.below rb Qg) h) (Jo Je n) O;rw[Jp Je]at Qr Qp;have Ub:=Y cn;have Ua:=Y (show ∀V:I,Calls M 166 #[F G (d:Nat)] V λe w'=>e=.returned (F N (s:Nat))/\w'=V from λV=>by
  have h:=Tryz.bits_LeadingZeros64 (d:Nat) V O (by unfold Z at gh;omega);rw[Cv,HS.o]at h;exact h)
 have ig:G.wrap (s:Int)=(s:Int):=Br _ O;have Ur:=Y Qs;have gj:=Y h2;clear cn fu ra rb kb HS;refine(BJ (n:=3)).1 ?_;refine BU func146 J trivial ?_ J;simp only[ntmps146,An,Ak,AK,Nat.reduceAdd,Nat.reduceSub,Ay,Az,AJ,AA,Aj,Au];refine wpIn_wide.2 ?_;go_upto_region 1 with fail
 rw[Ub.o];clear Ub Qs;go_upto_region 8 with(go_at_call 166;refine(Ua.o _).mono ?_;rintro e w' ⟨rfl,e1⟩;have e2:=e1.symm;subst e2;clear e1)
 refine JY Di [[],[],[0,1],[],[],[3,4,2],[],[6],[5,7],[],[],[9,2,5,0,1,2,9,10],[10,8,11,0,1,2,3,4,5,6,7,8,9,10,11]] kS DN
  (λD ac V=>∃t9 aq ay az bc bf bg ce bh bi cj:Value,ac={ tmps:=#[C a la ca,C (some ⟨r,t,none⟩) lb cb,E,L (some ⟨w.heap.size,0,none⟩),C none 0 0,C none 0 0,E,E,F G (s:Nat),t9,aq,E,E,C a la ca,F N (la:Nat),C (some ⟨r,t,none⟩) lb cb,F N (lb:Nat),.bool false,E,E,C (some ⟨r,t,none⟩) lb cb,F N (lb:Nat),.bool false,E,E,E,E,E,E,E,E,E,E,E,E,C (some ⟨r,t,none⟩) lb cb,C (some ⟨r,t,none⟩) lb cb,F N (lb:Nat),F N (l1:Nat),L (some ⟨r,t+l1,none⟩),F G (d:Nat),F N (s:Nat),F G (s:Nat),ay,az,bc,bf,bg,ce,bh,bi,cj,E,E,E,E,E,E,E,E,E,E,E,E,E,E,E,E,E,E,E,E,E,E,E,E,E,E,E,E],defers:=[] }/\Hid (D 0=true->ay=C a la ca)/\Hid (D 1=true->az=F G (s:Nat))/\Hid (D 2=true->∃g bj,GM V W0.heap.size bc g (la+1) (m*2^s) bj)/\Hid (D 3=true->bf=C (some ⟨r,t,none⟩) lb cb)/\Hid (D 4=true->bg=F G (s:Nat))/\Hid (D 5=true->∃gR Zr gZ Zb,GM V W0.heap.size bc gR (la+1) (m*2^s) Zr/\GM V W0.heap.size ce gZ (lb+1) (n*2^s) Zb/\gR≠gZ)/\Hid (D 6=true->bh=C (some ⟨r,t,none⟩) lb cb)/\Hid (D 7=true->bi=F N (lb:Nat))/\Hid (D 8=true->∃gZ,ce=C (some ⟨gZ,0,none⟩) (lb+1) (lb+1)/\cj=C (some ⟨gZ,0,none⟩) lb (lb+1))/\Hid (D 9=true->D 11=false->∃B,t9=L (some ⟨B,0,none⟩)/\Boxed V B 61 (C none 0 0)/\W0.heap.size<=B)/\Hid (D 10=true->D 12=false->∃B,aq=L (some ⟨B,0,none⟩)/\Boxed V B 61 (C none 0 0)/\W0.heap.size<=B)/\Hid (D 9=true->D 10=true->t9≠aq)/\Hid (D 11=true->∃B,t9=L (some ⟨B,0,none⟩)/\Boxed V B 61 bc/\W0.heap.size<=B)/\Hid (D 12=true->∃B,aq=L (some ⟨B,0,none⟩)/\Boxed V B 61 cj/\W0.heap.size<=B)/\Bl W0 V)
  (E8 ⟨_,_,_,J,Y Dk,Y Dk,Y Dk,Y Dk,Y Dk,Y Dk,Y Dk,Y Dk,Y Dk,Y Dk,Y Dk,Y Dk,Y Dk,Y Dk,(BB _ W0).drew⟩) ?step8 ?fin8
 case step8=>
  rintro D a2 V i ds ae fe b ah ⟨t9,aq,ay,az,bc,bf,bg,ce,bh,bi,cj,rfl,A,g1,g2,P,g4,o,R,S,T,z,x,gx,X,ad,hq⟩;have Qx:i<13:=(Ar.1 fe).1;obtain rfl|rfl|rfl|rfl|rfl|rfl|rfl|rfl|rfl|rfl|rfl|rfl|rfl:=Mq i O
  all_goals
   simp only[AH,AD,AO]at fe;subst fe;clear Qx
  . clear b ae;refine EM ?_;exact⟨Y λ_=>rfl,g1,g2,P,g4,o,R,S,T,z,x,gx,X,ad,hq⟩
  . clear b ae;refine EM ?_;exact⟨A,Y λ_=>rfl,g2,P,g4,o,R,S,T,z,x,gx,X,ad,hq⟩
  . have Ut:D 5=false:=DQ ae ah;have Qb:D 11=false:=DQ ae ah;have Qa:D 12=false:=DQ ae ah;obtain rfl:=A.o (b 0 DK);obtain rfl:=g1.o (b 1 DK);clear b ae;refine JV J J λK hK=>?_;go_simp;go_wp2_with(go_at_call 168;refine(Qr.o _ hq).mono ?_;rintro e w5 ⟨o,Z5,rfl,⟨f7,f8,f9⟩,hA5,bt,am⟩)
    exact E8 ⟨_,_,_,J,Y λ_=>rfl,Y λ_=>rfl,Y λ_=>⟨o,Z5,J,hA5,f7,f8,f9,Al hq.size bt⟩,P,g4,Y (λh=>by simp[Ut]at h),R,S,T,Y (λh h2=>by obtain⟨B,e,q,q2⟩:=z.o h h2;exact⟨B,e,boxed_below q am,q2⟩),Y (λh h2=>by obtain⟨B,e,q,q2⟩:=x.o h h2;exact⟨B,e,boxed_below q am,q2⟩),gx,Y (λh=>by simp[Qb]at h),Y (λh=>by simp[Qa]at h),Bt hq am⟩
  . have k0:=(boxed_below Qf hq).cell;clear b ae;refine EM ?_;exact⟨A,g1,g2,Y λ_=>rfl,g4,o,R,S,T,z,x,gx,X,ad,hq⟩
  . clear b ae;refine EM ?_;exact⟨A,g1,g2,P,Y λ_=>rfl,o,R,S,T,z,x,gx,X,ad,hq⟩
  . have Uo:D 8=false:=DQ ae ah;have Qb:D 11=false:=DQ ae ah;have Qa:D 12=false:=DQ ae ah;obtain rfl:=P.o (b 3 DK);obtain rfl:=g4.o (b 4 DK);obtain⟨gR,Zr,hR⟩:=g2.o (b 2 DK);have gu:=hR.2.1.lt;clear b ae;refine JV J J λK hK=>?_;go_simp;go_wp2_with(go_at_call 168;refine(Qp.o _ hq).mono ?_;rintro e w5 ⟨o,Z5,rfl,⟨f7,f8,f9⟩,hA5,bt,am⟩)
    exact⟨_,_,_,_,_,_,_,_,_,_,_,J,A,g1,Y λ_=>⟨gR,Zr,hR.below am⟩,Y λ_=>rfl,Y λ_=>rfl,Y λ_=>⟨gR,Zr,o,Z5,hR.below am,⟨J,hA5,f7,f8,f9,Al hq.size bt⟩,O⟩,R,S,Y (λh=>by simp[Uo]at h),Y (λh h2=>by obtain⟨B,e,q,q2⟩:=z.o h h2;exact⟨B,e,boxed_below q am,q2⟩),Y (λh h2=>by obtain⟨B,e,q,q2⟩:=x.o h h2;exact⟨B,e,boxed_below q am,q2⟩),gx,Y (λh=>by simp[Qb]at h),Y (λh=>by simp[Qa]at h),Bt hq am⟩
  . have k0:=(boxed_below Qf hq).cell;clear b ae;refine EM ?_;exact⟨A,g1,g2,P,g4,o,Y λ_=>rfl,S,T,z,x,gx,X,ad,hq⟩
  . obtain rfl:=R.o (b 6 DK);clear b ae;refine EM ?_;exact⟨A,g1,g2,P,g4,o,Y λ_=>rfl,Y λ_=>rfl,T,z,x,gx,X,ad,hq⟩
  . have Qa:D 12=false:=DQ ae ah;obtain⟨gR,Zr,gZ,Zb,hR,hZ,ap⟩:=o.o (b 5 DK);obtain rfl:=hZ.1;obtain rfl:=S.o (b 7 DK);have b1:(0:Int)<=(lb:Int):=O
    have b2:(lb:Int)<=(lb:Int)+1:=O
    have b3:lb<=lb+1:=O
    have b4:¬((lb:Int)+1<(lb:Int)):=O
    clear b ae;refine EM ?_;exact⟨A,g1,g2,P,g4,Y λ_=>⟨gR,Zr,gZ,Zb,hR,hZ,ap⟩,R,Y λ_=>rfl,Y λ_=>⟨gZ,J,J⟩,z,x,gx,X,Y (λh=>by simp[Qa]at h),hq⟩
  . have Qb:D 11=false:=DQ ae ah;have Qa:D 12=false:=DQ ae ah;clear b ae;refine EM ?_;exact⟨A,g1,Y (λh=>by obtain⟨g,bj,q⟩:=g2.o h;exact⟨g,bj,q.below (Ba V _)⟩),P,g4,Y (λh=>by obtain⟨gR,Zr,gZ,Zb,q1,q2,q3⟩:=o.o h;exact⟨gR,Zr,gZ,Zb,q1.below (Ba V _),q2.below (Ba V _),q3⟩),R,S,T,Y λ_ _=>⟨_,J,BK _ _ _,hq.size⟩,Y (λh h2=>by obtain⟨B,e,q,q2⟩:=x.o h h2;exact⟨B,e,q.alloc _,q2⟩),Y (λ_ h e=>by obtain⟨B,e2,q,q2⟩:=x.o (by simpa using h) Qa;have:=q.lt;rw[e2]at e;cases e;omega),Y (λh=>by simp[Qb]at h),Y (λh=>by simp[Qa]at h),hq.alloc hq.size _⟩
  . have Qb:D 11=false:=DQ ae ah;have Qa:D 12=false:=DQ ae ah;clear b ae;refine EM ?_;exact⟨A,g1,Y (λh=>by obtain⟨g,bj,q⟩:=g2.o h;exact⟨g,bj,q.below (Ba V _)⟩),P,g4,Y (λh=>by obtain⟨gR,Zr,gZ,Zb,q1,q2,q3⟩:=o.o h;exact⟨gR,Zr,gZ,Zb,q1.below (Ba V _),q2.below (Ba V _),q3⟩),R,S,T,Y (λh h2=>by obtain⟨B,e,q,q2⟩:=z.o h h2;exact⟨B,e,q.alloc _,q2⟩),Y λ_ _=>⟨_,J,BK _ _ _,hq.size⟩,Y (λh _ e=>by obtain⟨B,e2,q,q2⟩:=z.o (by simpa using h) Qb;have:=q.lt;rw[e2]at e;cases e;omega),Y (λh=>by simp[Qb]at h),Y (λh=>by simp[Qa]at h),hq.alloc hq.size _⟩
  . have Qa:D 12=false:=DQ ae ah;obtain⟨B,rfl,aj,bu⟩:=z.o (b 9 DK) ah;obtain⟨gR,Zr,gZ,Zb,hR,hZ,ap⟩:=o.o (b 5 DK);have k0:=aj.cell;have f0:=aj.frozen;obtain⟨B2,bk,fd,fj⟩:=x.o (b 10 DK) Qa;have Qt:B≠B2:=λe=>gx.o (b 9 DK) (b 10 DK) (by rw[bk,e]);obtain rfl:=bk;obtain rfl:=hR.1;clear z X;clear b ae;refine EM ?_;exact⟨A,g1,Y λ_=>⟨gR,Zr,hR.box O aj⟩,P,g4,Y λ_=>⟨gR,Zr,gZ,Zb,hR.box O aj,hZ.box O aj,ap⟩,R,S,T,Y (λ_ h=>by simp at h),Y λ_ _=>⟨B2,J,fd.kept (DE _ B _) (λe=>by injection e;omega),fj⟩,gx,Y λ_=>⟨B,J,aj.set _,bu⟩,Y (λh=>by simp[Qa]at h),hq.setCell (p:=⟨B,0,none⟩) bu _⟩
  . obtain⟨B,rfl,aj,bu⟩:=x.o (b 10 DK) ah;obtain⟨gR,Zr,gZ,Zb,hR,hZ,ap⟩:=o.o (b 5 DK);obtain⟨fo,ck,f6⟩:=T.o (b 8 DK);have k0:=aj.cell;have f0:=aj.frozen;obtain⟨B2,bk,fd,fj⟩:=X.o (b 11 DK);have Qt:B≠B2:=λe=>gx.o (b 9 DK) (b 10 DK) (by rw[bk,e]);obtain rfl:=f6;obtain rfl:=ck;obtain rfl:=bk;have Qy:=b 11 DK;clear x ad;clear b ae;refine EM ?_;exact⟨A,g1,Y λ_=>⟨gR,Zr,hR.box O aj⟩,P,g4,Y λ_=>⟨gR,Zr,gZ,Zb,hR.box O aj,hZ.box O aj,ap⟩,R,S,Y λ_=>⟨fo,J,J⟩,Y (λ_ h=>by simp[Qy]at h),Y (λ_ h=>by simp at h),gx,Y λ_=>⟨B2,J,fd.kept (DE _ B _) (λe=>by injection e;omega),fj⟩,Y λ_=>⟨B,J,aj.set _,bu⟩,hq.setCell (p:=⟨B,0,none⟩) bu _⟩
 rintro D a2 f ak ⟨t9,aq,ay,az,bc,bf,bg,ce,bh,bi,cj,rfl,A,g1,g2,P,g4,o,R,S,T,z,x,gx,X,ad,hq⟩;obtain⟨gR,Zr,gZ,Zb,hR,hZ,ap⟩:=o.o (ak 5 DN);obtain⟨fo,ck,f6⟩:=T.o (ak 8 DN);obtain⟨B9,rfl,bn,ie⟩:=X.o (ak 11 DN);obtain⟨B10,rfl,bm,ic⟩:=ad.o (ak 12 DN);obtain rfl:=f6;obtain rfl:=hR.1;have e0:=hZ.1;rw[ck]at e0;cases e0;obtain rfl:=ck;clear A g1 g2 P g4 o R S T z x gx X ad ak Qr Qp Ua;obtain⟨K,hK⟩:∃K:Nat,(la:Int)+1-(lb:Int)=(K:Int):=⟨la+1-lb,O⟩;have gq:N.wrap (K:Int)=(K:Int):=BS _ O;have Uw:=I8 K O f;have k9:=bn.cell;have Us:=bm.cell;have Qj:K+lb=la+1:=O
 have Qi:=Y Qj;clear Qj;go_wp2_with(go_at_call 152;refine((BJ (n:=2)).1 (Kd Fence.wide _ trivial J _ _ _ _)).mono ?_;rintro e w' ⟨rfl,rfl⟩)
 refine(wpIn_wide (n:=3)).1 ?_;obtain⟨WQ,an⟩:=ex (((f.alloc (.cells (cellsOf G (kT K 0)).toArray 156)).alloc (.cells #[C (some ⟨f.heap.size,0,none⟩) K K] 61)).alloc (.cells #[C (some ⟨f.heap.size,0,none⟩) K K] 61));have Uv:WQ.heap.size=f.heap.size+1+1+1:=by rw[<-an];simp
 have Qk:Bl w f:=Bt Qg hq;have Qs:=Ur.o;have Um:Bl w WQ:=by rw[<-an];exact((Qk.alloc Qk.size _).alloc (by have:=Qk.size;simp;omega) _).alloc (by have:=Qk.size;simp;omega) _
 have lR:=hR.2.1.lt;have lZ:=hZ.2.1.lt;have l9:=bn.lt;have ii:=bm.lt;have n9:gR≠B9:=λe=>hR.ne_box O bn e;have ik:gR≠B10:=λe=>hR.ne_box O bm e;have gk:=hR.2.2.2.2.2;have gl:=hZ.2.2.2.2.2;obtain⟨c,hc⟩:∃c:SplC,c=⟨w,C (some ⟨r,t,none⟩) lb cb,C (some ⟨gR,0,none⟩) (la+1) (la+1),C (some ⟨gZ,0,none⟩) lb (lb+1),C (some ⟨f.heap.size,0,none⟩) K K,B9,B10,f.heap.size+1,f.heap.size+1+1,gR,gZ,f.heap.size,Zb⟩:=⟨_,J⟩;have Ue:c.Apart:=by
  rw[hc];constructor<;>(simp only;omega)
 have Uc:c.Holds WQ:=by
  rw[hc,<-an];have Ui:=(BK (f.alloc (.cells (cellsOf G (kT K 0)).toArray 156)) 61 (C (some ⟨f.heap.size,0,none⟩) K K)).alloc (.cells #[C (some ⟨f.heap.size,0,none⟩) K K] 61);have Uf:=BK ((f.alloc (.cells (cellsOf G (kT K 0)).toArray 156)).alloc (.cells #[C (some ⟨f.heap.size,0,none⟩) K K] 61)) 61 (C (some ⟨f.heap.size,0,none⟩) K K);simp only[A1]at Ui Uf;exact⟨(((boxed_below Qf hq).alloc _).alloc _).alloc _,((bn.alloc _).alloc _).alloc _,((bm.alloc _).alloc _).alloc _,Ui,Uf,((hZ.2.1.alloc _).alloc _).alloc _,by rw[an];exact Um⟩
 have Uh:DP WQ gR Zr:=by rw[<-an];exact((hR.2.1.alloc _).alloc _).alloc _
 have Qz:DP WQ f.heap.size (kT K 0):=by rw[<-an];exact((DP.made (BC f _)).alloc _).alloc _
 have Qu:F7 (m*2^s) (n*2^s) lb K K Zr (kT K 0):=F7.start (by have:=Qi.o;rw[hR.2.2.1];omega) hR.2.2.2.1 hR.2.2.2.2.1 (by
  have h:=gb.o;rwa[show la-(l+1)=K from by have:=Qi.o;have:=Qc.o;omega]at h)
 obtain⟨fi,fx⟩:=Zz hZ.2.2.2.1 (by rw[hZ.2.2.1,Qc.o]) hZ.2.2.2.2.1 fk.o fm.o;have Ux:0<n*2^s:=by
  have h:=fm.o;have:=DI (Ca 63) (CL (n:=l+1) (show 0<Z by unfold Z;omega));omega
 have Qh:n*2^s<Z^lb:=by rw[Qc.o];exact fk.o
 have Up:=hZ.2.2.2.1;have gv:=hZ.2.2.1;rw[an];clear an Uw bn bm Qf Uq k9 Us hR hZ hq Qk Uz;refine Xp J O (gf:=174) (lb:=#[L (some ⟨f.heap.size+1+1,0,none⟩)]) J trivial (DB func174 kS J)
  (Kc Fence.wide _ trivial J O (f.heap.size+1+1) (some ⟨f.heap.size,0,none⟩) K K (λ_=>0) O) (λ_=>rfl)
  (RC c (m*2^s) (n*2^s) lb K) (λ_ _ _=>False) (Z1 c _ _ _ _ (by rw[hc,Uv];simp only;omega)) (λc _ _ _ _ h _ _=>h.elim)
  ⟨Uc,Zr,kT K 0,by rw[hc];exact Uh,by rw[hc];exact Qz,by rw[Fj];exact Qu⟩ ?rd
  (λk=>{ tmps:=#[C a la ca,C (some ⟨r,t,none⟩) lb cb,E,L (some ⟨w.heap.size,0,none⟩),C none 0 0,C none 0 0,E,E,F G (s:Nat),L (some ⟨B9,0,none⟩),L (some ⟨B10,0,none⟩),L (some ⟨f.heap.size+1,0,none⟩),F N ((K:Int)-1-k),C a la ca,F N (la:Nat),C (some ⟨r,t,none⟩) lb cb,F N (lb:Nat),.bool false,E,E,C (some ⟨r,t,none⟩) lb cb,F N (lb:Nat),.bool false,E,E,E,E,E,E,E,E,E,E,E,E,C (some ⟨r,t,none⟩) lb cb,C (some ⟨r,t,none⟩) lb cb,F N (lb:Nat),F N (l1:Nat),L (some ⟨r,t+l1,none⟩),F G (d:Nat),F N (s:Nat),F G (s:Nat),ay,az,C (some ⟨gR,0,none⟩) (la+1) (la+1),bf,bg,C (some ⟨gZ,0,none⟩) (lb+1) (lb+1),bh,bi,C (some ⟨gZ,0,none⟩) lb (lb+1),C (some ⟨gR,0,none⟩) (la+1) (la+1),F N ((la:Int)+1),C (some ⟨gZ,0,none⟩) lb (lb+1),F N (lb:Nat),F N (K:Nat),C (some ⟨f.heap.size,0,none⟩) K K,C (some ⟨f.heap.size,0,none⟩) K K,.func (.func 174) #[] #[L (some ⟨f.heap.size+1+1,0,none⟩)],F N ((K:Int)-1-k),F G 0,E,E,E,E,E,E,E,E,E,E,E,E,E,E,E,E,E,E],defers:=[] }) ?assign ?body ?done ?stop
 case rd=>
  rintro k W ⟨hh,D,Q,_,hQ,hL⟩;have Ud:=hh.b12;rw[hc]at Ud hQ;refine⟨Ud.cell,λhk=>⟨f.heap.size,0,J,?_⟩⟩;rw[Ct,hQ.cell (j:=K-1-k) (by rw[hL.2.2.1];omega),hL.2.2.2.2.2.2 (K-1-k) O]
 case assign=>
  intro l k W K hK;unfold Ge;gi_wp2;exact hK
 case stop=>
  rintro D c k W _ _ h _;exact h.elim
 case body=>
  rintro l' k W ⟨hh,D,Q,hD,hQ,hL⟩ hk ib;have Ug:K-k=K-1-k+1:=O
  rw[Ug]at hL;have e1:((K:Int)-1-k)=((K-1-k:Nat):Int):=O
  have HI:=Y (show K-(k+1)=K-1-k by omega);have Qn:K-1-k<K:=O
  rw[e1];obtain⟨i,hi⟩:=ex (K-1-k);rw[hi]at hL Qn HI ⊢;clear Ug e1 hi;obtain⟨w1,w2,w3⟩:=hL.win Qn Qh;have Uu:=hL.1;have gr:=hL.2.2.1;have Ul:=Y (show ∀(V:I) (nn:Nat),DP V gR D->DP V gZ Zb->CallsIn (Fence.wide.inRound l') nn M 169 #[C (some ⟨gR,i,none⟩) (lb+1) (la+1-i),C (some ⟨gZ,0,none⟩) lb (lb+1)] V λe w'=>
   ∃q,e=.returned (F G ((val Z ((D.drop i).take (lb+1))/(n*2^s):Nat):Int))/\(q.length=lb+1/\DM Z q/\val Z q=val Z ((D.drop i).take (lb+1))%(n*2^s))/\DP w' gR (DY D i (lb+1) q)/\V.grownBy w' (some gR)from λV nn h1 h2=>by
   have Qj:=Qi.o;have hz:=h2.row 0 lb (lb+1) O O O O;have Qw:=Zy gR i l (la+1-i) D (some ⟨gZ,0,none⟩) (lb+1) (Zb.take (l+2)) V h1 hL.2.1 (by rw[Uu];have:=Qc.o;omega) (by have:=Qc.o;omega) O (by have:=Qc.o;omega)
    (by rw[AQ,Qc.o]at hz;rw[Qc.o];exact hz) (Up.take _) (λp e _=>by cases e;exact λh=>ap h.symm) fx (by rw[fi];have:=w1;rw[Qc.o]at this;exact this)
   rw[fi]at Qw;have e3:l+3=lb+1:=by rw[Qc.o]
   have e2:l+2=lb:=Qc.o.symm;rw[e3,e2]at Qw;exact Be l' ((BJ (n:=nn)).2 Qw))
  have Un:=Y λ(q:kQ) (h1:q.length=lb+1) (h2:DM Z q) (h3:val Z q=val Z ((D.drop i).take (lb+1))%(n*2^s))=>hL.step Qn Qh h1 h2 h3 Ux;obtain⟨qd,fw⟩:=ex (val Z ((D.drop i).take (lb+1))/(n*2^s));rw[fw]at Un Ul;clear fw w1 w2 w3 hL fi fx Qu;obtain⟨H1,gn⟩:∃H1:Nat,(i:Int)+(lb:Int)=(H1:Int):=⟨i+lb,O⟩;obtain⟨H,hH⟩:∃H:Nat,(H1:Int)+1=(H:Int):=⟨H1+1,O⟩;have go:H-i=lb+1:=O
  have gp:H<=la+1:=by have:=Qi.o;omega
  have gw:i<=H:=O
  have y1:(i:Int)<=(H:Int):=O
  have y2:(H:Int)<=(la:Int)+1:=O
  have y3:(0:Int)<=(i:Int):=O
  have y4:(i:Int)<(K:Int):=O
  have y5:N.wrap (H1:Int)=(H1:Int):=BS _ O;have y6:N.wrap (H:Int)=(H:Int):=BS _ O;gi_wp2_with fail
  refine XH Di [[],[],[],[],[],[],[5],[4,6],[7],[2,3,8],[],[9,10],[0,1,0,1,2,3,4,5,6,7,8,9,10,11],[12,11,11,0,1,2,3,4,5,6,7,8,9,10,11]] kS DN
   (λDD ac V=>∃co de dh di dj dt du dx dz ed ei et ew:Value,ac={ tmps:=#[C a la ca,C (some ⟨r,t,none⟩) lb cb,E,L (some ⟨w.heap.size,0,none⟩),C none 0 0,C none 0 0,E,E,F G (s:Nat),L (some ⟨B9,0,none⟩),L (some ⟨B10,0,none⟩),L (some ⟨f.heap.size+1,0,none⟩),F N (i:Nat),C a la ca,F N (la:Nat),C (some ⟨r,t,none⟩) lb cb,F N (lb:Nat),.bool false,E,E,C (some ⟨r,t,none⟩) lb cb,F N (lb:Nat),.bool false,E,E,E,E,E,E,E,E,E,E,E,E,C (some ⟨r,t,none⟩) lb cb,C (some ⟨r,t,none⟩) lb cb,F N (lb:Nat),F N (l1:Nat),L (some ⟨r,t+l1,none⟩),F G (d:Nat),F N (s:Nat),F G (s:Nat),ay,az,C (some ⟨gR,0,none⟩) (la+1) (la+1),bf,bg,C (some ⟨gZ,0,none⟩) (lb+1) (lb+1),bh,bi,C (some ⟨gZ,0,none⟩) lb (lb+1),C (some ⟨gR,0,none⟩) (la+1) (la+1),F N ((la:Int)+1),C (some ⟨gZ,0,none⟩) lb (lb+1),F N (lb:Nat),F N (K:Nat),C (some ⟨f.heap.size,0,none⟩) K K,C (some ⟨f.heap.size,0,none⟩) K K,.func (.func 174) #[] #[L (some ⟨f.heap.size+1+1,0,none⟩)],F N (i:Nat),F G 0,co,de,dh,di,dj,dt,du,dx,dz,ed,ei,et,ew,E,E,E,E,E],defers:=[] }/\Hid (DD 0=true->co=C (some ⟨f.heap.size,0,none⟩) K K)/\Hid (DD 1=true->de=F N (i:Nat))/\Hid (DD 2=true->dh=C (some ⟨gR,0,none⟩) (la+1) (la+1))/\Hid (DD 3=true->di=F N (i:Nat))/\Hid (DD 4=true->dj=F N (i:Nat))/\Hid (DD 5=true->dt=C (some ⟨r,t,none⟩) lb cb)/\Hid (DD 6=true->du=F N (lb:Nat))/\Hid (DD 7=true->dx=F N (H1:Nat))/\Hid (DD 8=true->dz=F N (H:Nat))/\Hid (DD 9=true->ed=C (some ⟨gR,i,none⟩) (lb+1) (la+1-i))/\Hid (DD 10=true->ei=C (some ⟨gZ,0,none⟩) lb (lb+1))/\Hid (DD 11=true->et=F G (qd:Nat))/\Hid (DD 12=true->ew=L (some ⟨f.heap.size,i,none⟩))/\∃D2,Hid (DD 11=true->∃q,(q.length=lb+1/\DM Z q/\val Z q=val Z ((D.drop i).take (lb+1))%(n*2^s))/\D2=DY D i (lb+1) q)/\SplM c W D D2 Q (Q.set i qd) (DD 11) (DD 13) V)
   (E8 ⟨_,_,_,_,_,J,Y Dk,Y Dk,Y Dk,Y Dk,Y Dk,Y Dk,Y Dk,Y Dk,Y Dk,Y Dk,Y Dk,Y Dk,Y Dk,D,Y Dk,SplM.drew ⟨KeepsOthers.refl _,hh,hD,hQ⟩⟩) ?step ?fin
  case fin=>
   rintro DD ac V ak ⟨co,de,dh,di,dj,dt,du,dx,dz,ed,ei,et,ew,rfl,A,g1,g2,P,g4,o,R,S,T,z,x,X,ad,D2,gd,y⟩;rw[ak 11 DN,ak 13 DN]at y;obtain⟨q,⟨ff,fg,fh⟩,rfl⟩:=gd.o (ak 11 DN);refine⟨y.k.from _,y.h,DY D i (lb+1) q,Q.set i qd,y.r,y.q,?_⟩;rw[HI.o];exact Un.o q ff fg fh
  case step=>
   rintro DD ac V j ds ai hj b ah ⟨co,de,dh,di,dj,dt,du,dx,dz,ed,ei,et,ew,rfl,A,g1,g2,P,g4,o,R,S,T,z,x,X,ad,D2,gd,y⟩;have Qv:j<14:=(Ar.1 hj).1;obtain rfl|rfl|rfl|rfl|rfl|rfl|rfl|rfl|rfl|rfl|rfl|rfl|rfl|rfl:=II j O
   all_goals
    simp only[AH,AD,AO]at hj;subst hj;clear Qv
   . have b11:Boxed V (f.heap.size+1) 61 (C (some ⟨f.heap.size,0,none⟩) K K):=by have:=y.h.b11;rw[hc]at this;exact this
     have k0:=b11.cell;clear b ai;refine Bb J λK2 U=>?_;go_simp;exact U _ _ (E8 ⟨_,_,_,_,_,J,Y λ_=>rfl,g1,g2,P,g4,o,R,S,T,z,x,X,ad,D2,gd,y⟩)
   . clear b ai;refine Bb J λK2 U=>?_;go_simp;exact U _ _ ⟨_,_,_,_,_,_,_,_,_,_,_,_,_,J,A,Y λ_=>rfl,g2,P,g4,o,R,S,T,z,x,X,ad,D2,gd,y⟩
   . have b9:Boxed V B9 61 (C (some ⟨gR,0,none⟩) (la+1) (la+1)):=by have:=y.h.b9;rw[hc]at this;exact this
     have k0:=b9.cell;clear b ai;refine Bb J λK2 U=>?_;go_simp;exact U _ _ ⟨_,_,_,_,_,_,_,_,_,_,_,_,_,J,A,g1,Y λ_=>rfl,P,g4,o,R,S,T,z,x,X,ad,D2,gd,y⟩
   . clear b ai;refine Bb J λK2 U=>?_;go_simp;exact U _ _ ⟨_,_,_,_,_,_,_,_,_,_,_,_,_,J,A,g1,g2,Y λ_=>rfl,g4,o,R,S,T,z,x,X,ad,D2,gd,y⟩
   . clear b ai;refine Bb J λK2 U=>?_;go_simp;exact U _ _ ⟨_,_,_,_,_,_,_,_,_,_,_,_,_,J,A,g1,g2,P,Y λ_=>rfl,o,R,S,T,z,x,X,ad,D2,gd,y⟩
   . have b0:Boxed V w.heap.size 61 (C (some ⟨r,t,none⟩) lb cb):=by have:=y.h.b0;rw[hc]at this;exact this
     have k0:=b0.cell;clear b ai;refine Bb J λK2 U=>?_;go_simp;exact U _ _ ⟨_,_,_,_,_,_,_,_,_,_,_,_,_,J,A,g1,g2,P,g4,Y λ_=>rfl,R,S,T,z,x,X,ad,D2,gd,y⟩
   . obtain rfl:=o.o (b 5 DK);clear b ai;refine Bb J λK2 U=>?_;go_simp;exact U _ _ ⟨_,_,_,_,_,_,_,_,_,_,_,_,_,J,A,g1,g2,P,g4,Y λ_=>rfl,Y λ_=>rfl,S,T,z,x,X,ad,D2,gd,y⟩
   . obtain rfl:=g4.o (b 4 DK);obtain rfl:=R.o (b 6 DK);clear b ai;refine Bb J λK2 U=>?_;go_simp;exact U _ _ ⟨_,_,_,_,_,_,_,_,_,_,_,_,_,J,A,g1,g2,P,Y λ_=>rfl,o,Y λ_=>rfl,Y λ_=>rfl,T,z,x,X,ad,D2,gd,y⟩
   . obtain rfl:=S.o (b 7 DK);clear b ai;refine Bb J λK2 U=>?_;go_simp;exact U _ _ ⟨_,_,_,_,_,_,_,_,_,_,_,_,_,J,A,g1,g2,P,g4,o,R,Y λ_=>rfl,Y λ_=>rfl,z,x,X,ad,D2,gd,y⟩
   . obtain rfl:=g2.o (b 2 DK);obtain rfl:=P.o (b 3 DK);obtain rfl:=T.o (b 8 DK);have ia:¬(la+1=i):=O
     clear b ai;refine Bb J λK2 U=>?_;go_simp;exact U _ _ ⟨_,_,_,_,_,_,_,_,_,_,_,_,_,J,A,g1,Y λ_=>rfl,Y λ_=>rfl,g4,o,R,S,Y λ_=>rfl,Y λ_=>rfl,x,X,ad,D2,gd,y⟩
   . have b10:Boxed V B10 61 (C (some ⟨gZ,0,none⟩) lb (lb+1)):=by have:=y.h.b10;rw[hc]at this;exact this
     have k0:=b10.cell;clear b ai;refine Bb J λK2 U=>?_;go_simp;exact U _ _ ⟨_,_,_,_,_,_,_,_,_,_,_,_,_,J,A,g1,g2,P,g4,o,R,S,T,z,Y λ_=>rfl,X,ad,D2,gd,y⟩
   . obtain rfl:=z.o (b 9 DK);obtain rfl:=x.o (b 10 DK);rw[ah]at y;have hr:DP V gR D:=by have:=y.r;rw[hc]at this;exact this
     have hz:DP V gZ Zb:=by have:=y.h.z;rw[hc]at this;exact this
     have HV:=Y y;clear y;clear b ai;refine Bb J λK2 U=>?_;go_simp;gi_wp2_with(refine⟨trivial,?_⟩;gi_at_call 169;refine(Ul.o _ _ hr hz).mono ?_;rintro e w5 ⟨q,rfl,⟨ff,fg,fh⟩,hA5,bt⟩)
     exact⟨_,_,_,_,_,_,_,_,_,_,_,_,_,J,A,g1,g2,P,g4,o,R,S,T,Y λ_=>rfl,Y λ_=>rfl,Y λ_=>rfl,ad,DY D i (lb+1) q,Y λ_=>⟨q,⟨ff,fg,fh⟩,J⟩,SplM.split (HV.o.any _) Ue (by rw[hc];exact bt) (by rw[hc];exact hA5)⟩
   . obtain rfl:=A.o (b 0 DK);obtain rfl:=g1.o (b 1 DK);clear b ai;refine Bb J λK2 U=>?_;go_simp;exact U _ _ (E8 ⟨_,_,_,_,_,J,Y λ_=>rfl,Y λ_=>rfl,g2,P,g4,o,R,S,T,z,x,X,Y λ_=>rfl,D2,gd,y⟩)
   . obtain rfl:=X.o (b 11 DK);obtain rfl:=ad.o (b 12 DK);rw[ah]at y;have Ql:DP V f.heap.size Q:=by have:=y.q;rw[hc]at this;exact this
     have k0:=Ql.cell (j:=i) O;have f0:=Ql.frozen i;have Qm:SplM c W D D2 Q (Q.set i qd) (DD 11) true (V.setCell ⟨f.heap.size,i,none⟩ (F G (qd:Nat))):=by have:=y.store Ue (j:=i) (v:=qd) J;rw[hc]at this ⊢;exact this
     have Qo:=Y Qm;clear Qm y;clear b ai;refine Bb J λK2 U=>?_;go_simp;exact U _ _ ⟨_,_,_,_,_,_,_,_,_,_,_,_,_,J,A,g1,g2,P,g4,o,R,S,T,z,x,Y λ_=>rfl,Y λ_=>rfl,D2,gd,Qo.o⟩
 case done=>
  rintro D W hD ⟨hh,D2,Q2,ak,fs,hL⟩ U;rw[A7]at hL;obtain⟨f1,f2⟩:=hL.fin J J;have b11:Boxed W (f.heap.size+1) 61 (C (some ⟨f.heap.size,0,none⟩) K K):=by have:=hh.b11;rw[hc]at this;exact this
  have b9:Boxed W B9 61 (C (some ⟨gR,0,none⟩) (la+1) (la+1)):=by have:=hh.b9;rw[hc]at this;exact this
  have Uj:Bl w W:=by have:=hh.B;rw[hc]at this;exact this
  have hr:DP W gR D2:=by have:=ak;rw[hc]at this;exact this
  have Ql:DP W f.heap.size Q2:=by have:=fs;rw[hc]at this;exact this
  have Qj:=Qi.o;have Qd:Row G W (C (some ⟨f.heap.size,0,none⟩) K K) Q2:=by
   have h1:=Ql.row 0 K K (by rw[hL.2.2.1];omega) (Aa _) O O;rwa[AQ,Ad (by rw[hL.2.2.1];exact Aa _)]at h1
  have Qe:Row G W (C (some ⟨gR,0,none⟩) (la+1) (la+1)) D2:=by
   have h1:=hr.row 0 (la+1) (la+1) (by rw[hL.1];omega) (Aa _) O O;rwa[AQ,Ad (by rw[hL.1];omega)]at h1
  have HT:=Y (show ∀V:I,Bl W V->Calls M 128 #[C (some ⟨f.heap.size,0,none⟩) K K] V λe w'=>∃u,e=.returned u/\UN w' u (m/n)/\Bl V w' from λV h=>by
   have h1:=Y1 _ Q2 V (Row.below Qd h);rw[f1]at h1;exact h1)
  have Uy:=Y (show ∀V:I,Bl W V->Calls M 170 #[C (some ⟨gR,0,none⟩) (la+1) (la+1),F G (s:Nat)] V λe w'=>∃u,e=.returned u/\UN w' u (m%n)/\Bl V w' from λV h=>by
   have h1:=ZZ _ _ _ D2 s V hs (Row.below Qe h) hL.2.1;rw[f2,Nat.mul_div_cancel _ (Ca s)]at h1;exact h1)
  have ij:=b11.lt;have l9:=b9.lt;have Uk:=b11.cell;have k9:=b9.cell;clear hL f1 f2 Qd Qe hr Ql hh ak fs Uc Uh Qz Qu Qj;go_upto_region 13 with fail
  have hq:Bl W W.drew:=(BB _ W).drew;go_region_held3 (λw'=>w'.cell? ⟨f.heap.size+1,0,none⟩=some (C (some ⟨f.heap.size,0,none⟩) K K)/\w'.cell? ⟨B9,0,none⟩=some (C (some ⟨gR,0,none⟩) (la+1) (la+1))) (refine⟨?_,?_⟩<;>(first|(go_keep;done)|(simp[*];done)))
   (first
    |(go_at_call 128;refine(HT.o _ hq).mono ?_;rintro e w5 ⟨u5,rfl,fy,am⟩;obtain⟨ua,uc,rfl⟩:=UN.form fy;have hq:=Bt hq am;have Uk:=(boxed_below b11 hq).cell;have k9:=(boxed_below b9 hq).cell)
    |(go_at_call 170;refine(Uy.o _ hq).mono ?_;rintro e w6 ⟨u6,rfl,ga,ft⟩;obtain⟨va,vc,rfl⟩:=UN.form ga;have hq:=Bt hq ft;have Uk:=(boxed_below b11 hq).cell;have k9:=(boxed_below b9 hq).cell))
  all_goals go_wp2_with fail
  have Qq:w6.heap[D]?=some (.deferred (some [])):=(hq.block D (Ab.1 U).1).trans U;refine⟨DK,.inl ⟨_,_,J,BX Qq,?_⟩⟩;refine⟨.tuple #[C ua (Jc Z (m/n)).length uc,C va (Jc Z (m%n)).length vc],by simp[results,results146,go_sem],_,_,J,OC (UN.below fy ft) Qq,OC ga Qq,?_⟩;exact below_grown (Bt Uj hq) (BV _ D (.deferred none)) (by have:=Um.size;omega)
end
section
variable{a:kQ}{P base g l rc:Nat}{u:Value}{W:I}
def OH(a:kR)(la ca:Nat)(b:kR)(lb cb m n:Nat)(w:I)(g:Row G w (C a la ca) (Jc Z m))(i:Row G w (C b lb cb) (Jc Z n))(W:n≠0)(U:la<1099511627776):
 Calls M 146 #[C a la ca,C b lb cb] w λe j=>∃u v,e=.returned (.tuple #[u,v])/\UN j u (m/n)/\UN j v (m%n)/\Bl w j:=by
 obtain⟨T,ad,am,ai,ah⟩:=Js g;obtain⟨f,ae,an,aj,S⟩:=Js i;have ak:lb≠0:=λe=>W ((JF Je).1 (Ao (by rw[<-f,e])));by_cases H:la<lb
 . exact Zc a la ca b lb cb m n w g i H
 . by_cases K:lb=1
   . subst K;exact Ze a la ca b cb m n w g i O
   . obtain⟨l,rfl⟩:∃l,lb=l+2:=⟨lb-2,O⟩;obtain⟨y,z,rfl,R,kb⟩:=S (l+1) O;have k:=Jo Je n;have p:(Jc Z n)[l+1]?.getD 0≠0:=by
      intro e;have P:=Jr Z (Jc Z n) (l+1);rw[Ad O,e,Cr,Cb,Jp Je]at P;have X:=Yu k (l+1);have o:=Xn Je f.symm O;rw[show l+2-1=l+1 from J]at o;omega
     have c:(Jc Z n)[l+1]?.getD 0<Z:=k.getD uo _;obtain⟨d,q⟩:=ex ((Jc Z n)[l+1]?.getD 0);rw[q]at kb p c;obtain⟨A,B,D⟩:=bitLen_spec d p (by rw[<-Ib];exact c);have Q:Lib.bitLen d<=64:=by
      rcases AP 64 (Lib.bitLen d)with h|h
      . exfalso
        have o:2^64<=2^(Lib.bitLen d-1):=Ag O O;rw[Ib]at c;omega
      . exact h
     obtain⟨r,t⟩:=RB (s:=64-Lib.bitLen d) k f.symm q B D A Q J;rw[Jp Je]at r t;have V:m<Z^la:=by
      have:=Yl (Jo Je m);rwa[Jp Je,<-T]at this
     have x:Z^(l+1)<=n:=Xn Je f.symm O;exact Z3 a la ca y z l (l+2) (l+1) cb m n d (64-Lib.bitLen d) w J O R g i kb c O (show _=_ by omega) O U r t (Z0 V x O)
theorem OI{p:Nat}(a:p≠0)(h:p<Z):Jc Z p=[p]:=by
 grind[XP,Ci,A3,JD]
def Z4(a:kR)(ca:Nat)(b:kR)(lb cb x y:Nat)(w:I)(d:Row G w (C a 1 ca) (Jc Z x))(r:Row G w (C b lb cb) (Jc Z y))(z:y<Z):
 Calls M 148 #[C a 1 ca,C b lb cb] w λe A=>∃u,e=.returned u/\UN A u (Nat.gcd x y)/\Bl w A:=by
 obtain⟨n,W,ai,ad,l⟩:=Js d;obtain⟨c,X,aj,ae,m⟩:=Js r;obtain⟨o,ak,R⟩:=OD n.symm;rcases AW lb with t|t
 . subst t;have k:=(JF Je).1 (Ao c.symm);subst k;have D:=Y d;clear l m n c d r o;go_enter func148,ntmps148
   go_wp2_with fail
   go_ret;exact⟨_,J,by rw[Nat.gcd_zero_right];exact D.o,BB _ w⟩
 . have k:y≠0:=λe=>by rw[e,JD]at c;simp at c;omega
   have i:=OI k z;obtain rfl:lb=1:=by rw[c,i];rfl
   obtain⟨H,K,rfl,U,ka⟩:=l 0 O;obtain⟨P,Q,rfl,V,kb⟩:=m 0 O;rw[o]at ka;rw[i]at kb;have am:w.cell? ⟨H,K,none⟩=some (F G (x:Nat)):=ka;have an:w.cell? ⟨P,Q,none⟩=some (F G (y:Nat)):=kb;clear l m n c d r o i ka kb;go_enter func148,ntmps148
   go_upto_region 3 with fail
   go_quiet (fail)
   go_wp2_with fail
   go_loopw [5,6] (λT s wr=>∃(p q j:Nat),T=F G (p:Nat)/\s=F G (q:Nat)/\p<Z/\q<Z/\p≠0/\Hid (Nat.gcd p q=Nat.gcd x y)/\wr=w.drewN j) (λ_ s _=>(intOf s).toNat)
   case atStart=>exact⟨x,y,_,J,J,R,z,O,Y J,J⟩
   case round=>
    obtain⟨p,q,j,rfl,rfl,hp,hq,S,g,rfl⟩:=hrel;by_cases v:q=0
    . subst v;have f:=Y (show p=Nat.gcd x y by rw[<-g.o,Nat.gcd_zero_right]);have B:=Y (OI S hp);clear g;go_wp2_with fail
      go_ret;refine⟨C (some ⟨w.heap.size,0,none⟩) 1 1,J,?_,(Kq (BB _ w) _).alloc (Aa _) _⟩;unfold UN;rw[<-f.o,B.o];exact(DP.made (xs:=[p]) (BC (w.drewN j) (.cells #[F G (p:Nat)] 156))).row 0 1 1 DK O O O
    . have f:=Y (show Nat.gcd q (p%q)=Nat.gcd x y by rw[<-g.o,CB q,<-Nat.gcd_rec,CB]);have ah:=AZ p (show q>0 by omega);go_upto_region 5 with fail
      go_quiet (fail)
      go_wp2_with fail
      exact⟨⟨q,p%q,j+nq,J,DK,hq,O,v,f,DK⟩,by simp[intOf];omega⟩
def F8(W:I)(base:Nat)(u:Value)(g l rc P:Nat)(a:kQ):Prop:=
 u=C (some ⟨g,0,none⟩) l rc/\DP W g a/\DM Z a/\l<=a.length/\l<=rc/\rc<=9223372036854775807/\l<=1099511627776/\a.take l=Jc Z P/\base<=g
def F8.below{W W':I}{base g l rc P:Nat}{u:Value}{a:kQ}(h:F8 W base u g l rc P a)(b:Bl W W'):F8 W' base u g l rc P a:=
 ⟨h.1,h.2.1.below b,h.2.2⟩
def F8.un(h:F8 W base u g l rc P a):UN W u P:=by
 obtain⟨rfl,b,i,j,c,d,e,f,k⟩:=h;have:=b.row 0 l rc O c d e;rw[AQ,f]at this;exact this
theorem Z6{ds:kQ}(d:DP W g a)(k:Row G W (C (some ⟨g,0,none⟩) l rc) ds)(hl:l<=a.length):a.take l=ds:=by
 obtain⟨m,_,_,_,c⟩:=Js k;apply List.ext_getElem?;intro j;by_cases i:j<l
 . obtain⟨b,n,e,_,f⟩:=c j i;cases e;rw[Ct,d.cell O]at f;grind
 grind
def RD(a:kR)(la ca:Nat)(b:kR)(lb cb:Nat)(c d:kQ)(w:I)(T:DM Z c)(U:DM Z d)(R:la+lb<=1099511627776)
(k:Row G w (C a la ca) c)(m:Row G w (C b lb cb) d):
 Calls M 120 #[C a la ca,C b lb cb] w λe r=>∃u,e=.returned u/\UN r u (val Z c*val Z d)/\(val Z c*val Z d≠0->∃g l rc o,F8 r w.heap.size u g l rc (val Z c*val Z d) o)/\Bl w r:=by
 have t:=I8 (la+lb) O w;rw[show((la+lb:Nat):Int)=(la:Int)+(lb:Int)from by omega]at t;obtain⟨i,n⟩:∃i,i=w.alloc (.cells (cellsOf G (kT (la+lb) 0)).toArray 156):=⟨_,J⟩;have q:Bl w i:=by rw[n];exact Ba w _
 have s:DP i w.heap.size (kT (la+lb) 0):=by rw[n];exact DP.made (BC w _)
 rw[<-n]at t;have D:=Y (ZJ w.heap.size (la+lb) (la+lb) (kT (la+lb) 0) a la ca b lb cb c d i T U s (λx S=>by rw[Fd S];unfold Z;omega) DX (Aa _) O R (Row.below k q) (Row.below m q)
  (λp e j=>by have:=IY k e j;omega) λp e j=>by have:=IY m e j;omega)
 have V:=(Js k).2.1;have W:=(Js k).2.2.1;have X:=(Js m).2.1;have ad:=(Js m).2.2.1;clear n s k m;go_enter func120,ntmps120
 go_wp2_with(go_at_call 141;refine D.o.mono ?_;rintro e w5 ⟨u,rfl,⟨f,Q⟩,P,o,A,K,B⟩;obtain⟨ua,uc,rfl⟩:=UN.form f)
 go_ret;refine⟨_,J,f,λj=>?_,below_grown q Q (Aa _)⟩;have H:(Jc Z (val Z c*val Z d)).length≠0:=λe=>j ((JF Je).1 (Ao e));rcases P with e|⟨l,e⟩
 . injection e with v y z
   exact absurd y H
 . injection e with v y z
   subst v;subst z;rw[AE]at B;have hl:(Jc Z (val Z c*val Z d)).length<=o.length:=by rw[B];exact(Js f).2.1
   exact⟨_,_,_,o,J,A,K,hl,(Js f).2.1,(Js f).2.2.1,(Js f).2.2.2.1,Z6 A f hl,Aa _⟩
theorem RE{Q:Nat}(h:F8 W base u g l rc P a)(b:kR)(lb cb:Nat)(i:UN W (C b lb cb) Q)(v:Q<=P)(x:∀p,b=some p->0<lb->p.block≠g):
 Calls M 165 #[u,C b lb cb] W λe d=>∃c q,e=.returned (F G (c:Nat))/\(Row G d u q/\Jz q=Jc Z (P-Q))/\W.grownBy d (some g):=by
 obtain⟨rfl,m,n,y,f,o,r,z,A⟩:=h;have hl:l=(Jc Z P).length:=DX
 have k:=(Js i).1;refine(P8 g 0 l rc a b lb cb (Jc Z Q) W m n O f O (by rw[hl,k];exact Xq v) i (Jo Je Q) x).mono ?_;rintro e d ⟨c,q,rfl,hq,t,hg⟩;have w:DY a 0 l q=q++a.drop l:=by rw[DY,FK,Aj,Ct]
 have j:=hq.1;refine⟨c,q,J,⟨?_,?_⟩,hg⟩
 . have s:=t.row 0 l rc DX f o r;rwa[w,AQ,Cl O,Ad O]at s
 . have hs:Et (Jc Z P) (Jc Z Q) 0 l c q:=by
    refine⟨j,hq.2.1,hq.2.2.1,?_⟩;have:=hq.2.2.2;grind
   grind[P9,Xq]
def RF{w V a:I}{o:Obj}(h:Bl w V)(k:Below (V.alloc o).heap.size (V.alloc o) a):Bl w a:=(h.alloc h.size o).trans (k.mono (h.alloc h.size o).size)
def RG(x:Nat):val Z [x]=x:=by rw[Yc,KX,Cr,Cb]
theorem RH(ma mb:Nat)(a:kR)(la ca:Nat)(b:kR)(lb cb A B:Nat)(w:I)(ra:Row G w (C a la ca) (Jc Z A))(rb:Row G w (C b lb cb) (Jc Z B))(bt:ma<Z)(bu:mb<Z)(ck:la<1099511627776)(cn:lb<1099511627776)(h0:mb*B≠0):
 Calls M 145 #[.agg #[F G (ma:Nat),F G (mb:Nat)],C a la ca,C b lb cb] w λe T=>∃u,e=.returned u/\UN T u (Dw (ma*A) (mb*B))/\Bl w T:=by
 obtain⟨W0,am⟩:=ex (w.alloc (.cells #[F G (ma:Nat),F G (mb:Nat)] 169));have Qa:Bl w W0:=by rw[<-am];exact Ba w _
 have bx:Jn W0 w.heap.size 169 (F G (ma:Nat)) (F G (mb:Nat)):=by rw[<-am];exact Jn.new w _ _ _
 have Qp:=Y (show ∀(V:I) (g:Nat),Bl W0 V->DP V g [ma]->Calls M 120 #[C a la ca,C (some ⟨g,0,none⟩) 1 1] V λe T=>∃u,e=.returned u/\UN T u (ma*A)/\(ma*A≠0->∃g l rc zs,F8 T V.heap.size u g l rc (ma*A) zs)/\Bl V T from λV g h hA=>by
  have k:=RD a la ca (some ⟨g,0,none⟩) 1 1 (Jc Z A) [ma] V (Jo Je A) (DM.cons bt (DM.nil _)) O (Row.below (Row.below ra Qa) h) (hA.row 0 1 1 DK O O O);rw[RG,Jp Je,AB A ma]at k;exact k)
 have Qo:=Y (show ∀(V:I) (g:Nat),Bl W0 V->DP V g [mb]->Calls M 120 #[C b lb cb,C (some ⟨g,0,none⟩) 1 1] V λe T=>∃u,e=.returned u/\UN T u (mb*B)/\(mb*B≠0->∃g l rc zs,F8 T V.heap.size u g l rc (mb*B) zs)/\Bl V T from λV g h hA=>by
  have k:=RD b lb cb (some ⟨g,0,none⟩) 1 1 (Jc Z B) [mb] V (Jo Je B) (DM.cons bu (DM.nil _)) O (Row.below (Row.below rb Qa) h) (hA.row 0 1 1 DK O O O);rw[RG,Jp Je,AB B mb]at k;exact k)
 have Qq:=Y am;clear am ra rb;generalize ma*A=j at *;generalize mb*B=Q at *;go_enter func145,ntmps145
 go_upto_region 1 with fail
 rw[Qq.o];refine JY Di [[],[],[1],[2],[0,3],[],[],[6],[7],[5,8,4],[4,9,0,1,2,3,4],[9,10,0,1,2,3,4,5,6,7,8,9,10]] kS DN (λd ac V=>∃t7 t8 t9 an ap aq U ay az bc bf aj:Value,ac={ tmps:=#[.agg #[F G (ma:Nat),F G (mb:Nat)],C a la ca,C b lb cb,L (some ⟨w.heap.size,0,none⟩),E,E,C none 0 0,t7,t8,t9,an,ap,aq,U,ay,az,bc,bf,aj,E,E,E,E,E,E,E,E,E,E,E],defers:=[] }/\Hid (d 0=true->t9=C a la ca)/\Hid (d 1=true->an=L (some ⟨w.heap.size,0,none⟩))/\Hid (d 2=true->ap=F G (ma:Nat))/\Hid (d 3=true->∃g,aq=C (some ⟨g,0,none⟩) 1 1/\DP V g [ma])/\Hid (d 4=true->UN V U j/\(j≠0->∃g1 l1 n o,F8 V W0.heap.size U g1 l1 n j o))/\Hid (d 5=true->ay=C b lb cb)/\Hid (d 6=true->az=L (some ⟨w.heap.size,1,none⟩))/\Hid (d 7=true->bc=F G (mb:Nat))/\Hid (d 8=true->∃g,bf=C (some ⟨g,0,none⟩) 1 1/\DP V g [mb])/\Hid (d 9=true->∃g2 l2 X ad,F8 V W0.heap.size aj g2 l2 X Q ad/\UN V U j/\(j≠0->∃g1 l1 n o,F8 V W0.heap.size U g1 l1 n j o/\g1≠g2))/\Hid (d 10=true->t7=U)/\Hid (d 11=true->t8=aj)/\Bl W0 V)
  (E8 ⟨_,_,_,_,J,Y Dk,Y Dk,Y Dk,Y Dk,Y Dk,Y Dk,Y Dk,Y Dk,Y Dk,Y Dk,Y Dk,Y Dk,(BB _ W0).drew⟩) ?step1 ?fin1
 case step1=>
  rintro d a2 V i ds m bi f S ⟨t7,t8,t9,an,ap,aq,U,ay,az,bc,bf,aj,rfl,s,g1,g2,x,g4,y,z,D,H,P,t,v,hq⟩;have Qm:i<12:=(Ar.1 bi).1;obtain rfl|rfl|rfl|rfl|rfl|rfl|rfl|rfl|rfl|rfl|rfl|rfl:=KU i O
  all_goals
   simp only[AH,AD,AO]at bi;subst bi;clear Qm
  . clear f m;refine EM ?_;exact⟨Y λ_=>rfl,g1,g2,x,g4,y,z,D,H,P,t,v,hq⟩
  . clear f m;refine EM ?_;exact⟨s,Y λ_=>rfl,g2,x,g4,y,z,D,H,P,t,v,hq⟩
  . obtain rfl:=g1.o (f 1 DK);have k0:=(bx.below hq).c0;clear f m;refine EM ?_;exact⟨s,Y λ_=>rfl,Y λ_=>rfl,x,g4,y,z,D,H,P,t,v,hq⟩
  . have Qr:d 4=false:=by
     cases h:d 4 with
     |false=>rfl
     |true=>rw[m 4 _ J h 3 DK]at S;cases S
    obtain rfl:=g2.o (f 2 DK);clear f m;refine EM ?_;exact⟨s,g1,Y λ_=>rfl,Y λ_=>⟨_,J,DP.made (xs:=[ma]) (BC V _)⟩,Y (λh=>by simp[Qr]at h),y,z,D,Y (λh=>by obtain⟨g,e,q⟩:=H.o h;exact⟨g,e,q.below (Ba V _)⟩),Y (λh=>by obtain⟨g2,l2,X,ad,q1,q2,q3⟩:=P.o h;exact⟨g2,l2,X,ad,q1.below (Ba V _),q2.below (Ba V _),λk=>by obtain⟨g1,l1,n,o,q,q4⟩:=q3 k;exact⟨g1,l1,n,o,q.below (Ba V _),q4⟩⟩),t,v,hq.alloc hq.size _⟩
  . have Qk:d 9=false:=by
     cases h:d 9 with
     |false=>rfl
     |true=>rw[m 9 _ J h 4 DK]at S;cases S
    have Qn:d 10=false:=by
     cases h:d 10 with
     |false=>rfl
     |true=>rw[m 10 _ J h 4 DK]at S;cases S
    obtain rfl:=s.o (f 0 DK);obtain⟨gm,rfl,ah⟩:=x.o (f 3 DK);clear f m;refine JV J J λK hK=>?_;go_simp;go_wp2_with(go_at_call 120;refine(Qp.o _ _ hq ah).mono ?_;rintro e w5 ⟨u5,rfl,bm,bj,R⟩)
    exact E8 ⟨_,_,_,_,J,Y λ_=>rfl,g1,g2,Y λ_=>⟨gm,J,ah.below R⟩,Y λ_=>⟨bm,λk=>by obtain⟨g1,l1,n,o,q⟩:=bj k;exact⟨g1,l1,n,o,q.1,q.2.1,q.2.2.1,q.2.2.2.1,q.2.2.2.2.1,q.2.2.2.2.2.1,q.2.2.2.2.2.2.1,q.2.2.2.2.2.2.2.1,Al hq.size q.2.2.2.2.2.2.2.2⟩⟩,y,z,D,Y (λh=>by obtain⟨g,e,q⟩:=H.o h;exact⟨g,e,q.below (R)⟩),Y (λh=>by simp[Qk]at h),Y (λh=>by simp[Qn]at h),v,Bt hq R⟩
  . clear f m;refine EM ?_;exact⟨s,g1,g2,x,g4,Y λ_=>rfl,z,D,H,P,t,v,hq⟩
  . clear f m;refine EM ?_;exact⟨s,g1,g2,x,g4,y,Y λ_=>rfl,D,H,P,t,v,hq⟩
  . obtain rfl:=z.o (f 6 DK);have k0:=(bx.below hq).c1;clear f m;refine EM ?_;exact⟨s,g1,g2,x,g4,y,Y λ_=>rfl,Y λ_=>rfl,H,P,t,v,hq⟩
  . have Qk:d 9=false:=by
     cases h:d 9 with
     |false=>rfl
     |true=>rw[m 9 _ J h 8 DK]at S;cases S
    obtain rfl:=D.o (f 7 DK);clear f m;refine EM ?_;exact⟨s,g1,g2,Y (λh=>by obtain⟨g,e,q⟩:=x.o h;exact⟨g,e,q.below (Ba V _)⟩),Y (λh=>by obtain⟨q1,q2⟩:=g4.o h;exact⟨q1.below (Ba V _),λk=>by obtain⟨g1,l1,n,o,q⟩:=q2 k;exact⟨g1,l1,n,o,q.below (Ba V _)⟩⟩),y,z,Y λ_=>rfl,Y λ_=>⟨_,J,DP.made (xs:=[mb]) (BC V _)⟩,Y (λh=>by simp[Qk]at h),t,v,hq.alloc hq.size _⟩
  . have Ql:d 11=false:=by
     cases h:d 11 with
     |false=>rfl
     |true=>rw[m 11 _ J h 9 DK]at S;cases S
    obtain rfl:=y.o (f 5 DK);obtain⟨gm,rfl,ah⟩:=H.o (f 8 DK);obtain⟨p1,p2⟩:=g4.o (f 4 DK);clear f m;refine JV J J λK hK=>?_;go_simp;go_wp2_with(go_at_call 120;refine(Qo.o _ _ hq ah).mono ?_;rintro e w5 ⟨u5,rfl,bm,bj,R⟩)
    exact⟨_,_,_,_,_,_,_,_,_,_,_,_,J,s,g1,g2,Y (λh=>by obtain⟨g,e,q⟩:=x.o h;exact⟨g,e,q.below (R)⟩),Y (λh=>by obtain⟨q1,q2⟩:=g4.o h;exact⟨q1.below (R),λk=>by obtain⟨g1,l1,n,o,q⟩:=q2 k;exact⟨g1,l1,n,o,q.below (R)⟩⟩),Y λ_=>rfl,z,D,Y λ_=>⟨gm,J,ah.below R⟩,Y (λ_=>by obtain⟨g2,l2,X,ad,q⟩:=bj h0;exact⟨g2,l2,X,ad,⟨q.1,q.2.1,q.2.2.1,q.2.2.2.1,q.2.2.2.2.1,q.2.2.2.2.2.1,q.2.2.2.2.2.2.1,q.2.2.2.2.2.2.2.1,Al hq.size q.2.2.2.2.2.2.2.2⟩,p1.below R,λk=>by obtain⟨g1,l1,n,o,r⟩:=p2 k;exact⟨g1,l1,n,o,r.below R,by have:=r.2.1.lt;have:=q.2.2.2.2.2.2.2.2;omega⟩⟩),t,Y (λh=>by simp[Ql]at h),Bt hq R⟩
  . clear f m;refine EM ?_;exact⟨s,g1,g2,x,g4,y,z,D,H,P,Y λ_=>rfl,v,hq⟩
  . clear f m;refine EM ?_;exact⟨s,g1,g2,x,g4,y,z,D,H,P,t,Y λ_=>rfl,hq⟩
 rintro d ce V1 ak ⟨t7,t8,t9,an,ap,aq,U,ay,az,bc,bf,aj,rfl,s,g1,g2,x,g4,y,z,D,H,P,t,v,hq⟩;obtain⟨gB,l2,X,ad,o2,ai,o1⟩:=P.o (ak 9 DN);obtain rfl:=t.o (ak 10 DN);obtain rfl:=v.o (ak 11 DN);obtain⟨a1,c1,rfl⟩:=UN.form ai;have Qd:=o2.un;obtain⟨a2,c2,rfl⟩:=UN.form Qd;clear s g1 g2 x g4 y z D H P t v ak Qp Qo;have Qi:∀p,a1=some p->0<(Jc Z j).length->p.block≠gB:=λp e k=>by
  have hp:j≠0:=λe0=>by rw[e0,JD]at k;simp at k
  obtain⟨g1,l1,n,o,r,r2⟩:=o1 hp;have:=r.1;grind
 have W:=Y (Nu _ _ (Jc Z j) (Jc Z Q) V1 ai Qd (Jo Je j) (Jo Je Q) (Yr Je j) (Yr Je Q));rw[Jp Je,Jp Je]at W;have Qg:=Bt Qa hq;have Qj:=o2.2.2.2.2.2.2.2.2;by_cases bn:j<Q
 . have Qb:=Gc bn;rw[Qb]at W;have Qf:=Y λ(V:I) (h:Bl V1 V)=>RE (o2.below h) a1 (Jc Z j).length c1 (ai.below h) O Qi;have HD:=Y (show Q-j=Dw j Q by unfold Dw;omega);clear Qb ai Qd o1 Qi;go_upto_region 4 with(go_at_call 132;refine W.o.mono ?_;rintro e w2 ⟨rfl,ae⟩)
   go_upto_region 5 with(go_at_call 165;refine(Qf.o _ ae).mono ?_;rintro e w3 ⟨c,q,rfl,⟨hr,bk⟩,bh⟩)
   have Qc:=Y (Y1 _ q _ hr);rw[bk,HD.o]at Qc;clear Qf W;go_wp2_with(go_at_call 128;refine Qc.o.mono ?_;rintro e w4 ⟨u,rfl,hu,bg⟩;obtain⟨ua,uc,rfl⟩:=UN.form hu)
   go_ret;have Qe:=below_grown (Bt Qg ae) bh (Al Qa.size Qj);exact⟨_,J,hu,Bt Qe bg⟩
 . obtain⟨cm,Qb,cj⟩:∃cm:Int,Xf j Q=cm/\¬(cm<0):=⟨_,J,by unfold Xf;omega⟩;rw[Qb]at W;obtain⟨g1,l1,n,o,r,r2⟩:=o1 O;have Qh:=r.2.2.2.2.2.2.2.2;have Qf:=Y (λ(V:I) (h:Bl V1 V)=>RE (r.below h) a2 (Jc Z Q).length c2 (Qd.below h) O (λp e _=>by
    have:=o2.1;grind))
   have HD:=Y (show j-Q=Dw j Q by unfold Dw;omega);clear Qb ai Qd o1 Qi;go_upto_region 4 with(go_at_call 132;refine W.o.mono ?_;rintro e w2 ⟨rfl,ae⟩)
   go_upto_region 5 with(go_at_call 165;refine(Qf.o _ ae).mono ?_;rintro e w3 ⟨c,q,rfl,⟨hr,bk⟩,bh⟩)
   have Qc:=Y (Y1 _ q _ hr);rw[bk,HD.o]at Qc;clear Qf W;go_wp2_with(go_at_call 128;refine Qc.o.mono ?_;rintro e w4 ⟨u,rfl,hu,bg⟩;obtain⟨ua,uc,rfl⟩:=UN.form hu)
   go_ret;have Qe:=below_grown (Bt Qg ae) bh (Al Qa.size Qh);exact⟨_,J,hu,Bt Qe bg⟩
end
def FW(x k s:Nat):Nat:=x/(Z^k*2^(64-s))
variable{a:kQ}{k s:Nat}
def Z7(hl:a.length=k+2)(b:DM Z a)(hs:s<=63)(f:a[k+1]?.getD 0<2^(64-s)):
 FW (val Z a) k s=D8 (a[k+1]?.getD 0) s+Dx (a[k]?.getD 0) (64-s)/\D8 (a[k+1]?.getD 0) s ||| Dx (a[k]?.getD 0) (64-s)=D8 (a[k+1]?.getD 0) s+Dx (a[k]?.getD 0) (64-s):=by
 have g:=Q9 hl;have c:=Yu b k;have i:=b.getD (show 0<Z by unfold Z;omega) k;have hp:=Kn (s:=s) O;have e:D8 (a[k+1]?.getD 0) s=a[k+1]?.getD 0*2^s:=by rw[Ko O,Ci f]
 rw[e];have d:Dx (a[k]?.getD 0) (64-s)<2^s:=by
  unfold Dx;rw[AF (Ca _),hp];exact i
 refine⟨?_,by rw[AB,<-C6 d]⟩;unfold FW Dx;rw[g,<-Nat.div_div_eq_div_mul,AB _ (Z^k),Nat.mul_add_div (CL uo),A3 c,Cb,<-hp,<-Ch,Fi,Nat.add_mul_div_right _ _ (Ca _)];omega
def Z8(hl:a.length=k+1)(d:DM Z a):FW (val Z a) k s=Dx (a[k]?.getD 0) (64-s):=by
 have b:=Jr Z a k;rw[Ad O]at b;have c:=Yu d k;unfold FW Dx;rw[b,<-Nat.div_div_eq_div_mul,Fi,Nat.mul_add_div (CL uo),A3 c,Cb]
def Z9(hl:a.length<=k)(b:DM Z a):FW (val Z a) k s=0:=by
 unfold FW;apply A3;have c:=Yl b;have d:Z^a.length<=Z^k:=Ag uo hl;have e:=A6 (Z^k) (Ca (64-s));omega
def RI(a:kR)(la ca:Nat)(c:kQ)(k f d s:Nat)(w:I)(n:Row G w (C a la ca) c)(o:DM Z c)(q:d=k+2)(z:(d:Int)-1=f)(A:(d:Int)-2=k)(hs:s<=63)(S:la<=d)(U:d<=1099511627776)(m:la=d->c[k+1]?.getD 0<2^(64-s)):
 Calls M 167 #[C a la ca,F N (d:Nat),F G (s:Nat)] w λe P=>e=.returned (F G (FW (val Z c) k s:Nat))/\Bl w P:=by
 obtain⟨hl,Q,T,R,i⟩:=Js n;have X:N.wrap ((d:Int)-1)=(f:Int):=by rw[z];exact BS _ O
 have i2:N.wrap ((d:Int)-2)=(k:Int):=by rw[A];exact BS _ O
 have i3:N.wrap (f:Int)=(f:Int):=BS _ O;have i4:N.wrap (k:Int)=(k:Int):=BS _ O;have i5:G.wrap ((64:Int)-s)=((64-s:Nat):Int):=by rw[BT];omega
 have p:=N9 (c[k+1]?.getD 0) s;have x:=OA (c[k]?.getD 0) (64-s);have j:=o.getD (show 0<Z by unfold Z;omega) k;have l:=OB (show D8 (c[k+1]?.getD 0) s<Z by unfold D8;exact AZ _ uo) (show Dx (c[k]?.getD 0) (64-s)<Z from Cq (Fb _ _) j);obtain rfl|V:=Decidable.em (la=d)
 . obtain⟨b,K,rfl,D,c1⟩:=i (k+1) O;obtain⟨_,_,y,_,c0⟩:=i k O;cases y;obtain⟨t,u⟩:=Z7 O o hs (m J);rw[u]at l;have g:=Y t;have r:f=k+1:=O
   rw[<-r]at c1 p l g;have j1:(f:Int)<(la:Int):=O
   have j2:(k:Int)<(la:Int):=O
   have j3:(0:Int)<=(f:Int):=O
   have j4:(0:Int)<=(k:Int):=O
   have j5:f<la:=O
   have H:k<la:=O
   clear r i n t u m hl q j;generalize c[f]?.getD 0=x1 at *;generalize c[k]?.getD 0=x0 at *;go_enter func167,ntmps167
   go_upto_region 3 with fail
   go_quiet (fail)
   go_wp2_with fail
   go_ret;refine⟨?_,Kq (BB _ w) _⟩;rw[g.o];first|rfl|(simp;done)
 . by_cases B:la=f
   . subst B;obtain⟨b,K,rfl,D,c0⟩:=i k O;have g:=Y (Z8 (s:=s) (show c.length=k+1 by omega) o);have H:k<la:=O
     have v:¬((la:Int)=(d:Int)):=O
     clear i n m hl q j l p;generalize c[k]?.getD 0=x0 at *;go_enter func167,ntmps167
     go_wp2_with fail
     go_ret;refine⟨?_,BB _ w⟩;rw[g.o];first|rfl|(simp;done)
   . have g:=Y (Z9 (s:=s) (show c.length<=k by omega) o);have v:¬((la:Int)=(d:Int)):=O
     have W:¬((la:Int)=(f:Int)):=O
     clear i n m hl q j p x l;go_enter func167,ntmps167
     go_wp2_with fail
     go_ret;refine⟨?_,BB _ w⟩;rw[g.o];first|rfl|(simp;done)

