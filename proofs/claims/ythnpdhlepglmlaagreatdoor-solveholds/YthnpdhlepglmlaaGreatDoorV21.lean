import Derived.Test.YthnpdhlepglmlaaGreatDoorV18
set_option linter.all false
open Go.Value renaming slice->C,int->F,pointer->L
open Go renaming undef->E,World->I
open Go.IntKind renaming u64->G,i64->N
open Go.Proofs.Tryz renaming prog->M
set_option maxRecDepth 99999
set_option maxHeartbeats 0
namespace Go.Proofs.YthnpdhlepglmlaaGreatDoor
open List renaming replicate->yA
open Proofs.Tryz
open Go.RowKit Go.Shelf
attribute [local go_sem] Oper.semAt_some
section
def Bj:=@IntWalk.u64_in
def BV:=@IntWalk.i64_in
variable{c ds xs:m0}{B R R0 V base d0 d1 f g l len n q r ro s u0:Nat}{v:Value}{w:I}
theorem Vf(h:ds.length=n+2):val Y ds=(ds[n+1]?.getD 0*Y+ds[n]?.getD 0)*Y^n+val Y (ds.take n):=by
 have a:=JN Y ds (n+1);rw[Ai O,JN,Cy]at a;rw[a];grind
theorem kT(h:ds.length=n+3):val Y ds=((ds[n+2]?.getD 0*Y+ds[n+1]?.getD 0)*Y+ds[n]?.getD 0)*Y^n+val Y (ds.take n):=by
 have a:=JN Y ds (n+2);rw[Ai O,JN,JN,Cy,Cy]at a;rw[a];grind
theorem Y7(h:DO Y ds)(n:Nat):val Y (ds.take n)<Y^n:=by
 have:=YZ (h.take n);grind[AN,AB,Y]
def Ml{a:I}(h:Below B a w)(n:Nat):Below B a (w.drewN n):=h.trans ⟨J,J,J,Aa _,λ_ _=>rfl⟩
theorem Vg(a:u0<Y)(h:Ei q d0<r\/Ei q d0=r/\YO q d0<=u0):q*d0<=r*Y+u0:=by
 grind[Ei,YO,Y]
theorem kU(b:u0<Y)(h:¬(Ei q d0<r))(a:¬(Ei q d0=r/\YO q d0<=u0)):r*Y+u0<q*d0:=by
 grind[Ei,YO,Y]
theorem kV{u2 u1 E:Nat}(b:R=((u2*Y+u1)*Y+u0)*E+R0)(d:V=(d1*Y+d0)*E+f)(i:f<E)(e:Y<=2*d1)(g:d0<Y)(c:R<V*Y)(h:d1<=u2):Is R V (Y-1):=by
 have a:d0*E+f<Y*E:=by
  have:=Af E (show d0+1<=Y from g);grind
 refine fZ (d1:=d1) (E:=Y*E) (lo:=(u2-d1)*(Y*(Y*E))+(u1*Y+u0)*E+R0) (lo2:=d0*E+f) ?_ ?_ a e c Jg
 . obtain⟨t,rfl⟩:∃t,u2=d1+t:=⟨u2-d1,O⟩;rw[b,Nat.add_sub_cancel_left];grind
 . rw[d];grind
def kW{U E:Nat}(a:R=(U*Y+u0)*E+R0)(c:V=(d1*Y+d0)*E+f)(b:R0<E)(d:f<E)(e:Y<=2*d1)(hq:q<Y)(h:q=(U*Y+u0)/(d1*Y+d0)):Is R V q:=by
 rw[h];have hp:0<d1:=by unfold Y at e;omega
 have hb:=CI Y hp;exact fY a c b d (by rw[<-h];omega) O
def kX(l l1 l2:Nat)(h1:(l:Int)-1=l1)(h2:(l:Int)-2=l2)(ab c D H ca cb u2 u1 u0 d1 d0 R V:Nat)(w:I)(hl:l<=1099511627776)
(ka:w.cell? ⟨ab,c+l,none⟩=some (F G (u2:Nat)))(aj:w.cell? ⟨ab,c+l1,none⟩=some (F G (u1:Nat)))(ai:w.cell? ⟨ab,c+l2,none⟩=some (F G (u0:Nat)))
(kb:w.cell? ⟨D,H+l1,none⟩=some (F G (d1:Nat)))(az:w.cell? ⟨D,H+l2,none⟩=some (F G (d0:Nat)))(K:ab<w.heap.size)
(ah:u1<Y)(x:u0<Y)(T:d1<Y)(f:d0<Y)(W:0<d1)
(Q:Hid (d1<=u2->Is R V (Y-1)))(o:Hid (∀q:Nat,q<Y->q=((u2*Y+u1)*Y+u0)/(d1*Y+d0)->Is R V q)):
 Calls M 280 #[C (some ⟨ab,c,none⟩) (l+1) ca,C (some ⟨D,H,none⟩) l cb] w λe w'=>∃g,e=.returned (F G (g:Nat))/\g<Y/\Is R V g/\Bl w w':=by
 have i1:N.wrap ((l:Int)-1)=(l1:Int):=by rw[h1];exact BV _ O
 have i2:N.wrap ((l:Int)-2)=(l2:Int):=by rw[h2];exact BV _ O
 have j1:(l1:Int)<(l:Int):=O
 have j2:(l2:Int)<(l:Int):=O
 have j3:(l1:Int)<(l:Int)+1:=O
 have j4:(l2:Int)<(l:Int)+1:=O
 have i3:N.wrap (l1:Int)=(l1:Int):=BV _ O;have j7:(l:Int)<(l:Int)+1:=O
 have j8:(0:Int)<=(l:Int):=O
 have j9:(0:Int)<=(l1:Int):=O
 have ay:(0:Int)<=(l2:Int):=O
 go_enter func280,ntmps280
 go_upto_region 2 with fail
 go_quiet (fail)
 by_cases ae:d1<=u2
 . go_wp2_with fail
   go_ret;exact⟨Y-1,J,by unfold Y;omega,Q.o ae,Ml (BB _ w) _⟩
 . have t:=fV (B:=Y) (u:=u2*Y+u1) (u1:=u0) (d1:=d1) (d0:=d0) W T x (by
    have:=Af Y (show u2+1<=d1 by omega);rw[Ck,FY]at this;omega)
   have S:=Z λV=>VJ u2 u1 d1 O ah T V;have Qf:=t.2.2.1;have Qe:=t.2.2.2;have b:=Z t;clear t Q;generalize hX:(u2*Y+u1)/d1=q0 at *;generalize hY:(u2*Y+u1)%d1=r0 at *;generalize hZ:u2*Y+u1=U at *;clear hX hY hZ;go_wp2_with fail
   have hq:Bl w (w.drewN (nq+1)):=Ml (BB _ w) _;go_region_held3 (λw'=>w'.cell? ⟨ab,c+l,none⟩=some (F G (u2:Nat))/\w'.cell? ⟨ab,c+l1,none⟩=some (F G (u1:Nat))) (refine⟨?_,?_⟩<;>(first|(go_keep;done)|(simp[*];done)))
    (first|(go_at_call 279;refine(S.o _).mono ?_;rintro e w1 ⟨rfl,v⟩;have bj:=(v.cell (p:=⟨ab,c+l,none⟩) (show ab<w.heap.size from K)).trans ka;have bi:=(v.cell (p:=⟨ab,c+l1,none⟩) (show ab<w.heap.size from K)).trans aj;have bg:=(v.cell (p:=⟨ab,c+l2,none⟩) (show ab<w.heap.size from K)).trans ai))
   have hq:Bl w w1:=Bt hq v;go_wp2_with fail
   go_loopw [8,9] (λP rv wr=>∃(q r:Nat),P=F G (q:Nat)/\rv=F G (r:Nat)/\q<Y/\r<Y/\Hid (OE Y U u0 d1 d0 q r)/\wr=w1)
    (λP _ _=>(intOf P).toNat)
   case atStart=>exact⟨q0,r0,J,J,Qf,Qe,b,J⟩
   case round=>
    clear S b;obtain⟨q,r,rfl,rfl,a,aq,b,rfl⟩:=hrel;have d:0<d1*Y:=DG W uo;by_cases c1:Ei q d0<r
    . have j:=Z (o.o q a (QO b.o.1 b.o.2.1 d (Vg x (An c1))));clear d;go_wp2_with(first
       |(go_at_call 267;refine(Kf _ _ a f _).mono ?_;rintro e w' ⟨rfl,rfl⟩))
      go_ret;exact⟨q,J,a,j.o,hq⟩
    . by_cases c2:Ei q d0=r/\YO q d0<=u0
      . have j:=Z (o.o q a (QO b.o.1 b.o.2.1 d (Vg x (Ap c2))));obtain⟨c2,c3⟩:=c2;subst c2;clear d;go_wp2_with(first
         |(go_at_call 267;refine(Kf _ _ a f _).mono ?_;rintro e w' ⟨rfl,rfl⟩))
        go_ret;exact⟨q,J,a,j.o,hq⟩
      . obtain⟨g1,k,m,g4⟩:=fW b.o d (kU x c1 c2);obtain⟨p,hp⟩:=ex (q-1:Nat);rw[hp]at k m g4;have am:(q:Int)-1=(p:Int):=O
        have an:p<q:=O
        have ap:G.wrap (p:Int)=(p:Int):=by rw[BP];unfold Y at a;omega
        clear hp g1 b;have A:=ON r d1;have y:=Z (o.o p);clear o;by_cases i:r+d1<Y
        . have X:Y6 r d1 0=r+d1:=by unfold Y6;rw[Cr,CH i]
          have n:XM r d1 0=0:=by unfold XM;rw[Cr,CB i]
          rw[X,n]at A;have z:=Z (show OE Y U u0 d1 d0 p (r+d1)from⟨k,m,g4,i⟩);clear k m X n d y;obtain⟨s,hs⟩:=ex (r+d1);rw[hs]at A z i;clear hs;by_cases c3:Ei q d0=r
          . have c4:¬(YO q d0<=u0):=λh=>c2 ⟨c3,h⟩;clear c2;go_wp2_with(first
             |(go_at_call 267;refine(Kf _ _ a f _).mono ?_;rintro e w' ⟨rfl,rfl⟩))
            exact⟨⟨p,s,J,J,g4,i,z,by first|trivial|rfl⟩,by simp[intOf];omega⟩
          . clear c2;go_wp2_with(first
             |(go_at_call 267;refine(Kf _ _ a f _).mono ?_;rintro e w' ⟨rfl,rfl⟩))
            exact⟨⟨p,s,J,J,g4,i,z,by first|trivial|rfl⟩,by simp[intOf];omega⟩
        . have j:=Z (y.o g4 (fX k m g4 f d O));have n:XM r d1 0=1:=by unfold XM;unfold Y at *;omega
          rw[n]at A;generalize Y6 r d1 0=s at *;clear k m n d y i;by_cases c3:Ei q d0=r
          . have c4:¬(YO q d0<=u0):=λh=>c2 ⟨c3,h⟩;clear c2;go_wp2_with(first
             |(go_at_call 267;refine(Kf _ _ a f _).mono ?_;rintro e w' ⟨rfl,rfl⟩))
            go_ret;exact⟨p,J,g4,j.o,hq⟩
          . clear c2;go_wp2_with(first
             |(go_at_call 267;refine(Kf _ _ a f _).mono ?_;rintro e w' ⟨rfl,rfl⟩))
            go_ret;exact⟨p,J,g4,j.o,hq⟩
def kY(a b:om)(n ca cb:Nat)(i bs:m0)(w:I)(D:Row G w (C a (n+3) ca) i)(H:Row G w (C b (n+2) cb) bs)(l:DO Y i)(f:DO Y bs)
(j:Y<=2*bs[n+1]?.getD 0)(u:val Y i<val Y bs*Y):
 Calls M 280 #[C a (n+3) ca,C b (n+2) cb] w λe w'=>∃g,e=.returned (F G (g:Nat))/\g<Y/\Is (val Y i) (val Y bs) g/\Bl w w':=by
 obtain⟨x,P,T,R,k⟩:=JM D;obtain⟨y,Q,U,S,p⟩:=JM H;obtain⟨ab,r,rfl,v,ka⟩:=k (n+2) O;obtain⟨_,_,c,_,A⟩:=k (n+1) O;cases c;obtain⟨_,_,c,_,z⟩:=k n O;cases c;obtain⟨s,t,rfl,K,kb⟩:=p (n+1) O;obtain⟨_,_,c,_,B⟩:=p n O;cases c;have d:0<Y:=by unfold Y;omega
 have m:=kT x.symm;have o:=Vf y.symm;exact kX (n+2) (n+1) n O O ab r s t ca cb _ _ _ _ _ _ _ w O ka A z kb B v (l.getD d _) (l.getD d _) (f.getD d _) (f.getD d _) (by unfold Y at j;omega)
  (λh=>kV m o (Y7 f n) j (f.getD d _) u h) λq hq h=>kW m o (Y7 l n) (Y7 f n) j hq h
def DR.win{W:I}{b:Nat}(h:DR W b xs)(off len cap:Nat)(a:off+len<=xs.length)(c:len<=cap)(d:cap<=9223372036854775807)(e:len<=1099511627776):Row G W (C (some ⟨b,off,none⟩) len cap) ((xs.drop off).take len):=
 h.row off len cap a c d e
def kZ{q:m0}(hq:q.length=len)(h:ro+len<=xs.length):((mid xs ro len q).drop ro).take len=q:=by
 rw[mid,List.drop_append_of_le_length (by rw[AG];omega),Cc (by rw[AG];omega),As,Cf O,Ai O]
def kl{p q:m0}(hp:p.length=len)(h:ro+len<=xs.length):mid (mid xs ro len p) ro len q=mid xs ro len q:=by
 have a:(xs.take ro).length=ro:=by rw[AG];omega
 rw[mid,mid,mid,Cf O,Ai O,List.drop_append,a,show ro+len-ro=len from by omega,Cc O,As,List.drop_append,hp,Cz,Cc O,As,Cm]
def kr{q:m0}(a:DO Y xs)(hq:DO Y q):DO Y (mid xs ro len q):=by
 intro x b;rw[mid]at b;rcases CW.1 b with h|h
 . exact(a.take ro) x h
 . rcases CW.1 h with h|h
   . exact hq x h
   . exact(a.drop _) x h
def ks(d ro n cap:Nat)(xs:m0)(a:om)(cb:Nat)(bs:m0)(w:I)
(hA:DR w d xs)(u:DO Y xs)(W:ro+(n+3)<=xs.length)(t:n+3<=cap)(ae:cap<=9223372036854775807)(hn:n+3<=1099511627776)(hb:Row G w (C a (n+2) cb) bs)(k:DO Y bs)(T:∀p,a=some p->0<n+2->p.block≠d)
(S:Y<=2*bs[n+1]?.getD 0)(R:val Y ((xs.drop ro).take (n+3))<val Y bs*Y):
 Calls M 258 #[C (some ⟨d,ro,none⟩) (n+3) cap,C a (n+2) cb] w λe w'=>
  ∃q,e=.returned (F G ((val Y ((xs.drop ro).take (n+3))/val Y bs:Nat):Int))/\(q.length=n+3/\DO Y q/\val Y q=val Y ((xs.drop ro).take (n+3))%val Y bs)/\DR w' d (mid xs ro (n+3) q)/\w.grownBy w' (some d):=by
 have B:=hA.win ro (n+3) cap W t ae hn;have x:=Z (kY _ a n cap cb _ bs w B hb ((u.drop ro).take _) k S R);have r:=(JM hb).1;have z:val Y bs<Y^(n+2):=by have:=YZ k;rwa[<-r]at this
 have Qk:val Y bs<Y^(n+3):=AN z (AB uo O);obtain⟨v,o,y,H,X,i,Qj⟩:=KB hb T u k hA W r;clear B S R r z Qk hb T u k hA;go_enter func258,ntmps258
 go_upto_region 2 with(go_at_call 280;refine x.o.mono ?_;rintro e w1 ⟨g,rfl,hg,Q,j⟩;have m:=Z Q;clear Q x)
 have D:=Z (jV d ro (n+2) cap xs a cb bs g w1 (X.o.below j) y.o i.o t (Row.below v.o j) H.o o.o hg);go_upto_if 13 with(go_at_call 281;refine D.o.mono ?_;rintro e w2 ⟨c,q,rfl,⟨hc,V⟩,hA2,s⟩;have b:=Z V;clear V D)
 obtain rfl|rfl:c=0\/c=1:=O
 . have l:=Z (fe m.o (by have:=b.o.2.2;rw[C8,Cr]at this;exact this));have HE:=Z l.o.1;have HM:=Z l.o.2;clear l m;go_wp2_with fail
   go_ret;exact⟨q,by rw[<-HE.o];rfl,⟨b.o.1,b.o.2.1,HM.o⟩,hA2,Jl (YC j _) s⟩
 . have A:=Z (Q9 d ro (n+3) cap (mid xs ro (n+3) q) a (n+2) cb bs w2 hA2 (kr y.o b.o.2.1) (by rw[Yg b.o.1 i.o];exact i.o) t O O (Row.grown (Row.below v.o j) s o.o) H.o o.o);have Ql:1<=g:=by
    rcases A5 g with h|h
    . exfalso
      have h1:=b.o.2.2;have h2:=YZ b.o.2.1;rw[b.o.1]at h2;rw[h,C8,Nat.mul_one]at h1;omega
    . exact h
   obtain⟨p,hp⟩:=ex (g-1:Nat);have ai:(g:Int)-1=(p:Int):=O
   have aj:G.wrap (p:Int)=(p:Int):=by rw[BP];unfold Y at hg;omega
   have HP:=Z hp;clear hp Ql;go_wp2_with(go_at_call 221;refine A.o.mono ?_;rintro e w3 ⟨c3,q3,rfl,U,hA3,ah⟩;have f:=Z U;clear U A)
   go_ret;have hk:=fu m.o (P:=Y^(n+3)) (by have:=b.o.2.2;rw[Nat.mul_one]at this;exact this) (by have:=YZ b.o.2.1;rw[b.o.1]at this;exact this) (q2:=val Y q3) (c2:=c3)
    (by
     have K:=f.o.2.2.2;rw[kZ b.o.1 i.o,Ai (show bs.length<=n+3 by rw[<-Qj.o];omega)]at K;exact K)
    (by have:=YZ f.o.2.1;rw[f.o.1]at this;exact this) f.o.2.2.1
   rw[HP.o]at hk;rw[kl b.o.1 i.o]at hA3;exact⟨q3,by rw[<-hk.2.1];rfl,⟨f.o.1,f.o.2.1,hk.2.2⟩,hA3,Jl (Jl (YC j _) s) ah⟩
def Vh{bs:m0}{d L:Nat}(i:DO Y bs)(hl:bs.length=l+2)(f:bs[l+1]?.getD 0=d)(c:2^(L-1)<=d)(e:d<2^L)(k:1<=L)(j:L<=64)(hs:s=64-L):
 val Y bs*2^s<Y^(l+2)/\2^63*Y^(l+1)<=val Y bs*2^s:=by
 have hv:val Y bs=val Y (bs.take (l+1))+Y^(l+1)*d:=by
  have h:=JN Y bs (l+1);rwa[Ai O,f]at h
 have m:=Y7 i (l+1);have p1:2^L*2^s=Y:=by rw[<-C9,LE];congr 1;omega
 have g:2^(L-1)*2^s=2^63:=by rw[<-C9];congr 1;omega
 constructor
 . have b:val Y bs+1<=Y^(l+1)*2^L:=by
    have:=Am (Y^(l+1)) (show d+1<=2^L from e);rw[Fm,Nat.mul_one]at this;omega
   have a:=Af (2^s) b;rw[CJ,p1,<-Cy,Ck,FY]at a;exact AN (Nat.lt_add_of_pos_right (Cp s)) a
 . have b:Y^(l+1)*2^(L-1)<=val Y bs:=by
    have:=Am (Y^(l+1)) c;omega
   have a:=Af (2^s) b;rw[CJ,g,A4]at a;exact a
def ku(g:DO Y c)(hl:c.length=l+3)(hv:val Y c=V)(b:V<Y^(l+2))(i:2^63*Y^(l+1)<=V):
 val Y (c.take (l+2))=V/\Y<=2*(c.take (l+2))[l+1]?.getD 0:=by
 have f:=RJ (B:=Y) (k:=l+2) (D:=c) O (by rw[hv];exact b);have a:val Y (c.take (l+2))=V:=by
  have h:=val_append Y (c.take (l+2)) (c.drop (l+2));rw[A6,f,C8,Cr,hv]at h;exact h.symm
 refine⟨a,?_⟩;rw[FH O];have d:=JN Y c (l+1);have j:=Y7 g (l+1);rw[show l+1+1=l+2 from J,a]at d;rcases Ca (c[l+1]?.getD 0) (2^63)with h|h
 . exfalso
   have e:=Am (Y^(l+1)) (show c[l+1]?.getD 0+1<=2^63 from h);rw[Fm,Nat.mul_one,A4 _ (2^63)]at e;omega
 . rw[LE];omega
def kw{m la:Nat}(c:m<Y^la)(hn:Y^(l+1)<=n)(hl:l+1<=la):m*2^s<n*2^s*Y^(la-(l+1)):=by
 have b:Y^(l+1)*Y^(la-(l+1))=Y^la:=by rw[<-C9];congr 1;omega
 have a:=Af (Y^(la-(l+1))) hn;rw[b]at a;rw[Nat.mul_right_comm];exact Nat.mul_lt_mul_of_pos_right (AN c a) (Cp s)
def J7{P:Program}{ops:Array Oper}{Q:Exit->Act->I->Prop}{i:Nat}{o:Oper}{K:Act->I->Prop}{a:Act}(c:ops[i]?=some o)(b:o.guard=none)
(h:∀K':Act->I->Prop,(∀a w,K a w->K' a w)->o.wp P a w K' Q):wpOp P ops Q i K a w:=by
 unfold wpOp;rw[c];simp only[Region.wanted,b,if_true];exact An (h K λ_ _ h=>h)
def Ed{p q:Prop}(k:q)(h:Hid q->p:=by intro x;refine J7 rfl rfl λK a=>?_;go_simp;refine a _ _ ?_;(repeat apply Exists.intro);refine ⟨rfl,?_⟩;exact x.o):p:=h k
def IU(V:I)(base:Nat)(v:Value)(g len b:Nat)(a:m0):Prop:=
 v=C (some ⟨g,0,none⟩) len len/\DR V g a/\a.length=len/\DO Y a/\val Y a=b/\base<=g
def IU.below{V V':I}{base g len b:Nat}{v:Value}{a:m0}(h:IU V base v g len b a)(hb:Bl V V'):IU V' base v g len b a:=
 ⟨h.1,h.2.1.below hb,h.2.2⟩
def IU.box{V:I}{u:Value}(h:IU V base v g len f c)(hl:0<len)(d:Boxed V B 46 (C none 0 0)):IU (V.setCell ⟨B,0,none⟩ u) base v g len f c:=
 ⟨h.1,h.2.1.far (by
  intro e;simp only at e;obtain⟨i,b⟩:=h.2.1;rw[e,show V.heap[B]?=_ from d]at b;obtain⟨z,a,rfl⟩:∃z a,c=z::a:=by
   cases c with
    |nil=>have:=h.2.2.1;simp at this;omega
    |cons z a=>exact⟨z,a,J⟩
  simp[cellsOf]at b) u,h.2.2⟩
def IU.ne_box{V:I}{b:om}{k i:Nat}(h:IU V base v g len f c)(hl:0<len)(j:Boxed V B 46 (C b k i)):g≠B:=by
 intro e;obtain⟨l,d⟩:=h.2.1;rw[e,show V.heap[B]?=_ from j]at d;obtain⟨z,a,rfl⟩:∃z a,c=z::a:=by
  cases c with
  |nil=>have:=h.2.2.1;simp at this;omega
  |cons z a=>exact⟨z,a,J⟩
 simp[cellsOf]at d
end
section
structure SplC where
 w:World
 bs:Value
 rs:Value
 ds:Value
 qs:Value
 B9:Nat
 B10:Nat
 B11:Nat
 B12:Nat
 gR:Nat
 gZ:Nat
 gQ:Nat
 Zb:m0
structure SplC.Apart(c:SplC):Prop where
 r0:c.gR≠c.w.heap.size
 r9:c.gR≠c.B9
 r10:c.gR≠c.B10
 r11:c.gR≠c.B11
 r12:c.gR≠c.B12
 rz:c.gR≠c.gZ
 rq:c.gR≠c.gQ
 q0:c.gQ≠c.w.heap.size
 q9:c.gQ≠c.B9
 q10:c.gQ≠c.B10
 q11:c.gQ≠c.B11
 q12:c.gQ≠c.B12
 qz:c.gQ≠c.gZ
 lr:c.w.heap.size<=c.gR
 lq:c.w.heap.size<=c.gQ
structure SplC.Holds(c:SplC)(W:World):Prop where
 b0:Boxed W c.w.heap.size 46 c.bs
 b9:Boxed W c.B9 46 c.rs
 b10:Boxed W c.B10 46 c.ds
 b11:Boxed W c.B11 46 c.qs
 b12:Boxed W c.B12 46 c.qs
 z:DR W c.gZ c.Zb
 B:Below c.w.heap.size c.w W
theorem SplC.Holds.kept{c:SplC}{W W':I}{g:Nat}(h:c.Holds W)(hg:W.grownBy W' (some g))(a:g≠c.w.heap.size)(i:g≠c.B9)(b:g≠c.B10)(d:g≠c.B11)(f:g≠c.B12)(j:g≠c.gZ)(hl:c.w.heap.size<=g):c.Holds W':=
 ⟨h.b0.kept hg (λe=>by grind),h.b9.kept hg (λe=>by grind),h.b10.kept hg (λe=>by grind),h.b11.kept hg (λe=>by grind),
  h.b12.kept hg (λe=>by grind),h.z.kept hg (λe=>by grind),below_grown h.B hg hl⟩
def SplC.Holds.drew{c:SplC}{W:I}(h:c.Holds W):c.Holds W.drew:=
 ⟨h.b0,h.b9,h.b10,h.b11,h.b12,h.z,h.B.drew⟩
variable{f:Bool}{D D' Q Q':m0}{B:Nat}{W W' W0:I}
def SplC.own(c:SplC)(b:c.w.heap.size<=B):OwnFrom B (λ(_:Nat) W=>c.Holds W):=λk W W' row hs hg a=>
 ⟨LG hs.b0 hg a,LG hs.b9 hg a,LG hs.b10 hg a,LG hs.b11 hg a,LG hs.b12 hg a,Mk hs.z hg a,VU b k W W' row hs.B hg a⟩
def Vi(c:SplC)(R0 V n K:Nat)(k:Nat)(W:I):Prop:=
 c.Holds W/\∃D Q,DR W c.gR D/\DR W c.gQ Q/\Hw R0 V n K (K-k) D Q
def ky(c:SplC)(R0 V n K:Nat)(f:c.w.heap.size<=B):OwnFrom B (Vi c R0 V n K):=
 BN (c.own f) (λ_ _ _ _ hs hg a=>by obtain⟨D,Q,b,d,e⟩:=hs;exact⟨D,Q,Mk b hg a,Mk d hg a,e⟩)
structure SplM(c:SplC)(W0:World)(D D' Q Q':m0)(e f:Bool)(W:World):Prop where
 k:KeepsOthers W0 W
 h:c.Holds W
 r:DR W c.gR (bif e then D' else D)
 q:DR W c.gQ (bif f then Q' else Q)
def SplM.drew{c:SplC}{W0 W:I}{D D' Q Q':m0}{e f:Bool}(h:SplM c W0 D D' Q Q' e f W):SplM c W0 D D' Q Q' e f W.drew:=
 ⟨h.k.trans (KeepsOthers.drew W),h.h.drew,h.r,h.q⟩
def kz{g:Nat}{xs:m0}(hA:DR W g xs)(hg:W.grownBy W' (some g)):KeepsOthers W W':=
 KeepsOthers.of_grownBy hg λj o a b=>by cases a;exact hA.other b
def SplM.any{c:SplC}(h:SplM c W0 D D' Q Q' false f W)(a:m0):SplM c W0 D a Q Q' false f W:=⟨h.k,h.h,h.r,h.q⟩
def SplM.split{c:SplC}(h:SplM c W0 D D' Q Q' false f W)(a:c.Apart)(hg:W.grownBy W' (some c.gR))(hA:DR W' c.gR D'):SplM c W0 D D' Q Q' true f W':=
 ⟨h.k.trans (kz h.r hg),h.h.kept hg a.r0 a.r9 a.r10 a.r11 a.r12 a.rz a.lr,hA,h.q.kept hg λe=>by injection e with e;exact a.rq e.symm⟩
theorem SplM.store{c:SplC}{e:Bool}(h:SplM c W0 D D' Q Q' e false W)(a:c.Apart){j v:Nat}(d:Q.set j v=Q'):SplM c W0 D D' Q Q' e true (W.setCell ⟨c.gQ,j,none⟩ (F G (v:Nat))):=
 have b:=J2 W c.gQ j (F G (v:Nat))
 ⟨h.k.trans (BL _ _ _),h.h.kept b a.q0 a.q9 a.q10 a.q11 a.q12 a.qz a.lq,h.r.kept b (λe=>by injection e with e;exact a.rq e),by have:=h.q.set j v;grind⟩
def lA(a:om)(la ca:Nat)(r t l lb l1 cb m n d s:Nat)(w:I)(iw:lb=l+2)(h2:(lb:Int)-1=l1)(jc:r<w.heap.size)
(ra:Row G w (C a la ca) (Jh Y m))(rb:Row G w (C (some ⟨r,t,none⟩) lb cb) (Jh Y n))
(kb:w.cell? ⟨r,t+l1,none⟩=some (F G (d:Nat)))(jd:d<Y)(hs:s<=63)(HS:Hid ((64:Int)-(Lib.bitLen d:Int)=(s:Int)))(jo:lb<=la)(je:la<1099511627776)
(ii:Hid (n*2^s<Y^(l+2)))(ij:Hid (2^63*Y^(l+1)<=n*2^s))(jb:Hid (m*2^s<n*2^s*Y^(la-(l+1)))):
 Calls M 225 #[C a la ca,C (some ⟨r,t,none⟩) lb cb] w λe w'=>∃u v,e=.returned (.tuple #[u,v])/\UN w' u (m/n)/\UN w' v (m%n)/\Bl w w':=by
 have Qc:=Z iw;have i1:N.wrap ((lb:Int)-1)=(l1:Int):=by rw[h2];exact BV _ O
 have i3:N.wrap (l1:Int)=(l1:Int):=BV _ O;have j1:(l1:Int)<(lb:Int):=O
 have j9:(0:Int)<=(l1:Int):=O
 have jp:¬(lb=1):=O
 have Qg:Bl w (w.alloc (.cells #[C (some ⟨r,t,none⟩) lb cb] 46)):=Ba w _;have Qf:=BH w 46 (C (some ⟨r,t,none⟩) lb cb);obtain⟨W0,dx⟩:=ex (w.alloc (.cells #[C (some ⟨r,t,none⟩) lb cb] 46));have Qs:W0.heap.size=w.heap.size+1:=by rw[<-dx];simp
 rw[dx]at Qg Qf;have Uq:=Qf.cell;have Uz:=(Qg.cell (p:=⟨r,t+l1,none⟩) jc).trans kb;have Qr:=Z λ(V:I) (h:Bl W0 V)=>VT a la ca (Jh Y m) s V hs (Row.below (Row.below ra Qg) h) (JA Jg m) je;have Qp:=Z λ(V:I) (h:Bl W0 V)=>VT (some ⟨r,t,none⟩) lb cb (Jh Y n) s V hs (Row.below (Row.below rb Qg) h) (JA Jg n) O;rw[Jz Jg]at Qr Qp;have Ub:=Z dx;have Ua:=Z (show ∀V:I,Calls M 254 #[F G (d:Nat)] V λe w'=>e=.returned (F N (s:Nat))/\w'=V from λV=>by
  have h:=Tryz.bits_LeadingZeros64 (d:Nat) V O (by unfold Y at jd;omega);rw[Fo,HS.o]at h;exact h)
 have ju:G.wrap (s:Int)=(s:Int):=Bj _ O;have Ur:=Z Qs;clear dx iw ra rb kb HS;refine(BJ (n:=3)).1 ?_;refine BO func225 J trivial ?_ J;simp only[ntmps225,Aw,Al,AX,Nat.reduceAdd,Nat.reduceSub,Az,AA,AU,AJ,As,AK];refine wpIn_wide.2 ?_;go_upto_region 1 with fail
 rw[Ub.o];clear Ub Qs;go_upto_region 8 with(go_at_call 254;refine(Ua.o _).mono ?_;rintro e w' ⟨rfl,e1⟩;have e2:=e1.symm;subst e2;clear e1)
 refine Xz Di [[],[],[0,1],[],[],[3,4,2],[],[6],[5,7],[],[],[9,2,5,0,1,2,9,10],[10,8,11,0,1,2,3,4,5,6,7,8,9,10,11]] v0 DK
  (λD ac V=>∃t9 az bg bi bj bm bn di bu bz dj:Value,ac={ tmps:=#[C a la ca,C (some ⟨r,t,none⟩) lb cb,E,L (some ⟨w.heap.size,0,none⟩),C none 0 0,C none 0 0,E,E,F G (s:Nat),t9,az,E,E,C a la ca,F N (la:Nat),C (some ⟨r,t,none⟩) lb cb,F N (lb:Nat),.bool false,E,E,C (some ⟨r,t,none⟩) lb cb,F N (lb:Nat),.bool false,E,E,E,E,E,E,E,E,E,E,E,E,C (some ⟨r,t,none⟩) lb cb,C (some ⟨r,t,none⟩) lb cb,F N (lb:Nat),F N (l1:Nat),L (some ⟨r,t+l1,none⟩),F G (d:Nat),F N (s:Nat),F G (s:Nat),bg,bi,bj,bm,bn,di,bu,bz,dj,E,E,E,E,E,E,E,E,E,E,E,E,E,E,E,E,E,E,E,E,E,E,E,E,E,E,E,E],defers:=[] }/\Hid (D 0=true->bg=C a la ca)/\Hid (D 1=true->bi=F G (s:Nat))/\Hid (D 2=true->∃g cj,IU V W0.heap.size bj g (la+1) (m*2^s) cj)/\Hid (D 3=true->bm=C (some ⟨r,t,none⟩) lb cb)/\Hid (D 4=true->bn=F G (s:Nat))/\Hid (D 5=true->∃gR Zr gZ Zb,IU V W0.heap.size bj gR (la+1) (m*2^s) Zr/\IU V W0.heap.size di gZ (lb+1) (n*2^s) Zb/\gR≠gZ)/\Hid (D 6=true->bu=C (some ⟨r,t,none⟩) lb cb)/\Hid (D 7=true->bz=F N (lb:Nat))/\Hid (D 8=true->∃gZ,di=C (some ⟨gZ,0,none⟩) (lb+1) (lb+1)/\dj=C (some ⟨gZ,0,none⟩) lb (lb+1))/\Hid (D 9=true->D 11=false->∃B,t9=L (some ⟨B,0,none⟩)/\Boxed V B 46 (C none 0 0)/\W0.heap.size<=B)/\Hid (D 10=true->D 12=false->∃B,az=L (some ⟨B,0,none⟩)/\Boxed V B 46 (C none 0 0)/\W0.heap.size<=B)/\Hid (D 9=true->D 10=true->t9≠az)/\Hid (D 11=true->∃B,t9=L (some ⟨B,0,none⟩)/\Boxed V B 46 bj/\W0.heap.size<=B)/\Hid (D 12=true->∃B,az=L (some ⟨B,0,none⟩)/\Boxed V B 46 dj/\W0.heap.size<=B)/\Bl W0 V)
  (E8 ⟨_,_,_,J,Z Dg,Z Dg,Z Dg,Z Dg,Z Dg,Z Dg,Z Dg,Z Dg,Z Dg,Z Dg,Z Dg,Z Dg,Z Dg,Z Dg,(BB _ W0).drew⟩) ?step8 ?fin8
 case step8=>
  rintro D a2 V i ds ah gy b ai ⟨t9,az,bg,bi,bj,bm,bn,di,bu,bz,dj,rfl,g0,A,g2,P,g4,o,R,S,T,z,x,gx,X,ae,hq⟩;have Qx:i<13:=(AF.1 gy).1;obtain rfl|rfl|rfl|rfl|rfl|rfl|rfl|rfl|rfl|rfl|rfl|rfl|rfl:=Px i O
  all_goals
   simp only[CF,Ct,Cn]at gy;subst gy;clear Qx
  . clear b ah;refine Ed ?_;exact⟨Z λ_=>rfl,A,g2,P,g4,o,R,S,T,z,x,gx,X,ae,hq⟩
  . clear b ah;refine Ed ?_;exact⟨g0,Z λ_=>rfl,g2,P,g4,o,R,S,T,z,x,gx,X,ae,hq⟩
  . have Ut:D 5=false:=Du ah ai;have Qb:D 11=false:=Du ah ai;have Qa:D 12=false:=Du ah ai;obtain rfl:=g0.o (b 0 DI);obtain rfl:=A.o (b 1 DI);clear b ah;refine J7 J J λK hK=>?_;go_simp;go_wp2_with(go_at_call 257;refine(Qr.o _ hq).mono ?_;rintro e w5 ⟨o,Z5,rfl,⟨gr,gu,gv⟩,hA5,df,ap⟩)
    exact E8 ⟨_,_,_,J,Z λ_=>rfl,Z λ_=>rfl,Z λ_=>⟨o,Z5,J,hA5,gr,gu,gv,Ae hq.size df⟩,P,g4,Z (λh=>by simp[Ut]at h),R,S,T,Z (λh h2=>by obtain⟨B,e,q,q2⟩:=z.o h h2;exact⟨B,e,boxed_below q ap,q2⟩),Z (λh h2=>by obtain⟨B,e,q,q2⟩:=x.o h h2;exact⟨B,e,boxed_below q ap,q2⟩),gx,Z (λh=>by simp[Qb]at h),Z (λh=>by simp[Qa]at h),Bt hq ap⟩
  . have k0:=(boxed_below Qf hq).cell;clear b ah;refine Ed ?_;exact⟨g0,A,g2,Z λ_=>rfl,g4,o,R,S,T,z,x,gx,X,ae,hq⟩
  . clear b ah;refine Ed ?_;exact⟨g0,A,g2,P,Z λ_=>rfl,o,R,S,T,z,x,gx,X,ae,hq⟩
  . have Uo:D 8=false:=Du ah ai;have Qb:D 11=false:=Du ah ai;have Qa:D 12=false:=Du ah ai;obtain rfl:=P.o (b 3 DI);obtain rfl:=g4.o (b 4 DI);obtain⟨gR,Zr,hR⟩:=g2.o (b 2 DI);have jl:=hR.2.1.lt;clear b ah;refine J7 J J λK hK=>?_;go_simp;go_wp2_with(go_at_call 257;refine(Qp.o _ hq).mono ?_;rintro e w5 ⟨o,Z5,rfl,⟨gr,gu,gv⟩,hA5,df,ap⟩)
    exact⟨_,_,_,_,_,_,_,_,_,_,_,J,g0,A,Z λ_=>⟨gR,Zr,hR.below ap⟩,Z λ_=>rfl,Z λ_=>rfl,Z λ_=>⟨gR,Zr,o,Z5,hR.below ap,⟨J,hA5,gr,gu,gv,Ae hq.size df⟩,O⟩,R,S,Z (λh=>by simp[Uo]at h),Z (λh h2=>by obtain⟨B,e,q,q2⟩:=z.o h h2;exact⟨B,e,boxed_below q ap,q2⟩),Z (λh h2=>by obtain⟨B,e,q,q2⟩:=x.o h h2;exact⟨B,e,boxed_below q ap,q2⟩),gx,Z (λh=>by simp[Qb]at h),Z (λh=>by simp[Qa]at h),Bt hq ap⟩
  . have k0:=(boxed_below Qf hq).cell;clear b ah;refine Ed ?_;exact⟨g0,A,g2,P,g4,o,Z λ_=>rfl,S,T,z,x,gx,X,ae,hq⟩
  . obtain rfl:=R.o (b 6 DI);clear b ah;refine Ed ?_;exact⟨g0,A,g2,P,g4,o,Z λ_=>rfl,Z λ_=>rfl,T,z,x,gx,X,ae,hq⟩
  . have Qa:D 12=false:=Du ah ai;obtain⟨gR,Zr,gZ,Zb,hR,hZ,ay⟩:=o.o (b 5 DI);obtain rfl:=hZ.1;obtain rfl:=S.o (b 7 DI);have b1:(0:Int)<=(lb:Int):=O
    have b2:(lb:Int)<=(lb:Int)+1:=O
    clear b ah;refine Ed ?_;exact⟨g0,A,g2,P,g4,Z λ_=>⟨gR,Zr,gZ,Zb,hR,hZ,ay⟩,R,Z λ_=>rfl,Z λ_=>⟨gZ,J,J⟩,z,x,gx,X,Z (λh=>by simp[Qa]at h),hq⟩
  . have Qb:D 11=false:=Du ah ai;have Qa:D 12=false:=Du ah ai;clear b ah;refine Ed ?_;exact⟨g0,A,Z (λh=>by obtain⟨g,cj,q⟩:=g2.o h;exact⟨g,cj,q.below (Ba V _)⟩),P,g4,Z (λh=>by obtain⟨gR,Zr,gZ,Zb,q1,q2,q3⟩:=o.o h;exact⟨gR,Zr,gZ,Zb,q1.below (Ba V _),q2.below (Ba V _),q3⟩),R,S,T,Z λ_ _=>⟨_,J,BH _ _ _,hq.size⟩,Z (λh h2=>by obtain⟨B,e,q,q2⟩:=x.o h h2;exact⟨B,e,q.alloc _,q2⟩),Z (λ_ h e=>by obtain⟨B,e2,q,q2⟩:=x.o (by simpa using h) Qa;have:=q.lt;rw[e2]at e;cases e;omega),Z (λh=>by simp[Qb]at h),Z (λh=>by simp[Qa]at h),hq.alloc hq.size _⟩
  . have Qb:D 11=false:=Du ah ai;have Qa:D 12=false:=Du ah ai;clear b ah;refine Ed ?_;exact⟨g0,A,Z (λh=>by obtain⟨g,cj,q⟩:=g2.o h;exact⟨g,cj,q.below (Ba V _)⟩),P,g4,Z (λh=>by obtain⟨gR,Zr,gZ,Zb,q1,q2,q3⟩:=o.o h;exact⟨gR,Zr,gZ,Zb,q1.below (Ba V _),q2.below (Ba V _),q3⟩),R,S,T,Z (λh h2=>by obtain⟨B,e,q,q2⟩:=z.o h h2;exact⟨B,e,q.alloc _,q2⟩),Z λ_ _=>⟨_,J,BH _ _ _,hq.size⟩,Z (λh _ e=>by obtain⟨B,e2,q,q2⟩:=z.o (by simpa using h) Qb;have:=q.lt;rw[e2]at e;cases e;omega),Z (λh=>by simp[Qb]at h),Z (λh=>by simp[Qa]at h),hq.alloc hq.size _⟩
  . have Qa:D 12=false:=Du ah ai;obtain⟨B,rfl,am,dh⟩:=z.o (b 9 DI) ai;obtain⟨gR,Zr,gZ,Zb,hR,hZ,ay⟩:=o.o (b 5 DI);have k0:=am.cell;have f0:=am.frozen;obtain⟨B2,cn,gw,ig⟩:=x.o (b 10 DI) Qa;have Qt:B≠B2:=λe=>gx.o (b 9 DI) (b 10 DI) (by rw[cn,e]);obtain rfl:=cn;obtain rfl:=hR.1;clear z X;clear b ah;refine Ed ?_;exact⟨g0,A,Z λ_=>⟨gR,Zr,hR.box O am⟩,P,g4,Z λ_=>⟨gR,Zr,gZ,Zb,hR.box O am,hZ.box O am,ay⟩,R,S,T,Z (λ_ h=>by simp at h),Z λ_ _=>⟨B2,J,gw.kept (Bw _ B _) (λe=>by injection e;omega),ig⟩,gx,Z λ_=>⟨B,J,am.set _,dh⟩,Z (λh=>by simp[Qa]at h),hq.setCell (p:=⟨B,0,none⟩) dh _⟩
  . obtain⟨B,rfl,am,dh⟩:=x.o (b 10 DI) ai;obtain⟨gR,Zr,gZ,Zb,hR,hZ,ay⟩:=o.o (b 5 DI);obtain⟨io,dt,gq⟩:=T.o (b 8 DI);have k0:=am.cell;have f0:=am.frozen;obtain⟨B2,cn,gw,ig⟩:=X.o (b 11 DI);have Qt:B≠B2:=λe=>gx.o (b 9 DI) (b 10 DI) (by rw[cn,e]);obtain rfl:=gq;obtain rfl:=dt;obtain rfl:=cn;have Qy:=b 11 DI;clear x ae;clear b ah;refine Ed ?_;exact⟨g0,A,Z λ_=>⟨gR,Zr,hR.box O am⟩,P,g4,Z λ_=>⟨gR,Zr,gZ,Zb,hR.box O am,hZ.box O am,ay⟩,R,S,Z λ_=>⟨io,J,J⟩,Z (λ_ h=>by simp[Qy]at h),Z (λ_ h=>by simp at h),gx,Z λ_=>⟨B2,J,gw.kept (Bw _ B _) (λe=>by injection e;omega),ig⟩,Z λ_=>⟨B,J,am.set _,dh⟩,hq.setCell (p:=⟨B,0,none⟩) dh _⟩
 rintro D a2 f an ⟨t9,az,bg,bi,bj,bm,bn,di,bu,bz,dj,rfl,g0,A,g2,P,g4,o,R,S,T,z,x,gx,X,ae,hq⟩;obtain⟨gR,Zr,gZ,Zb,hR,hZ,ay⟩:=o.o (an 5 DK);obtain⟨io,dt,gq⟩:=T.o (an 8 DK);obtain⟨B9,rfl,de,jt⟩:=X.o (an 11 DK);obtain⟨B10,rfl,co,js⟩:=ae.o (an 12 DK);obtain rfl:=gq;obtain rfl:=hR.1;have e0:=hZ.1;rw[dt]at e0;cases e0;obtain rfl:=dt;clear g0 A g2 P g4 o R S T z x gx X ae an Qr Qp Ua;obtain⟨K,hK⟩:∃K:Nat,(la:Int)+1-(lb:Int)=(K:Int):=⟨la+1-lb,O⟩;have jj:N.wrap (K:Int)=(K:Int):=BV _ O;have Uw:=Kd K O f;have k9:=de.cell;have Us:=co.cell;have Qi:K+lb=la+1:=O
 have Qm:=Z Qi;clear Qi;go_wp2_with(go_at_call 174;refine((BJ (n:=2)).1 (Md Fence.wide _ trivial J _ _ _ _)).mono ?_;rintro e w' ⟨rfl,rfl⟩)
 refine(wpIn_wide (n:=3)).1 ?_;obtain⟨WQ,aq⟩:=ex (((f.alloc (.cells (cellsOf G (yA K 0)).toArray 223)).alloc (.cells #[C (some ⟨f.heap.size,0,none⟩) K K] 46)).alloc (.cells #[C (some ⟨f.heap.size,0,none⟩) K K] 46));have Uv:WQ.heap.size=f.heap.size+1+1+1:=by rw[<-aq];simp
 have Qj:Bl w f:=Bt Qg hq;have Qs:=Ur.o;have Um:Bl w WQ:=by rw[<-aq];exact((Qj.alloc Qj.size _).alloc (by have:=Qj.size;simp;omega) _).alloc (by have:=Qj.size;simp;omega) _
 have lR:=hR.2.1.lt;have lZ:=hZ.2.1.lt;have l9:=de.lt;have jw:=co.lt;have n9:gR≠B9:=λe=>hR.ne_box O de e;have jx:gR≠B10:=λe=>hR.ne_box O co e;have jf:=hR.2.2.2.2.2;have jg:=hZ.2.2.2.2.2;obtain⟨c,hc⟩:∃c:SplC,c=⟨w,C (some ⟨r,t,none⟩) lb cb,C (some ⟨gR,0,none⟩) (la+1) (la+1),C (some ⟨gZ,0,none⟩) lb (lb+1),C (some ⟨f.heap.size,0,none⟩) K K,B9,B10,f.heap.size+1,f.heap.size+1+1,gR,gZ,f.heap.size,Zb⟩:=⟨_,J⟩;have Ue:c.Apart:=by
  rw[hc];constructor<;>(simp only;omega)
 have Uc:c.Holds WQ:=by
  rw[hc,<-aq];have Ui:=(BH (f.alloc (.cells (cellsOf G (yA K 0)).toArray 223)) 46 (C (some ⟨f.heap.size,0,none⟩) K K)).alloc (.cells #[C (some ⟨f.heap.size,0,none⟩) K K] 46);have Uf:=BH ((f.alloc (.cells (cellsOf G (yA K 0)).toArray 223)).alloc (.cells #[C (some ⟨f.heap.size,0,none⟩) K K] 46)) 46 (C (some ⟨f.heap.size,0,none⟩) K K);simp only[Ax]at Ui Uf;exact⟨(((boxed_below Qf hq).alloc _).alloc _).alloc _,((de.alloc _).alloc _).alloc _,((co.alloc _).alloc _).alloc _,Ui,Uf,((hZ.2.1.alloc _).alloc _).alloc _,by rw[aq];exact Um⟩
 have Uh:DR WQ gR Zr:=by rw[<-aq];exact((hR.2.1.alloc _).alloc _).alloc _
 have Qz:DR WQ f.heap.size (yA K 0):=by rw[<-aq];exact((DR.made (BD f _)).alloc _).alloc _
 have Qu:Hw (m*2^s) (n*2^s) lb K K Zr (yA K 0):=Hw.start (by have:=Qm.o;rw[hR.2.2.1];omega) hR.2.2.2.1 hR.2.2.2.2.1 (by
  have h:=jb.o;rwa[show la-(l+1)=K from by have:=Qm.o;have:=Qc.o;omega]at h)
 obtain⟨ie,iy⟩:=ku hZ.2.2.2.1 (by rw[hZ.2.2.1,Qc.o]) hZ.2.2.2.2.1 ii.o ij.o;have Ux:0<n*2^s:=by
  have h:=ij.o;have:=DG (Cp 63) (CV (n:=l+1) (show 0<Y by unfold Y;omega));omega
 have Qh:n*2^s<Y^lb:=by rw[Qc.o];exact ii.o
 have Up:=hZ.2.2.2.1;have jn:=hZ.2.2.1;rw[aq];clear aq Uw de co Qf Uq k9 Us hR hZ hq Qj Uz;refine X7 J O (gf:=232) (lb:=#[L (some ⟨f.heap.size+1+1,0,none⟩)]) J trivial (Be func232 v0 J)
  (Mc Fence.wide _ trivial J O (f.heap.size+1+1) (some ⟨f.heap.size,0,none⟩) K K (λ_=>0) O) (λ_=>rfl)
  (Vi c (m*2^s) (n*2^s) lb K) (λ_ _ _=>False) (ky c _ _ _ _ (by rw[hc,Uv];simp only;omega)) (λc _ _ _ _ h _ _=>h.elim)
  ⟨Uc,Zr,yA K 0,by rw[hc];exact Uh,by rw[hc];exact Qz,by rw[F1];exact Qu⟩ ?rd
  (λk=>{ tmps:=#[C a la ca,C (some ⟨r,t,none⟩) lb cb,E,L (some ⟨w.heap.size,0,none⟩),C none 0 0,C none 0 0,E,E,F G (s:Nat),L (some ⟨B9,0,none⟩),L (some ⟨B10,0,none⟩),L (some ⟨f.heap.size+1,0,none⟩),F N ((K:Int)-1-k),C a la ca,F N (la:Nat),C (some ⟨r,t,none⟩) lb cb,F N (lb:Nat),.bool false,E,E,C (some ⟨r,t,none⟩) lb cb,F N (lb:Nat),.bool false,E,E,E,E,E,E,E,E,E,E,E,E,C (some ⟨r,t,none⟩) lb cb,C (some ⟨r,t,none⟩) lb cb,F N (lb:Nat),F N (l1:Nat),L (some ⟨r,t+l1,none⟩),F G (d:Nat),F N (s:Nat),F G (s:Nat),bg,bi,C (some ⟨gR,0,none⟩) (la+1) (la+1),bm,bn,C (some ⟨gZ,0,none⟩) (lb+1) (lb+1),bu,bz,C (some ⟨gZ,0,none⟩) lb (lb+1),C (some ⟨gR,0,none⟩) (la+1) (la+1),F N ((la:Int)+1),C (some ⟨gZ,0,none⟩) lb (lb+1),F N (lb:Nat),F N (K:Nat),C (some ⟨f.heap.size,0,none⟩) K K,C (some ⟨f.heap.size,0,none⟩) K K,.func (.func 232) #[] #[L (some ⟨f.heap.size+1+1,0,none⟩)],F N ((K:Int)-1-k),F G 0,E,E,E,E,E,E,E,E,E,E,E,E,E,E,E,E,E,E],defers:=[] }) ?assign ?body ?done ?stop
 case rd=>
  rintro k W ⟨hh,D,Q,_,hQ,hL⟩;have Ud:=hh.b12;rw[hc]at Ud hQ;refine⟨Ud.cell,λhk=>⟨f.heap.size,0,J,?_⟩⟩;rw[A7,hQ.cell (j:=K-1-k) (by rw[hL.2.2.1];omega),hL.2.2.2.2.2.2 (K-1-k) O]
 case assign=>
  intro l k W K hK;unfold Iu;gi_wp2;exact hK
 case stop=>
  rintro D c k W _ _ h _;exact h.elim
 case body=>
  rintro l' k W ⟨hh,D,Q,hD,hQ,hL⟩ hk jr;have Ug:K-k=K-1-k+1:=O
  rw[Ug]at hL;have e1:((K:Int)-1-k)=((K-1-k:Nat):Int):=O
  have HI:=Z (show K-(k+1)=K-1-k by omega);have Qn:K-1-k<K:=O
  rw[e1];obtain⟨i,hi⟩:=ex (K-1-k);rw[hi]at hL Qn HI ⊢;clear Ug e1 hi;obtain⟨w1,w2,w3⟩:=hL.win Qn Qh;have Uu:=hL.1;have jk:=hL.2.2.1;have Ul:=Z (show ∀(V:I) (nn:Nat),DR V gR D->DR V gZ Zb->CallsIn (Fence.wide.inRound l') nn M 258 #[C (some ⟨gR,i,none⟩) (lb+1) (la+1-i),C (some ⟨gZ,0,none⟩) lb (lb+1)] V λe w'=>
   ∃q,e=.returned (F G ((val Y ((D.drop i).take (lb+1))/(n*2^s):Nat):Int))/\(q.length=lb+1/\DO Y q/\val Y q=val Y ((D.drop i).take (lb+1))%(n*2^s))/\DR w' gR (mid D i (lb+1) q)/\V.grownBy w' (some gR)from λV nn h1 h2=>by
   have Qi:=Qm.o;have hz:=h2.row 0 lb (lb+1) O O O O;have Qw:=ks gR i l (la+1-i) D (some ⟨gZ,0,none⟩) (lb+1) (Zb.take (l+2)) V h1 hL.2.1 (by rw[Uu];have:=Qc.o;omega) (by have:=Qc.o;omega) O (by have:=Qc.o;omega)
    (by rw[Cm,Qc.o]at hz;rw[Qc.o];exact hz) (Up.take _) (λp e _=>by cases e;exact λh=>ay h.symm) iy (by rw[ie];have:=w1;rw[Qc.o]at this;exact this)
   rw[ie]at Qw;have e3:l+3=lb+1:=by rw[Qc.o]
   have e2:l+2=lb:=Qc.o.symm;rw[e3,e2]at Qw;exact Bg l' ((BJ (n:=nn)).2 Qw))
  have Un:=Z λ(q:m0) (h1:q.length=lb+1) (h2:DO Y q) (h3:val Y q=val Y ((D.drop i).take (lb+1))%(n*2^s))=>hL.step Qn Qh h1 h2 h3 Ux;obtain⟨qd,ix⟩:=ex (val Y ((D.drop i).take (lb+1))/(n*2^s));rw[ix]at Un Ul;clear ix w1 w2 w3 hL ie iy Qu;obtain⟨H1,jh⟩:∃H1:Nat,(i:Int)+(lb:Int)=(H1:Int):=⟨i+lb,O⟩;obtain⟨H,hH⟩:∃H:Nat,(H1:Int)+1=(H:Int):=⟨H1+1,O⟩;have ji:H-i=lb+1:=O
  have y1:(i:Int)<=(H:Int):=O
  have y2:(H:Int)<=(la:Int)+1:=O
  have y3:(0:Int)<=(i:Int):=O
  have y4:(i:Int)<(K:Int):=O
  have y5:N.wrap (H1:Int)=(H1:Int):=BV _ O;have y6:N.wrap (H:Int)=(H:Int):=BV _ O;gi_wp2_with fail
  refine OS Di [[],[],[],[],[],[],[5],[4,6],[7],[2,3,8],[],[9,10],[0,1,0,1,2,3,4,5,6,7,8,9,10,11],[12,11,11,0,1,2,3,4,5,6,7,8,9,10,11]] v0 DK
   (λDD ac V=>∃dz ed ei f9 fg fh fi fm fo fx gh gi gj:Value,ac={ tmps:=#[C a la ca,C (some ⟨r,t,none⟩) lb cb,E,L (some ⟨w.heap.size,0,none⟩),C none 0 0,C none 0 0,E,E,F G (s:Nat),L (some ⟨B9,0,none⟩),L (some ⟨B10,0,none⟩),L (some ⟨f.heap.size+1,0,none⟩),F N (i:Nat),C a la ca,F N (la:Nat),C (some ⟨r,t,none⟩) lb cb,F N (lb:Nat),.bool false,E,E,C (some ⟨r,t,none⟩) lb cb,F N (lb:Nat),.bool false,E,E,E,E,E,E,E,E,E,E,E,E,C (some ⟨r,t,none⟩) lb cb,C (some ⟨r,t,none⟩) lb cb,F N (lb:Nat),F N (l1:Nat),L (some ⟨r,t+l1,none⟩),F G (d:Nat),F N (s:Nat),F G (s:Nat),bg,bi,C (some ⟨gR,0,none⟩) (la+1) (la+1),bm,bn,C (some ⟨gZ,0,none⟩) (lb+1) (lb+1),bu,bz,C (some ⟨gZ,0,none⟩) lb (lb+1),C (some ⟨gR,0,none⟩) (la+1) (la+1),F N ((la:Int)+1),C (some ⟨gZ,0,none⟩) lb (lb+1),F N (lb:Nat),F N (K:Nat),C (some ⟨f.heap.size,0,none⟩) K K,C (some ⟨f.heap.size,0,none⟩) K K,.func (.func 232) #[] #[L (some ⟨f.heap.size+1+1,0,none⟩)],F N (i:Nat),F G 0,dz,ed,ei,f9,fg,fh,fi,fm,fo,fx,gh,gi,gj,E,E,E,E,E],defers:=[] }/\Hid (DD 0=true->dz=C (some ⟨f.heap.size,0,none⟩) K K)/\Hid (DD 1=true->ed=F N (i:Nat))/\Hid (DD 2=true->ei=C (some ⟨gR,0,none⟩) (la+1) (la+1))/\Hid (DD 3=true->f9=F N (i:Nat))/\Hid (DD 4=true->fg=F N (i:Nat))/\Hid (DD 5=true->fh=C (some ⟨r,t,none⟩) lb cb)/\Hid (DD 6=true->fi=F N (lb:Nat))/\Hid (DD 7=true->fm=F N (H1:Nat))/\Hid (DD 8=true->fo=F N (H:Nat))/\Hid (DD 9=true->fx=C (some ⟨gR,i,none⟩) (lb+1) (la+1-i))/\Hid (DD 10=true->gh=C (some ⟨gZ,0,none⟩) lb (lb+1))/\Hid (DD 11=true->gi=F G (qd:Nat))/\Hid (DD 12=true->gj=L (some ⟨f.heap.size,i,none⟩))/\∃D2,Hid (DD 11=true->∃q,(q.length=lb+1/\DO Y q/\val Y q=val Y ((D.drop i).take (lb+1))%(n*2^s))/\D2=mid D i (lb+1) q)/\SplM c W D D2 Q (Q.set i qd) (DD 11) (DD 13) V)
   (E8 ⟨_,_,_,_,_,J,Z Dg,Z Dg,Z Dg,Z Dg,Z Dg,Z Dg,Z Dg,Z Dg,Z Dg,Z Dg,Z Dg,Z Dg,Z Dg,D,Z Dg,SplM.drew ⟨KeepsOthers.refl _,hh,hD,hQ⟩⟩) ?step ?fin
  case fin=>
   rintro DD ac V an ⟨dz,ed,ei,f9,fg,fh,fi,fm,fo,fx,gh,gi,gj,rfl,g0,A,g2,P,g4,o,R,S,T,z,x,X,ae,D2,gd,y⟩;rw[an 11 DK,an 13 DK]at y;obtain⟨q,⟨ia,ib,ic⟩,rfl⟩:=gd.o (an 11 DK);refine⟨y.k.from _,y.h,mid D i (lb+1) q,Q.set i qd,y.r,y.q,?_⟩;rw[HI.o];exact Un.o q ia ib ic
  case step=>
   rintro DD ac V j ds aj hj b ai ⟨dz,ed,ei,f9,fg,fh,fi,fm,fo,fx,gh,gi,gj,rfl,g0,A,g2,P,g4,o,R,S,T,z,x,X,ae,D2,gd,y⟩;have Qv:j<14:=(AF.1 hj).1;obtain rfl|rfl|rfl|rfl|rfl|rfl|rfl|rfl|rfl|rfl|rfl|rfl|rfl|rfl:=MT j O
   all_goals
    simp only[CF,Ct,Cn]at hj;subst hj;clear Qv
   . have b11:Boxed V (f.heap.size+1) 46 (C (some ⟨f.heap.size,0,none⟩) K K):=by have:=y.h.b11;rw[hc]at this;exact this
     have k0:=b11.cell;clear b aj;refine BZ J λK2 U=>?_;go_simp;exact U _ _ (E8 ⟨_,_,_,_,_,J,Z λ_=>rfl,A,g2,P,g4,o,R,S,T,z,x,X,ae,D2,gd,y⟩)
   . clear b aj;refine BZ J λK2 U=>?_;go_simp;exact U _ _ ⟨_,_,_,_,_,_,_,_,_,_,_,_,_,J,g0,Z λ_=>rfl,g2,P,g4,o,R,S,T,z,x,X,ae,D2,gd,y⟩
   . have b9:Boxed V B9 46 (C (some ⟨gR,0,none⟩) (la+1) (la+1)):=by have:=y.h.b9;rw[hc]at this;exact this
     have k0:=b9.cell;clear b aj;refine BZ J λK2 U=>?_;go_simp;exact U _ _ ⟨_,_,_,_,_,_,_,_,_,_,_,_,_,J,g0,A,Z λ_=>rfl,P,g4,o,R,S,T,z,x,X,ae,D2,gd,y⟩
   . clear b aj;refine BZ J λK2 U=>?_;go_simp;exact U _ _ ⟨_,_,_,_,_,_,_,_,_,_,_,_,_,J,g0,A,g2,Z λ_=>rfl,g4,o,R,S,T,z,x,X,ae,D2,gd,y⟩
   . clear b aj;refine BZ J λK2 U=>?_;go_simp;exact U _ _ ⟨_,_,_,_,_,_,_,_,_,_,_,_,_,J,g0,A,g2,P,Z λ_=>rfl,o,R,S,T,z,x,X,ae,D2,gd,y⟩
   . have b0:Boxed V w.heap.size 46 (C (some ⟨r,t,none⟩) lb cb):=by have:=y.h.b0;rw[hc]at this;exact this
     have k0:=b0.cell;clear b aj;refine BZ J λK2 U=>?_;go_simp;exact U _ _ ⟨_,_,_,_,_,_,_,_,_,_,_,_,_,J,g0,A,g2,P,g4,Z λ_=>rfl,R,S,T,z,x,X,ae,D2,gd,y⟩
   . obtain rfl:=o.o (b 5 DI);clear b aj;refine BZ J λK2 U=>?_;go_simp;exact U _ _ ⟨_,_,_,_,_,_,_,_,_,_,_,_,_,J,g0,A,g2,P,g4,Z λ_=>rfl,Z λ_=>rfl,S,T,z,x,X,ae,D2,gd,y⟩
   . obtain rfl:=g4.o (b 4 DI);obtain rfl:=R.o (b 6 DI);clear b aj;refine BZ J λK2 U=>?_;go_simp;exact U _ _ ⟨_,_,_,_,_,_,_,_,_,_,_,_,_,J,g0,A,g2,P,Z λ_=>rfl,o,Z λ_=>rfl,Z λ_=>rfl,T,z,x,X,ae,D2,gd,y⟩
   . obtain rfl:=S.o (b 7 DI);clear b aj;refine BZ J λK2 U=>?_;go_simp;exact U _ _ ⟨_,_,_,_,_,_,_,_,_,_,_,_,_,J,g0,A,g2,P,g4,o,R,Z λ_=>rfl,Z λ_=>rfl,z,x,X,ae,D2,gd,y⟩
   . obtain rfl:=g2.o (b 2 DI);obtain rfl:=P.o (b 3 DI);obtain rfl:=T.o (b 8 DI);have jq:¬(la+1=i):=O
     clear b aj;refine BZ J λK2 U=>?_;go_simp;exact U _ _ ⟨_,_,_,_,_,_,_,_,_,_,_,_,_,J,g0,A,Z λ_=>rfl,Z λ_=>rfl,g4,o,R,S,Z λ_=>rfl,Z λ_=>rfl,x,X,ae,D2,gd,y⟩
   . have b10:Boxed V B10 46 (C (some ⟨gZ,0,none⟩) lb (lb+1)):=by have:=y.h.b10;rw[hc]at this;exact this
     have k0:=b10.cell;clear b aj;refine BZ J λK2 U=>?_;go_simp;exact U _ _ ⟨_,_,_,_,_,_,_,_,_,_,_,_,_,J,g0,A,g2,P,g4,o,R,S,T,z,Z λ_=>rfl,X,ae,D2,gd,y⟩
   . obtain rfl:=z.o (b 9 DI);obtain rfl:=x.o (b 10 DI);rw[ai]at y;have hr:DR V gR D:=by have:=y.r;rw[hc]at this;exact this
     have hz:DR V gZ Zb:=by have:=y.h.z;rw[hc]at this;exact this
     have HV:=Z y;clear y;clear b aj;refine BZ J λK2 U=>?_;go_simp;gi_wp2_with(refine⟨trivial,?_⟩;gi_at_call 258;refine(Ul.o _ _ hr hz).mono ?_;rintro e w5 ⟨q,rfl,⟨ia,ib,ic⟩,hA5,df⟩)
     exact⟨_,_,_,_,_,_,_,_,_,_,_,_,_,J,g0,A,g2,P,g4,o,R,S,T,Z λ_=>rfl,Z λ_=>rfl,Z λ_=>rfl,ae,mid D i (lb+1) q,Z λ_=>⟨q,⟨ia,ib,ic⟩,J⟩,SplM.split (HV.o.any _) Ue (by rw[hc];exact df) (by rw[hc];exact hA5)⟩
   . obtain rfl:=g0.o (b 0 DI);obtain rfl:=A.o (b 1 DI);clear b aj;refine BZ J λK2 U=>?_;go_simp;exact U _ _ (E8 ⟨_,_,_,_,_,J,Z λ_=>rfl,Z λ_=>rfl,g2,P,g4,o,R,S,T,z,x,X,Z λ_=>rfl,D2,gd,y⟩)
   . obtain rfl:=X.o (b 11 DI);obtain rfl:=ae.o (b 12 DI);rw[ai]at y;have Qk:DR V f.heap.size Q:=by have:=y.q;rw[hc]at this;exact this
     have k0:=Qk.cell (j:=i) O;have f0:=Qk.frozen i;have Ql:SplM c W D D2 Q (Q.set i qd) (DD 11) true (V.setCell ⟨f.heap.size,i,none⟩ (F G (qd:Nat))):=by have:=y.store Ue (j:=i) (v:=qd) J;rw[hc]at this ⊢;exact this
     have Qo:=Z Ql;clear Ql y;clear b aj;refine BZ J λK2 U=>?_;go_simp;exact U _ _ ⟨_,_,_,_,_,_,_,_,_,_,_,_,_,J,g0,A,g2,P,g4,o,R,S,T,z,x,Z λ_=>rfl,Z λ_=>rfl,D2,gd,Qo.o⟩
 case done=>
  rintro D W hD ⟨hh,D2,Q2,an,ir,hL⟩ U;rw[Cz]at hL;obtain⟨f1,f2⟩:=hL.fin J J;have b11:Boxed W (f.heap.size+1) 46 (C (some ⟨f.heap.size,0,none⟩) K K):=by have:=hh.b11;rw[hc]at this;exact this
  have b9:Boxed W B9 46 (C (some ⟨gR,0,none⟩) (la+1) (la+1)):=by have:=hh.b9;rw[hc]at this;exact this
  have Uj:Bl w W:=by have:=hh.B;rw[hc]at this;exact this
  have hr:DR W gR D2:=by have:=an;rw[hc]at this;exact this
  have Qk:DR W f.heap.size Q2:=by have:=ir;rw[hc]at this;exact this
  have Qi:=Qm.o;have Qd:Row G W (C (some ⟨f.heap.size,0,none⟩) K K) Q2:=by
   have h1:=Qk.row 0 K K (by rw[hL.2.2.1];omega) (Aa _) O O;rwa[Cm,Ai (by rw[hL.2.2.1];exact Aa _)]at h1
  have Qe:Row G W (C (some ⟨gR,0,none⟩) (la+1) (la+1)) D2:=by
   have h1:=hr.row 0 (la+1) (la+1) (by rw[hL.1];omega) (Aa _) O O;rwa[Cm,Ai (by rw[hL.1];omega)]at h1
  have HT:=Z (show ∀V:I,Bl W V->Calls M 176 #[C (some ⟨f.heap.size,0,none⟩) K K] V λe w'=>∃u,e=.returned u/\UN w' u (m/n)/\Bl V w' from λV h=>by
   have h1:=XE _ Q2 V (Row.below Qd h);rw[f1]at h1;exact h1)
  have Uy:=Z (show ∀V:I,Bl W V->Calls M 259 #[C (some ⟨gR,0,none⟩) (la+1) (la+1),F G (s:Nat)] V λe w'=>∃u,e=.returned u/\UN w' u (m%n)/\Bl V w' from λV h=>by
   have h1:=kE _ _ _ D2 s V hs (Row.below Qe h) hL.2.1;rw[f2,Nat.mul_div_cancel _ (Cp s)]at h1;exact h1)
  have l9:=b9.lt;have Uk:=b11.cell;have k9:=b9.cell;clear hL f1 f2 Qd Qe hr Qk hh an ir Uc Uh Qz Qu Qi;go_upto_region 13 with fail
  have hq:Bl W W.drew:=(BB _ W).drew;go_region_held3 (λw'=>w'.cell? ⟨f.heap.size+1,0,none⟩=some (C (some ⟨f.heap.size,0,none⟩) K K)/\w'.cell? ⟨B9,0,none⟩=some (C (some ⟨gR,0,none⟩) (la+1) (la+1))) (refine⟨?_,?_⟩<;>(first|(go_keep;done)|(simp[*];done)))
   (first
    |(go_at_call 176;refine(HT.o _ hq).mono ?_;rintro e w5 ⟨u5,rfl,iz,ap⟩;obtain⟨ua,uc,rfl⟩:=UN.form iz;have hq:=Bt hq ap;have Uk:=(boxed_below b11 hq).cell;have k9:=(boxed_below b9 hq).cell)
    |(go_at_call 259;refine(Uy.o _ hq).mono ?_;rintro e w6 ⟨u6,rfl,ja,iu⟩;obtain⟨va,vc,rfl⟩:=UN.form ja;have hq:=Bt hq iu;have Uk:=(boxed_below b11 hq).cell;have k9:=(boxed_below b9 hq).cell))
  all_goals go_wp2_with fail
  have Qq:w6.heap[D]?=some (.deferred (some [])):=(hq.block D (Ab.1 U).1).trans U;refine⟨DI,.inl ⟨_,_,J,BQ Qq,?_⟩⟩;refine⟨.tuple #[C ua (Jh Y (m/n)).length uc,C va (Jh Y (m%n)).length vc],by simp[results,results225,go_sem],_,_,J,RQ (UN.below iz iu) Qq,RQ ja Qq,?_⟩;exact below_grown (Bt Uj hq) (BR _ D (.deferred none)) (by have:=Um.size;omega)
end
section
variable{zs:m0}{P base g l rc:Nat}{u:Value}{W:I}
def RU(a:om)(la ca:Nat)(b:om)(lb cb m n:Nat)(w:I)(g:Row G w (C a la ca) (Jh Y m))(i:Row G w (C b lb cb) (Jh Y n))(hn:n≠0)(T:la<1099511627776):
 Calls M 225 #[C a la ca,C b lb cb] w λe w'=>∃u v,e=.returned (.tuple #[u,v])/\UN w' u (m/n)/\UN w' v (m%n)/\Bl w w':=by
 obtain⟨S,W,am,ah,ae⟩:=JM g;obtain⟨f,X,an,ai,R⟩:=JM i;have aj:lb≠0:=λe=>hn ((Yb Jg).1 (AW (by rw[<-f,e])));by_cases D:la<lb
 . exact kF a la ca b lb cb m n w g i D
 . by_cases H:lb=1
   . subst H;exact kH a la ca b cb m n w g i O
   . obtain⟨l,rfl⟩:∃l,lb=l+2:=⟨lb-2,O⟩;obtain⟨x,y,rfl,Q,kb⟩:=R (l+1) O;have j:=JA Jg n;have o:(Jh Y n)[l+1]?.getD 0≠0:=by
      intro e;have K:=JN Y (Jh Y n) (l+1);rw[Ai O,e,C8,Cr,Jz Jg]at K;have V:=Y7 j (l+1);have k:=QK Jg f.symm O;rw[show l+2-1=l+1 from J]at k;omega
     have c:(Jh Y n)[l+1]?.getD 0<Y:=j.getD uo _;obtain⟨d,p⟩:=ex ((Jh Y n)[l+1]?.getD 0);rw[p]at kb o c;obtain⟨z,A,B⟩:=bitLen_spec d o (by rw[<-LE];exact c);have P:Lib.bitLen d<=64:=by
      rcases Ca 64 (Lib.bitLen d)with h|h
      . exfalso
        have k:2^64<=2^(Lib.bitLen d-1):=AB O O;rw[LE]at c;omega
      . exact h
     obtain⟨q,r⟩:=Vh (s:=64-Lib.bitLen d) j f.symm p A B z P J;rw[Jz Jg]at q r;have U:m<Y^la:=by
      have:=YZ (JA Jg m);rwa[Jz Jg,<-S]at this
     have t:Y^(l+1)<=n:=QK Jg f.symm O;exact lA a la ca x y l (l+2) (l+1) cb m n d (64-Lib.bitLen d) w J O Q g i kb c O (show _=_ by omega) O T q r (kw U t O)
theorem RV{p:Nat}(a:p≠0)(h:p<Y):Jh Y p=[p]:=by
 grind[Ka,CH,CB,JV]
def lB(a:om)(ca:Nat)(b:om)(lb cb x y:Nat)(w:I)(d:Row G w (C a 1 ca) (Jh Y x))(r:Row G w (C b lb cb) (Jh Y y))(z:y<Y):
 Calls M 227 #[C a 1 ca,C b lb cb] w λe w'=>∃u,e=.returned u/\UN w' u (Nat.gcd x y)/\Bl w w':=by
 obtain⟨n,U,ah,W,l⟩:=JM d;obtain⟨c,V,ai,X,m⟩:=JM r;obtain⟨o,aj,P⟩:=RR n.symm;rcases A5 lb with t|t
 . subst t;have k:=(Yb Jg).1 (AW c.symm);subst k;have B:=Z d;clear l m n c d r o;go_enter func227,ntmps227
   go_wp2_with fail
   go_ret;exact⟨_,J,by rw[Nat.gcd_zero_right];exact B.o,BB _ w⟩
 . have k:y≠0:=λe=>by rw[e,JV]at c;simp at c;omega
   have i:=RV k z;obtain rfl:lb=1:=by rw[c,i];rfl
   obtain⟨ab,D,rfl,S,ka⟩:=l 0 O;obtain⟨H,K,rfl,T,kb⟩:=m 0 O;rw[o]at ka;rw[i]at kb;have am:w.cell? ⟨ab,D,none⟩=some (F G (x:Nat)):=ka;have an:w.cell? ⟨H,K,none⟩=some (F G (y:Nat)):=kb;clear l m n c d r o i ka kb;go_enter func227,ntmps227
   go_upto_region 3 with fail
   go_quiet (fail)
   go_wp2_with fail
   go_loopw [5,6] (λR s wr=>∃(p q j:Nat),R=F G (p:Nat)/\s=F G (q:Nat)/\p<Y/\q<Y/\p≠0/\Hid (Nat.gcd p q=Nat.gcd x y)/\wr=w.drewN j) (λ_ s _=>(intOf s).toNat)
   case atStart=>exact⟨x,y,_,J,J,P,z,O,Z J,J⟩
   case round=>
    obtain⟨p,q,j,rfl,rfl,hp,hq,Q,g,rfl⟩:=hrel;by_cases v:q=0
    . subst v;have f:=Z (show p=Nat.gcd x y by rw[<-g.o,Nat.gcd_zero_right]);have A:=Z (RV Q hp);clear g;go_wp2_with fail
      go_ret;refine⟨C (some ⟨w.heap.size,0,none⟩) 1 1,J,?_,(Ml (BB _ w) _).alloc (Aa _) _⟩;unfold UN;rw[<-f.o,A.o];exact(DR.made (xs:=[p]) (BD (w.drewN j) (.cells #[F G (p:Nat)] 223))).row 0 1 1 DI O O O
    . have f:=Z (show Nat.gcd q (p%q)=Nat.gcd x y by rw[<-g.o,Fa q,<-Nat.gcd_rec,Fa]);have ae:=CC p (show q>0 by omega);go_upto_region 5 with fail
      go_quiet (fail)
      go_wp2_with fail
      exact⟨⟨q,p%q,j+nq,J,DI,hq,O,v,f,DI⟩,by simp[intOf];omega⟩
def Hx(W:I)(base:Nat)(u:Value)(g l rc P:Nat)(zs:m0):Prop:=
 u=C (some ⟨g,0,none⟩) l rc/\DR W g zs/\DO Y zs/\l<=zs.length/\l<=rc/\rc<=9223372036854775807/\l<=1099511627776/\zs.take l=Jh Y P/\base<=g
def Hx.below{W W':I}{base g l rc P:Nat}{u:Value}{zs:m0}(h:Hx W base u g l rc P zs)(hb:Bl W W'):Hx W' base u g l rc P zs:=
 ⟨h.1,h.2.1.below hb,h.2.2⟩
def Hx.un(h:Hx W base u g l rc P zs):UN W u P:=by
 obtain⟨rfl,a,f,i,b,c,d,e,j⟩:=h;have:=a.row 0 l rc O b c d;rw[Cm,e]at this;exact this
theorem lC{ds:m0}(hA:DR W g zs)(f:Row G W (C (some ⟨g,0,none⟩) l rc) ds)(hl:l<=zs.length):zs.take l=ds:=by
 obtain⟨i,_,_,_,a⟩:=JM f;apply List.ext_getElem?;intro j;by_cases d:j<l
 . obtain⟨b,off,e,_,c⟩:=a j d;cases e;rw[A7,hA.cell O]at c;grind
 grind
def Vj(a:om)(la ca:Nat)(b:om)(lb cb:Nat)(c d:m0)(w:I)(R:DO Y c)(S:DO Y d)(P:la+lb<=1099511627776)
(n:Row G w (C a la ca) c)(o:Row G w (C b lb cb) d):
 Calls M 106 #[C a la ca,C b lb cb] w λe w'=>∃u,e=.returned u/\UN w' u (val Y c*val Y d)/\(val Y c*val Y d≠0->∃g l rc zs,Hx w' w.heap.size u g l rc (val Y c*val Y d) zs)/\Bl w w':=by
 have r:=Kd (la+lb) O w;rw[show((la+lb:Nat):Int)=(la:Int)+(lb:Int)from by omega]at r;obtain⟨i,k⟩:∃i,i=w.alloc (.cells (cellsOf G (yA (la+lb) 0)).toArray 223):=⟨_,J⟩;have m:Bl w i:=by rw[k];exact Ba w _
 have q:DR i w.heap.size (yA (la+lb) 0):=by rw[k];exact DR.made (BD w _)
 rw[<-k]at r;have A:=Z (jQ w.heap.size (la+lb) (la+lb) (yA (la+lb) 0) a la ca b lb cb c d i R S q (λx Q=>by rw[Fi Q];unfold Y;omega) DH (Aa _) O P (Row.below n m) (Row.below o m)
  (λp e j=>by have:=Ke n e j;omega) λp e j=>by have:=Ke o e j;omega)
 clear k q n o;go_enter func106,ntmps106
 go_wp2_with(go_at_call 175;refine A.o.mono ?_;rintro e V ⟨u,rfl,⟨f,K⟩,H,zs,y,D,z⟩;obtain⟨T,U,rfl⟩:=UN.form f)
 go_ret;refine⟨_,J,f,λj=>?_,below_grown m K (Aa _)⟩;have B:(Jh Y (val Y c*val Y d)).length≠0:=λe=>j ((Yb Jg).1 (AW e));rcases H with e|⟨l,e⟩
 . injection e with s t v
   exact absurd t B
 . injection e with s t v
   subst s;subst v;rw[A2]at z;have hl:(Jh Y (val Y c*val Y d)).length<=zs.length:=by rw[z];exact(JM f).2.1
   exact⟨_,_,_,zs,J,y,D,hl,(JM f).2.1,(JM f).2.2.1,(JM f).2.2.2.1,lC y f hl,Aa _⟩
theorem Vk{Q:Nat}(h:Hx W base u g l rc P zs)(b:om)(lb cb:Nat)(d:UN W (C b lb cb) Q)(r:Q<=P)(t:∀p,b=some p->0<lb->p.block≠g):
 Calls M 222 #[u,C b lb cb] W λe w'=>∃c q,e=.returned (F G (c:Nat))/\(Row G w' u q/\J4 q=Jh Y (P-Q))/\W.grownBy w' (some g):=by
 obtain⟨rfl,j,k,v,a,m,n,w,x⟩:=h;have hl:l=(Jh Y P).length:=DH
 have i:=(JM d).1;refine(U5 g 0 l rc zs b lb cb (Jh Y Q) W j k O a O (by rw[hl,i];exact LC r) d (JA Jg Q) t).mono ?_;rintro e w' ⟨c,q,rfl,hq,hA,hg⟩;have s:mid zs 0 l q=q++zs.drop l:=by rw[mid,Ia,As,A7]
 have f:=hq.1;refine⟨c,q,J,⟨?_,?_⟩,hg⟩
 . have o:=hA.row 0 l rc DH a m n;rwa[s,Cm,Cf O,Ai O]at o
 . have hs:Gk (Jh Y P) (Jh Y Q) 0 l c q:=by
    refine⟨f,hq.2.1,hq.2.2.1,?_⟩;have:=hq.2.2.2;grind
   grind[U6,LC]
def Vl{w V w1:I}{o:Obj}(h:Bl w V)(k:Below (V.alloc o).heap.size (V.alloc o) w1):Bl w w1:=(h.alloc h.size o).trans (k.mono (h.alloc h.size o).size)
def Vm(x:Nat):val Y [x]=x:=by rw[YB,QC,C8,Cr]
theorem Vn(ma mb:Nat)(a:om)(la ca:Nat)(b:om)(lb cb A B:Nat)(w:I)(ra:Row G w (C a la ca) (Jh Y A))(rb:Row G w (C b lb cb) (Jh Y B))(df:ma<Y)(dh:mb<Y)(dt:la<1099511627776)(dx:lb<1099511627776)(h0:mb*B≠0):
 Calls M 224 #[.agg #[F G (ma:Nat),F G (mb:Nat)],C a la ca,C b lb cb] w λe w'=>∃u,e=.returned u/\UN w' u (EC (ma*A) (mb*B))/\Bl w w':=by
 obtain⟨W0,ap⟩:=ex (w.alloc (.cells #[F G (ma:Nat),F G (mb:Nat)] 261));have Qa:Bl w W0:=by rw[<-ap];exact Ba w _
 have bx:JC W0 w.heap.size 261 (F G (ma:Nat)) (F G (mb:Nat)):=by rw[<-ap];exact JC.new w _ _ _
 have Qp:=Z (show ∀(V:I) (g:Nat),Bl W0 V->DR V g [ma]->Calls M 106 #[C a la ca,C (some ⟨g,0,none⟩) 1 1] V λe w'=>∃u,e=.returned u/\UN w' u (ma*A)/\(ma*A≠0->∃g l rc zs,Hx w' V.heap.size u g l rc (ma*A) zs)/\Bl V w' from λV g h hA=>by
  have n:=Vj a la ca (some ⟨g,0,none⟩) 1 1 (Jh Y A) [ma] V (JA Jg A) (DO.cons df (DO.nil _)) O (Row.below (Row.below ra Qa) h) (hA.row 0 1 1 DI O O O);rw[Vm,Jz Jg,A4 A ma]at n;exact n)
 have Qo:=Z (show ∀(V:I) (g:Nat),Bl W0 V->DR V g [mb]->Calls M 106 #[C b lb cb,C (some ⟨g,0,none⟩) 1 1] V λe w'=>∃u,e=.returned u/\UN w' u (mb*B)/\(mb*B≠0->∃g l rc zs,Hx w' V.heap.size u g l rc (mb*B) zs)/\Bl V w' from λV g h hA=>by
  have n:=Vj b lb cb (some ⟨g,0,none⟩) 1 1 (Jh Y B) [mb] V (JA Jg B) (DO.cons dh (DO.nil _)) O (Row.below (Row.below rb Qa) h) (hA.row 0 1 1 DI O O O);rw[Vm,Jz Jg,A4 B mb]at n;exact n)
 have Qq:=Z ap;clear ap ra rb;generalize ma*A=m at *;generalize mb*B=R at *;go_enter func224,ntmps224
 go_upto_region 1 with fail
 rw[Qq.o];refine Xz Di [[],[],[1],[2],[0,3],[],[],[6],[7],[5,8,4],[4,9,0,1,2,3,4],[9,10,0,1,2,3,4,5,6,7,8,9,10]] v0 DK (λf ac V=>∃t7 t8 t9 aq ay az U bg bi bj bm am:Value,ac={ tmps:=#[.agg #[F G (ma:Nat),F G (mb:Nat)],C a la ca,C b lb cb,L (some ⟨w.heap.size,0,none⟩),E,E,C none 0 0,t7,t8,t9,aq,ay,az,U,bg,bi,bj,bm,am,E,E,E,E,E,E,E,E,E,E,E],defers:=[] }/\Hid (f 0=true->t9=C a la ca)/\Hid (f 1=true->aq=L (some ⟨w.heap.size,0,none⟩))/\Hid (f 2=true->ay=F G (ma:Nat))/\Hid (f 3=true->∃g,az=C (some ⟨g,0,none⟩) 1 1/\DR V g [ma])/\Hid (f 4=true->UN V U m/\(m≠0->∃d l1 s t,Hx V W0.heap.size U d l1 s m t))/\Hid (f 5=true->bg=C b lb cb)/\Hid (f 6=true->bi=L (some ⟨w.heap.size,1,none⟩))/\Hid (f 7=true->bj=F G (mb:Nat))/\Hid (f 8=true->∃g,bm=C (some ⟨g,0,none⟩) 1 1/\DR V g [mb])/\Hid (f 9=true->∃k l2 X ae,Hx V W0.heap.size am k l2 X R ae/\UN V U m/\(m≠0->∃d l1 s t,Hx V W0.heap.size U d l1 s m t/\d≠k))/\Hid (f 10=true->t7=U)/\Hid (f 11=true->t8=am)/\Bl W0 V)
  (E8 ⟨_,_,_,_,J,Z Dg,Z Dg,Z Dg,Z Dg,Z Dg,Z Dg,Z Dg,Z Dg,Z Dg,Z Dg,Z Dg,Z Dg,(BB _ W0).drew⟩) ?step1 ?fin1
 case step1=>
  rintro f a2 V i ds o bz j T ⟨t7,t8,t9,aq,ay,az,U,bg,bi,bj,bm,am,rfl,g0,d,k,y,g4,z,D,H,P,Q,v,x,hq⟩;have Qm:i<12:=(AF.1 bz).1;obtain rfl|rfl|rfl|rfl|rfl|rfl|rfl|rfl|rfl|rfl|rfl|rfl:=MS i O
  all_goals
   simp only[CF,Ct,Cn]at bz;subst bz;clear Qm
  . clear j o;refine Ed ?_;exact⟨Z λ_=>rfl,d,k,y,g4,z,D,H,P,Q,v,x,hq⟩
  . clear j o;refine Ed ?_;exact⟨g0,Z λ_=>rfl,k,y,g4,z,D,H,P,Q,v,x,hq⟩
  . obtain rfl:=d.o (j 1 DI);have k0:=(bx.below hq).c0;clear j o;refine Ed ?_;exact⟨g0,Z λ_=>rfl,Z λ_=>rfl,y,g4,z,D,H,P,Q,v,x,hq⟩
  . have Qr:f 4=false:=by
     cases h:f 4 with
     |false=>rfl
     |true=>rw[o 4 _ J h 3 DI]at T;cases T
    obtain rfl:=k.o (j 2 DI);clear j o;refine Ed ?_;exact⟨g0,d,Z λ_=>rfl,Z λ_=>⟨_,J,DR.made (xs:=[ma]) (BD V _)⟩,Z (λh=>by simp[Qr]at h),z,D,H,Z (λh=>by obtain⟨g,e,q⟩:=P.o h;exact⟨g,e,q.below (Ba V _)⟩),Z (λh=>by obtain⟨k,l2,X,ae,q1,q2,q3⟩:=Q.o h;exact⟨k,l2,X,ae,q1.below (Ba V _),q2.below (Ba V _),λn=>by obtain⟨d,l1,s,t,q,q4⟩:=q3 n;exact⟨d,l1,s,t,q.below (Ba V _),q4⟩⟩),v,x,hq.alloc hq.size _⟩
  . have Qk:f 9=false:=by
     cases h:f 9 with
     |false=>rfl
     |true=>rw[o 9 _ J h 4 DI]at T;cases T
    have Qn:f 10=false:=by
     cases h:f 10 with
     |false=>rfl
     |true=>rw[o 10 _ J h 4 DI]at T;cases T
    obtain rfl:=g0.o (j 0 DI);obtain⟨gm,rfl,ai⟩:=y.o (j 3 DI);clear j o;refine J7 J J λK hK=>?_;go_simp;go_wp2_with(go_at_call 106;refine(Qp.o _ _ hq ai).mono ?_;rintro e w5 ⟨u5,rfl,co,cj,S⟩)
    exact E8 ⟨_,_,_,_,J,Z λ_=>rfl,d,k,Z λ_=>⟨gm,J,ai.below S⟩,Z λ_=>⟨co,λn=>by obtain⟨d,l1,s,t,q⟩:=cj n;exact⟨d,l1,s,t,q.1,q.2.1,q.2.2.1,q.2.2.2.1,q.2.2.2.2.1,q.2.2.2.2.2.1,q.2.2.2.2.2.2.1,q.2.2.2.2.2.2.2.1,Ae hq.size q.2.2.2.2.2.2.2.2⟩⟩,z,D,H,Z (λh=>by obtain⟨g,e,q⟩:=P.o h;exact⟨g,e,q.below (S)⟩),Z (λh=>by simp[Qk]at h),Z (λh=>by simp[Qn]at h),x,Bt hq S⟩
  . clear j o;refine Ed ?_;exact⟨g0,d,k,y,g4,Z λ_=>rfl,D,H,P,Q,v,x,hq⟩
  . clear j o;refine Ed ?_;exact⟨g0,d,k,y,g4,z,Z λ_=>rfl,H,P,Q,v,x,hq⟩
  . obtain rfl:=D.o (j 6 DI);have k0:=(bx.below hq).c1;clear j o;refine Ed ?_;exact⟨g0,d,k,y,g4,z,Z λ_=>rfl,Z λ_=>rfl,P,Q,v,x,hq⟩
  . have Qk:f 9=false:=by
     cases h:f 9 with
     |false=>rfl
     |true=>rw[o 9 _ J h 8 DI]at T;cases T
    obtain rfl:=H.o (j 7 DI);clear j o;refine Ed ?_;exact⟨g0,d,k,Z (λh=>by obtain⟨g,e,q⟩:=y.o h;exact⟨g,e,q.below (Ba V _)⟩),Z (λh=>by obtain⟨q1,q2⟩:=g4.o h;exact⟨q1.below (Ba V _),λn=>by obtain⟨d,l1,s,t,q⟩:=q2 n;exact⟨d,l1,s,t,q.below (Ba V _)⟩⟩),z,D,Z λ_=>rfl,Z λ_=>⟨_,J,DR.made (xs:=[mb]) (BD V _)⟩,Z (λh=>by simp[Qk]at h),v,x,hq.alloc hq.size _⟩
  . have Ql:f 11=false:=by
     cases h:f 11 with
     |false=>rfl
     |true=>rw[o 11 _ J h 9 DI]at T;cases T
    obtain rfl:=z.o (j 5 DI);obtain⟨gm,rfl,ai⟩:=P.o (j 8 DI);obtain⟨p1,p2⟩:=g4.o (j 4 DI);clear j o;refine J7 J J λK hK=>?_;go_simp;go_wp2_with(go_at_call 106;refine(Qo.o _ _ hq ai).mono ?_;rintro e w5 ⟨u5,rfl,co,cj,S⟩)
    exact⟨_,_,_,_,_,_,_,_,_,_,_,_,J,g0,d,k,Z (λh=>by obtain⟨g,e,q⟩:=y.o h;exact⟨g,e,q.below (S)⟩),Z (λh=>by obtain⟨q1,q2⟩:=g4.o h;exact⟨q1.below (S),λn=>by obtain⟨d,l1,s,t,q⟩:=q2 n;exact⟨d,l1,s,t,q.below (S)⟩⟩),Z λ_=>rfl,D,H,Z λ_=>⟨gm,J,ai.below S⟩,Z (λ_=>by obtain⟨k,l2,X,ae,q⟩:=cj h0;exact⟨k,l2,X,ae,⟨q.1,q.2.1,q.2.2.1,q.2.2.2.1,q.2.2.2.2.1,q.2.2.2.2.2.1,q.2.2.2.2.2.2.1,q.2.2.2.2.2.2.2.1,Ae hq.size q.2.2.2.2.2.2.2.2⟩,p1.below S,λn=>by obtain⟨d,l1,s,t,r⟩:=p2 n;exact⟨d,l1,s,t,r.below S,by have:=r.2.1.lt;have:=q.2.2.2.2.2.2.2.2;omega⟩⟩),v,Z (λh=>by simp[Ql]at h),Bt hq S⟩
  . clear j o;refine Ed ?_;exact⟨g0,d,k,y,g4,z,D,H,P,Q,Z λ_=>rfl,x,hq⟩
  . clear j o;refine Ed ?_;exact⟨g0,d,k,y,g4,z,D,H,P,Q,v,Z λ_=>rfl,hq⟩
 rintro f di V1 an ⟨t7,t8,t9,aq,ay,az,U,bg,bi,bj,bm,am,rfl,g0,d,k,y,g4,z,D,H,P,Q,v,x,hq⟩;obtain⟨gB,l2,X,ae,o2,aj,o1⟩:=Q.o (an 9 DK);obtain rfl:=v.o (an 10 DK);obtain rfl:=x.o (an 11 DK);obtain⟨a1,c1,rfl⟩:=UN.form aj;have Qd:=o2.un;obtain⟨a2,c2,rfl⟩:=UN.form Qd;clear g0 d k y g4 z D H P Q v x an Qp Qo;have Qi:∀p,a1=some p->0<(Jh Y m).length->p.block≠gB:=λp e n=>by
  have hp:m≠0:=λe0=>by rw[e0,JV]at n;simp at n
  obtain⟨d,l1,s,t,r,r2⟩:=o1 hp;have:=r.1;grind
 have W:=Z (RC _ _ (Jh Y m) (Jh Y R) V1 aj Qd (JA Jg m) (JA Jg R) (Kb Jg m) (Kb Jg R));rw[Jz Jg,Jz Jg]at W;have Qg:=Bt Qa hq;have Qj:=o2.2.2.2.2.2.2.2.2;by_cases de:m<R
 . have Qb:=Lu de;rw[Qb]at W;have Qf:=Z λ(V:I) (h:Bl V1 V)=>Vk (o2.below h) a1 (Jh Y m).length c1 (aj.below h) O Qi;have HD:=Z (show R-m=EC m R by unfold EC;omega);clear Qb aj Qd o1 Qi;go_upto_region 4 with(go_at_call 104;refine W.o.mono ?_;rintro e w2 ⟨rfl,ah⟩)
   go_upto_region 5 with(go_at_call 222;refine(Qf.o _ ah).mono ?_;rintro e w3 ⟨c,q,rfl,⟨hr,cn⟩,bu⟩)
   have Qc:=Z (XE _ q _ hr);rw[cn,HD.o]at Qc;clear Qf W;go_wp2_with(go_at_call 176;refine Qc.o.mono ?_;rintro e w4 ⟨u,rfl,hu,bn⟩;obtain⟨ua,uc,rfl⟩:=UN.form hu)
   go_ret;have Qe:=below_grown (Bt Qg ah) bu (Ae Qa.size Qj);exact⟨_,J,hu,Bt Qe bn⟩
 . obtain⟨cm,Qb,dj⟩:∃cm:Int,D9 m R=cm/\¬(cm<0):=⟨_,J,by unfold D9;omega⟩;rw[Qb]at W;obtain⟨d,l1,s,t,r,r2⟩:=o1 O;have Qh:=r.2.2.2.2.2.2.2.2;have Qf:=Z (λ(V:I) (h:Bl V1 V)=>Vk (r.below h) a2 (Jh Y R).length c2 (Qd.below h) O (λp e _=>by
    have:=o2.1;grind))
   have HD:=Z (show m-R=EC m R by unfold EC;omega);clear Qb aj Qd o1 Qi;go_upto_region 4 with(go_at_call 104;refine W.o.mono ?_;rintro e w2 ⟨rfl,ah⟩)
   go_upto_region 5 with(go_at_call 222;refine(Qf.o _ ah).mono ?_;rintro e w3 ⟨c,q,rfl,⟨hr,cn⟩,bu⟩)
   have Qc:=Z (XE _ q _ hr);rw[cn,HD.o]at Qc;clear Qf W;go_wp2_with(go_at_call 176;refine Qc.o.mono ?_;rintro e w4 ⟨u,rfl,hu,bn⟩;obtain⟨ua,uc,rfl⟩:=UN.form hu)
   go_ret;have Qe:=below_grown (Bt Qg ah) bu (Ae Qa.size Qh);exact⟨_,J,hu,Bt Qe bn⟩
end
def Hc(x k s:Nat):Nat:=x/(Y^k*2^(64-s))
variable{a:m0}{k s:Nat}
def lD(hl:a.length=k+2)(b:DO Y a)(hs:s<=63)(f:a[k+1]?.getD 0<2^(64-s)):
 Hc (val Y a) k s=ES (a[k+1]?.getD 0) s+ED (a[k]?.getD 0) (64-s)/\ES (a[k+1]?.getD 0) s ||| ED (a[k]?.getD 0) (64-s)=ES (a[k+1]?.getD 0) s+ED (a[k]?.getD 0) (64-s):=by
 have hv:=Vf hl;have c:=Y7 b k;have g:=b.getD (show 0<Y by unfold Y;omega) k;have hp:=Mh (s:=s) O;have e:ES (a[k+1]?.getD 0) s=a[k+1]?.getD 0*2^s:=by rw[Mi O,CH f]
 rw[e];have d:ED (a[k]?.getD 0) (64-s)<2^s:=by
  unfold ED;rw[Cb (Cp _),hp];exact g
 refine⟨?_,by rw[A4,<-Fu d]⟩;unfold Hc ED;rw[hv,<-Nat.div_div_eq_div_mul,A4 _ (Y^k),Nat.mul_add_div (CV uo),CB c,Cr,<-hp,<-CJ,Ib,Nat.add_mul_div_right _ _ (Cp _)];omega
def lE(hl:a.length=k+1)(c:DO Y a):Hc (val Y a) k s=ED (a[k]?.getD 0) (64-s):=by
 have hv:=JN Y a k;rw[Ai O]at hv;have b:=Y7 c k;unfold Hc ED;rw[hv,<-Nat.div_div_eq_div_mul,Ib,Nat.mul_add_div (CV uo),CB b,Cr]
def lF(hl:a.length<=k)(b:DO Y a):Hc (val Y a) k s=0:=by
 unfold Hc;apply CB;have c:=YZ b;have d:Y^a.length<=Y^k:=AB uo hl;have e:=Ce (Y^k) (Cp (64-s));omega
def Vo(a:om)(la ca:Nat)(c:m0)(k d nn s:Nat)(w:I)(m:Row G w (C a la ca) c)(n:DO Y c)(p:nn=k+2)(y:(nn:Int)-1=d)(z:(nn:Int)-2=k)(hs:s<=63)(K:la<=nn)(hn:nn<=1099511627776)(l:la=nn->c[k+1]?.getD 0<2^(64-s)):
 Calls M 255 #[C a la ca,F N (nn:Nat),F G (s:Nat)] w λe w'=>e=.returned (F G (Hc (val Y c) k s:Nat))/\Bl w w':=by
 obtain⟨hl,H,P,hk,g⟩:=JM m;have S:N.wrap ((nn:Int)-1)=(d:Int):=by rw[y];exact BV _ O
 have T:N.wrap ((nn:Int)-2)=(k:Int):=by rw[z];exact BV _ O
 have U:N.wrap (d:Int)=(d:Int):=BV _ O;have V:N.wrap (k:Int)=(k:Int):=BV _ O;have W:G.wrap ((64:Int)-s)=((64-s:Nat):Int):=by rw[BP];omega
 have o:=RM (c[k+1]?.getD 0) s;have v:=RO (c[k]?.getD 0) (64-s);have i:=n.getD (show 0<Y by unfold Y;omega) k;have j:=RP (show ES (c[k+1]?.getD 0) s<Y by unfold ES;exact CC _ uo) (show ED (c[k]?.getD 0) (64-s)<Y from CO (FB _ _) i);obtain rfl|Q:=Decidable.em (la=nn)
 . obtain⟨b,off,rfl,B,c1⟩:=g (k+1) O;obtain⟨_,_,x,_,c0⟩:=g k O;cases x;obtain⟨r,t⟩:=lD O n hs (l J);rw[t]at j;have f:=Z r;have q:d=k+1:=O
   rw[<-q]at c1 o j f;have X:(d:Int)<(la:Int):=O
   have j2:(k:Int)<(la:Int):=O
   have j3:(0:Int)<=(d:Int):=O
   have j4:(0:Int)<=(k:Int):=O
   have D:k<la:=O
   clear q g m r t l hl p i;generalize c[d]?.getD 0=x1 at *;generalize c[k]?.getD 0=x0 at *;go_enter func255,ntmps255
   go_upto_region 3 with fail
   go_quiet (fail)
   go_wp2_with fail
   go_ret;refine⟨?_,Ml (BB _ w) _⟩;rw[f.o];first|rfl|(simp;done)
 . by_cases A:la=d
   . subst A;obtain⟨b,off,rfl,B,c0⟩:=g k O;have f:=Z (lE (s:=s) (show c.length=k+1 by omega) n);have D:k<la:=O
     have u:¬((la:Int)=(nn:Int)):=O
     clear g m l hl p i j o;generalize c[k]?.getD 0=x0 at *;go_enter func255,ntmps255
     go_wp2_with fail
     go_ret;refine⟨?_,BB _ w⟩;rw[f.o];first|rfl|(simp;done)
   . have f:=Z (lF (s:=s) (show c.length<=k by omega) n);have u:¬((la:Int)=(nn:Int)):=O
     have R:¬((la:Int)=(d:Int)):=O
     clear g m l hl p i o v j;go_enter func255,ntmps255
     go_wp2_with fail
     go_ret;refine⟨?_,BB _ w⟩;rw[f.o];first|rfl|(simp;done)

