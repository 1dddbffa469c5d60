import Derived.BigQuiet
import Derived.Deep.RegionHeld3
import Derived.Test.YtdmmbgahnkbnaaaGreatDoorT18
import Derived.Test.YtdmmbgahnkbnaaaGreatDoorT04
set_option linter.all false
open Go.Value renaming slice->C,int->F,pointer->L
open Go renaming undef->E,World->I
open Go.IntKind renaming u64->G,i64->N
open Go.Proofs.Tryz renaming prog->M
set_option maxRecDepth 99999
set_option maxHeartbeats 0
namespace Go.Proofs.YtdmmbgahnkbnaaaGreatDoor
open Go.RowKit Go.Shelf
attribute [local go_sem] Oper.semAt_some
section
def Bs:type_of% @IntWalk.u64_in:=@IntWalk.u64_in
def Bf:type_of% @IntWalk.i64_in:=@IntWalk.i64_in
variable{c ds xs:List Nat}{B R R0 V base d0 d1 f g l len n q r ro s u0:Nat}{v:Value}{w:I}
def UD(h:ds.length=n+2):val Y ds=(ds[n+1]?.getD 0*Y+ds[n]?.getD 0)*Y^n+val Y (ds.take n):=by
 have a:=JM Y ds (n+1);rw[Af O,JM,Ci]at a;rw[a];grind
def iK(h:ds.length=n+3):val Y ds=((ds[n+2]?.getD 0*Y+ds[n+1]?.getD 0)*Y+ds[n]?.getD 0)*Y^n+val Y (ds.take n):=by
 have a:=JM Y ds (n+2);rw[Af O,JM,JM,Ci,Ci]at a;rw[a];grind
def YG(h:DR Y ds)(n:Nat):val Y (ds.take n)<Y^n:=by
 have:=YS (h.take n);grind[AJ,AC,Y]
def L3{a:I}(h:Below B a w)(n:Nat):Below B a (w.drewN n):=h.trans ⟨J,J,J,Aa _,λ_ _=>rfl⟩
def UE(a:u0<Y)(h:Ej q d0<r\/Ej q d0=r/\YK q d0<=u0):q*d0<=r*Y+u0:=by
 grind[Ej,YK,Y]
def iL(b:u0<Y)(h:¬(Ej q d0<r))(a:¬(Ej q d0=r/\YK q d0<=u0)):r*Y+u0<q*d0:=by
 grind[Ej,YK,Y]
def iM{u2 u1 E:Nat}(b:R=((u2*Y+u1)*Y+u0)*E+R0)(d:V=(d1*Y+d0)*E+f)(i:f<E)(e:Y<=2*d1)(g:d0<Y)(c:R<V*Y)(h:d1<=u2):Hy R V (Y-1):=by
 have a:d0*E+f<Y*E:=by
  have:=Ae E (show d0+1<=Y from g);grind
 refine dV (d1:=d1) (E:=Y*E) (lo:=(u2-d1)*(Y*(Y*E))+(u1*Y+u0)*E+R0) (lo2:=d0*E+f) ?_ ?_ a e c Jf
 . obtain⟨t,rfl⟩:∃t,u2=d1+t:=⟨u2-d1,O⟩;rw[b,Nat.add_sub_cancel_left];grind
 . rw[d];grind
def iN{U E:Nat}(a:R=(U*Y+u0)*E+R0)(c:V=(d1*Y+d0)*E+f)(b:R0<E)(d:f<E)(e:Y<=2*d1)(hq:q<Y)(h:q=(U*Y+u0)/(d1*Y+d0)):Hy R V q:=by
 rw[h];have hp:0<d1:=by unfold Y at e;omega
 have g:=Cl Y hp;exact dU a c b d (by rw[<-h];omega) O
def iO(l l1 l2:Nat)(h1:(l:Int)-1=l1)(h2:(l:Int)-2=l2)(ab c D H ca cb u2 u1 u0 d1 d0 R V:Nat)(w:I)(hl:l<=1099511627776)
(ka:w.cell? ⟨ab,c+l,none⟩=some (F G (u2:Nat)))(aj:w.cell? ⟨ab,c+l1,none⟩=some (F G (u1:Nat)))(ai:w.cell? ⟨ab,c+l2,none⟩=some (F G (u0:Nat)))
(kb:w.cell? ⟨D,H+l1,none⟩=some (F G (d1:Nat)))(az:w.cell? ⟨D,H+l2,none⟩=some (F G (d0:Nat)))(K:ab<w.heap.size)
(ah:u1<Y)(x:u0<Y)(T:d1<Y)(f:d0<Y)(W:0<d1)
(Q:Hid (d1<=u2->Hy R V (Y-1)))(o:Hid (∀q:Nat,q<Y->q=((u2*Y+u1)*Y+u0)/(d1*Y+d0)->Hy R V q)):
 Calls M 286 #[C (some ⟨ab,c,none⟩) (l+1) ca,C (some ⟨D,H,none⟩) l cb] w λe w'=>∃g,e=.returned (F G (g:Nat))/\g<Y/\Hy R V g/\Bl w w':=by
 have i1:IntKind.i64.wrap ((l:Int)-1)=(l1:Int):=by rw[h1];exact Bf _ O
 have i2:IntKind.i64.wrap ((l:Int)-2)=(l2:Int):=by rw[h2];exact Bf _ O
 have j1:(l1:Int)<(l:Int):=O
 have j2:(l2:Int)<(l:Int):=O
 have j3:(l1:Int)<(l:Int)+1:=O
 have j4:(l2:Int)<(l:Int)+1:=O
 have i3:IntKind.i64.wrap (l1:Int)=(l1:Int):=Bf _ O;have j7:(l:Int)<(l:Int)+1:=O
 have j8:(0:Int)<=(l:Int):=O
 have j9:(0:Int)<=(l1:Int):=O
 have ay:(0:Int)<=(l2:Int):=O
 go_enter Tryz.func286,Tryz.ntmps286
 go_upto_region 2 with fail
 go_quiet (fail)
 by_cases ae:d1<=u2
 . go_wp2_with fail
   go_ret;exact⟨Y-1,rfl,by unfold Y;omega,Q.o ae,L3 (BB _ w) _⟩
 . have t:=dQ (B:=Y) (u:=u2*Y+u1) (u1:=u0) (d1:=d1) (d0:=d0) W T x (by
    have:=Ae Y (show u2+1<=d1 by omega);rw[Cc,FC]at this;omega)
   have S:=Z λV=>Th u2 u1 d1 O ah T V;have Qf:=t.2.2.1;have Qe:=t.2.2.2;have b:=Z t;clear t Q;generalize hX:(u2*Y+u1)/d1=q0 at *;generalize hY:(u2*Y+u1)%d1=r0 at *;generalize hZ:u2*Y+u1=U at *;clear hX hY hZ;go_wp2_with fail
   have hq:Bl w (w.drewN (nq+1)):=L3 (BB _ w) _;go_region_held3 (λw'=>w'.cell? ⟨ab,c+l,none⟩=some (F G (u2:Nat))/\w'.cell? ⟨ab,c+l1,none⟩=some (F G (u1:Nat))) (refine⟨?_,?_⟩<;>(first|(go_keep;done)|(simp[*];done)))
    (first|(go_at_call 250;refine(S.o _).mono ?_;rintro e w1 ⟨rfl,v⟩;have bi:=(v.cell (p:=⟨ab,c+l,none⟩) (show ab<w.heap.size from K)).trans ka;have bg:=(v.cell (p:=⟨ab,c+l1,none⟩) (show ab<w.heap.size from K)).trans aj;have bf:=(v.cell (p:=⟨ab,c+l2,none⟩) (show ab<w.heap.size from K)).trans ai))
   have hq:Bl w w1:=Bt hq v;go_wp2_with fail
   go_loopw [8,9] (λP rv wr=>∃(q r:Nat),P=F G (q:Nat)/\rv=F G (r:Nat)/\q<Y/\r<Y/\Hid (NE Y U u0 d1 d0 q r)/\wr=w1)
    (λP _ _=>(intOf P).toNat)
   case atStart=>exact⟨q0,r0,rfl,rfl,Qf,Qe,b,rfl⟩
   case round=>
    clear S b;obtain⟨q,r,rfl,rfl,a,aq,b,rfl⟩:=hrel;have d:0<d1*Y:=FL W uo;by_cases c1:Ej q d0<r
    . have j:=Z (o.o q a (PK b.o.1 b.o.2.1 d (UE x (Or.inl c1))));clear d;go_wp2_with(first
       |(go_at_call 226;refine(I2 _ _ a f _).mono ?_;rintro e w' ⟨rfl,rfl⟩))
      go_ret;exact⟨q,rfl,a,j.o,hq⟩
    . by_cases c2:Ej q d0=r/\YK q d0<=u0
      . have j:=Z (o.o q a (PK b.o.1 b.o.2.1 d (UE x (Or.inr c2))));obtain⟨c2,c3⟩:=c2;subst c2;clear d;go_wp2_with(first
         |(go_at_call 226;refine(I2 _ _ a f _).mono ?_;rintro e w' ⟨rfl,rfl⟩))
        go_ret;exact⟨q,rfl,a,j.o,hq⟩
      . obtain⟨g1,k,m,g4⟩:=dR b.o d (iL x c1 c2);obtain⟨p,hp⟩:=ex (q-1:Nat);rw[hp]at k m g4;have am:(q:Int)-1=(p:Int):=O
        have an:p<q:=O
        have ap:IntKind.u64.wrap (p:Int)=(p:Int):=by rw[BV];unfold Y at a;omega
        clear hp g1 b;have A:=NM r d1;have y:=Z (o.o p);clear o;by_cases i:r+d1<Y
        . have X:YX r d1 0=r+d1:=by unfold YX;rw[A8,Cx i]
          have n:XC r d1 0=0:=by unfold XC;rw[A8,Ct i]
          rw[X,n]at A;have z:=Z (show NE Y U u0 d1 d0 p (r+d1)from⟨k,m,g4,i⟩);clear k m X n d y;obtain⟨s,hs⟩:=ex (r+d1);rw[hs]at A z i;clear hs;by_cases c3:Ej q d0=r
          . have c4:¬(YK q d0<=u0):=λh=>c2 ⟨c3,h⟩;clear c2;go_wp2_with(first
             |(go_at_call 226;refine(I2 _ _ a f _).mono ?_;rintro e w' ⟨rfl,rfl⟩))
            exact⟨⟨p,s,rfl,rfl,g4,i,z,by first|trivial|rfl⟩,by simp[intOf];omega⟩
          . clear c2;go_wp2_with(first
             |(go_at_call 226;refine(I2 _ _ a f _).mono ?_;rintro e w' ⟨rfl,rfl⟩))
            exact⟨⟨p,s,rfl,rfl,g4,i,z,by first|trivial|rfl⟩,by simp[intOf];omega⟩
        . have j:=Z (y.o g4 (dS k m g4 f d O));have n:XC r d1 0=1:=by unfold XC;unfold Y at *;omega
          rw[n]at A;generalize YX r d1 0=s at *;clear k m n d y i;by_cases c3:Ej q d0=r
          . have c4:¬(YK q d0<=u0):=λh=>c2 ⟨c3,h⟩;clear c2;go_wp2_with(first
             |(go_at_call 226;refine(I2 _ _ a f _).mono ?_;rintro e w' ⟨rfl,rfl⟩))
            go_ret;exact⟨p,rfl,g4,j.o,hq⟩
          . clear c2;go_wp2_with(first
             |(go_at_call 226;refine(I2 _ _ a f _).mono ?_;rintro e w' ⟨rfl,rfl⟩))
            go_ret;exact⟨p,rfl,g4,j.o,hq⟩
def iP(a b:Option Addr)(n ca cb:Nat)(i bs:List Nat)(w:I)(D:Row G w (C a (n+3) ca) i)(H:Row G w (C b (n+2) cb) bs)(l:DR Y i)(f:DR Y bs)
(j:Y<=2*bs[n+1]?.getD 0)(u:val Y i<val Y bs*Y):
 Calls M 286 #[C a (n+3) ca,C b (n+2) cb] w λe w'=>∃g,e=.returned (F G (g:Nat))/\g<Y/\Hy (val Y i) (val Y bs) g/\Bl w w':=by
 obtain⟨x,P,T,R,k⟩:=JB D;obtain⟨y,Q,U,S,p⟩:=JB H;obtain⟨ab,r,rfl,v,ka⟩:=k (n+2) O;obtain⟨_,_,c,_,A⟩:=k (n+1) O;cases c;obtain⟨_,_,c,_,z⟩:=k n O;cases c;obtain⟨s,t,rfl,K,kb⟩:=p (n+1) O;obtain⟨_,_,c,_,B⟩:=p n O;cases c;have d:0<Y:=by unfold Y;omega
 have m:=iK x.symm;have o:=UD y.symm;exact iO (n+2) (n+1) n O O ab r s t ca cb _ _ _ _ _ _ _ w O ka A z kb B v (l.getD d _) (l.getD d _) (f.getD d _) (f.getD d _) (by unfold Y at j;omega)
  (λh=>iM m o (YG f n) j (f.getD d _) u h) λq hq h=>iN m o (YG l n) (YG f n) j hq h
def DU.win{W:I}{b:Nat}(h:DU W b xs)(a len cap:Nat)(c:a+len<=xs.length)(d:len<=cap)(e:cap<=9223372036854775807)(f:len<=1099511627776):Row G W (C (some ⟨b,a,none⟩) len cap) ((xs.drop a).take len):=
 h.row a len cap c d e f
def iQ{q:List Nat}(hq:q.length=len)(h:ro+len<=xs.length):((mid xs ro len q).drop ro).take len=q:=by
 rw[mid,List.drop_append_of_le_length (by rw[AA];omega),A5 (by rw[AA];omega),Am,A7 O,Af O]
def iR{p q:List Nat}(hp:p.length=len)(h:ro+len<=xs.length):mid (mid xs ro len p) ro len q=mid xs ro len q:=by
 have a:(xs.take ro).length=ro:=by rw[AA];omega
 rw[mid,mid,mid,A7 O,Af O,List.drop_append,a,show ro+len-ro=len from by omega,A5 O,Am,List.drop_append,hp,Cr,A5 O,Am,Cm]
def iS{q:List Nat}(a:DR Y xs)(hq:DR Y q):DR Y (mid xs ro len q):=by
 intro x b;rw[mid]at b;rcases CK.1 b with h|h
 . exact(a.take ro) x h
 . rcases CK.1 h with h|h
   . exact hq x h
   . exact(a.drop _) x h
def iT(d ro n cap:Nat)(xs:List Nat)(a:Option Addr)(cb:Nat)(bs:List Nat)(w:I)
(hA:DU w d xs)(v:DR Y xs)(X:ro+(n+3)<=xs.length)(u:n+3<=cap)(ae:cap<=9223372036854775807)(hn:n+3<=1099511627776)(k:Row G w (C a (n+2) cb) bs)(l:DR Y bs)(U:∀p,a=some p->0<n+2->p.block≠d)
(T:Y<=2*bs[n+1]?.getD 0)(S:val Y ((xs.drop ro).take (n+3))<val Y bs*Y):
 Calls M 261 #[C (some ⟨d,ro,none⟩) (n+3) cap,C a (n+2) cb] w λe w'=>
  ∃q,e=.returned (F G ((val Y ((xs.drop ro).take (n+3))/val Y bs:Nat):Int))/\(q.length=n+3/\DR Y q/\val Y q=val Y ((xs.drop ro).take (n+3))%val Y bs)/\DU w' d (mid xs ro (n+3) q)/\w.grownBy w' (some d):=by
 have D:=hA.win ro (n+3) cap X u ae hn;have y:=Z (iP _ a n cap cb _ bs w D k ((v.drop ro).take _) l T S);have s:=(JB k).1;have A:val Y bs<Y^(n+2):=by have:=YS l;rwa[<-s]at this
 have Qk:val Y bs<Y^(n+3):=AJ A (AC uo O);obtain⟨x,r,z,K,HA,i,Qj⟩:=IV k U v l hA X s;clear D T S s A Qk k U v l hA;go_enter Tryz.func261,Tryz.ntmps261
 go_upto_region 2 with(go_at_call 286;refine y.o.mono ?_;rintro e w1 ⟨g,rfl,hg,R,j⟩;have o:=Z R;clear R y)
 have H:=Z (gM d ro (n+2) cap xs a cb bs g w1 (HA.o.below j) z.o i.o u (Row.below x.o j) K.o r.o hg);go_upto_if 13 with(go_at_call 287;refine H.o.mono ?_;rintro e w2 ⟨c,q,rfl,⟨hc,W⟩,hA2,t⟩;have b:=Z W;clear W H)
 obtain rfl|rfl:c=0\/c=1:=O
 . have m:=Z (dW o.o (by have:=b.o.2.2;rw[CQ,A8]at this;exact this));have HE:=Z m.o.1;have HM:=Z m.o.2;clear m o;go_wp2_with fail
   go_ret;exact⟨q,by rw[<-HE.o];rfl,⟨b.o.1,b.o.2.1,HM.o⟩,hA2,Jl (YA j _) t⟩
 . have B:=Z (Pe d ro (n+3) cap (mid xs ro (n+3) q) a (n+2) cb bs w2 hA2 (iS z.o b.o.2.1) (by rw[Yg b.o.1 i.o];exact i.o) u O O (Row.grown (Row.below x.o j) t r.o) K.o r.o);have Ql:1<=g:=by
    rcases AQ g with h|h
    . exfalso
      have h1:=b.o.2.2;have h2:=YS b.o.2.1;rw[b.o.1]at h2;rw[h,CQ,Nat.mul_one]at h1;omega
    . exact h
   obtain⟨p,hp⟩:=ex (g-1:Nat);have ai:(g:Int)-1=(p:Int):=O
   have aj:IntKind.u64.wrap (p:Int)=(p:Int):=by rw[BV];unfold Y at hg;omega
   have HP:=Z hp;clear hp Ql;go_wp2_with(go_at_call 182;refine B.o.mono ?_;rintro e w3 ⟨c3,q3,rfl,V,hA3,ah⟩;have f:=Z V;clear V B)
   go_ret;have hk:=dX o.o (P:=Y^(n+3)) (by have:=b.o.2.2;rw[Nat.mul_one]at this;exact this) (by have:=YS b.o.2.1;rw[b.o.1]at this;exact this) (q2:=val Y q3) (c2:=c3)
    (by
     have Q:=f.o.2.2.2;rw[iQ b.o.1 i.o,Af (show bs.length<=n+3 by rw[<-Qj.o];omega)]at Q;exact Q)
    (by have:=YS f.o.2.1;rw[f.o.1]at this;exact this) f.o.2.2.1
   rw[HP.o]at hk;rw[iR b.o.1 i.o]at hA3;exact⟨q3,by rw[<-hk.2.1];rfl,⟨f.o.1,f.o.2.1,hk.2.2⟩,hA3,Jl (Jl (YA j _) t) ah⟩
def UF{bs:List Nat}{d L:Nat}(i:DR Y bs)(hl:bs.length=l+2)(f:bs[l+1]?.getD 0=d)(c:2^(L-1)<=d)(e:d<2^L)(k:1<=L)(j:L<=64)(hs:s=64-L):
 val Y bs*2^s<Y^(l+2)/\2^63*Y^(l+1)<=val Y bs*2^s:=by
 have hv:val Y bs=val Y (bs.take (l+1))+Y^(l+1)*d:=by
  have h:=JM Y bs (l+1);rwa[Af O,f]at h
 have m:=YG i (l+1);have p1:2^L*2^s=Y:=by rw[<-CM,KW];congr 1;omega
 have g:2^(L-1)*2^s=2^63:=by rw[<-CM];congr 1;omega
 constructor
 . have b:val Y bs+1<=Y^(l+1)*2^L:=by
    have:=Ai (Y^(l+1)) (show d+1<=2^L from e);rw[C1,Nat.mul_one]at this;omega
   have a:=Ae (2^s) b;rw[CA,p1,<-Ci,Cc,FC]at a;exact AJ (Nat.lt_add_of_pos_right (Cg s)) a
 . have b:Y^(l+1)*2^(L-1)<=val Y bs:=by
    have:=Ai (Y^(l+1)) c;omega
   have a:=Ae (2^s) b;rw[CA,g,AV]at a;exact a
def iU(g:DR Y c)(hl:c.length=l+3)(hv:val Y c=V)(b:V<Y^(l+2))(i:2^63*Y^(l+1)<=V):
 val Y (c.take (l+2))=V/\Y<=2*(c.take (l+2))[l+1]?.getD 0:=by
 have f:=Po (B:=Y) (k:=l+2) (D:=c) O (by rw[hv];exact b);have a:val Y (c.take (l+2))=V:=by
  have h:=val_append Y (c.take (l+2)) (c.drop (l+2));rw[A4,f,CQ,A8,hv]at h;exact h.symm
 refine⟨a,?_⟩;rw[Cj O];have d:=JM Y c (l+1);have j:=YG g (l+1);rw[show l+1+1=l+2 from J,a]at d;rcases Ch (c[l+1]?.getD 0) (2^63)with h|h
 . exfalso
   have e:=Ai (Y^(l+1)) (show c[l+1]?.getD 0+1<=2^63 from h);rw[C1,Nat.mul_one,AV _ (2^63)]at e;omega
 . rw[KW];omega
def iV{m la:Nat}(c:m<Y^la)(hn:Y^(l+1)<=n)(hl:l+1<=la):m*2^s<n*2^s*Y^(la-(l+1)):=by
 have b:Y^(l+1)*Y^(la-(l+1))=Y^la:=by rw[<-CM];congr 1;omega
 have a:=Ae (Y^(la-(l+1))) hn;rw[b]at a;rw[Nat.mul_right_comm];exact Nat.mul_lt_mul_of_pos_right (AJ c a) (Cg s)
def J4{P:Program}{ops:Array Oper}{Q:Exit->Act->I->Prop}{i:Nat}{o:Oper}{K:Act->I->Prop}{a:Act}(c:ops[i]?=some o)(b:o.guard=none)
(h:∀K':Act->I->Prop,(∀a w,K a w->K' a w)->o.wp P a w K' Q):wpOp P ops Q i K a w:=by
 unfold wpOp;rw[c];simp only[Region.wanted,b,if_true];exact Or.inl (h K λ_ _ h=>h)
def Ed{p q:Prop}(k:q)(h:Hid q->p:=by intro x;refine J4 J J λK a=>?_;go_simp;refine a _ _ ?_;(repeat apply Exists.intro);refine ⟨J,?_⟩;exact x.o):p:=h k
def Hj(V:I)(base:Nat)(v:Value)(g len b:Nat)(a:List Nat):Prop:=
 v=C (some ⟨g,0,none⟩) len len/\DU V g a/\a.length=len/\DR Y a/\val Y a=b/\base<=g
def Hj.below{V V':I}{base g len b:Nat}{v:Value}{a:List Nat}(h:Hj V base v g len b a)(c:Bl V V'):Hj V' base v g len b a:=
 ⟨h.1,h.2.1.below c,h.2.2⟩
def Hj.box{V:I}{u:Value}(h:Hj V base v g len f c)(hl:0<len)(d:Boxed V B 37 (C none 0 0)):Hj (V.setCell ⟨B,0,none⟩ u) base v g len f c:=
 ⟨h.1,h.2.1.far (by
  intro e;simp only at e;obtain⟨i,b⟩:=h.2.1;rw[e,show V.heap[B]?=_ from d]at b;obtain⟨z,a,rfl⟩:∃z a,c=z::a:=by
   cases c with
    |nil=>have:=h.2.2.1;simp at this;omega
    |cons z a=>exact⟨z,a,J⟩
  simp[cellsOf]at b) u,h.2.2⟩
def Hj.ne_box{V:I}{b:Option Addr}{k i:Nat}(h:Hj V base v g len f c)(hl:0<len)(j:Boxed V B 37 (C b k i)):g≠B:=by
 intro e;obtain⟨l,d⟩:=h.2.1;rw[e,show V.heap[B]?=_ from j]at d;obtain⟨z,a,rfl⟩:∃z a,c=z::a:=by
  cases c with
  |nil=>have:=h.2.2.1;simp at this;omega
  |cons z a=>exact⟨z,a,J⟩
 simp[cellsOf]at d
end
section
structure SplC where
 w:World
 bs:Value
 rs:Value
 ds:Value
 qs:Value
 B9:Nat
 B10:Nat
 B11:Nat
 B12:Nat
 gR:Nat
 gZ:Nat
 gQ:Nat
 Zb:List Nat
structure SplC.Apart(c:SplC):Prop where
 r0:c.gR≠c.w.heap.size
 r9:c.gR≠c.B9
 r10:c.gR≠c.B10
 r11:c.gR≠c.B11
 r12:c.gR≠c.B12
 rz:c.gR≠c.gZ
 rq:c.gR≠c.gQ
 q0:c.gQ≠c.w.heap.size
 q9:c.gQ≠c.B9
 q10:c.gQ≠c.B10
 q11:c.gQ≠c.B11
 q12:c.gQ≠c.B12
 qz:c.gQ≠c.gZ
 lr:c.w.heap.size<=c.gR
 lq:c.w.heap.size<=c.gQ
structure SplC.Holds(c:SplC)(W:World):Prop where
 b0:Boxed W c.w.heap.size 37 c.bs
 b9:Boxed W c.B9 37 c.rs
 b10:Boxed W c.B10 37 c.ds
 b11:Boxed W c.B11 37 c.qs
 b12:Boxed W c.B12 37 c.qs
 z:DU W c.gZ c.Zb
 B:Below c.w.heap.size c.w W
def SplC.Holds.kept{c:SplC}{W W':I}{g:Nat}(h:c.Holds W)(hg:W.grownBy W' (some g))(a:g≠c.w.heap.size)(i:g≠c.B9)(b:g≠c.B10)(d:g≠c.B11)(f:g≠c.B12)(j:g≠c.gZ)(hl:c.w.heap.size<=g):c.Holds W':=
 ⟨h.b0.kept hg (λe=>by grind),h.b9.kept hg (λe=>by grind),h.b10.kept hg (λe=>by grind),h.b11.kept hg (λe=>by grind),
  h.b12.kept hg (λe=>by grind),h.z.kept hg (λe=>by grind),below_grown h.B hg hl⟩
def SplC.Holds.drew{c:SplC}{W:I}(h:c.Holds W):c.Holds W.drew:=
 ⟨h.b0,h.b9,h.b10,h.b11,h.b12,h.z,h.B.drew⟩
variable{f:Bool}{D D' Q Q':List Nat}{B:Nat}{W W' W0:I}
def SplC.own(c:SplC)(b:c.w.heap.size<=B):OwnFrom B (λ(_:Nat) W=>c.Holds W):=λk W W' row hs hg a=>
 ⟨KY hs.b0 hg a,KY hs.b9 hg a,KY hs.b10 hg a,KY hs.b11 hg a,KY hs.b12 hg a,L2 hs.z hg a,Ts b k W W' row hs.B hg a⟩
def UG(c:SplC)(R0 V n K:Nat)(k:Nat)(W:I):Prop:=
 c.Holds W/\∃D Q,DU W c.gR D/\DU W c.gQ Q/\Gt R0 V n K (K-k) D Q
def iW(c:SplC)(R0 V n K:Nat)(f:c.w.heap.size<=B):OwnFrom B (UG c R0 V n K):=
 BR (c.own f) (λ_ _ _ _ hs hg a=>by obtain⟨D,Q,b,d,e⟩:=hs;exact⟨D,Q,L2 b hg a,L2 d hg a,e⟩)
structure SplM(c:SplC)(W0:World)(D D' Q Q':List Nat)(e f:Bool)(W:World):Prop where
 k:KeepsOthers W0 W
 h:c.Holds W
 r:DU W c.gR (bif e then D' else D)
 q:DU W c.gQ (bif f then Q' else Q)
def SplM.drew{c:SplC}{W0 W:I}{D D' Q Q':List Nat}{e f:Bool}(h:SplM c W0 D D' Q Q' e f W):SplM c W0 D D' Q Q' e f W.drew:=
 ⟨h.k.trans (KeepsOthers.drew W),h.h.drew,h.r,h.q⟩
def iX{g:Nat}{xs:List Nat}(hA:DU W g xs)(hg:W.grownBy W' (some g)):KeepsOthers W W':=
 KeepsOthers.of_grownBy hg λj o a b=>by cases a;exact hA.other b
def SplM.any{c:SplC}(h:SplM c W0 D D' Q Q' false f W)(a:List Nat):SplM c W0 D a Q Q' false f W:=⟨h.k,h.h,h.r,h.q⟩
def SplM.split{c:SplC}(h:SplM c W0 D D' Q Q' false f W)(a:c.Apart)(hg:W.grownBy W' (some c.gR))(hA:DU W' c.gR D'):SplM c W0 D D' Q Q' true f W':=
 ⟨h.k.trans (iX h.r hg),h.h.kept hg a.r0 a.r9 a.r10 a.r11 a.r12 a.rz a.lr,hA,h.q.kept hg λe=>by injection e with e;exact a.rq e.symm⟩
def SplM.store{c:SplC}{e:Bool}(h:SplM c W0 D D' Q Q' e false W)(a:c.Apart){j v:Nat}(d:Q.set j v=Q'):SplM c W0 D D' Q Q' e true (W.setCell ⟨c.gQ,j,none⟩ (F G (v:Nat))):=
 have b:=J1 W c.gQ j (F G (v:Nat))
 ⟨h.k.trans (BL _ _ _),h.h.kept b a.q0 a.q9 a.q10 a.q11 a.q12 a.qz a.lq,h.r.kept b (λe=>by injection e with e;exact a.rq e),by have:=h.q.set j v;grind⟩
def iY(a:Option Addr)(la ca:Nat)(r t l lb l1 cb m n d s:Nat)(w:I)(ii:lb=l+2)(h2:(lb:Int)-1=l1)(iw:r<w.heap.size)
(ra:Row G w (C a la ca) (Jh Y m))(rb:Row G w (C (some ⟨r,t,none⟩) lb cb) (Jh Y n))
(kb:w.cell? ⟨r,t+l1,none⟩=some (F G (d:Nat)))(ix:d<Y)(hs:s<=63)(HS:Hid ((64:Int)-(Lib.bitLen d:Int)=(s:Int)))(jh:lb<=la)(iy:la<1099511627776)
(ia:Hid (n*2^s<Y^(l+2)))(ib:Hid (2^63*Y^(l+1)<=n*2^s))(iu:Hid (m*2^s<n*2^s*Y^(la-(l+1)))):
 Calls M 224 #[C a la ca,C (some ⟨r,t,none⟩) lb cb] w λe w'=>∃u v,e=.returned (.tuple #[u,v])/\UN w' u (m/n)/\UN w' v (m%n)/\Bl w w':=by
 have Qc:=Z ii;have i1:IntKind.i64.wrap ((lb:Int)-1)=(l1:Int):=by rw[h2];exact Bf _ O
 have i3:IntKind.i64.wrap (l1:Int)=(l1:Int):=Bf _ O;have j1:(l1:Int)<(lb:Int):=O
 have j9:(0:Int)<=(l1:Int):=O
 have ji:¬(lb=1):=O
 have Qg:Bl w (w.alloc (.cells #[C (some ⟨r,t,none⟩) lb cb] 37)):=Ba w _;have Qf:=BH w 37 (C (some ⟨r,t,none⟩) lb cb);obtain⟨W0,di⟩:=ex (w.alloc (.cells #[C (some ⟨r,t,none⟩) lb cb] 37));have Qs:W0.heap.size=w.heap.size+1:=by rw[<-di];simp
 rw[di]at Qg Qf;have Uq:=Qf.cell;have Uz:=(Qg.cell (p:=⟨r,t+l1,none⟩) iw).trans kb;have Qr:=Z λ(V:I) (h:Bl W0 V)=>Tr a la ca (Jh Y m) s V hs (Row.below (Row.below ra Qg) h) (Jy Jf m) iy;have Qp:=Z λ(V:I) (h:Bl W0 V)=>Tr (some ⟨r,t,none⟩) lb cb (Jh Y n) s V hs (Row.below (Row.below rb Qg) h) (Jy Jf n) O;rw[JA Jf]at Qr Qp;have Ub:=Z di;have Ua:=Z (show ∀V:I,Calls M 259 #[F G (d:Nat)] V λe w'=>e=.returned (F N (s:Nat))/\w'=V from λV=>by
  have h:=Tryz.bits_LeadingZeros64 (d:Nat) V O (by unfold Y at ix;omega);rw[CV,HS.o]at h;exact h)
 have jo:IntKind.u64.wrap (s:Int)=(s:Int):=Bs _ O;have Ur:=Z Qs;clear di ii ra rb kb HS;refine(BI (n:=3)).1 ?_;refine BP Tryz.func224 rfl trivial ?_ rfl;simp only[Tryz.ntmps224,An,Ah,AE,Nat.reduceAdd,Nat.reduceSub,Ao,Ap,AD,Au,Am,AB];refine wpIn_wide.2 ?_;go_upto_region 1 with fail
 rw[Ub.o];clear Ub Qs;go_upto_region 8 with(go_at_call 259;refine(Ua.o _).mono ?_;rintro e w' ⟨rfl,e1⟩;have e2:=e1.symm;subst e2;clear e1)
 refine Xl Dj [[],[],[0,1],[],[],[3,4,2],[],[6],[5,7],[],[],[9,2,5,0,1,2,9,10],[10,8,11,0,1,2,3,4,5,6,7,8,9,10,11]] (by kernel_rfl) DN
  (λD ac V=>∃t9 az bf bg bi bj bm de bn bu df:Value,ac={ tmps:=#[C a la ca,C (some ⟨r,t,none⟩) lb cb,E,L (some ⟨w.heap.size,0,none⟩),C none 0 0,C none 0 0,E,E,F G (s:Nat),t9,az,E,E,C a la ca,F N (la:Nat),C (some ⟨r,t,none⟩) lb cb,F N (lb:Nat),.bool false,E,E,C (some ⟨r,t,none⟩) lb cb,F N (lb:Nat),.bool false,E,E,E,E,E,E,E,E,E,E,E,E,C (some ⟨r,t,none⟩) lb cb,C (some ⟨r,t,none⟩) lb cb,F N (lb:Nat),F N (l1:Nat),L (some ⟨r,t+l1,none⟩),F G (d:Nat),F N (s:Nat),F G (s:Nat),bf,bg,bi,bj,bm,de,bn,bu,df,E,E,E,E,E,E,E,E,E,E,E,E,E,E,E,E,E,E,E,E,E,E,E,E,E,E,E,E],defers:=[] }/\Hid (D 0=true->bf=C a la ca)/\Hid (D 1=true->bg=F G (s:Nat))/\Hid (D 2=true->∃g bz,Hj V W0.heap.size bi g (la+1) (m*2^s) bz)/\Hid (D 3=true->bj=C (some ⟨r,t,none⟩) lb cb)/\Hid (D 4=true->bm=F G (s:Nat))/\Hid (D 5=true->∃gR Zr gZ Zb,Hj V W0.heap.size bi gR (la+1) (m*2^s) Zr/\Hj V W0.heap.size de gZ (lb+1) (n*2^s) Zb/\gR≠gZ)/\Hid (D 6=true->bn=C (some ⟨r,t,none⟩) lb cb)/\Hid (D 7=true->bu=F N (lb:Nat))/\Hid (D 8=true->∃gZ,de=C (some ⟨gZ,0,none⟩) (lb+1) (lb+1)/\df=C (some ⟨gZ,0,none⟩) lb (lb+1))/\Hid (D 9=true->D 11=false->∃B,t9=L (some ⟨B,0,none⟩)/\Boxed V B 37 (C none 0 0)/\W0.heap.size<=B)/\Hid (D 10=true->D 12=false->∃B,az=L (some ⟨B,0,none⟩)/\Boxed V B 37 (C none 0 0)/\W0.heap.size<=B)/\Hid (D 9=true->D 10=true->t9≠az)/\Hid (D 11=true->∃B,t9=L (some ⟨B,0,none⟩)/\Boxed V B 37 bi/\W0.heap.size<=B)/\Hid (D 12=true->∃B,az=L (some ⟨B,0,none⟩)/\Boxed V B 37 df/\W0.heap.size<=B)/\Bl W0 V)
  (E8 ⟨_,_,_,rfl,Z Di,Z Di,Z Di,Z Di,Z Di,Z Di,Z Di,Z Di,Z Di,Z Di,Z Di,Z Di,Z Di,Z Di,(BB _ W0).drew⟩) ?step8 ?fin8
 case step8=>
  rintro D a2 V i ds ah gq b ai ⟨t9,az,bf,bg,bi,bj,bm,de,bn,bu,df,rfl,g0,A,g2,P,g4,o,R,S,T,z,x,gx,X,ae,hq⟩;have Qx:i<13:=(Aq.1 gq).1;obtain rfl|rfl|rfl|rfl|rfl|rfl|rfl|rfl|rfl|rfl|rfl|rfl|rfl:=Ou i O
  all_goals
   simp only[Cn,Ce,AU]at gq;subst gq;clear Qx
  . clear b ah;refine Ed ?_;exact⟨Z λ_=>rfl,A,g2,P,g4,o,R,S,T,z,x,gx,X,ae,hq⟩
  . clear b ah;refine Ed ?_;exact⟨g0,Z λ_=>rfl,g2,P,g4,o,R,S,T,z,x,gx,X,ae,hq⟩
  . have Ut:D 5=false:=Dx ah ai;have Qb:D 11=false:=Dx ah ai;have Qa:D 12=false:=Dx ah ai;obtain rfl:=g0.o (b 0 DL);obtain rfl:=A.o (b 1 DL);clear b ah;refine J4 rfl rfl λK hK=>?_;go_simp;go_wp2_with(go_at_call 260;refine(Qr.o _ hq).mono ?_;rintro e w5 ⟨o,Z5,rfl,⟨gh,gi,gj⟩,hA5,cn,ap⟩)
    exact E8 ⟨_,_,_,rfl,Z λ_=>rfl,Z λ_=>rfl,Z λ_=>⟨o,Z5,rfl,hA5,gh,gi,gj,Ad hq.size cn⟩,P,g4,Z (λh=>by simp[Ut]at h),R,S,T,Z (λh h2=>by obtain⟨B,e,q,q2⟩:=z.o h h2;exact⟨B,e,boxed_below q ap,q2⟩),Z (λh h2=>by obtain⟨B,e,q,q2⟩:=x.o h h2;exact⟨B,e,boxed_below q ap,q2⟩),gx,Z (λh=>by simp[Qb]at h),Z (λh=>by simp[Qa]at h),Bt hq ap⟩
  . have k0:=(boxed_below Qf hq).cell;clear b ah;refine Ed ?_;exact⟨g0,A,g2,Z λ_=>rfl,g4,o,R,S,T,z,x,gx,X,ae,hq⟩
  . clear b ah;refine Ed ?_;exact⟨g0,A,g2,P,Z λ_=>rfl,o,R,S,T,z,x,gx,X,ae,hq⟩
  . have Uo:D 8=false:=Dx ah ai;have Qb:D 11=false:=Dx ah ai;have Qa:D 12=false:=Dx ah ai;obtain rfl:=P.o (b 3 DL);obtain rfl:=g4.o (b 4 DL);obtain⟨gR,Zr,hR⟩:=g2.o (b 2 DL);have jf:=hR.2.1.lt;clear b ah;refine J4 rfl rfl λK hK=>?_;go_simp;go_wp2_with(go_at_call 260;refine(Qp.o _ hq).mono ?_;rintro e w5 ⟨o,Z5,rfl,⟨gh,gi,gj⟩,hA5,cn,ap⟩)
    exact⟨_,_,_,_,_,_,_,_,_,_,_,rfl,g0,A,Z λ_=>⟨gR,Zr,hR.below ap⟩,Z λ_=>rfl,Z λ_=>rfl,Z λ_=>⟨gR,Zr,o,Z5,hR.below ap,⟨rfl,hA5,gh,gi,gj,Ad hq.size cn⟩,O⟩,R,S,Z (λh=>by simp[Uo]at h),Z (λh h2=>by obtain⟨B,e,q,q2⟩:=z.o h h2;exact⟨B,e,boxed_below q ap,q2⟩),Z (λh h2=>by obtain⟨B,e,q,q2⟩:=x.o h h2;exact⟨B,e,boxed_below q ap,q2⟩),gx,Z (λh=>by simp[Qb]at h),Z (λh=>by simp[Qa]at h),Bt hq ap⟩
  . have k0:=(boxed_below Qf hq).cell;clear b ah;refine Ed ?_;exact⟨g0,A,g2,P,g4,o,Z λ_=>rfl,S,T,z,x,gx,X,ae,hq⟩
  . obtain rfl:=R.o (b 6 DL);clear b ah;refine Ed ?_;exact⟨g0,A,g2,P,g4,o,Z λ_=>rfl,Z λ_=>rfl,T,z,x,gx,X,ae,hq⟩
  . have Qa:D 12=false:=Dx ah ai;obtain⟨gR,Zr,gZ,Zb,hR,hZ,ay⟩:=o.o (b 5 DL);obtain rfl:=hZ.1;obtain rfl:=S.o (b 7 DL);have b1:(0:Int)<=(lb:Int):=O
    have b2:(lb:Int)<=(lb:Int)+1:=O
    clear b ah;refine Ed ?_;exact⟨g0,A,g2,P,g4,Z λ_=>⟨gR,Zr,gZ,Zb,hR,hZ,ay⟩,R,Z λ_=>rfl,Z λ_=>⟨gZ,rfl,rfl⟩,z,x,gx,X,Z (λh=>by simp[Qa]at h),hq⟩
  . have Qb:D 11=false:=Dx ah ai;have Qa:D 12=false:=Dx ah ai;clear b ah;refine Ed ?_;exact⟨g0,A,Z (λh=>by obtain⟨g,bz,q⟩:=g2.o h;exact⟨g,bz,q.below (Ba V _)⟩),P,g4,Z (λh=>by obtain⟨gR,Zr,gZ,Zb,q1,q2,q3⟩:=o.o h;exact⟨gR,Zr,gZ,Zb,q1.below (Ba V _),q2.below (Ba V _),q3⟩),R,S,T,Z λ_ _=>⟨_,rfl,BH _ _ _,hq.size⟩,Z (λh h2=>by obtain⟨B,e,q,q2⟩:=x.o h h2;exact⟨B,e,q.alloc _,q2⟩),Z (λ_ h e=>by obtain⟨B,e2,q,q2⟩:=x.o (by simpa using h) Qa;have:=q.lt;rw[e2]at e;cases e;omega),Z (λh=>by simp[Qb]at h),Z (λh=>by simp[Qa]at h),hq.alloc hq.size _⟩
  . have Qb:D 11=false:=Dx ah ai;have Qa:D 12=false:=Dx ah ai;clear b ah;refine Ed ?_;exact⟨g0,A,Z (λh=>by obtain⟨g,bz,q⟩:=g2.o h;exact⟨g,bz,q.below (Ba V _)⟩),P,g4,Z (λh=>by obtain⟨gR,Zr,gZ,Zb,q1,q2,q3⟩:=o.o h;exact⟨gR,Zr,gZ,Zb,q1.below (Ba V _),q2.below (Ba V _),q3⟩),R,S,T,Z (λh h2=>by obtain⟨B,e,q,q2⟩:=z.o h h2;exact⟨B,e,q.alloc _,q2⟩),Z λ_ _=>⟨_,rfl,BH _ _ _,hq.size⟩,Z (λh _ e=>by obtain⟨B,e2,q,q2⟩:=z.o (by simpa using h) Qb;have:=q.lt;rw[e2]at e;cases e;omega),Z (λh=>by simp[Qb]at h),Z (λh=>by simp[Qa]at h),hq.alloc hq.size _⟩
  . have Qa:D 12=false:=Dx ah ai;obtain⟨B,rfl,am,co⟩:=z.o (b 9 DL) ai;obtain⟨gR,Zr,gZ,Zb,hR,hZ,ay⟩:=o.o (b 5 DL);have k0:=am.cell;have f0:=am.frozen;obtain⟨B2,ce,gn,gy⟩:=x.o (b 10 DL) Qa;have Qt:B≠B2:=λe=>gx.o (b 9 DL) (b 10 DL) (by rw[ce,e]);obtain rfl:=ce;obtain rfl:=hR.1;clear z X;clear b ah;refine Ed ?_;exact⟨g0,A,Z λ_=>⟨gR,Zr,hR.box O am⟩,P,g4,Z λ_=>⟨gR,Zr,gZ,Zb,hR.box O am,hZ.box O am,ay⟩,R,S,T,Z (λ_ h=>by simp at h),Z λ_ _=>⟨B2,rfl,gn.kept (DF _ B _) (λe=>by injection e;omega),gy⟩,gx,Z λ_=>⟨B,rfl,am.set _,co⟩,Z (λh=>by simp[Qa]at h),hq.setCell (p:=⟨B,0,none⟩) co _⟩
  . obtain⟨B,rfl,am,co⟩:=x.o (b 10 DL) ai;obtain⟨gR,Zr,gZ,Zb,hR,hZ,ay⟩:=o.o (b 5 DL);obtain⟨ic,dh,fx⟩:=T.o (b 8 DL);have k0:=am.cell;have f0:=am.frozen;obtain⟨B2,ce,gn,gy⟩:=X.o (b 11 DL);have Qt:B≠B2:=λe=>gx.o (b 9 DL) (b 10 DL) (by rw[ce,e]);obtain rfl:=fx;obtain rfl:=dh;obtain rfl:=ce;have Qy:=b 11 DL;clear x ae;clear b ah;refine Ed ?_;exact⟨g0,A,Z λ_=>⟨gR,Zr,hR.box O am⟩,P,g4,Z λ_=>⟨gR,Zr,gZ,Zb,hR.box O am,hZ.box O am,ay⟩,R,S,Z λ_=>⟨ic,rfl,rfl⟩,Z (λ_ h=>by simp[Qy]at h),Z (λ_ h=>by simp at h),gx,Z λ_=>⟨B2,rfl,gn.kept (DF _ B _) (λe=>by injection e;omega),gy⟩,Z λ_=>⟨B,rfl,am.set _,co⟩,hq.setCell (p:=⟨B,0,none⟩) co _⟩
 rintro D a2 f an ⟨t9,az,bf,bg,bi,bj,bm,de,bn,bu,df,rfl,g0,A,g2,P,g4,o,R,S,T,z,x,gx,X,ae,hq⟩;obtain⟨gR,Zr,gZ,Zb,hR,hZ,ay⟩:=o.o (an 5 DN);obtain⟨ic,dh,fx⟩:=T.o (an 8 DN);obtain⟨B9,rfl,ck,jn⟩:=X.o (an 11 DN);obtain⟨B10,rfl,cj,jl⟩:=ae.o (an 12 DN);obtain rfl:=fx;obtain rfl:=hR.1;have e0:=hZ.1;rw[dh]at e0;cases e0;obtain rfl:=dh;clear g0 A g2 P g4 o R S T z x gx X ae an Qr Qp Ua;obtain⟨K,hK⟩:∃K:Nat,(la:Int)+1-(lb:Int)=(K:Int):=⟨la+1-lb,O⟩;have jd:IntKind.i64.wrap (K:Int)=(K:Int):=Bf _ O;have Uw:=I0 K O f;have k9:=ck.cell;have Us:=cj.cell;have Qi:K+lb=la+1:=O
 have Qm:=Z Qi;clear Qi;go_wp2_with(go_at_call 177;refine((BI (n:=2)).1 (Lu Fence.wide _ trivial rfl _ _ _ _)).mono ?_;rintro e w' ⟨rfl,rfl⟩)
 refine(wpIn_wide (n:=3)).1 ?_;obtain⟨WQ,aq⟩:=ex (((f.alloc (.cells (cellsOf G (List.replicate K 0)).toArray 141)).alloc (.cells #[C (some ⟨f.heap.size,0,none⟩) K K] 37)).alloc (.cells #[C (some ⟨f.heap.size,0,none⟩) K K] 37));have Uv:WQ.heap.size=f.heap.size+1+1+1:=by rw[<-aq];simp
 have Qj:Bl w f:=Bt Qg hq;have Qs:=Ur.o;have Um:Bl w WQ:=by rw[<-aq];exact((Qj.alloc Qj.size _).alloc (by have:=Qj.size;simp;omega) _).alloc (by have:=Qj.size;simp;omega) _
 have lR:=hR.2.1.lt;have lZ:=hZ.2.1.lt;have l9:=ck.lt;have jp:=cj.lt;have n9:gR≠B9:=λe=>hR.ne_box O ck e;have jq:gR≠B10:=λe=>hR.ne_box O cj e;have iz:=hR.2.2.2.2.2;have ja:=hZ.2.2.2.2.2;obtain⟨c,hc⟩:∃c:SplC,c=⟨w,C (some ⟨r,t,none⟩) lb cb,C (some ⟨gR,0,none⟩) (la+1) (la+1),C (some ⟨gZ,0,none⟩) lb (lb+1),C (some ⟨f.heap.size,0,none⟩) K K,B9,B10,f.heap.size+1,f.heap.size+1+1,gR,gZ,f.heap.size,Zb⟩:=⟨_,rfl⟩;have Ue:c.Apart:=by
  rw[hc];constructor<;>(simp only;omega)
 have Uc:c.Holds WQ:=by
  rw[hc,<-aq];have Ui:=(BH (f.alloc (.cells (cellsOf G (List.replicate K 0)).toArray 141)) 37 (C (some ⟨f.heap.size,0,none⟩) K K)).alloc (.cells #[C (some ⟨f.heap.size,0,none⟩) K K] 37);have Uf:=BH ((f.alloc (.cells (cellsOf G (List.replicate K 0)).toArray 141)).alloc (.cells #[C (some ⟨f.heap.size,0,none⟩) K K] 37)) 37 (C (some ⟨f.heap.size,0,none⟩) K K);simp only[Ax]at Ui Uf;exact⟨(((boxed_below Qf hq).alloc _).alloc _).alloc _,((ck.alloc _).alloc _).alloc _,((cj.alloc _).alloc _).alloc _,Ui,Uf,((hZ.2.1.alloc _).alloc _).alloc _,by rw[aq];exact Um⟩
 have Uh:DU WQ gR Zr:=by rw[<-aq];exact((hR.2.1.alloc _).alloc _).alloc _
 have Qz:DU WQ f.heap.size (List.replicate K 0):=by rw[<-aq];exact((DU.made (BD f _)).alloc _).alloc _
 have Qu:Gt (m*2^s) (n*2^s) lb K K Zr (List.replicate K 0):=Gt.start (by have:=Qm.o;rw[hR.2.2.1];omega) hR.2.2.2.1 hR.2.2.2.2.1 (by
  have h:=iu.o;rwa[show la-(l+1)=K from by have:=Qm.o;have:=Qc.o;omega]at h)
 obtain⟨gw,il⟩:=iU hZ.2.2.2.1 (by rw[hZ.2.2.1,Qc.o]) hZ.2.2.2.2.1 ia.o ib.o;have Ux:0<n*2^s:=by
  have h:=ib.o;have:=FL (Cg 63) (CE (n:=l+1) (show 0<Y by unfold Y;omega));omega
 have Qh:n*2^s<Y^lb:=by rw[Qc.o];exact ia.o
 have Up:=hZ.2.2.2.1;have jg:=hZ.2.2.1;rw[aq];clear aq Uw ck cj Qf Uq k9 Us hR hZ hq Qj Uz;refine XQ rfl O (gf:=230) (lb:=#[L (some ⟨f.heap.size+1+1,0,none⟩)]) rfl trivial (Bk Tryz.func230 (by kernel_rfl) rfl)
  (Ls Fence.wide _ trivial rfl O (f.heap.size+1+1) (some ⟨f.heap.size,0,none⟩) K K (λ_=>0) O) (λ_=>rfl)
  (UG c (m*2^s) (n*2^s) lb K) (λ_ _ _=>False) (iW c _ _ _ _ (by rw[hc,Uv];simp only;omega)) (λc _ _ _ _ h _ _=>h.elim)
  ⟨Uc,Zr,List.replicate K 0,by rw[hc];exact Uh,by rw[hc];exact Qz,by rw[Fv];exact Qu⟩ ?rd
  (λk=>{ tmps:=#[C a la ca,C (some ⟨r,t,none⟩) lb cb,E,L (some ⟨w.heap.size,0,none⟩),C none 0 0,C none 0 0,E,E,F G (s:Nat),L (some ⟨B9,0,none⟩),L (some ⟨B10,0,none⟩),L (some ⟨f.heap.size+1,0,none⟩),F N ((K:Int)-1-k),C a la ca,F N (la:Nat),C (some ⟨r,t,none⟩) lb cb,F N (lb:Nat),.bool false,E,E,C (some ⟨r,t,none⟩) lb cb,F N (lb:Nat),.bool false,E,E,E,E,E,E,E,E,E,E,E,E,C (some ⟨r,t,none⟩) lb cb,C (some ⟨r,t,none⟩) lb cb,F N (lb:Nat),F N (l1:Nat),L (some ⟨r,t+l1,none⟩),F G (d:Nat),F N (s:Nat),F G (s:Nat),bf,bg,C (some ⟨gR,0,none⟩) (la+1) (la+1),bj,bm,C (some ⟨gZ,0,none⟩) (lb+1) (lb+1),bn,bu,C (some ⟨gZ,0,none⟩) lb (lb+1),C (some ⟨gR,0,none⟩) (la+1) (la+1),F N ((la:Int)+1),C (some ⟨gZ,0,none⟩) lb (lb+1),F N (lb:Nat),F N (K:Nat),C (some ⟨f.heap.size,0,none⟩) K K,C (some ⟨f.heap.size,0,none⟩) K K,.func (.func 230) #[] #[L (some ⟨f.heap.size+1+1,0,none⟩)],F N ((K:Int)-1-k),F G 0,E,E,E,E,E,E,E,E,E,E,E,E,E,E,E,E,E,E],defers:=[] }) ?assign ?body ?done ?stop
 case rd=>
  rintro k W ⟨hh,D,Q,_,hQ,hL⟩;have Ud:=hh.b12;rw[hc]at Ud hQ;refine⟨Ud.cell,λhk=>⟨f.heap.size,0,rfl,?_⟩⟩;rw[AW,hQ.cell (j:=K-1-k) (by rw[hL.2.2.1];omega),hL.2.2.2.2.2.2 (K-1-k) O]
 case assign=>
  intro l k W K hK;unfold IA;gi_wp2;exact hK
 case stop=>
  rintro D c k W _ _ h _;exact h.elim
 case body=>
  rintro l' k W ⟨hh,D,Q,hD,hQ,hL⟩ hk jk;have Ug:K-k=K-1-k+1:=O
  rw[Ug]at hL;have e1:((K:Int)-1-k)=((K-1-k:Nat):Int):=O
  have HI:=Z (show K-(k+1)=K-1-k by omega);have Qn:K-1-k<K:=O
  rw[e1];obtain⟨i,hi⟩:=ex (K-1-k);rw[hi]at hL Qn HI ⊢;clear Ug e1 hi;obtain⟨w1,w2,w3⟩:=hL.win Qn Qh;have Uu:=hL.1;have je:=hL.2.2.1;have Ul:=Z (show ∀(V:I) (nn:Nat),DU V gR D->DU V gZ Zb->CallsIn (Fence.wide.inRound l') nn M 261 #[C (some ⟨gR,i,none⟩) (lb+1) (la+1-i),C (some ⟨gZ,0,none⟩) lb (lb+1)] V λe w'=>
   ∃q,e=.returned (F G ((val Y ((D.drop i).take (lb+1))/(n*2^s):Nat):Int))/\(q.length=lb+1/\DR Y q/\val Y q=val Y ((D.drop i).take (lb+1))%(n*2^s))/\DU w' gR (mid D i (lb+1) q)/\V.grownBy w' (some gR)from λV nn h1 h2=>by
   have Qi:=Qm.o;have hz:=h2.row 0 lb (lb+1) O O O O;have Qw:=iT gR i l (la+1-i) D (some ⟨gZ,0,none⟩) (lb+1) (Zb.take (l+2)) V h1 hL.2.1 (by rw[Uu];have:=Qc.o;omega) (by have:=Qc.o;omega) O (by have:=Qc.o;omega)
    (by rw[Cm,Qc.o]at hz;rw[Qc.o];exact hz) (Up.take _) (λp e _=>by cases e;exact λh=>ay h.symm) il (by rw[gw];have:=w1;rw[Qc.o]at this;exact this)
   rw[gw]at Qw;have e3:l+3=lb+1:=by rw[Qc.o]
   have e2:l+2=lb:=Qc.o.symm;rw[e3,e2]at Qw;exact Bh l' ((BI (n:=nn)).2 Qw))
  have Un:=Z λ(q:List Nat) (h1:q.length=lb+1) (h2:DR Y q) (h3:val Y q=val Y ((D.drop i).take (lb+1))%(n*2^s))=>hL.step Qn Qh h1 h2 h3 Ux;obtain⟨qd,ij⟩:=ex (val Y ((D.drop i).take (lb+1))/(n*2^s));rw[ij]at Un Ul;clear ij w1 w2 w3 hL gw il Qu;obtain⟨H1,jb⟩:∃H1:Nat,(i:Int)+(lb:Int)=(H1:Int):=⟨i+lb,O⟩;obtain⟨H,hH⟩:∃H:Nat,(H1:Int)+1=(H:Int):=⟨H1+1,O⟩;have jc:H-i=lb+1:=O
  have y1:(i:Int)<=(H:Int):=O
  have y2:(H:Int)<=(la:Int)+1:=O
  have y3:(0:Int)<=(i:Int):=O
  have y4:(i:Int)<(K:Int):=O
  have y5:IntKind.i64.wrap (H1:Int)=(H1:Int):=Bf _ O;have y6:IntKind.i64.wrap (H:Int)=(H:Int):=Bf _ O;gi_wp2_with fail
  refine XD Dj [[],[],[],[],[],[],[5],[4,6],[7],[2,3,8],[],[9,10],[0,1,0,1,2,3,4,5,6,7,8,9,10,11],[12,11,11,0,1,2,3,4,5,6,7,8,9,10,11]] (by kernel_rfl) DN
   (λDD ac V=>∃dj dt dx dz ed ei f9 fe fg fh fi fm fo:Value,ac={ tmps:=#[C a la ca,C (some ⟨r,t,none⟩) lb cb,E,L (some ⟨w.heap.size,0,none⟩),C none 0 0,C none 0 0,E,E,F G (s:Nat),L (some ⟨B9,0,none⟩),L (some ⟨B10,0,none⟩),L (some ⟨f.heap.size+1,0,none⟩),F N (i:Nat),C a la ca,F N (la:Nat),C (some ⟨r,t,none⟩) lb cb,F N (lb:Nat),.bool false,E,E,C (some ⟨r,t,none⟩) lb cb,F N (lb:Nat),.bool false,E,E,E,E,E,E,E,E,E,E,E,E,C (some ⟨r,t,none⟩) lb cb,C (some ⟨r,t,none⟩) lb cb,F N (lb:Nat),F N (l1:Nat),L (some ⟨r,t+l1,none⟩),F G (d:Nat),F N (s:Nat),F G (s:Nat),bf,bg,C (some ⟨gR,0,none⟩) (la+1) (la+1),bj,bm,C (some ⟨gZ,0,none⟩) (lb+1) (lb+1),bn,bu,C (some ⟨gZ,0,none⟩) lb (lb+1),C (some ⟨gR,0,none⟩) (la+1) (la+1),F N ((la:Int)+1),C (some ⟨gZ,0,none⟩) lb (lb+1),F N (lb:Nat),F N (K:Nat),C (some ⟨f.heap.size,0,none⟩) K K,C (some ⟨f.heap.size,0,none⟩) K K,.func (.func 230) #[] #[L (some ⟨f.heap.size+1+1,0,none⟩)],F N (i:Nat),F G 0,dj,dt,dx,dz,ed,ei,f9,fe,fg,fh,fi,fm,fo,E,E,E,E,E],defers:=[] }/\Hid (DD 0=true->dj=C (some ⟨f.heap.size,0,none⟩) K K)/\Hid (DD 1=true->dt=F N (i:Nat))/\Hid (DD 2=true->dx=C (some ⟨gR,0,none⟩) (la+1) (la+1))/\Hid (DD 3=true->dz=F N (i:Nat))/\Hid (DD 4=true->ed=F N (i:Nat))/\Hid (DD 5=true->ei=C (some ⟨r,t,none⟩) lb cb)/\Hid (DD 6=true->f9=F N (lb:Nat))/\Hid (DD 7=true->fe=F N (H1:Nat))/\Hid (DD 8=true->fg=F N (H:Nat))/\Hid (DD 9=true->fh=C (some ⟨gR,i,none⟩) (lb+1) (la+1-i))/\Hid (DD 10=true->fi=C (some ⟨gZ,0,none⟩) lb (lb+1))/\Hid (DD 11=true->fm=F G (qd:Nat))/\Hid (DD 12=true->fo=L (some ⟨f.heap.size,i,none⟩))/\∃D2,Hid (DD 11=true->∃q,(q.length=lb+1/\DR Y q/\val Y q=val Y ((D.drop i).take (lb+1))%(n*2^s))/\D2=mid D i (lb+1) q)/\SplM c W D D2 Q (Q.set i qd) (DD 11) (DD 13) V)
   (E8 ⟨_,_,_,_,_,rfl,Z Di,Z Di,Z Di,Z Di,Z Di,Z Di,Z Di,Z Di,Z Di,Z Di,Z Di,Z Di,Z Di,D,Z Di,SplM.drew ⟨KeepsOthers.refl _,hh,hD,hQ⟩⟩) ?step ?fin
  case fin=>
   rintro DD ac V an ⟨dj,dt,dx,dz,ed,ei,f9,fe,fg,fh,fi,fm,fo,rfl,g0,A,g2,P,g4,o,R,S,T,z,x,X,ae,D2,gd,y⟩;rw[an 11 DN,an 13 DN]at y;obtain⟨q,⟨gr,gu,gv⟩,rfl⟩:=gd.o (an 11 DN);refine⟨y.k.from _,y.h,mid D i (lb+1) q,Q.set i qd,y.r,y.q,?_⟩;rw[HI.o];exact Un.o q gr gu gv
  case step=>
   rintro DD ac V j ds aj hj b ai ⟨dj,dt,dx,dz,ed,ei,f9,fe,fg,fh,fi,fm,fo,rfl,g0,A,g2,P,g4,o,R,S,T,z,x,X,ae,D2,gd,y⟩;have Qv:j<14:=(Aq.1 hj).1;obtain rfl|rfl|rfl|rfl|rfl|rfl|rfl|rfl|rfl|rfl|rfl|rfl|rfl|rfl:=Li j O
   all_goals
    simp only[Cn,Ce,AU]at hj;subst hj;clear Qv
   . have b11:Boxed V (f.heap.size+1) 37 (C (some ⟨f.heap.size,0,none⟩) K K):=by have:=y.h.b11;rw[hc]at this;exact this
     have k0:=b11.cell;clear b aj;refine Bb rfl λK2 U=>?_;go_simp;exact U _ _ (E8 ⟨_,_,_,_,_,rfl,Z λ_=>rfl,A,g2,P,g4,o,R,S,T,z,x,X,ae,D2,gd,y⟩)
   . clear b aj;refine Bb rfl λK2 U=>?_;go_simp;exact U _ _ ⟨_,_,_,_,_,_,_,_,_,_,_,_,_,rfl,g0,Z λ_=>rfl,g2,P,g4,o,R,S,T,z,x,X,ae,D2,gd,y⟩
   . have b9:Boxed V B9 37 (C (some ⟨gR,0,none⟩) (la+1) (la+1)):=by have:=y.h.b9;rw[hc]at this;exact this
     have k0:=b9.cell;clear b aj;refine Bb rfl λK2 U=>?_;go_simp;exact U _ _ ⟨_,_,_,_,_,_,_,_,_,_,_,_,_,rfl,g0,A,Z λ_=>rfl,P,g4,o,R,S,T,z,x,X,ae,D2,gd,y⟩
   . clear b aj;refine Bb rfl λK2 U=>?_;go_simp;exact U _ _ ⟨_,_,_,_,_,_,_,_,_,_,_,_,_,rfl,g0,A,g2,Z λ_=>rfl,g4,o,R,S,T,z,x,X,ae,D2,gd,y⟩
   . clear b aj;refine Bb rfl λK2 U=>?_;go_simp;exact U _ _ ⟨_,_,_,_,_,_,_,_,_,_,_,_,_,rfl,g0,A,g2,P,Z λ_=>rfl,o,R,S,T,z,x,X,ae,D2,gd,y⟩
   . have b0:Boxed V w.heap.size 37 (C (some ⟨r,t,none⟩) lb cb):=by have:=y.h.b0;rw[hc]at this;exact this
     have k0:=b0.cell;clear b aj;refine Bb rfl λK2 U=>?_;go_simp;exact U _ _ ⟨_,_,_,_,_,_,_,_,_,_,_,_,_,rfl,g0,A,g2,P,g4,Z λ_=>rfl,R,S,T,z,x,X,ae,D2,gd,y⟩
   . obtain rfl:=o.o (b 5 DL);clear b aj;refine Bb rfl λK2 U=>?_;go_simp;exact U _ _ ⟨_,_,_,_,_,_,_,_,_,_,_,_,_,rfl,g0,A,g2,P,g4,Z λ_=>rfl,Z λ_=>rfl,S,T,z,x,X,ae,D2,gd,y⟩
   . obtain rfl:=g4.o (b 4 DL);obtain rfl:=R.o (b 6 DL);clear b aj;refine Bb rfl λK2 U=>?_;go_simp;exact U _ _ ⟨_,_,_,_,_,_,_,_,_,_,_,_,_,rfl,g0,A,g2,P,Z λ_=>rfl,o,Z λ_=>rfl,Z λ_=>rfl,T,z,x,X,ae,D2,gd,y⟩
   . obtain rfl:=S.o (b 7 DL);clear b aj;refine Bb rfl λK2 U=>?_;go_simp;exact U _ _ ⟨_,_,_,_,_,_,_,_,_,_,_,_,_,rfl,g0,A,g2,P,g4,o,R,Z λ_=>rfl,Z λ_=>rfl,z,x,X,ae,D2,gd,y⟩
   . obtain rfl:=g2.o (b 2 DL);obtain rfl:=P.o (b 3 DL);obtain rfl:=T.o (b 8 DL);have jj:¬(la+1=i):=O
     clear b aj;refine Bb rfl λK2 U=>?_;go_simp;exact U _ _ ⟨_,_,_,_,_,_,_,_,_,_,_,_,_,rfl,g0,A,Z λ_=>rfl,Z λ_=>rfl,g4,o,R,S,Z λ_=>rfl,Z λ_=>rfl,x,X,ae,D2,gd,y⟩
   . have b10:Boxed V B10 37 (C (some ⟨gZ,0,none⟩) lb (lb+1)):=by have:=y.h.b10;rw[hc]at this;exact this
     have k0:=b10.cell;clear b aj;refine Bb rfl λK2 U=>?_;go_simp;exact U _ _ ⟨_,_,_,_,_,_,_,_,_,_,_,_,_,rfl,g0,A,g2,P,g4,o,R,S,T,z,Z λ_=>rfl,X,ae,D2,gd,y⟩
   . obtain rfl:=z.o (b 9 DL);obtain rfl:=x.o (b 10 DL);rw[ai]at y;have hr:DU V gR D:=by have:=y.r;rw[hc]at this;exact this
     have hz:DU V gZ Zb:=by have:=y.h.z;rw[hc]at this;exact this
     have HV:=Z y;clear y;clear b aj;refine Bb rfl λK2 U=>?_;go_simp;gi_wp2_with(refine⟨trivial,?_⟩;gi_at_call 261;refine(Ul.o _ _ hr hz).mono ?_;rintro e w5 ⟨q,rfl,⟨gr,gu,gv⟩,hA5,cn⟩)
     exact⟨_,_,_,_,_,_,_,_,_,_,_,_,_,rfl,g0,A,g2,P,g4,o,R,S,T,Z λ_=>rfl,Z λ_=>rfl,Z λ_=>rfl,ae,mid D i (lb+1) q,Z λ_=>⟨q,⟨gr,gu,gv⟩,rfl⟩,SplM.split (HV.o.any _) Ue (by rw[hc];exact cn) (by rw[hc];exact hA5)⟩
   . obtain rfl:=g0.o (b 0 DL);obtain rfl:=A.o (b 1 DL);clear b aj;refine Bb rfl λK2 U=>?_;go_simp;exact U _ _ (E8 ⟨_,_,_,_,_,rfl,Z λ_=>rfl,Z λ_=>rfl,g2,P,g4,o,R,S,T,z,x,X,Z λ_=>rfl,D2,gd,y⟩)
   . obtain rfl:=X.o (b 11 DL);obtain rfl:=ae.o (b 12 DL);rw[ai]at y;have Qk:DU V f.heap.size Q:=by have:=y.q;rw[hc]at this;exact this
     have k0:=Qk.cell (j:=i) O;have f0:=Qk.frozen i;have Ql:SplM c W D D2 Q (Q.set i qd) (DD 11) true (V.setCell ⟨f.heap.size,i,none⟩ (F G (qd:Nat))):=by have:=y.store Ue (j:=i) (v:=qd) rfl;rw[hc]at this ⊢;exact this
     have Qo:=Z Ql;clear Ql y;clear b aj;refine Bb rfl λK2 U=>?_;go_simp;exact U _ _ ⟨_,_,_,_,_,_,_,_,_,_,_,_,_,rfl,g0,A,g2,P,g4,o,R,S,T,z,x,Z λ_=>rfl,Z λ_=>rfl,D2,gd,Qo.o⟩
 case done=>
  rintro D W hD ⟨hh,D2,Q2,an,ie,hL⟩ U;rw[Cr]at hL;obtain⟨f1,f2⟩:=hL.fin rfl rfl;have b11:Boxed W (f.heap.size+1) 37 (C (some ⟨f.heap.size,0,none⟩) K K):=by have:=hh.b11;rw[hc]at this;exact this
  have b9:Boxed W B9 37 (C (some ⟨gR,0,none⟩) (la+1) (la+1)):=by have:=hh.b9;rw[hc]at this;exact this
  have Uj:Bl w W:=by have:=hh.B;rw[hc]at this;exact this
  have hr:DU W gR D2:=by have:=an;rw[hc]at this;exact this
  have Qk:DU W f.heap.size Q2:=by have:=ie;rw[hc]at this;exact this
  have Qi:=Qm.o;have Qd:Row G W (C (some ⟨f.heap.size,0,none⟩) K K) Q2:=by
   have h1:=Qk.row 0 K K (by rw[hL.2.2.1];omega) (Aa _) O O;rwa[Cm,Af (by rw[hL.2.2.1];exact Aa _)]at h1
  have Qe:Row G W (C (some ⟨gR,0,none⟩) (la+1) (la+1)) D2:=by
   have h1:=hr.row 0 (la+1) (la+1) (by rw[hL.1];omega) (Aa _) O O;rwa[Cm,Af (by rw[hL.1];omega)]at h1
  have HT:=Z (show ∀V:I,Bl W V->Calls M 95 #[C (some ⟨f.heap.size,0,none⟩) K K] V λe w'=>∃u,e=.returned u/\UN w' u (m/n)/\Bl V w' from λV h=>by
   have h1:=Xq _ Q2 V (Row.below Qd h);rw[f1]at h1;exact h1)
  have Uy:=Z (show ∀V:I,Bl W V->Calls M 262 #[C (some ⟨gR,0,none⟩) (la+1) (la+1),F G (s:Nat)] V λe w'=>∃u,e=.returned u/\UN w' u (m%n)/\Bl V w' from λV h=>by
   have h1:=gg _ _ _ D2 s V hs (Row.below Qe h) hL.2.1;rw[f2,Nat.mul_div_cancel _ (Cg s)]at h1;exact h1)
  have l9:=b9.lt;have Uk:=b11.cell;have k9:=b9.cell;clear hL f1 f2 Qd Qe hr Qk hh an ie Uc Uh Qz Qu Qi;go_upto_region 13 with fail
  have hq:Bl W W.drew:=(BB _ W).drew;go_region_held3 (λw'=>w'.cell? ⟨f.heap.size+1,0,none⟩=some (C (some ⟨f.heap.size,0,none⟩) K K)/\w'.cell? ⟨B9,0,none⟩=some (C (some ⟨gR,0,none⟩) (la+1) (la+1))) (refine⟨?_,?_⟩<;>(first|(go_keep;done)|(simp[*];done)))
   (first
    |(go_at_call 95;refine(HT.o _ hq).mono ?_;rintro e w5 ⟨u5,rfl,io,ap⟩;obtain⟨ua,uc,rfl⟩:=UN.form io;have hq:=Bt hq ap;have Uk:=(boxed_below b11 hq).cell;have k9:=(boxed_below b9 hq).cell)
    |(go_at_call 262;refine(Uy.o _ hq).mono ?_;rintro e w6 ⟨u6,rfl,ir,ig⟩;obtain⟨va,vc,rfl⟩:=UN.form ir;have hq:=Bt hq ig;have Uk:=(boxed_below b11 hq).cell;have k9:=(boxed_below b9 hq).cell))
  all_goals go_wp2_with fail
  have Qq:w6.heap[D]?=some (.deferred (some [])):=(hq.block D (Ab.1 U).1).trans U;refine⟨DL,.inl ⟨_,_,rfl,BU Qq,?_⟩⟩;refine⟨.tuple #[C ua (Jh Y (m/n)).length uc,C va (Jh Y (m%n)).length vc],by simp[results,Tryz.results224,go_sem],_,_,rfl,Pv (UN.below io ig) Qq,Pv ir Qq,?_⟩;exact below_grown (Bt Uj hq) (BW _ D (.deferred none)) (by have:=Um.size;omega)
end
section
variable{zs:List Nat}{P base g l rc:Nat}{u:Value}{W:I}
def Pz(a:Option Addr)(la ca:Nat)(b:Option Addr)(lb cb m n:Nat)(w:I)(g:Row G w (C a la ca) (Jh Y m))(i:Row G w (C b lb cb) (Jh Y n))(hn:n≠0)(T:la<1099511627776):
 Calls M 224 #[C a la ca,C b lb cb] w λe w'=>∃u v,e=.returned (.tuple #[u,v])/\UN w' u (m/n)/\UN w' v (m%n)/\Bl w w':=by
 obtain⟨S,W,am,ah,ae⟩:=JB g;obtain⟨f,X,an,ai,R⟩:=JB i;have aj:lb≠0:=λe=>hn ((Ya Jf).1 (AM (by rw[<-f,e])));by_cases D:la<lb
 . exact gp a la ca b lb cb m n w g i D
 . by_cases H:lb=1
   . subst H;exact iA a la ca b cb m n w g i O
   . obtain⟨l,rfl⟩:∃l,lb=l+2:=⟨lb-2,O⟩;obtain⟨x,y,rfl,Q,kb⟩:=R (l+1) O;have j:=Jy Jf n;have o:(Jh Y n)[l+1]?.getD 0≠0:=by
      intro e;have K:=JM Y (Jh Y n) (l+1);rw[Af O,e,CQ,A8,JA Jf]at K;have V:=YG j (l+1);have k:=PH Jf f.symm O;rw[show l+2-1=l+1 from J]at k;omega
     have c:(Jh Y n)[l+1]?.getD 0<Y:=j.getD uo _;obtain⟨d,p⟩:=ex ((Jh Y n)[l+1]?.getD 0);rw[p]at kb o c;obtain⟨z,A,B⟩:=bitLen_spec d o (by rw[<-KW];exact c);have P:Lib.bitLen d<=64:=by
      rcases Ch 64 (Lib.bitLen d)with h|h
      . exfalso
        have k:2^64<=2^(Lib.bitLen d-1):=AC O O;rw[KW]at c;omega
      . exact h
     obtain⟨q,r⟩:=UF (s:=64-Lib.bitLen d) j f.symm p A B z P J;rw[JA Jf]at q r;have U:m<Y^la:=by
      have:=YS (Jy Jf m);rwa[JA Jf,<-S]at this
     have t:Y^(l+1)<=n:=PH Jf f.symm O;exact iY a la ca x y l (l+2) (l+1) cb m n d (64-Lib.bitLen d) w J O Q g i kb c O (show _=_ by omega) O T q r (iV U t O)
def P0{p:Nat}(a:p≠0)(h:p<Y):Jh Y p=[p]:=by
 grind[Ix,Cx,Ct,JV]
def iZ(a:Option Addr)(ca:Nat)(b:Option Addr)(lb cb x y:Nat)(w:I)(d:Row G w (C a 1 ca) (Jh Y x))(r:Row G w (C b lb cb) (Jh Y y))(z:y<Y):
 Calls M 258 #[C a 1 ca,C b lb cb] w λe w'=>∃u,e=.returned u/\UN w' u (Nat.gcd x y)/\Bl w w':=by
 obtain⟨n,U,ah,W,l⟩:=JB d;obtain⟨c,V,ai,X,m⟩:=JB r;obtain⟨o,aj,P⟩:=Pw n.symm;rcases AQ lb with t|t
 . subst t;have k:=(Ya Jf).1 (AM c.symm);subst k;have B:=Z d;clear l m n c d r o;go_enter Tryz.func258,Tryz.ntmps258
   go_wp2_with fail
   go_ret;exact⟨_,rfl,by rw[Nat.gcd_zero_right];exact B.o,BB _ w⟩
 . have k:y≠0:=λe=>by rw[e,JV]at c;simp at c;omega
   have i:=P0 k z;obtain rfl:lb=1:=by rw[c,i];rfl
   obtain⟨ab,D,rfl,S,ka⟩:=l 0 O;obtain⟨H,K,rfl,T,kb⟩:=m 0 O;rw[o]at ka;rw[i]at kb;have am:w.cell? ⟨ab,D,none⟩=some (F G (x:Nat)):=ka;have an:w.cell? ⟨H,K,none⟩=some (F G (y:Nat)):=kb;clear l m n c d r o i ka kb;go_enter Tryz.func258,Tryz.ntmps258
   go_upto_region 3 with fail
   go_quiet (fail)
   go_wp2_with fail
   go_loopw [5,6] (λR s wr=>∃(p q j:Nat),R=F G (p:Nat)/\s=F G (q:Nat)/\p<Y/\q<Y/\p≠0/\Hid (Nat.gcd p q=Nat.gcd x y)/\wr=w.drewN j) (λ_ s _=>(intOf s).toNat)
   case atStart=>exact⟨x,y,_,rfl,rfl,P,z,O,Z rfl,rfl⟩
   case round=>
    obtain⟨p,q,j,rfl,rfl,hp,hq,Q,g,rfl⟩:=hrel;by_cases v:q=0
    . subst v;have f:=Z (show p=Nat.gcd x y by rw[<-g.o,Nat.gcd_zero_right]);have A:=Z (P0 Q hp);clear g;go_wp2_with fail
      go_ret;refine⟨C (some ⟨w.heap.size,0,none⟩) 1 1,rfl,?_,(L3 (BB _ w) _).alloc (Aa _) _⟩;unfold UN;rw[<-f.o,A.o];exact(DU.made (xs:=[p]) (BD (w.drewN j) (.cells #[F G (p:Nat)] 141))).row 0 1 1 DL O O O
    . have f:=Z (show Nat.gcd q (p%q)=Nat.gcd x y by rw[<-g.o,CW q,<-Nat.gcd_rec,CW]);have ae:=Co p (show q>0 by omega);go_upto_region 5 with fail
      go_quiet (fail)
      go_wp2_with fail
      exact⟨⟨q,p%q,j+nq,rfl,DL,hq,O,v,f,DL⟩,by simp[intOf];omega⟩
def Gu(W:I)(base:Nat)(u:Value)(g l rc P:Nat)(zs:List Nat):Prop:=
 u=C (some ⟨g,0,none⟩) l rc/\DU W g zs/\DR Y zs/\l<=zs.length/\l<=rc/\rc<=9223372036854775807/\l<=1099511627776/\zs.take l=Jh Y P/\base<=g
def Gu.below{W W':I}{base g l rc P:Nat}{u:Value}{zs:List Nat}(h:Gu W base u g l rc P zs)(a:Bl W W'):Gu W' base u g l rc P zs:=
 ⟨h.1,h.2.1.below a,h.2.2⟩
def Gu.un(h:Gu W base u g l rc P zs):UN W u P:=by
 obtain⟨rfl,a,f,i,b,c,d,e,j⟩:=h;have:=a.row 0 l rc O b c d;rw[Cm,e]at this;exact this
def ik{ds:List Nat}(hA:DU W g zs)(f:Row G W (C (some ⟨g,0,none⟩) l rc) ds)(hl:l<=zs.length):zs.take l=ds:=by
 obtain⟨i,_,_,_,a⟩:=JB f;apply List.ext_getElem?;intro j;by_cases d:j<l
 . obtain⟨b,k,e,_,c⟩:=a j d;cases e;rw[AW,hA.cell O]at c;grind
 grind
def UH(a:Option Addr)(la ca:Nat)(b:Option Addr)(lb cb:Nat)(c d:List Nat)(w:I)(R:DR Y c)(S:DR Y d)(P:la+lb<=1099511627776)
(k:Row G w (C a la ca) c)(m:Row G w (C b lb cb) d):
 Calls M 167 #[C a la ca,C b lb cb] w λe w'=>∃u,e=.returned u/\UN w' u (val Y c*val Y d)/\(val Y c*val Y d≠0->∃g l rc zs,Gu w' w.heap.size u g l rc (val Y c*val Y d) zs)/\Bl w w':=by
 have r:=I0 (la+lb) O w;rw[show((la+lb:Nat):Int)=(la:Int)+(lb:Int)from by omega]at r;obtain⟨i,n⟩:∃i,i=w.alloc (.cells (cellsOf G (List.replicate (la+lb) 0)).toArray 141):=⟨_,rfl⟩;have o:Bl w i:=by rw[n];exact Ba w _
 have q:DU i w.heap.size (List.replicate (la+lb) 0):=by rw[n];exact DU.made (BD w _)
 rw[<-n]at r;have A:=Z (gH w.heap.size (la+lb) (la+lb) (List.replicate (la+lb) 0) a la ca b lb cb c d i R S q (λx Q=>by rw[C6 Q];unfold Y;omega) DK (Aa _) O P (Row.below k o) (Row.below m o)
  (λp e j=>by have:=I1 k e j;omega) λp e j=>by have:=I1 m e j;omega)
 have T:=(JB k).2.1;have U:=(JB k).2.2.1;have V:=(JB m).2.1;have W:=(JB m).2.2.1;clear n q k m;go_enter Tryz.func167,Tryz.ntmps167
 go_wp2_with(go_at_call 179;refine A.o.mono ?_;rintro e w5 ⟨u,rfl,⟨f,K⟩,H,zs,y,D,z⟩;obtain⟨X,uc,rfl⟩:=UN.form f)
 go_ret;refine⟨_,rfl,f,λj=>?_,below_grown o K (Aa _)⟩;have B:(Jh Y (val Y c*val Y d)).length≠0:=λe=>j ((Ya Jf).1 (AM e));rcases H with e|⟨l,e⟩
 . injection e with s t v
   exact absurd t B
 . injection e with s t v
   subst s;subst v;rw[AO]at z;have hl:(Jh Y (val Y c*val Y d)).length<=zs.length:=by rw[z];exact(JB f).2.1
   exact⟨_,_,_,zs,rfl,y,D,hl,(JB f).2.1,(JB f).2.2.1,(JB f).2.2.2.1,ik y f hl,Aa _⟩
def UI{Q:Nat}(h:Gu W base u g l rc P zs)(b:Option Addr)(lb cb:Nat)(d:UN W (C b lb cb) Q)(r:Q<=P)(t:∀p,b=some p->0<lb->p.block≠g):
 Calls M 183 #[u,C b lb cb] W λe w'=>∃c q,e=.returned (F G (c:Nat))/\(Row G w' u q/\J2 q=Jh Y (P-Q))/\W.grownBy w' (some g):=by
 obtain⟨rfl,j,k,v,a,m,n,w,x⟩:=h;have hl:l=(Jh Y P).length:=DK
 have i:=(JB d).1;refine(TU g 0 l rc zs b lb cb (Jh Y Q) W j k O a O (by rw[hl,i];exact XS r) d (Jy Jf Q) t).mono ?_;rintro e w' ⟨c,q,rfl,hq,hA,hg⟩;have s:mid zs 0 l q=q++zs.drop l:=by rw[mid,FO,Am,AW]
 have f:=hq.1;refine⟨c,q,J,⟨?_,?_⟩,hg⟩
 . have o:=hA.row 0 l rc DK a m n;rwa[s,Cm,A7 O,Af O]at o
 . have hs:GL (Jh Y P) (Jh Y Q) 0 l c q:=by
    refine⟨f,hq.2.1,hq.2.2.1,?_⟩;have:=hq.2.2.2;grind
   grind[TV,XS]
def UJ{w V w1:I}{o:Obj}(h:Bl w V)(k:Below (V.alloc o).heap.size (V.alloc o) w1):Bl w w1:=(h.alloc h.size o).trans (k.mono (h.alloc h.size o).size)
def UK(x:Nat):val Y [x]=x:=by rw[Yv,O9,CQ,A8]
def UL(ma mb:Nat)(a:Option Addr)(la ca:Nat)(b:Option Addr)(lb cb A B:Nat)(w:I)(ra:Row G w (C a la ca) (Jh Y A))(rb:Row G w (C b lb cb) (Jh Y B))(cn:ma<Y)(co:mb<Y)(dh:la<1099511627776)(di:lb<1099511627776)(h0:mb*B≠0):
 Calls M 257 #[.agg #[F G (ma:Nat),F G (mb:Nat)],C a la ca,C b lb cb] w λe w'=>∃u,e=.returned u/\UN w' u (ED (ma*A) (mb*B))/\Bl w w':=by
 obtain⟨W0,ap⟩:=ex (w.alloc (.cells #[F G (ma:Nat),F G (mb:Nat)] 283));have Qa:Bl w W0:=by rw[<-ap];exact Ba w _
 have bx:JD W0 w.heap.size 283 (F G (ma:Nat)) (F G (mb:Nat)):=by rw[<-ap];exact JD.new w _ _ _
 have Qp:=Z (show ∀(V:I) (g:Nat),Bl W0 V->DU V g [ma]->Calls M 167 #[C a la ca,C (some ⟨g,0,none⟩) 1 1] V λe w'=>∃u,e=.returned u/\UN w' u (ma*A)/\(ma*A≠0->∃g l rc zs,Gu w' V.heap.size u g l rc (ma*A) zs)/\Bl V w' from λV g h hA=>by
  have n:=UH a la ca (some ⟨g,0,none⟩) 1 1 (Jh Y A) [ma] V (Jy Jf A) (DR.cons cn (DR.nil _)) O (Row.below (Row.below ra Qa) h) (hA.row 0 1 1 DL O O O);rw[UK,JA Jf,AV A ma]at n;exact n)
 have Qo:=Z (show ∀(V:I) (g:Nat),Bl W0 V->DU V g [mb]->Calls M 167 #[C b lb cb,C (some ⟨g,0,none⟩) 1 1] V λe w'=>∃u,e=.returned u/\UN w' u (mb*B)/\(mb*B≠0->∃g l rc zs,Gu w' V.heap.size u g l rc (mb*B) zs)/\Bl V w' from λV g h hA=>by
  have n:=UH b lb cb (some ⟨g,0,none⟩) 1 1 (Jh Y B) [mb] V (Jy Jf B) (DR.cons co (DR.nil _)) O (Row.below (Row.below rb Qa) h) (hA.row 0 1 1 DL O O O);rw[UK,JA Jf,AV B mb]at n;exact n)
 have Qq:=Z ap;clear ap ra rb;generalize ma*A=m at *;generalize mb*B=R at *;go_enter Tryz.func257,Tryz.ntmps257
 go_upto_region 1 with fail
 rw[Qq.o];refine Xl Dj [[],[],[1],[2],[0,3],[],[],[6],[7],[5,8,4],[4,9,0,1,2,3,4],[9,10,0,1,2,3,4,5,6,7,8,9,10]] (by kernel_rfl) DN (λf ac V=>∃t7 t8 t9 aq ay az U bf bg bi bj am:Value,ac={ tmps:=#[.agg #[F G (ma:Nat),F G (mb:Nat)],C a la ca,C b lb cb,L (some ⟨w.heap.size,0,none⟩),E,E,C none 0 0,t7,t8,t9,aq,ay,az,U,bf,bg,bi,bj,am,E,E,E,E,E,E,E,E,E,E,E],defers:=[] }/\Hid (f 0=true->t9=C a la ca)/\Hid (f 1=true->aq=L (some ⟨w.heap.size,0,none⟩))/\Hid (f 2=true->ay=F G (ma:Nat))/\Hid (f 3=true->∃g,az=C (some ⟨g,0,none⟩) 1 1/\DU V g [ma])/\Hid (f 4=true->UN V U m/\(m≠0->∃d l1 s t,Gu V W0.heap.size U d l1 s m t))/\Hid (f 5=true->bf=C b lb cb)/\Hid (f 6=true->bg=L (some ⟨w.heap.size,1,none⟩))/\Hid (f 7=true->bi=F G (mb:Nat))/\Hid (f 8=true->∃g,bj=C (some ⟨g,0,none⟩) 1 1/\DU V g [mb])/\Hid (f 9=true->∃k l2 X ae,Gu V W0.heap.size am k l2 X R ae/\UN V U m/\(m≠0->∃d l1 s t,Gu V W0.heap.size U d l1 s m t/\d≠k))/\Hid (f 10=true->t7=U)/\Hid (f 11=true->t8=am)/\Bl W0 V)
  (E8 ⟨_,_,_,_,rfl,Z Di,Z Di,Z Di,Z Di,Z Di,Z Di,Z Di,Z Di,Z Di,Z Di,Z Di,Z Di,(BB _ W0).drew⟩) ?step1 ?fin1
 case step1=>
  rintro f a2 V i ds o bu j T ⟨t7,t8,t9,aq,ay,az,U,bf,bg,bi,bj,am,rfl,g0,d,k,y,g4,z,D,H,P,Q,v,x,hq⟩;have Qm:i<12:=(Aq.1 bu).1;obtain rfl|rfl|rfl|rfl|rfl|rfl|rfl|rfl|rfl|rfl|rfl|rfl:=Lh i O
  all_goals
   simp only[Cn,Ce,AU]at bu;subst bu;clear Qm
  . clear j o;refine Ed ?_;exact⟨Z λ_=>rfl,d,k,y,g4,z,D,H,P,Q,v,x,hq⟩
  . clear j o;refine Ed ?_;exact⟨g0,Z λ_=>rfl,k,y,g4,z,D,H,P,Q,v,x,hq⟩
  . obtain rfl:=d.o (j 1 DL);have k0:=(bx.below hq).c0;clear j o;refine Ed ?_;exact⟨g0,Z λ_=>rfl,Z λ_=>rfl,y,g4,z,D,H,P,Q,v,x,hq⟩
  . have Qr:f 4=false:=by
     cases h:f 4 with
     |false=>rfl
     |true=>rw[o 4 _ rfl h 3 DL]at T;cases T
    obtain rfl:=k.o (j 2 DL);clear j o;refine Ed ?_;exact⟨g0,d,Z λ_=>rfl,Z λ_=>⟨_,rfl,DU.made (xs:=[ma]) (BD V _)⟩,Z (λh=>by simp[Qr]at h),z,D,H,Z (λh=>by obtain⟨g,e,q⟩:=P.o h;exact⟨g,e,q.below (Ba V _)⟩),Z (λh=>by obtain⟨k,l2,X,ae,q1,q2,q3⟩:=Q.o h;exact⟨k,l2,X,ae,q1.below (Ba V _),q2.below (Ba V _),λn=>by obtain⟨d,l1,s,t,q,q4⟩:=q3 n;exact⟨d,l1,s,t,q.below (Ba V _),q4⟩⟩),v,x,hq.alloc hq.size _⟩
  . have Qk:f 9=false:=by
     cases h:f 9 with
     |false=>rfl
     |true=>rw[o 9 _ rfl h 4 DL]at T;cases T
    have Qn:f 10=false:=by
     cases h:f 10 with
     |false=>rfl
     |true=>rw[o 10 _ rfl h 4 DL]at T;cases T
    obtain rfl:=g0.o (j 0 DL);obtain⟨gm,rfl,ai⟩:=y.o (j 3 DL);clear j o;refine J4 rfl rfl λK hK=>?_;go_simp;go_wp2_with(go_at_call 167;refine(Qp.o _ _ hq ai).mono ?_;rintro e w5 ⟨u5,rfl,cj,bz,S⟩)
    exact E8 ⟨_,_,_,_,rfl,Z λ_=>rfl,d,k,Z λ_=>⟨gm,rfl,ai.below S⟩,Z λ_=>⟨cj,λn=>by obtain⟨d,l1,s,t,q⟩:=bz n;exact⟨d,l1,s,t,q.1,q.2.1,q.2.2.1,q.2.2.2.1,q.2.2.2.2.1,q.2.2.2.2.2.1,q.2.2.2.2.2.2.1,q.2.2.2.2.2.2.2.1,Ad hq.size q.2.2.2.2.2.2.2.2⟩⟩,z,D,H,Z (λh=>by obtain⟨g,e,q⟩:=P.o h;exact⟨g,e,q.below (S)⟩),Z (λh=>by simp[Qk]at h),Z (λh=>by simp[Qn]at h),x,Bt hq S⟩
  . clear j o;refine Ed ?_;exact⟨g0,d,k,y,g4,Z λ_=>rfl,D,H,P,Q,v,x,hq⟩
  . clear j o;refine Ed ?_;exact⟨g0,d,k,y,g4,z,Z λ_=>rfl,H,P,Q,v,x,hq⟩
  . obtain rfl:=D.o (j 6 DL);have k0:=(bx.below hq).c1;clear j o;refine Ed ?_;exact⟨g0,d,k,y,g4,z,Z λ_=>rfl,Z λ_=>rfl,P,Q,v,x,hq⟩
  . have Qk:f 9=false:=by
     cases h:f 9 with
     |false=>rfl
     |true=>rw[o 9 _ rfl h 8 DL]at T;cases T
    obtain rfl:=H.o (j 7 DL);clear j o;refine Ed ?_;exact⟨g0,d,k,Z (λh=>by obtain⟨g,e,q⟩:=y.o h;exact⟨g,e,q.below (Ba V _)⟩),Z (λh=>by obtain⟨q1,q2⟩:=g4.o h;exact⟨q1.below (Ba V _),λn=>by obtain⟨d,l1,s,t,q⟩:=q2 n;exact⟨d,l1,s,t,q.below (Ba V _)⟩⟩),z,D,Z λ_=>rfl,Z λ_=>⟨_,rfl,DU.made (xs:=[mb]) (BD V _)⟩,Z (λh=>by simp[Qk]at h),v,x,hq.alloc hq.size _⟩
  . have Ql:f 11=false:=by
     cases h:f 11 with
     |false=>rfl
     |true=>rw[o 11 _ rfl h 9 DL]at T;cases T
    obtain rfl:=z.o (j 5 DL);obtain⟨gm,rfl,ai⟩:=P.o (j 8 DL);obtain⟨p1,p2⟩:=g4.o (j 4 DL);clear j o;refine J4 rfl rfl λK hK=>?_;go_simp;go_wp2_with(go_at_call 167;refine(Qo.o _ _ hq ai).mono ?_;rintro e w5 ⟨u5,rfl,cj,bz,S⟩)
    exact⟨_,_,_,_,_,_,_,_,_,_,_,_,rfl,g0,d,k,Z (λh=>by obtain⟨g,e,q⟩:=y.o h;exact⟨g,e,q.below (S)⟩),Z (λh=>by obtain⟨q1,q2⟩:=g4.o h;exact⟨q1.below (S),λn=>by obtain⟨d,l1,s,t,q⟩:=q2 n;exact⟨d,l1,s,t,q.below (S)⟩⟩),Z λ_=>rfl,D,H,Z λ_=>⟨gm,rfl,ai.below S⟩,Z (λ_=>by obtain⟨k,l2,X,ae,q⟩:=bz h0;exact⟨k,l2,X,ae,⟨q.1,q.2.1,q.2.2.1,q.2.2.2.1,q.2.2.2.2.1,q.2.2.2.2.2.1,q.2.2.2.2.2.2.1,q.2.2.2.2.2.2.2.1,Ad hq.size q.2.2.2.2.2.2.2.2⟩,p1.below S,λn=>by obtain⟨d,l1,s,t,r⟩:=p2 n;exact⟨d,l1,s,t,r.below S,by have:=r.2.1.lt;have:=q.2.2.2.2.2.2.2.2;omega⟩⟩),v,Z (λh=>by simp[Ql]at h),Bt hq S⟩
  . clear j o;refine Ed ?_;exact⟨g0,d,k,y,g4,z,D,H,P,Q,Z λ_=>rfl,x,hq⟩
  . clear j o;refine Ed ?_;exact⟨g0,d,k,y,g4,z,D,H,P,Q,v,Z λ_=>rfl,hq⟩
 rintro f de V1 an ⟨t7,t8,t9,aq,ay,az,U,bf,bg,bi,bj,am,rfl,g0,d,k,y,g4,z,D,H,P,Q,v,x,hq⟩;obtain⟨gB,l2,X,ae,o2,aj,o1⟩:=Q.o (an 9 DN);obtain rfl:=v.o (an 10 DN);obtain rfl:=x.o (an 11 DN);obtain⟨a1,c1,rfl⟩:=UN.form aj;have Qd:=o2.un;obtain⟨a2,c2,rfl⟩:=UN.form Qd;clear g0 d k y g4 z D H P Q v x an Qp Qo;have Qi:∀p,a1=some p->0<(Jh Y m).length->p.block≠gB:=λp e n=>by
  have hp:m≠0:=λe0=>by rw[e0,JV]at n;simp at n
  obtain⟨d,l1,s,t,r,r2⟩:=o1 hp;have:=r.1;grind
 have W:=Z (Ph _ _ (Jh Y m) (Jh Y R) V1 aj Qd (Jy Jf m) (Jy Jf R) (Iy Jf m) (Iy Jf R));rw[JA Jf,JA Jf]at W;have Qg:=Bt Qa hq;have Qj:=o2.2.2.2.2.2.2.2.2;by_cases ck:m<R
 . have Qb:=K9 ck;rw[Qb]at W;have Qf:=Z λ(V:I) (h:Bl V1 V)=>UI (o2.below h) a1 (Jh Y m).length c1 (aj.below h) O Qi;have HD:=Z (show R-m=ED m R by unfold ED;omega);clear Qb aj Qd o1 Qi;go_upto_region 4 with(go_at_call 101;refine W.o.mono ?_;rintro e w2 ⟨rfl,ah⟩)
   go_upto_region 5 with(go_at_call 183;refine(Qf.o _ ah).mono ?_;rintro e w3 ⟨c,q,rfl,⟨hr,ce⟩,bn⟩)
   have Qc:=Z (Xq _ q _ hr);rw[ce,HD.o]at Qc;clear Qf W;go_wp2_with(go_at_call 95;refine Qc.o.mono ?_;rintro e w4 ⟨u,rfl,hu,bm⟩;obtain⟨ua,uc,rfl⟩:=UN.form hu)
   go_ret;have Qe:=below_grown (Bt Qg ah) bn (Ad Qa.size Qj);exact⟨_,rfl,hu,Bt Qe bm⟩
 . obtain⟨cm,Qb,df⟩:∃cm:Int,D8 m R=cm/\¬(cm<0):=⟨_,rfl,by unfold D8;omega⟩;rw[Qb]at W;obtain⟨d,l1,s,t,r,r2⟩:=o1 O;have Qh:=r.2.2.2.2.2.2.2.2;have Qf:=Z (λ(V:I) (h:Bl V1 V)=>UI (r.below h) a2 (Jh Y R).length c2 (Qd.below h) O (λp e _=>by
    have:=o2.1;grind))
   have HD:=Z (show m-R=ED m R by unfold ED;omega);clear Qb aj Qd o1 Qi;go_upto_region 4 with(go_at_call 101;refine W.o.mono ?_;rintro e w2 ⟨rfl,ah⟩)
   go_upto_region 5 with(go_at_call 183;refine(Qf.o _ ah).mono ?_;rintro e w3 ⟨c,q,rfl,⟨hr,ce⟩,bn⟩)
   have Qc:=Z (Xq _ q _ hr);rw[ce,HD.o]at Qc;clear Qf W;go_wp2_with(go_at_call 95;refine Qc.o.mono ?_;rintro e w4 ⟨u,rfl,hu,bm⟩;obtain⟨ua,uc,rfl⟩:=UN.form hu)
   go_ret;have Qe:=below_grown (Bt Qg ah) bn (Ad Qa.size Qh);exact⟨_,rfl,hu,Bt Qe bm⟩
end
def Ge(x k s:Nat):Nat:=x/(Y^k*2^(64-s))
variable{a:List Nat}{k s:Nat}
def im(hl:a.length=k+2)(b:DR Y a)(hs:s<=63)(f:a[k+1]?.getD 0<2^(64-s)):
 Ge (val Y a) k s=EP (a[k+1]?.getD 0) s+EE (a[k]?.getD 0) (64-s)/\EP (a[k+1]?.getD 0) s ||| EE (a[k]?.getD 0) (64-s)=EP (a[k+1]?.getD 0) s+EE (a[k]?.getD 0) (64-s):=by
 have hv:=UD hl;have c:=YG b k;have g:=b.getD (show 0<Y by unfold Y;omega) k;have hp:=Lz (s:=s) O;have e:EP (a[k+1]?.getD 0) s=a[k+1]?.getD 0*2^s:=by rw[L0 O,Cx f]
 rw[e];have d:EE (a[k]?.getD 0) (64-s)<2^s:=by
  unfold EE;rw[A3 (Cg _),hp];exact g
 refine⟨?_,by rw[AV,<-Fe d]⟩;unfold Ge EE;rw[hv,<-Nat.div_div_eq_div_mul,AV _ (Y^k),Nat.mul_add_div (CE uo),Ct c,A8,<-hp,<-CA,FN,Nat.add_mul_div_right _ _ (Cg _)];omega
def jA(hl:a.length=k+1)(c:DR Y a):Ge (val Y a) k s=EE (a[k]?.getD 0) (64-s):=by
 have hv:=JM Y a k;rw[Af O]at hv;have b:=YG c k;unfold Ge EE;rw[hv,<-Nat.div_div_eq_div_mul,FN,Nat.mul_add_div (CE uo),Ct b,A8]
def jB(hl:a.length<=k)(b:DR Y a):Ge (val Y a) k s=0:=by
 unfold Ge;apply Ct;have c:=YS b;have d:Y^a.length<=Y^k:=AC uo hl;have e:=Cf (Y^k) (Cg (64-s));omega
def UM(a:Option Addr)(la ca:Nat)(c:List Nat)(k d nn s:Nat)(w:I)(m:Row G w (C a la ca) c)(n:DR Y c)(p:nn=k+2)(y:(nn:Int)-1=d)(z:(nn:Int)-2=k)(hs:s<=63)(P:la<=nn)(hn:nn<=1099511627776)(l:la=nn->c[k+1]?.getD 0<2^(64-s)):
 Calls M 285 #[C a la ca,F N (nn:Nat),F G (s:Nat)] w λe w'=>e=.returned (F G (Ge (val Y c) k s:Nat))/\Bl w w':=by
 obtain⟨hl,K,Q,hk,g⟩:=JB m;have T:IntKind.i64.wrap ((nn:Int)-1)=(d:Int):=by rw[y];exact Bf _ O
 have U:IntKind.i64.wrap ((nn:Int)-2)=(k:Int):=by rw[z];exact Bf _ O
 have V:IntKind.i64.wrap (d:Int)=(d:Int):=Bf _ O;have W:IntKind.i64.wrap (k:Int)=(k:Int):=Bf _ O;have X:IntKind.u64.wrap ((64:Int)-s)=((64-s:Nat):Int):=by rw[BV];omega
 have o:=Pr (c[k+1]?.getD 0) s;have v:=Ps (c[k]?.getD 0) (64-s);have i:=n.getD (show 0<Y by unfold Y;omega) k;have j:=Pt (show EP (c[k+1]?.getD 0) s<Y by unfold EP;exact Co _ uo) (show EE (c[k]?.getD 0) (64-s)<Y from CB (Fo _ _) i);obtain rfl|R:=Decidable.em (la=nn)
 . obtain⟨b,H,rfl,B,c1⟩:=g (k+1) O;obtain⟨_,_,x,_,c0⟩:=g k O;cases x;obtain⟨r,t⟩:=im O n hs (l rfl);rw[t]at j;have f:=Z r;have q:d=k+1:=O
   rw[<-q]at c1 o j f;have j1:(d:Int)<(la:Int):=O
   have j2:(k:Int)<(la:Int):=O
   have j3:(0:Int)<=(d:Int):=O
   have j4:(0:Int)<=(k:Int):=O
   have D:k<la:=O
   clear q g m r t l hl p i;generalize c[d]?.getD 0=x1 at *;generalize c[k]?.getD 0=x0 at *;go_enter Tryz.func285,Tryz.ntmps285
   go_upto_region 3 with fail
   go_quiet (fail)
   go_wp2_with fail
   go_ret;refine⟨?_,L3 (BB _ w) _⟩;rw[f.o];first|rfl|(simp;done)
 . by_cases A:la=d
   . subst A;obtain⟨b,H,rfl,B,c0⟩:=g k O;have f:=Z (jA (s:=s) (show c.length=k+1 by omega) n);have D:k<la:=O
     have u:¬((la:Int)=(nn:Int)):=O
     clear g m l hl p i j o;generalize c[k]?.getD 0=x0 at *;go_enter Tryz.func285,Tryz.ntmps285
     go_wp2_with fail
     go_ret;refine⟨?_,BB _ w⟩;rw[f.o];first|rfl|(simp;done)
   . have f:=Z (jB (s:=s) (show c.length<=k by omega) n);have u:¬((la:Int)=(nn:Int)):=O
     have S:¬((la:Int)=(d:Int)):=O
     clear g m l hl p i o v j;go_enter Tryz.func285,Tryz.ntmps285
     go_wp2_with fail
     go_ret;refine⟨?_,BB _ w⟩;rw[f.o];first|rfl|(simp;done)

