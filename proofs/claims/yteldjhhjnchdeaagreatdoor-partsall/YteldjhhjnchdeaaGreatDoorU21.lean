import Derived.BigQuiet
import Derived.Deep.RegionHeld3
import Derived.Test.YteldjhhjnchdeaaGreatDoorU18
import Derived.Test.YteldjhhjnchdeaaGreatDoorU04
open Go.Value renaming slice->C,int->F,pointer->L
open Go renaming undef->E,World->I
open Go.IntKind renaming u64->G,i64->N
open Go.Proofs.Tryz renaming prog->M
set_option maxRecDepth 100000
set_option maxHeartbeats 16000000
namespace Go.Proofs.YteldjhhjnchdeaaGreatDoor
open Go.RowKit Go.Shelf
section
theorem Bu:type_of% @IntWalk.u64_in:=@IntWalk.u64_in
theorem BW:type_of% @IntWalk.i64_in:=@IntWalk.i64_in
variable{c ds xs:List Nat}{B R R0 V base d0 d1 f g l len n q r ro s u0:Nat}{v:Value}{w:I}
theorem RX(h:ds.length=n+2):val Z ds=(ds[n+1]?.getD 0*Z+ds[n]?.getD 0)*Z^n+val Z (ds.take n):=by
 have a:=Jr Z ds (n+1);rw[Ad O,Jr,AO]at a;rw[a];grind
theorem Z4(h:ds.length=n+3):val Z ds=((ds[n+2]?.getD 0*Z+ds[n+1]?.getD 0)*Z+ds[n]?.getD 0)*Z^n+val Z (ds.take n):=by
 have a:=Jr Z ds (n+2);rw[Ad O,Jr,Jr,AO,AO]at a;rw[a];grind
theorem YQ(h:DR Z ds)(n:Nat):val Z (ds.take n)<Z^n:=by
 have:=Yu (h.take n);refine AH this (Ax uo ?_);rw[Am];omega
theorem LW{a:I}(h:Below B a w)(n:Nat):Below B a (w.drewN n):=h.trans ⟨rfl,rfl,rfl,Aa _,λ_ _=>rfl⟩
theorem RY(a:u0<Z)(h:X7 q d0<r\/X7 q d0=r/\YD q d0<=u0):q*d0<=r*Z+u0:=by
 unfold X7 YD at h;generalize q*d0=p at *;unfold Z at *;omega
theorem Z6(b:u0<Z)(h:¬(X7 q d0<r))(a:¬(X7 q d0=r/\YD q d0<=u0)):r*Z+u0<q*d0:=by
 unfold X7 at h a;unfold YD at a;generalize q*d0=p at *;unfold Z at *;omega
theorem Z7{u2 u1 E:Nat}(b:R=((u2*Z+u1)*Z+u0)*E+R0)(d:V=(d1*Z+d0)*E+f)(i:f<E)(e:Z<=2*d1)(g:d0<Z)(c:R<V*Z)(h:d1<=u2):Ht R V (Z-1):=by
 have a:d0*E+f<Z*E:=by
  have:=Ak E (show d0+1<=Z from g);rw[AA,CB]at this;omega
 refine Vd (d1:=d1) (E:=Z*E) (lo:=(u2-d1)*(Z*(Z*E))+(u1*Z+u0)*E+R0) (lo2:=d0*E+f) ?_ ?_ a e c Jg
 . obtain⟨t,rfl⟩:∃t,u2=d1+t:=⟨u2-d1,O⟩;rw[b,Nat.add_sub_cancel_left];grind
 . rw[d];grind
theorem Z8{U E:Nat}(a:R=(U*Z+u0)*E+R0)(c:V=(d1*Z+d0)*E+f)(b:R0<E)(d:f<E)(e:Z<=2*d1)(hq:q<Z)(h:q=(U*Z+u0)/(d1*Z+d0)):Ht R V q:=by
 rw[h];have hp:0<d1:=by unfold Z at e;omega
 have g:Z<=d1*Z:=Fb Z hp;exact Vc a c b d (by rw[<-h];omega) O
theorem Z9(l l1 l2:Nat)(h1:(l:Int)-1=l1)(h2:(l:Int)-2=l2)(a f K P ca cb u2 u1 u0 d1 d0 R V:Nat)(w:I)(hl:l<=1099511627776)
(ka:w.cell? ⟨a,f+l,none⟩=some (F G (u2:Nat)))(ai:w.cell? ⟨a,f+l1,none⟩=some (F G (u1:Nat)))(ah:w.cell? ⟨a,f+l2,none⟩=some (F G (u0:Nat)))
(kb:w.cell? ⟨K,P+l1,none⟩=some (F G (d1:Nat)))(aq:w.cell? ⟨K,P+l2,none⟩=some (F G (d0:Nat)))(Q:a<w.heap.size)
(af:u1<Z)(z:u0<Z)(X:d1<Z)(k:d0<Z)(ad:0<d1)
(T:Hid (d1<=u2->Ht R V (Z-1)))(v:Hid (∀q:Nat,q<Z->q=((u2*Z+u1)*Z+u0)/(d1*Z+d0)->Ht R V q)):
 Calls M 186 #[C (some ⟨a,f,none⟩) (l+1) ca,C (some ⟨K,P,none⟩) l cb] w λe c=>∃g,e=.returned (F G (g:Nat))/\g<Z/\Ht R V g/\Bl w c:=by
 have i1:IntKind.i64.wrap ((l:Int)-1)=(l1:Int):=by rw[h1];exact BW _ O
 have i2:IntKind.i64.wrap ((l:Int)-2)=(l2:Int):=by rw[h2];exact BW _ O
 have j1:(l1:Int)<(l:Int):=O
 have j2:(l2:Int)<(l:Int):=O
 have j3:(l1:Int)<(l:Int)+1:=O
 have j4:(l2:Int)<(l:Int)+1:=O
 have i3:IntKind.i64.wrap (l1:Int)=(l1:Int):=BW _ O;have j7:(l:Int)<(l:Int)+1:=O
 have j8:(0:Int)<=(l:Int):=O
 have j9:(0:Int)<=(l1:Int):=O
 have ap:(0:Int)<=(l2:Int):=O
 go_enter Tryz.func186,Tryz.ntmps186
 go_upto_region 2 with fail
 go_quiet (fail)
 by_cases ae:d1<=u2
 . go_wp2_with fail
   go_ret;exact⟨Z-1,rfl,by unfold Z;omega,T.o ae,LW (BB _ w) _⟩
 . have x:=VZ (B:=Z) (u:=u2*Z+u1) (u1:=u0) (d1:=d1) (d0:=d0) ad X z (by
    have:=Ak Z (show u2+1<=d1 by omega);rw[AA,CB]at this;omega)
   have W:=J λV=>RA u2 u1 d1 O af X V;have Qf:=x.2.2.1;have Qe:=x.2.2.2;have d:=J x;clear x T;generalize hX:(u2*Z+u1)/d1=q0 at *;generalize hY:(u2*Z+u1)%d1=r0 at *;generalize hZ:u2*Z+u1=U at *;clear hX hY hZ;go_wp2_with fail
   have hq:Bl w (w.drewN (nq+1)):=LW (BB _ w) _;go_region_held3 (λc=>c.cell? ⟨a,f+l,none⟩=some (F G (u2:Nat))/\c.cell? ⟨a,f+l1,none⟩=some (F G (u1:Nat))) (refine⟨?_,?_⟩<;>(first|(go_keep;done)|(simp[*];done)))
    (first|(go_at_call 175;refine(W.o _).mono ?_;rintro e w1 ⟨rfl,y⟩;have az:=(y.cell (p:=⟨a,f+l,none⟩) (show a<w.heap.size from Q)).trans ka;have ay:=(y.cell (p:=⟨a,f+l1,none⟩) (show a<w.heap.size from Q)).trans ai;have aw:=(y.cell (p:=⟨a,f+l2,none⟩) (show a<w.heap.size from Q)).trans ah))
   have hq:Bl w w1:=Bt hq y;go_wp2_with fail
   go_loopw [8,9] (λS rv wr=>∃(q r:Nat),S=F G (q:Nat)/\rv=F G (r:Nat)/\q<Z/\r<Z/\Hid (MF Z U u0 d1 d0 q r)/\wr=w1)
    (λS _ _=>(intOf S).toNat)
   case atStart=>exact⟨q0,r0,rfl,rfl,Qf,Qe,d,rfl⟩
   case round=>
    clear W d;obtain⟨q,r,rfl,rfl,b,an,d,rfl⟩:=hrel;have i:0<d1*Z:=FY ad uo;by_cases c1:X7 q d0<r
    . have n:=J (v.o q b (Nz d.o.1 d.o.2.1 i (RY z (Or.inl c1))));clear i;go_wp2_with(first
       |(go_at_call 183;refine(Il _ _ b k _).mono ?_;rintro e c ⟨rfl,rfl⟩))
      go_ret;exact⟨q,rfl,b,n.o,hq⟩
    . by_cases c2:X7 q d0=r/\YD q d0<=u0
      . have n:=J (v.o q b (Nz d.o.1 d.o.2.1 i (RY z (Or.inr c2))));obtain⟨c2,c3⟩:=c2;subst c2;clear i;go_wp2_with(first
         |(go_at_call 183;refine(Il _ _ b k _).mono ?_;rintro e c ⟨rfl,rfl⟩))
        go_ret;exact⟨q,rfl,b,n.o,hq⟩
      . obtain⟨g1,g2,o,j⟩:=Va d.o i (Z6 z c1 c2);obtain⟨p,hp⟩:=ex (q-1:Nat);rw[hp]at g2 o j;have aj:(q:Int)-1=(p:Int):=O
        have ak:p<q:=O
        have am:IntKind.u64.wrap (p:Int)=(p:Int):=by rw[BX];unfold Z at b;omega
        clear hp g1 d;have H:=MT r d1;have A:=J (v.o p);clear v;by_cases m:r+d1<Z
        . have v1:YP r d1 0=r+d1:=by unfold YP;rw[Cq,Ct m]
          have t:Xn r d1 0=0:=by unfold Xn;rw[Cq,Cg m]
          rw[v1,t]at H;have D:=J (show MF Z U u0 d1 d0 p (r+d1)from⟨g2,o,j,m⟩);clear g2 o v1 t i A;obtain⟨s,hs⟩:=ex (r+d1);rw[hs]at H D m;clear hs;by_cases c3:X7 q d0=r
          . have c4:¬(YD q d0<=u0):=λh=>c2 ⟨c3,h⟩;clear c2;go_wp2_with(first
             |(go_at_call 183;refine(Il _ _ b k _).mono ?_;rintro e c ⟨rfl,rfl⟩))
            exact⟨⟨p,s,rfl,rfl,j,m,D,by first|trivial|rfl⟩,by simp[intOf];omega⟩
          . clear c2;go_wp2_with(first
             |(go_at_call 183;refine(Il _ _ b k _).mono ?_;rintro e c ⟨rfl,rfl⟩))
            exact⟨⟨p,s,rfl,rfl,j,m,D,by first|trivial|rfl⟩,by simp[intOf];omega⟩
        . have n:=J (A.o j (Vb g2 o j k i O));have t:Xn r d1 0=1:=by unfold Xn;unfold Z at *;omega
          rw[t]at H;generalize YP r d1 0=s at *;clear g2 o t i A m;by_cases c3:X7 q d0=r
          . have c4:¬(YD q d0<=u0):=λh=>c2 ⟨c3,h⟩;clear c2;go_wp2_with(first
             |(go_at_call 183;refine(Il _ _ b k _).mono ?_;rintro e c ⟨rfl,rfl⟩))
            go_ret;exact⟨p,rfl,j,n.o,hq⟩
          . clear c2;go_wp2_with(first
             |(go_at_call 183;refine(Il _ _ b k _).mono ?_;rintro e c ⟨rfl,rfl⟩))
            go_ret;exact⟨p,rfl,j,n.o,hq⟩
theorem aA(a b:Option Addr)(n ca cb:Nat)(i bs:List Nat)(w:I)(P:Row G w (C a (n+3) ca) i)(Q:Row G w (C b (n+2) cb) bs)(l:DR Z i)(f:DR Z bs)
(j:Z<=2*bs[n+1]?.getD 0)(v:val Z i<val Z bs*Z):
 Calls M 186 #[C a (n+3) ca,C b (n+2) cb] w λe R=>∃g,e=.returned (F G (g:Nat))/\g<Z/\Ht (val Z i) (val Z bs) g/\Bl w R:=by
 obtain⟨y,T,X,V,k⟩:=Jy P;obtain⟨z,U,ad,W,p⟩:=Jy Q;obtain⟨r,s,rfl,x,A⟩:=k (n+2) O;obtain⟨_,_,c,_,D⟩:=k (n+1) O;cases c;obtain⟨_,_,c,_,B⟩:=k n O;cases c;obtain⟨t,u,rfl,S,H⟩:=p (n+1) O;obtain⟨_,_,c,_,K⟩:=p n O;cases c;have d:0<Z:=by unfold Z;omega
 have m:=Z4 y.symm;have o:=RX z.symm;exact Z9 (n+2) (n+1) n O O r s t u ca cb _ _ _ _ _ _ _ w O A D B H K x (l.getD d _) (l.getD d _) (f.getD d _) (f.getD d _) (by unfold Z at j;omega)
  (λh=>Z7 m o (YQ f n) j (f.getD d _) v h) λq hq h=>Z8 m o (YQ l n) (YQ f n) j hq h
theorem DU.win{W:I}{b:Nat}(h:DU W b xs)(off len cap:Nat)(a:off+len<=xs.length)(c:len<=cap)(d:cap<=9223372036854775807)(e:len<=1099511627776):Row G W (C (some ⟨b,off,none⟩) len cap) ((xs.drop off).take len):=
 h.row off len cap a c d e
theorem aB{q:List Nat}(hq:q.length=len)(h:ro+len<=xs.length):((Db xs ro len q).drop ro).take len=q:=by
 rw[Db,List.drop_append_of_le_length (by rw[Am];omega),AU (by rw[Am];omega),Ap,AW O,Ad O]
theorem aC{p q:List Nat}(hp:p.length=len)(h:ro+len<=xs.length):Db (Db xs ro len p) ro len q=Db xs ro len q:=by
 have a:(xs.take ro).length=ro:=by rw[Am];omega
 rw[Db,Db,Db,AW O,Ad O,List.drop_append,a,show ro+len-ro=len from by omega,AU O,Ap,List.drop_append,hp,A6,AU O,Ap,AJ]
theorem aD{q:List Nat}(a:DR Z xs)(hq:DR Z q):DR Z (Db xs ro len q):=by
 intro x b;rw[Db]at b;rcases C7.1 b with h|h
 . exact(a.take ro) x h
 . rcases C7.1 h with h|h
   . exact hq x h
   . exact(a.drop _) x h
theorem aE(d ro n cap:Nat)(xs:List Nat)(a:Option Addr)(cb:Nat)(bs:List Nat)(w:I)
(t:DU w d xs)(y:DR Z xs)(af:ro+(n+3)<=xs.length)(x:n+3<=cap)(ah:cap<=9223372036854775807)(hn:n+3<=1099511627776)(k:Row G w (C a (n+2) cb) bs)(l:DR Z bs)(X:∀p,a=some p->0<n+2->p.block≠d)
(V:Z<=2*bs[n+1]?.getD 0)(U:val Z ((xs.drop ro).take (n+3))<val Z bs*Z):
 Calls M 169 #[C (some ⟨d,ro,none⟩) (n+3) cap,C a (n+2) cb] w λe w'=>
  ∃q,e=.returned (F G ((val Z ((xs.drop ro).take (n+3))/val Z bs:Nat):Int))/\(q.length=n+3/\DR Z q/\val Z q=val Z ((xs.drop ro).take (n+3))%val Z bs)/\DU w' d (Db xs ro (n+3) q)/\w.grownBy w' (some d):=by
 have K:=t.win ro (n+3) cap af x ah hn;have A:=J (aA _ a n cap cb _ bs w K k ((y.drop ro).take _) l V U);have s:=(Jy k).1;have D:val Z bs<Z^(n+2):=by have:=Yu l;rwa[<-s]at this
 have Qk:val Z bs<Z^(n+3):=AH D (Ax uo O);obtain⟨z,r,B,R,HA,i,Qj⟩:=MX k X y l t af s;clear K V U s D Qk k X y l t;go_enter Tryz.func169,Tryz.ntmps169
 go_upto_region 2 with(go_at_call 186;refine A.o.mono ?_;rintro e w1 ⟨g,rfl,W,T,j⟩;have o:=J T;clear T A)
 have Q:=J (Zg d ro (n+2) cap xs a cb bs g w1 (HA.o.below j) B.o i.o x (Row.below z.o j) R.o r.o W);go_upto_if 13 with(go_at_call 187;refine Q.o.mono ?_;rintro e w2 ⟨c,q,rfl,⟨hc,ae⟩,hA2,u⟩;have b:=J ae;clear ae Q)
 obtain rfl|rfl:c=0\/c=1:=O
 . have m:=J (Ve o.o (by have:=b.o.2.2;rw[CA,Cq]at this;exact this));have HE:=J m.o.1;have HM:=J m.o.2;clear m o;go_wp2_with fail
   go_ret;exact⟨q,by rw[<-HE.o];rfl,⟨b.o.1,b.o.2.1,HM.o⟩,hA2,Ji (Yb j _) u⟩
 . have H:=J (OR d ro (n+3) cap (Db xs ro (n+3) q) a (n+2) cb bs w2 hA2 (aD B.o b.o.2.1) (by rw[J6 b.o.1 i.o];exact i.o) x O O (Row.grown (Row.below z.o j) u r.o) R.o r.o);have Ql:1<=g:=by
    rcases A0 g with h|h
    . exfalso
      have h1:=b.o.2.2;have h2:=Yu b.o.2.1;rw[b.o.1]at h2;rw[h,CA,FC]at h1;omega
    . exact h
   obtain⟨p,hp⟩:=ex (g-1:Nat);have aj:(g:Int)-1=(p:Int):=O
   have ak:IntKind.u64.wrap (p:Int)=(p:Int):=by rw[BX];unfold Z at W;omega
   have HP:=J hp;clear hp Ql;go_wp2_with(go_at_call 164;refine H.o.mono ?_;rintro e w3 ⟨c3,q3,rfl,ad,hA3,ai⟩;have f:=J ad;clear ad H)
   go_ret;have v:=Vf o.o (P:=Z^(n+3)) (by have:=b.o.2.2;rw[FC]at this;exact this) (by have:=Yu b.o.2.1;rw[b.o.1]at this;exact this) (q2:=val Z q3) (c2:=c3)
    (by
     have S:=f.o.2.2.2;rw[aB b.o.1 i.o,Ad (show bs.length<=n+3 by rw[<-Qj.o];omega)]at S;exact S)
    (by have:=Yu f.o.2.1;rw[f.o.1]at this;exact this) f.o.2.2.1
   rw[HP.o]at v;rw[aC b.o.1 i.o]at hA3;exact⟨q3,by rw[<-v.2.1];rfl,⟨f.o.1,f.o.2.1,v.2.2⟩,hA3,Ji (Ji (Yb j _) u) ai⟩
attribute [local go_sem] Oper.semAt_some
theorem RZ{bs:List Nat}{d L:Nat}(j:DR Z bs)(hl:bs.length=l+2)(f:bs[l+1]?.getD 0=d)(c:2^(L-1)<=d)(e:d<2^L)(m:1<=L)(k:L<=64)(hs:s=64-L):
 val Z bs*2^s<Z^(l+2)/\2^63*Z^(l+1)<=val Z bs*2^s:=by
 have o:val Z bs=val Z (bs.take (l+1))+Z^(l+1)*d:=by
  have h:=Jr Z bs (l+1);rwa[Ad O,f]at h
 have n:=YQ j (l+1);have g:2^L*2^s=Z:=by rw[<-CG,Io];congr 1;omega
 have i:2^(L-1)*2^s=2^63:=by rw[<-CG];congr 1;omega
 constructor
 . have b:val Z bs+1<=Z^(l+1)*2^L:=by
    have:=Aq (Z^(l+1)) (show d+1<=2^L from e);rw[Az,FC]at this;omega
   have a:=Ak (2^s) b;rw[Ay,g,<-AO,AA,CB]at a;exact AH (Nat.lt_add_of_pos_right (Ci s)) a
 . have b:Z^(l+1)*2^(L-1)<=val Z bs:=by
    have:=Aq (Z^(l+1)) c;omega
   have a:=Ak (2^s) b;rw[Ay,i,Au]at a;exact a
theorem aF(i:DR Z c)(hl:c.length=l+3)(b:val Z c=V)(d:V<Z^(l+2))(j:2^63*Z^(l+1)<=V):
 val Z (c.take (l+2))=V/\Z<=2*(c.take (l+2))[l+1]?.getD 0:=by
 have g:=Od (B:=Z) (k:=l+2) (D:=c) O (by rw[b];exact d);have a:val Z (c.take (l+2))=V:=by
  have h:=val_append Z (c.take (l+2)) (c.drop (l+2));rw[Cv,g,CA,Cq,b]at h;exact h.symm
 refine⟨a,?_⟩;rw[AF O];have e:=Jr Z c (l+1);have m:=YQ i (l+1);rw[show l+1+1=l+2 from rfl,a]at e;rcases AR (c[l+1]?.getD 0) (2^63)with h|h
 . exfalso
   have f:=Aq (Z^(l+1)) (show c[l+1]?.getD 0+1<=2^63 from h);rw[Az,FC,Au _ (2^63)]at f;omega
 . rw[Io];omega
theorem aG{m la:Nat}(c:m<Z^la)(d:Z^(l+1)<=n)(hl:l+1<=la):m*2^s<n*2^s*Z^(la-(l+1)):=by
 have b:Z^(l+1)*Z^(la-(l+1))=Z^la:=by rw[<-CG];congr 1;omega
 have a:=Ak (Z^(la-(l+1))) d;rw[b]at a;rw[Nat.mul_right_comm];exact Nat.mul_lt_mul_of_pos_right (AH c a) (Ci s)
theorem Jz{P:Program}{c:Array Oper}{Q:Exit->Act->I->Prop}{i:Nat}{o:Oper}{K:Act->I->Prop}{a:Act}(e:c[i]?=some o)(d:o.guard=none)
(h:∀b:Act->I->Prop,(∀a w,K a w->b a w)->o.wp P a w b Q):wpOp P c Q i K a w:=by
 unfold wpOp;rw[e];simp only[Region.wanted,d,if_true];exact Or.inl (h K λ_ _ h=>h)
theorem EA{p q:Prop}(k:q)(h:Hid q->p:=by intro x;refine Jz rfl rfl λK a=>?_;go_simp;refine a _ _ ?_;(repeat apply Exists.intro);refine ⟨rfl,?_⟩;exact x.o):p:=h k
def Hg(V:I)(base:Nat)(v:Value)(g len b:Nat)(a:List Nat):Prop:=
 v=C (some ⟨g,0,none⟩) len len/\DU V g a/\a.length=len/\DR Z a/\val Z a=b/\base<=g
theorem Hg.below{V V':I}{base g len b:Nat}{v:Value}{a:List Nat}(h:Hg V base v g len b a)(c:Bl V V'):Hg V' base v g len b a:=
 ⟨h.1,h.2.1.below c,h.2.2⟩
theorem Hg.box{V:I}{u:Value}(h:Hg V base v g len f c)(hl:0<len)(d:Boxed V B 61 (C none 0 0)):Hg (V.setCell ⟨B,0,none⟩ u) base v g len f c:=
 ⟨h.1,h.2.1.far (by
  intro e;simp only at e;obtain⟨i,b⟩:=h.2.1;rw[e,show V.heap[B]?=_ from d]at b;obtain⟨z,a,rfl⟩:∃z a,c=z::a:=by
   cases c with
    |nil=>have:=h.2.2.1;simp at this;omega
    |cons z a=>exact⟨z,a,rfl⟩
  simp[cellsOf]at b) u,h.2.2⟩
theorem Hg.ne_box{V:I}{b:Option Addr}{k i:Nat}(h:Hg V base v g len f c)(hl:0<len)(j:Boxed V B 61 (C b k i)):g≠B:=by
 intro e;obtain⟨l,d⟩:=h.2.1;rw[e,show V.heap[B]?=_ from j]at d;obtain⟨z,a,rfl⟩:∃z a,c=z::a:=by
  cases c with
  |nil=>have:=h.2.2.1;simp at this;omega
  |cons z a=>exact⟨z,a,rfl⟩
 simp[cellsOf]at d
end
section
structure SplC where
 w:World
 bs:Value
 rs:Value
 ds:Value
 qs:Value
 B9:Nat
 B10:Nat
 B11:Nat
 B12:Nat
 gR:Nat
 gZ:Nat
 gQ:Nat
 Zb:List Nat
structure SplC.Apart(c:SplC):Prop where
 r0:c.gR≠c.w.heap.size
 r9:c.gR≠c.B9
 r10:c.gR≠c.B10
 r11:c.gR≠c.B11
 r12:c.gR≠c.B12
 rz:c.gR≠c.gZ
 rq:c.gR≠c.gQ
 q0:c.gQ≠c.w.heap.size
 q9:c.gQ≠c.B9
 q10:c.gQ≠c.B10
 q11:c.gQ≠c.B11
 q12:c.gQ≠c.B12
 qz:c.gQ≠c.gZ
 lr:c.w.heap.size<=c.gR
 lq:c.w.heap.size<=c.gQ
structure SplC.Holds(c:SplC)(W:World):Prop where
 b0:Boxed W c.w.heap.size 61 c.bs
 b9:Boxed W c.B9 61 c.rs
 b10:Boxed W c.B10 61 c.ds
 b11:Boxed W c.B11 61 c.qs
 b12:Boxed W c.B12 61 c.qs
 z:DU W c.gZ c.Zb
 B:Below c.w.heap.size c.w W
theorem SplC.Holds.kept{c:SplC}{W W':I}{g:Nat}(h:c.Holds W)(a:W.grownBy W' (some g))(b:g≠c.w.heap.size)(j:g≠c.B9)(d:g≠c.B10)(f:g≠c.B11)(i:g≠c.B12)(k:g≠c.gZ)(hl:c.w.heap.size<=g):c.Holds W':=
 ⟨h.b0.kept a (λe=>by injection e with e;exact b e.symm),h.b9.kept a (λe=>by injection e with e;exact j e.symm),h.b10.kept a (λe=>by injection e with e;exact d e.symm),h.b11.kept a (λe=>by injection e with e;exact f e.symm),
  h.b12.kept a (λe=>by injection e with e;exact i e.symm),h.z.kept a (λe=>by injection e with e;exact k e.symm),below_grown h.B a hl⟩
theorem SplC.Holds.drew{c:SplC}{W:I}(h:c.Holds W):c.Holds W.drew:=
 ⟨h.b0,h.b9,h.b10,h.b11,h.b12,h.z,h.B.drew⟩
variable{f:Bool}{D D' Q Q':List Nat}{B:Nat}{W W' W0:I}
theorem SplC.own(c:SplC)(d:c.w.heap.size<=B):OwnFrom B (λ(_:Nat) W=>c.Holds W):=λk W W' row hs a b=>
 ⟨XY hs.b0 a b,XY hs.b9 a b,XY hs.b10 a b,XY hs.b11 a b,XY hs.b12 a b,LV hs.z a b,RM d k W W' row hs.B a b⟩
def Ra(c:SplC)(R0 V n K:Nat)(k:Nat)(W:I):Prop:=
 c.Holds W/\∃D Q,DU W c.gR D/\DU W c.gQ Q/\Gq R0 V n K (K-k) D Q
theorem aH(c:SplC)(R0 V n K:Nat)(g:c.w.heap.size<=B):OwnFrom B (Ra c R0 V n K):=
 BN (c.own g) (λ_ _ _ _ hs a b=>by obtain⟨D,Q,d,e,f⟩:=hs;exact⟨D,Q,LV d a b,LV e a b,f⟩)
structure SplM(c:SplC)(W0:World)(D D' Q Q':List Nat)(e f:Bool)(W:World):Prop where
 k:KeepsOthers W0 W
 h:c.Holds W
 r:DU W c.gR (bif e then D' else D)
 q:DU W c.gQ (bif f then Q' else Q)
theorem SplM.drew{c:SplC}{W0 W:I}{D D' Q Q':List Nat}{e f:Bool}(h:SplM c W0 D D' Q Q' e f W):SplM c W0 D D' Q Q' e f W.drew:=
 ⟨h.k.trans (KeepsOthers.drew W),h.h.drew,h.r,h.q⟩
theorem aI{g:Nat}{xs:List Nat}(b:DU W g xs)(c:W.grownBy W' (some g)):KeepsOthers W W':=
 KeepsOthers.of_grownBy c λj o a d=>by cases a;exact b.other d
theorem SplM.any{c:SplC}(h:SplM c W0 D D' Q Q' false f W)(a:List Nat):SplM c W0 D a Q Q' false f W:=⟨h.k,h.h,h.r,h.q⟩
theorem SplM.split{c:SplC}(h:SplM c W0 D D' Q Q' false f W)(a:c.Apart)(b:W.grownBy W' (some c.gR))(d:DU W' c.gR D'):SplM c W0 D D' Q Q' true f W':=
 ⟨h.k.trans (aI h.r b),h.h.kept b a.r0 a.r9 a.r10 a.r11 a.r12 a.rz a.lr,d,h.q.kept b λe=>by injection e with e;exact a.rq e.symm⟩
theorem SplM.store{c:SplC}{e:Bool}(h:SplM c W0 D D' Q Q' e false W)(a:c.Apart){j v:Nat}(d:Q.set j v=Q'):SplM c W0 D D' Q Q' e true (W.setCell ⟨c.gQ,j,none⟩ (F G (v:Nat))):=
 have b:=JI W c.gQ j (F G (v:Nat))
 ⟨h.k.trans (BL _ _ _),h.h.kept b a.q0 a.q9 a.q10 a.q11 a.q12 a.qz a.lq,h.r.kept b (λe=>by injection e with e;exact a.rq e),by have:=h.q.set j v;rw[cond_false,d]at this;exact this⟩
attribute [local go_sem] Oper.semAt_some
theorem aJ(a:Option Addr)(la ca:Nat)(r t l lb l1 cb m n d s:Nat)(w:I)(fj:lb=l+2)(h2:(lb:Int)-1=l1)(fu:r<w.heap.size)
(ra:Row G w (C a la ca) (Jd Z m))(rb:Row G w (C (some ⟨r,t,none⟩) lb cb) (Jd Z n))
(kb:w.cell? ⟨r,t+l1,none⟩=some (F G (d:Nat)))(fw:d<Z)(hs:s<=63)(HS:Hid ((64:Int)-(Lib.bitLen d:Int)=(s:Int)))(gl:lb<=la)(fx:la<1099511627776)
(fe:Hid (n*2^s<Z^(l+2)))(ff:Hid (2^63*Z^(l+1)<=n*2^s))(ft:Hid (m*2^s<n*2^s*Z^(la-(l+1)))):
 Calls M 146 #[C a la ca,C (some ⟨r,t,none⟩) lb cb] w λe w'=>∃u v,e=.returned (.tuple #[u,v])/\UN w' u (m/n)/\UN w' v (m%n)/\Bl w w':=by
 have Uf:Tryz.prog.follows .mixedOrders=true:=by kernel_rfl
 have Qc:=J fj;have i1:IntKind.i64.wrap ((lb:Int)-1)=(l1:Int):=by rw[h2];exact BW _ O
 have i3:IntKind.i64.wrap (l1:Int)=(l1:Int):=BW _ O;have j1:(l1:Int)<(lb:Int):=O
 have j9:(0:Int)<=(l1:Int):=O
 have gn:¬(lb=1):=O
 have Qg:Bl w (w.alloc (.cells #[C (some ⟨r,t,none⟩) lb cb] 61)):=Ba w _;have Qf:=BM w 61 (C (some ⟨r,t,none⟩) lb cb);obtain⟨W0,cj⟩:=ex (w.alloc (.cells #[C (some ⟨r,t,none⟩) lb cb] 61));have Qs:W0.heap.size=w.heap.size+1:=by rw[<-cj];simp
 rw[cj]at Qg Qf;have Ur:=Qf.cell;have Wa:=(Qg.cell (p:=⟨r,t+l1,none⟩) fu).trans kb;have Qr:=J λ(V:I) (h:Bl W0 V)=>RL a la ca (Jd Z m) s V hs (Row.below (Row.below ra Qg) h) (Jq Jg m) fx;have Qp:=J λ(V:I) (h:Bl W0 V)=>RL (some ⟨r,t,none⟩) lb cb (Jd Z n) s V hs (Row.below (Row.below rb Qg) h) (Jq Jg n) O;rw[Jp Jg]at Qr Qp;have Ub:=J cj;have Ua:=J (show ∀V:I,Calls M 166 #[F G (d:Nat)] V λe w'=>e=.returned (F N (s:Nat))/\w'=V from λV=>by
  have h:=Tryz.bits_LeadingZeros64 (d:Nat) V O (by unfold Z at fw;omega);rw[CE,HS.o]at h;exact h)
 have gv:IntKind.u64.wrap (s:Int)=(s:Int):=Bu _ O;have Us:=J Qs;clear cj fj ra rb kb HS;refine(BJ (n:=3)).1 ?_;refine BU Tryz.func146 rfl trivial ?_ rfl;simp only[Tryz.ntmps146,Ao,An,AG,Nat.reduceAdd,Nat.reduceSub,AK,AM,A3,AQ,Ap,AB];refine wpIn_wide.2 ?_;go_upto_region 1 with fail
 rw[Ub.o];clear Ub Qs;go_upto_region 8 with(go_at_call 166;refine(Ua.o _).mono ?_;rintro e w' ⟨rfl,e1⟩;have e2:=e1.symm;subst e2;clear e1)
 refine Jl Uf [[],[],[0,1],[],[],[3,4,2],[],[6],[5,7],[],[],[9,2,5,0,1,2,9,10],[10,8,11,0,1,2,3,4,5,6,7,8,9,10,11]] (by kernel_rfl) DP
  (λD ac V=>∃t9 aq aw ay az bc bf bu bg bh ce:Value,ac={ tmps:=#[C a la ca,C (some ⟨r,t,none⟩) lb cb,E,L (some ⟨w.heap.size,0,none⟩),C none 0 0,C none 0 0,E,E,F G (s:Nat),t9,aq,E,E,C a la ca,F N (la:Nat),C (some ⟨r,t,none⟩) lb cb,F N (lb:Nat),.bool false,E,E,C (some ⟨r,t,none⟩) lb cb,F N (lb:Nat),.bool false,E,E,E,E,E,E,E,E,E,E,E,E,C (some ⟨r,t,none⟩) lb cb,C (some ⟨r,t,none⟩) lb cb,F N (lb:Nat),F N (l1:Nat),L (some ⟨r,t+l1,none⟩),F G (d:Nat),F N (s:Nat),F G (s:Nat),aw,ay,az,bc,bf,bu,bg,bh,ce,E,E,E,E,E,E,E,E,E,E,E,E,E,E,E,E,E,E,E,E,E,E,E,E,E,E,E,E],defers:=[] }/\Hid (D 0=true->aw=C a la ca)/\Hid (D 1=true->ay=F G (s:Nat))/\Hid (D 2=true->∃g bi,Hg V W0.heap.size az g (la+1) (m*2^s) bi)/\Hid (D 3=true->bc=C (some ⟨r,t,none⟩) lb cb)/\Hid (D 4=true->bf=F G (s:Nat))/\Hid (D 5=true->∃gR Zr gZ Zb,Hg V W0.heap.size az gR (la+1) (m*2^s) Zr/\Hg V W0.heap.size bu gZ (lb+1) (n*2^s) Zb/\gR≠gZ)/\Hid (D 6=true->bg=C (some ⟨r,t,none⟩) lb cb)/\Hid (D 7=true->bh=F N (lb:Nat))/\Hid (D 8=true->∃gZ,bu=C (some ⟨gZ,0,none⟩) (lb+1) (lb+1)/\ce=C (some ⟨gZ,0,none⟩) lb (lb+1))/\Hid (D 9=true->D 11=false->∃B,t9=L (some ⟨B,0,none⟩)/\Boxed V B 61 (C none 0 0)/\W0.heap.size<=B)/\Hid (D 10=true->D 12=false->∃B,aq=L (some ⟨B,0,none⟩)/\Boxed V B 61 (C none 0 0)/\W0.heap.size<=B)/\Hid (D 9=true->D 10=true->t9≠aq)/\Hid (D 11=true->∃B,t9=L (some ⟨B,0,none⟩)/\Boxed V B 61 az/\W0.heap.size<=B)/\Hid (D 12=true->∃B,aq=L (some ⟨B,0,none⟩)/\Boxed V B 61 ce/\W0.heap.size<=B)/\Bl W0 V)
  (E8 ⟨_,_,_,rfl,J Dk,J Dk,J Dk,J Dk,J Dk,J Dk,J Dk,J Dk,J Dk,J Dk,J Dk,J Dk,J Dk,J Dk,(BB _ W0).drew⟩) ?step8 ?fin8
 case step8=>
  rintro D a2 V i ds af f6 b ah ⟨t9,aq,aw,ay,az,bc,bf,bu,bg,bh,ce,rfl,A,g1,g2,P,R,o,S,T,U,z,x,gx,ad,ae,hq⟩;have Qx:i<13:=(Ac.1 f6).1;obtain rfl|rfl|rfl|rfl|rfl|rfl|rfl|rfl|rfl|rfl|rfl|rfl|rfl:=Na i O
  all_goals
   simp only[Af,Ae,Ag]at f6;subst f6;clear Qx
  . clear b af;refine EA ?_;exact⟨J λ_=>rfl,g1,g2,P,R,o,S,T,U,z,x,gx,ad,ae,hq⟩
  . clear b af;refine EA ?_;exact⟨A,J λ_=>rfl,g2,P,R,o,S,T,U,z,x,gx,ad,ae,hq⟩
  . have Uu:D 5=false:=DQ af ah;have Qb:D 11=false:=DQ af ah;have Qa:D 12=false:=DQ af ah;obtain rfl:=A.o (b 0 Y);obtain rfl:=g1.o (b 1 Y);clear b af;refine Jz rfl rfl λK hK=>?_;go_simp;go_wp2_with(go_at_call 168;refine(Qr.o _ hq).mono ?_;rintro e w5 ⟨o,Z5,rfl,⟨ed,ei,et⟩,hA5,bn,am⟩)
    exact E8 ⟨_,_,_,rfl,J λ_=>rfl,J λ_=>rfl,J λ_=>⟨o,Z5,rfl,hA5,ed,ei,et,As hq.size bn⟩,P,R,J (λh=>by simp[Uu]at h),S,T,U,J (λh h2=>by obtain⟨B,e,q,q2⟩:=z.o h h2;exact⟨B,e,boxed_below q am,q2⟩),J (λh h2=>by obtain⟨B,e,q,q2⟩:=x.o h h2;exact⟨B,e,boxed_below q am,q2⟩),gx,J (λh=>by simp[Qb]at h),J (λh=>by simp[Qa]at h),Bt hq am⟩
  . have k0:=(boxed_below Qf hq).cell;clear b af;refine EA ?_;exact⟨A,g1,g2,J λ_=>rfl,R,o,S,T,U,z,x,gx,ad,ae,hq⟩
  . clear b af;refine EA ?_;exact⟨A,g1,g2,P,J λ_=>rfl,o,S,T,U,z,x,gx,ad,ae,hq⟩
  . have Up:D 8=false:=DQ af ah;have Qb:D 11=false:=DQ af ah;have Qa:D 12=false:=DQ af ah;obtain rfl:=P.o (b 3 Y);obtain rfl:=R.o (b 4 Y);obtain⟨gR,Zr,hR⟩:=g2.o (b 2 Y);have gj:=hR.2.1.lt;clear b af;refine Jz rfl rfl λK hK=>?_;go_simp;go_wp2_with(go_at_call 168;refine(Qp.o _ hq).mono ?_;rintro e w5 ⟨o,Z5,rfl,⟨ed,ei,et⟩,hA5,bn,am⟩)
    exact⟨_,_,_,_,_,_,_,_,_,_,_,rfl,A,g1,J λ_=>⟨gR,Zr,hR.below am⟩,J λ_=>rfl,J λ_=>rfl,J λ_=>⟨gR,Zr,o,Z5,hR.below am,⟨rfl,hA5,ed,ei,et,As hq.size bn⟩,O⟩,S,T,J (λh=>by simp[Up]at h),J (λh h2=>by obtain⟨B,e,q,q2⟩:=z.o h h2;exact⟨B,e,boxed_below q am,q2⟩),J (λh h2=>by obtain⟨B,e,q,q2⟩:=x.o h h2;exact⟨B,e,boxed_below q am,q2⟩),gx,J (λh=>by simp[Qb]at h),J (λh=>by simp[Qa]at h),Bt hq am⟩
  . have k0:=(boxed_below Qf hq).cell;clear b af;refine EA ?_;exact⟨A,g1,g2,P,R,o,J λ_=>rfl,T,U,z,x,gx,ad,ae,hq⟩
  . obtain rfl:=S.o (b 6 Y);clear b af;refine EA ?_;exact⟨A,g1,g2,P,R,o,J λ_=>rfl,J λ_=>rfl,U,z,x,gx,ad,ae,hq⟩
  . have Qa:D 12=false:=DQ af ah;obtain⟨gR,Zr,gZ,Zb,hR,hZ,ap⟩:=o.o (b 5 Y);obtain rfl:=hZ.1;obtain rfl:=T.o (b 7 Y);have b1:(0:Int)<=(lb:Int):=O
    have b2:(lb:Int)<=(lb:Int)+1:=O
    clear b af;refine EA ?_;exact⟨A,g1,g2,P,R,J λ_=>⟨gR,Zr,gZ,Zb,hR,hZ,ap⟩,S,J λ_=>rfl,J λ_=>⟨gZ,rfl,rfl⟩,z,x,gx,ad,J (λh=>by simp[Qa]at h),hq⟩
  . have Qb:D 11=false:=DQ af ah;have Qa:D 12=false:=DQ af ah;clear b af;refine EA ?_;exact⟨A,g1,J (λh=>by obtain⟨g,bi,q⟩:=g2.o h;exact⟨g,bi,q.below (Ba V _)⟩),P,R,J (λh=>by obtain⟨gR,Zr,gZ,Zb,q1,q2,q3⟩:=o.o h;exact⟨gR,Zr,gZ,Zb,q1.below (Ba V _),q2.below (Ba V _),q3⟩),S,T,U,J λ_ _=>⟨_,rfl,BM _ _ _,hq.size⟩,J (λh h2=>by obtain⟨B,e,q,q2⟩:=x.o h h2;exact⟨B,e,q.alloc _,q2⟩),J (λ_ h e=>by obtain⟨B,e2,q,q2⟩:=x.o (by simpa using h) Qa;have:=q.lt;rw[e2]at e;cases e;omega),J (λh=>by simp[Qb]at h),J (λh=>by simp[Qa]at h),hq.alloc hq.size _⟩
  . have Qb:D 11=false:=DQ af ah;have Qa:D 12=false:=DQ af ah;clear b af;refine EA ?_;exact⟨A,g1,J (λh=>by obtain⟨g,bi,q⟩:=g2.o h;exact⟨g,bi,q.below (Ba V _)⟩),P,R,J (λh=>by obtain⟨gR,Zr,gZ,Zb,q1,q2,q3⟩:=o.o h;exact⟨gR,Zr,gZ,Zb,q1.below (Ba V _),q2.below (Ba V _),q3⟩),S,T,U,J (λh h2=>by obtain⟨B,e,q,q2⟩:=z.o h h2;exact⟨B,e,q.alloc _,q2⟩),J λ_ _=>⟨_,rfl,BM _ _ _,hq.size⟩,J (λh _ e=>by obtain⟨B,e2,q,q2⟩:=z.o (by simpa using h) Qb;have:=q.lt;rw[e2]at e;cases e;omega),J (λh=>by simp[Qb]at h),J (λh=>by simp[Qa]at h),hq.alloc hq.size _⟩
  . have Qa:D 12=false:=DQ af ah;obtain⟨B,rfl,aj,bt⟩:=z.o (b 9 Y) ah;obtain⟨gR,Zr,gZ,Zb,hR,hZ,ap⟩:=o.o (b 5 Y);have k0:=aj.cell;have f0:=aj.frozen;obtain⟨B2,bj,ew,fd⟩:=x.o (b 10 Y) Qa;have Qt:B≠B2:=λe=>gx.o (b 9 Y) (b 10 Y) (by rw[bj,e]);obtain rfl:=bj;obtain rfl:=hR.1;clear z ad;clear b af;refine EA ?_;exact⟨A,g1,J λ_=>⟨gR,Zr,hR.box O aj⟩,P,R,J λ_=>⟨gR,Zr,gZ,Zb,hR.box O aj,hZ.box O aj,ap⟩,S,T,U,J (λ_ h=>by simp at h),J λ_ _=>⟨B2,rfl,ew.kept (DK _ B _) (λe=>by injection e;omega),fd⟩,gx,J λ_=>⟨B,rfl,aj.set _,bt⟩,J (λh=>by simp[Qa]at h),hq.setCell (p:=⟨B,0,none⟩) bt _⟩
  . obtain⟨B,rfl,aj,bt⟩:=x.o (b 10 Y) ah;obtain⟨gR,Zr,gZ,Zb,hR,hZ,ap⟩:=o.o (b 5 Y);obtain⟨fg,ci,dz⟩:=U.o (b 8 Y);have k0:=aj.cell;have f0:=aj.frozen;obtain⟨B2,bj,ew,fd⟩:=ad.o (b 11 Y);have Qt:B≠B2:=λe=>gx.o (b 9 Y) (b 10 Y) (by rw[bj,e]);obtain rfl:=dz;obtain rfl:=ci;obtain rfl:=bj;have Qy:=b 11 Y;clear x ae;clear b af;refine EA ?_;exact⟨A,g1,J λ_=>⟨gR,Zr,hR.box O aj⟩,P,R,J λ_=>⟨gR,Zr,gZ,Zb,hR.box O aj,hZ.box O aj,ap⟩,S,T,J λ_=>⟨fg,rfl,rfl⟩,J (λ_ h=>by simp[Qy]at h),J (λ_ h=>by simp at h),gx,J λ_=>⟨B2,rfl,ew.kept (DK _ B _) (λe=>by injection e;omega),fd⟩,J λ_=>⟨B,rfl,aj.set _,bt⟩,hq.setCell (p:=⟨B,0,none⟩) bt _⟩
 rintro D a2 f ak ⟨t9,aq,aw,ay,az,bc,bf,bu,bg,bh,ce,rfl,A,g1,g2,P,R,o,S,T,U,z,x,gx,ad,ae,hq⟩;obtain⟨gR,Zr,gZ,Zb,hR,hZ,ap⟩:=o.o (ak 5 DP);obtain⟨fg,ci,dz⟩:=U.o (ak 8 DP);obtain⟨B9,rfl,bm,gu⟩:=ad.o (ak 11 DP);obtain⟨B10,rfl,bk,gr⟩:=ae.o (ak 12 DP);obtain rfl:=dz;obtain rfl:=hR.1;have e0:=hZ.1;rw[ci]at e0;cases e0;obtain rfl:=ci;clear A g1 g2 P R o S T U z x gx ad ae ak Qr Qp Ua;obtain⟨K,hK⟩:∃K:Nat,(la:Int)+1-(lb:Int)=(K:Int):=⟨la+1-lb,O⟩;have gh:IntKind.i64.wrap (K:Int)=(K:Int):=BW _ O;have Ux:=Ke K O f;have k9:=bm.cell;have Ut:=bk.cell;have Qi:K+lb=la+1:=O
 have Qm:=J Qi;clear Qi;go_wp2_with(go_at_call 152;refine((BJ (n:=2)).1 (LN Fence.wide _ trivial rfl _ _ _ _)).mono ?_;rintro e w' ⟨rfl,rfl⟩)
 refine(wpIn_wide (n:=3)).1 ?_;obtain⟨WQ,an⟩:=ex (((f.alloc (.cells (cellsOf G (List.replicate K 0)).toArray 156)).alloc (.cells #[C (some ⟨f.heap.size,0,none⟩) K K] 61)).alloc (.cells #[C (some ⟨f.heap.size,0,none⟩) K K] 61));have Uw:WQ.heap.size=f.heap.size+1+1+1:=by rw[<-an];simp
 have Qj:Bl w f:=Bt Qg hq;have Qs:=Us.o;have Un:Bl w WQ:=by rw[<-an];exact((Qj.alloc Qj.size _).alloc (by have:=Qj.size;simp;omega) _).alloc (by have:=Qj.size;simp;omega) _
 have lR:=hR.2.1.lt;have lZ:=hZ.2.1.lt;have l9:=bm.lt;have gw:=bk.lt;have n9:gR≠B9:=λe=>hR.ne_box O bm e;have gy:gR≠B10:=λe=>hR.ne_box O bk e;have fy:=hR.2.2.2.2.2;have ga:=hZ.2.2.2.2.2;obtain⟨c,hc⟩:∃c:SplC,c=⟨w,C (some ⟨r,t,none⟩) lb cb,C (some ⟨gR,0,none⟩) (la+1) (la+1),C (some ⟨gZ,0,none⟩) lb (lb+1),C (some ⟨f.heap.size,0,none⟩) K K,B9,B10,f.heap.size+1,f.heap.size+1+1,gR,gZ,f.heap.size,Zb⟩:=⟨_,rfl⟩;have Ue:c.Apart:=by
  rw[hc];constructor<;>(simp only;omega)
 have Uc:c.Holds WQ:=by
  rw[hc,<-an];have Uj:=(BM (f.alloc (.cells (cellsOf G (List.replicate K 0)).toArray 156)) 61 (C (some ⟨f.heap.size,0,none⟩) K K)).alloc (.cells #[C (some ⟨f.heap.size,0,none⟩) K K] 61);have Ug:=BM ((f.alloc (.cells (cellsOf G (List.replicate K 0)).toArray 156)).alloc (.cells #[C (some ⟨f.heap.size,0,none⟩) K K] 61)) 61 (C (some ⟨f.heap.size,0,none⟩) K K);simp only[A1]at Uj Ug;exact⟨(((boxed_below Qf hq).alloc _).alloc _).alloc _,((bm.alloc _).alloc _).alloc _,((bk.alloc _).alloc _).alloc _,Uj,Ug,((hZ.2.1.alloc _).alloc _).alloc _,by rw[an];exact Un⟩
 have Ui:DU WQ gR Zr:=by rw[<-an];exact((hR.2.1.alloc _).alloc _).alloc _
 have Qz:DU WQ f.heap.size (List.replicate K 0):=by rw[<-an];exact((DU.made (BE f _)).alloc _).alloc _
 have Qu:Gq (m*2^s) (n*2^s) lb K K Zr (List.replicate K 0):=Gq.start (by have:=Qm.o;rw[hR.2.2.1];omega) hR.2.2.2.1 hR.2.2.2.2.1 (by
  have h:=ft.o;rwa[show la-(l+1)=K from by have:=Qm.o;have:=Qc.o;omega]at h)
 obtain⟨fb,fm⟩:=aF hZ.2.2.2.1 (by rw[hZ.2.2.1,Qc.o]) hZ.2.2.2.2.1 fe.o ff.o;have Uy:0<n*2^s:=by
  have h:=ff.o;have:=FY (Ci 63) (CN (n:=l+1) (show 0<Z by unfold Z;omega));omega
 have Qh:n*2^s<Z^lb:=by rw[Qc.o];exact fe.o
 have Uq:=hZ.2.2.2.1;have gk:=hZ.2.2.1;rw[an];clear an Ux bm bk Qf Ur k9 Ut hR hZ hq Qj Wa;refine Xj rfl O (gf:=174) (lb:=#[L (some ⟨f.heap.size+1+1,0,none⟩)]) rfl trivial (DF Tryz.func174 (by kernel_rfl) rfl)
  (LM Fence.wide _ trivial rfl O (f.heap.size+1+1) (some ⟨f.heap.size,0,none⟩) K K (λ_=>0) O) (λ_=>rfl)
  (Ra c (m*2^s) (n*2^s) lb K) (λ_ _ _=>False) (aH c _ _ _ _ (by rw[hc,Uw];simp only;omega)) (λc _ _ _ _ h _ _=>h.elim)
  ⟨Uc,Zr,List.replicate K 0,by rw[hc];exact Ui,by rw[hc];exact Qz,by rw[Fg];exact Qu⟩ ?rd
  (λk=>{ tmps:=#[C a la ca,C (some ⟨r,t,none⟩) lb cb,E,L (some ⟨w.heap.size,0,none⟩),C none 0 0,C none 0 0,E,E,F G (s:Nat),L (some ⟨B9,0,none⟩),L (some ⟨B10,0,none⟩),L (some ⟨f.heap.size+1,0,none⟩),F N ((K:Int)-1-k),C a la ca,F N (la:Nat),C (some ⟨r,t,none⟩) lb cb,F N (lb:Nat),.bool false,E,E,C (some ⟨r,t,none⟩) lb cb,F N (lb:Nat),.bool false,E,E,E,E,E,E,E,E,E,E,E,E,C (some ⟨r,t,none⟩) lb cb,C (some ⟨r,t,none⟩) lb cb,F N (lb:Nat),F N (l1:Nat),L (some ⟨r,t+l1,none⟩),F G (d:Nat),F N (s:Nat),F G (s:Nat),aw,ay,C (some ⟨gR,0,none⟩) (la+1) (la+1),bc,bf,C (some ⟨gZ,0,none⟩) (lb+1) (lb+1),bg,bh,C (some ⟨gZ,0,none⟩) lb (lb+1),C (some ⟨gR,0,none⟩) (la+1) (la+1),F N ((la:Int)+1),C (some ⟨gZ,0,none⟩) lb (lb+1),F N (lb:Nat),F N (K:Nat),C (some ⟨f.heap.size,0,none⟩) K K,C (some ⟨f.heap.size,0,none⟩) K K,.func (.func 174) #[] #[L (some ⟨f.heap.size+1+1,0,none⟩)],F N ((K:Int)-1-k),F G 0,E,E,E,E,E,E,E,E,E,E,E,E,E,E,E,E,E,E],defers:=[] }) ?assign ?body ?done ?stop
 case rd=>
  rintro k W ⟨hh,D,Q,_,hQ,hL⟩;have Ud:=hh.b12;rw[hc]at Ud hQ;refine⟨Ud.cell,λhk=>⟨f.heap.size,0,rfl,?_⟩⟩;rw[Cc,hQ.cell (j:=K-1-k) (by rw[hL.2.2.1];omega),hL.2.2.2.2.2.2 (K-1-k) O]
 case assign=>
  intro l k W K hK;unfold Hv;gi_wp2;exact hK
 case stop=>
  rintro D c k W _ _ h _;exact h.elim
 case body=>
  rintro l' k W ⟨hh,D,Q,hD,hQ,hL⟩ hk gp;have Uh:K-k=K-1-k+1:=O
  rw[Uh]at hL;have e1:((K:Int)-1-k)=((K-1-k:Nat):Int):=O
  have HI:=J (show K-(k+1)=K-1-k by omega);have Qn:K-1-k<K:=O
  rw[e1];obtain⟨i,hi⟩:=ex (K-1-k);rw[hi]at hL Qn HI ⊢;clear Uh e1 hi;obtain⟨w1,w2,w3⟩:=hL.win Qn Qh;have Uv:=hL.1;have gi:=hL.2.2.1;have Um:=J (show ∀(V:I) (nn:Nat),DU V gR D->DU V gZ Zb->CallsIn (Fence.wide.inRound l') nn M 169 #[C (some ⟨gR,i,none⟩) (lb+1) (la+1-i),C (some ⟨gZ,0,none⟩) lb (lb+1)] V λe w'=>
   ∃q,e=.returned (F G ((val Z ((D.drop i).take (lb+1))/(n*2^s):Nat):Int))/\(q.length=lb+1/\DR Z q/\val Z q=val Z ((D.drop i).take (lb+1))%(n*2^s))/\DU w' gR (Db D i (lb+1) q)/\V.grownBy w' (some gR)from λV nn h1 h2=>by
   have Qi:=Qm.o;have hz:=h2.row 0 lb (lb+1) O O O O;have Qw:=aE gR i l (la+1-i) D (some ⟨gZ,0,none⟩) (lb+1) (Zb.take (l+2)) V h1 hL.2.1 (by rw[Uv];have:=Qc.o;omega) (by have:=Qc.o;omega) O (by have:=Qc.o;omega)
    (by rw[AJ,Qc.o]at hz;rw[Qc.o];exact hz) (Uq.take _) (λp e _=>by cases e;exact λh=>ap h.symm) fm (by rw[fb];have:=w1;rw[Qc.o]at this;exact this)
   rw[fb]at Qw;have e3:l+3=lb+1:=by rw[Qc.o]
   have e2:l+2=lb:=Qc.o.symm;rw[e3,e2]at Qw;exact Be l' ((BJ (n:=nn)).2 Qw))
  have Uo:=J λ(q:List Nat) (h1:q.length=lb+1) (h2:DR Z q) (h3:val Z q=val Z ((D.drop i).take (lb+1))%(n*2^s))=>hL.step Qn Qh h1 h2 h3 Uy;obtain⟨qd,fk⟩:=ex (val Z ((D.drop i).take (lb+1))/(n*2^s));rw[fk]at Uo Um;clear fk w1 w2 w3 hL fb fm Qu;obtain⟨H1,gb⟩:∃H1:Nat,(i:Int)+(lb:Int)=(H1:Int):=⟨i+lb,O⟩;obtain⟨H,hH⟩:∃H:Nat,(H1:Int)+1=(H:Int):=⟨H1+1,O⟩;have gg:H-i=lb+1:=O
  have y1:(i:Int)<=(H:Int):=O
  have y2:(H:Int)<=(la:Int)+1:=O
  have y3:(0:Int)<=(i:Int):=O
  have y4:(i:Int)<(K:Int):=O
  have y5:IntKind.i64.wrap (H1:Int)=(H1:Int):=BW _ O;have y6:IntKind.i64.wrap (H:Int)=(H:Int):=BW _ O;gi_wp2_with fail
  refine Yl Uf [[],[],[],[],[],[],[5],[4,6],[7],[2,3,8],[],[9,10],[0,1,0,1,2,3,4,5,6,7,8,9,10,11],[12,11,11,0,1,2,3,4,5,6,7,8,9,10,11]] (by kernel_rfl) DP
   (λDD ac V=>∃ck cl cn co ct de dh di dj dp dt du dx:Value,ac={ tmps:=#[C a la ca,C (some ⟨r,t,none⟩) lb cb,E,L (some ⟨w.heap.size,0,none⟩),C none 0 0,C none 0 0,E,E,F G (s:Nat),L (some ⟨B9,0,none⟩),L (some ⟨B10,0,none⟩),L (some ⟨f.heap.size+1,0,none⟩),F N (i:Nat),C a la ca,F N (la:Nat),C (some ⟨r,t,none⟩) lb cb,F N (lb:Nat),.bool false,E,E,C (some ⟨r,t,none⟩) lb cb,F N (lb:Nat),.bool false,E,E,E,E,E,E,E,E,E,E,E,E,C (some ⟨r,t,none⟩) lb cb,C (some ⟨r,t,none⟩) lb cb,F N (lb:Nat),F N (l1:Nat),L (some ⟨r,t+l1,none⟩),F G (d:Nat),F N (s:Nat),F G (s:Nat),aw,ay,C (some ⟨gR,0,none⟩) (la+1) (la+1),bc,bf,C (some ⟨gZ,0,none⟩) (lb+1) (lb+1),bg,bh,C (some ⟨gZ,0,none⟩) lb (lb+1),C (some ⟨gR,0,none⟩) (la+1) (la+1),F N ((la:Int)+1),C (some ⟨gZ,0,none⟩) lb (lb+1),F N (lb:Nat),F N (K:Nat),C (some ⟨f.heap.size,0,none⟩) K K,C (some ⟨f.heap.size,0,none⟩) K K,.func (.func 174) #[] #[L (some ⟨f.heap.size+1+1,0,none⟩)],F N (i:Nat),F G 0,ck,cl,cn,co,ct,de,dh,di,dj,dp,dt,du,dx,E,E,E,E,E],defers:=[] }/\Hid (DD 0=true->ck=C (some ⟨f.heap.size,0,none⟩) K K)/\Hid (DD 1=true->cl=F N (i:Nat))/\Hid (DD 2=true->cn=C (some ⟨gR,0,none⟩) (la+1) (la+1))/\Hid (DD 3=true->co=F N (i:Nat))/\Hid (DD 4=true->ct=F N (i:Nat))/\Hid (DD 5=true->de=C (some ⟨r,t,none⟩) lb cb)/\Hid (DD 6=true->dh=F N (lb:Nat))/\Hid (DD 7=true->di=F N (H1:Nat))/\Hid (DD 8=true->dj=F N (H:Nat))/\Hid (DD 9=true->dp=C (some ⟨gR,i,none⟩) (lb+1) (la+1-i))/\Hid (DD 10=true->dt=C (some ⟨gZ,0,none⟩) lb (lb+1))/\Hid (DD 11=true->du=F G (qd:Nat))/\Hid (DD 12=true->dx=L (some ⟨f.heap.size,i,none⟩))/\∃D2,Hid (DD 11=true->∃q,(q.length=lb+1/\DR Z q/\val Z q=val Z ((D.drop i).take (lb+1))%(n*2^s))/\D2=Db D i (lb+1) q)/\SplM c W D D2 Q (Q.set i qd) (DD 11) (DD 13) V)
   (E8 ⟨_,_,_,_,_,rfl,J Dk,J Dk,J Dk,J Dk,J Dk,J Dk,J Dk,J Dk,J Dk,J Dk,J Dk,J Dk,J Dk,D,J Dk,SplM.drew ⟨KeepsOthers.refl _,hh,hD,hQ⟩⟩) ?step ?fin
  case fin=>
   rintro DD ac V ak ⟨ck,cl,cn,co,ct,de,dh,di,dj,dp,dt,du,dx,rfl,A,g1,g2,P,R,o,S,T,U,z,x,ad,ae,D2,gd,y⟩;rw[ak 11 DP,ak 13 DP]at y;obtain⟨q,⟨f7,f8,f9⟩,rfl⟩:=gd.o (ak 11 DP);refine⟨y.k.from _,y.h,Db D i (lb+1) q,Q.set i qd,y.r,y.q,?_⟩;rw[HI.o];exact Uo.o q f7 f8 f9
  case step=>
   rintro DD ac V j ds ai hj b ah ⟨ck,cl,cn,co,ct,de,dh,di,dj,dp,dt,du,dx,rfl,A,g1,g2,P,R,o,S,T,U,z,x,ad,ae,D2,gd,y⟩;have Qv:j<14:=(Ac.1 hj).1;obtain rfl|rfl|rfl|rfl|rfl|rfl|rfl|rfl|rfl|rfl|rfl|rfl|rfl|rfl:=GD j O
   all_goals
    simp only[Af,Ae,Ag]at hj;subst hj;clear Qv
   . have b11:Boxed V (f.heap.size+1) 61 (C (some ⟨f.heap.size,0,none⟩) K K):=by have:=y.h.b11;rw[hc]at this;exact this
     have k0:=b11.cell;clear b ai;refine BQ rfl λK2 X=>?_;go_simp;exact X _ _ (E8 ⟨_,_,_,_,_,rfl,J λ_=>rfl,g1,g2,P,R,o,S,T,U,z,x,ad,ae,D2,gd,y⟩)
   . clear b ai;refine BQ rfl λK2 X=>?_;go_simp;exact X _ _ ⟨_,_,_,_,_,_,_,_,_,_,_,_,_,rfl,A,J λ_=>rfl,g2,P,R,o,S,T,U,z,x,ad,ae,D2,gd,y⟩
   . have b9:Boxed V B9 61 (C (some ⟨gR,0,none⟩) (la+1) (la+1)):=by have:=y.h.b9;rw[hc]at this;exact this
     have k0:=b9.cell;clear b ai;refine BQ rfl λK2 X=>?_;go_simp;exact X _ _ ⟨_,_,_,_,_,_,_,_,_,_,_,_,_,rfl,A,g1,J λ_=>rfl,P,R,o,S,T,U,z,x,ad,ae,D2,gd,y⟩
   . clear b ai;refine BQ rfl λK2 X=>?_;go_simp;exact X _ _ ⟨_,_,_,_,_,_,_,_,_,_,_,_,_,rfl,A,g1,g2,J λ_=>rfl,R,o,S,T,U,z,x,ad,ae,D2,gd,y⟩
   . clear b ai;refine BQ rfl λK2 X=>?_;go_simp;exact X _ _ ⟨_,_,_,_,_,_,_,_,_,_,_,_,_,rfl,A,g1,g2,P,J λ_=>rfl,o,S,T,U,z,x,ad,ae,D2,gd,y⟩
   . have b0:Boxed V w.heap.size 61 (C (some ⟨r,t,none⟩) lb cb):=by have:=y.h.b0;rw[hc]at this;exact this
     have k0:=b0.cell;clear b ai;refine BQ rfl λK2 X=>?_;go_simp;exact X _ _ ⟨_,_,_,_,_,_,_,_,_,_,_,_,_,rfl,A,g1,g2,P,R,J λ_=>rfl,S,T,U,z,x,ad,ae,D2,gd,y⟩
   . obtain rfl:=o.o (b 5 Y);clear b ai;refine BQ rfl λK2 X=>?_;go_simp;exact X _ _ ⟨_,_,_,_,_,_,_,_,_,_,_,_,_,rfl,A,g1,g2,P,R,J λ_=>rfl,J λ_=>rfl,T,U,z,x,ad,ae,D2,gd,y⟩
   . obtain rfl:=R.o (b 4 Y);obtain rfl:=S.o (b 6 Y);clear b ai;refine BQ rfl λK2 X=>?_;go_simp;exact X _ _ ⟨_,_,_,_,_,_,_,_,_,_,_,_,_,rfl,A,g1,g2,P,J λ_=>rfl,o,J λ_=>rfl,J λ_=>rfl,U,z,x,ad,ae,D2,gd,y⟩
   . obtain rfl:=T.o (b 7 Y);clear b ai;refine BQ rfl λK2 X=>?_;go_simp;exact X _ _ ⟨_,_,_,_,_,_,_,_,_,_,_,_,_,rfl,A,g1,g2,P,R,o,S,J λ_=>rfl,J λ_=>rfl,z,x,ad,ae,D2,gd,y⟩
   . obtain rfl:=g2.o (b 2 Y);obtain rfl:=P.o (b 3 Y);obtain rfl:=U.o (b 8 Y);have go:¬(la+1=i):=O
     clear b ai;refine BQ rfl λK2 X=>?_;go_simp;exact X _ _ ⟨_,_,_,_,_,_,_,_,_,_,_,_,_,rfl,A,g1,J λ_=>rfl,J λ_=>rfl,R,o,S,T,J λ_=>rfl,J λ_=>rfl,x,ad,ae,D2,gd,y⟩
   . have b10:Boxed V B10 61 (C (some ⟨gZ,0,none⟩) lb (lb+1)):=by have:=y.h.b10;rw[hc]at this;exact this
     have k0:=b10.cell;clear b ai;refine BQ rfl λK2 X=>?_;go_simp;exact X _ _ ⟨_,_,_,_,_,_,_,_,_,_,_,_,_,rfl,A,g1,g2,P,R,o,S,T,U,z,J λ_=>rfl,ad,ae,D2,gd,y⟩
   . obtain rfl:=z.o (b 9 Y);obtain rfl:=x.o (b 10 Y);rw[ah]at y;have hr:DU V gR D:=by have:=y.r;rw[hc]at this;exact this
     have hz:DU V gZ Zb:=by have:=y.h.z;rw[hc]at this;exact this
     have HV:=J y;clear y;clear b ai;refine BQ rfl λK2 X=>?_;go_simp;gi_wp2_with(refine⟨trivial,?_⟩;gi_at_call 169;refine(Um.o _ _ hr hz).mono ?_;rintro e w5 ⟨q,rfl,⟨f7,f8,f9⟩,hA5,bn⟩)
     exact⟨_,_,_,_,_,_,_,_,_,_,_,_,_,rfl,A,g1,g2,P,R,o,S,T,U,J λ_=>rfl,J λ_=>rfl,J λ_=>rfl,ae,Db D i (lb+1) q,J λ_=>⟨q,⟨f7,f8,f9⟩,rfl⟩,SplM.split (HV.o.any _) Ue (by rw[hc];exact bn) (by rw[hc];exact hA5)⟩
   . obtain rfl:=A.o (b 0 Y);obtain rfl:=g1.o (b 1 Y);clear b ai;refine BQ rfl λK2 X=>?_;go_simp;exact X _ _ (E8 ⟨_,_,_,_,_,rfl,J λ_=>rfl,J λ_=>rfl,g2,P,R,o,S,T,U,z,x,ad,J λ_=>rfl,D2,gd,y⟩)
   . obtain rfl:=ad.o (b 11 Y);obtain rfl:=ae.o (b 12 Y);rw[ah]at y;have Qk:DU V f.heap.size Q:=by have:=y.q;rw[hc]at this;exact this
     have k0:=Qk.cell (j:=i) O;have f0:=Qk.frozen i;have Ql:SplM c W D D2 Q (Q.set i qd) (DD 11) true (V.setCell ⟨f.heap.size,i,none⟩ (F G (qd:Nat))):=by have:=y.store Ue (j:=i) (v:=qd) rfl;rw[hc]at this ⊢;exact this
     have Qo:=J Ql;clear Ql y;clear b ai;refine BQ rfl λK2 X=>?_;go_simp;exact X _ _ ⟨_,_,_,_,_,_,_,_,_,_,_,_,_,rfl,A,g1,g2,P,R,o,S,T,U,z,x,J λ_=>rfl,J λ_=>rfl,D2,gd,Qo.o⟩
 case done=>
  rintro D W hD ⟨hh,D2,Q2,ak,fh,hL⟩ X;rw[A6]at hL;obtain⟨f1,f2⟩:=hL.fin rfl rfl;have b11:Boxed W (f.heap.size+1) 61 (C (some ⟨f.heap.size,0,none⟩) K K):=by have:=hh.b11;rw[hc]at this;exact this
  have b9:Boxed W B9 61 (C (some ⟨gR,0,none⟩) (la+1) (la+1)):=by have:=hh.b9;rw[hc]at this;exact this
  have Uk:Bl w W:=by have:=hh.B;rw[hc]at this;exact this
  have hr:DU W gR D2:=by have:=ak;rw[hc]at this;exact this
  have Qk:DU W f.heap.size Q2:=by have:=fh;rw[hc]at this;exact this
  have Qi:=Qm.o;have Qd:Row G W (C (some ⟨f.heap.size,0,none⟩) K K) Q2:=by
   have h1:=Qk.row 0 K K (by rw[hL.2.2.1];omega) (Aa _) O O;rwa[AJ,Ad (by rw[hL.2.2.1];exact Aa _)]at h1
  have Qe:Row G W (C (some ⟨gR,0,none⟩) (la+1) (la+1)) D2:=by
   have h1:=hr.row 0 (la+1) (la+1) (by rw[hL.1];omega) (Aa _) O O;rwa[AJ,Ad (by rw[hL.1];omega)]at h1
  have HT:=J (show ∀V:I,Bl W V->Calls M 128 #[C (some ⟨f.heap.size,0,none⟩) K K] V λe w'=>∃u,e=.returned u/\UN w' u (m/n)/\Bl V w' from λV h=>by
   have h1:=Xg _ Q2 V (Row.below Qd h);rw[f1]at h1;exact h1)
  have Uz:=J (show ∀V:I,Bl W V->Calls M 170 #[C (some ⟨gR,0,none⟩) (la+1) (la+1),F G (s:Nat)] V λe w'=>∃u,e=.returned u/\UN w' u (m%n)/\Bl V w' from λV h=>by
   have h1:=Zq _ _ _ D2 s V hs (Row.below Qe h) hL.2.1;rw[f2,Nat.mul_div_cancel _ (Ci s)]at h1;exact h1)
  have l9:=b9.lt;have Ul:=b11.cell;have k9:=b9.cell;clear hL f1 f2 Qd Qe hr Qk hh ak fh Uc Ui Qz Qu Qi;go_upto_region 13 with fail
  have hq:Bl W W.drew:=(BB _ W).drew;go_region_held3 (λw'=>w'.cell? ⟨f.heap.size+1,0,none⟩=some (C (some ⟨f.heap.size,0,none⟩) K K)/\w'.cell? ⟨B9,0,none⟩=some (C (some ⟨gR,0,none⟩) (la+1) (la+1))) (refine⟨?_,?_⟩<;>(first|(go_keep;done)|(simp[*];done)))
   (first
    |(go_at_call 128;refine(HT.o _ hq).mono ?_;rintro e w5 ⟨u5,rfl,fo,am⟩;obtain⟨ua,uc,rfl⟩:=UN.form fo;have hq:=Bt hq am;have Ul:=(boxed_below b11 hq).cell;have k9:=(boxed_below b9 hq).cell)
    |(go_at_call 170;refine(Uz.o _ hq).mono ?_;rintro e w6 ⟨u6,rfl,fs,fi⟩;obtain⟨va,vc,rfl⟩:=UN.form fs;have hq:=Bt hq fi;have Ul:=(boxed_below b11 hq).cell;have k9:=(boxed_below b9 hq).cell))
  all_goals go_wp2_with fail
  have Qq:w6.heap[D]?=some (.deferred (some [])):=(hq.block D (Ab.1 X).1).trans X;refine⟨Y,.inl ⟨_,_,rfl,Bb Qq,?_⟩⟩;refine⟨.tuple #[C ua (Jd Z (m/n)).length uc,C va (Jd Z (m%n)).length vc],by simp[results,Tryz.results146,go_sem],_,_,rfl,Oi (UN.below fo fi) Qq,Oi fs Qq,?_⟩;exact below_grown (Bt Uk hq) (BV _ D (.deferred none)) (by have:=Un.size;omega)
end
section
variable{a:List Nat}{P base g l rc:Nat}{u:Value}{W:I}
theorem Om(a:Option Addr)(la ca:Nat)(b:Option Addr)(lb cb m n:Nat)(w:I)(g:Row G w (C a la ca) (Jd Z m))(i:Row G w (C b lb cb) (Jd Z n))(X:n≠0)(V:la<1099511627776):
 Calls M 146 #[C a la ca,C b lb cb] w λe j=>∃u v,e=.returned (.tuple #[u,v])/\UN j u (m/n)/\UN j v (m%n)/\Bl w j:=by
 obtain⟨U,ad,ak,ah,af⟩:=Jy g;obtain⟨f,ae,am,ai,T⟩:=Jy i;have aj:lb≠0:=λe=>X ((JH Jg).1 (Ar (by rw[<-f,e])));by_cases K:la<lb
 . exact Zs a la ca b lb cb m n w g i K
 . by_cases P:lb=1
   . subst P;exact Zu a la ca b cb m n w g i O
   . obtain⟨l,rfl⟩:∃l,lb=l+2:=⟨lb-2,O⟩;obtain⟨z,A,rfl,S,r⟩:=T (l+1) O;have k:=Jq Jg n;have p:(Jd Z n)[l+1]?.getD 0≠0:=by
      intro e;have Q:=Jr Z (Jd Z n) (l+1);rw[Ad O,e,CA,Cq,Jp Jg]at Q;have h4:=YQ k (l+1);have o:=Xv Jg f.symm O;rw[show l+2-1=l+1 from rfl]at o;omega
     have c:(Jd Z n)[l+1]?.getD 0<Z:=k.getD uo _;obtain⟨d,q⟩:=ex ((Jd Z n)[l+1]?.getD 0);rw[q]at r p c;obtain⟨B,D,H⟩:=bitLen_spec d p (by rw[<-Io];exact c);have R:Lib.bitLen d<=64:=by
      rcases AR 64 (Lib.bitLen d)with h|h
      . exfalso
        have o:2^64<=2^(Lib.bitLen d-1):=Ax O O;rw[Io]at c;omega
      . exact h
     obtain⟨t,x⟩:=RZ (s:=64-Lib.bitLen d) k f.symm q D H B R rfl;rw[Jp Jg]at t x;have W:m<Z^la:=by
      have:=Yu (Jq Jg m);rwa[Jp Jg,<-U]at this
     have y:Z^(l+1)<=n:=Xv Jg f.symm O;exact aJ a la ca z A l (l+2) (l+1) cb m n d (64-Lib.bitLen d) w rfl O S g i r c O (show _=_ by omega) O V t x (aG W y O)
theorem On{p:Nat}(a:p≠0)(h:p<Z):Jd Z p=[p]:=by
 rw[X6 Jg a,Ct h,Cg h,JD]
theorem aK(a:Option Addr)(ca:Nat)(b:Option Addr)(lb cb x y:Nat)(w:I)(d:Row G w (C a 1 ca) (Jd Z x))(t:Row G w (C b lb cb) (Jd Z y))(B:y<Z):
 Calls M 148 #[C a 1 ca,C b lb cb] w λe D=>∃u,e=.returned u/\UN D u (Nat.gcd x y)/\Bl w D:=by
 obtain⟨n,ad,aj,af,l⟩:=Jy d;obtain⟨c,ae,ak,ah,m⟩:=Jy t;obtain⟨o,am,T⟩:=Oj n.symm;rcases A0 lb with z|z
 . subst z;have k:y=0:=(JH Jg).1 (Ar c.symm);subst k;have K:=J d;clear l m n c d t o;go_enter Tryz.func148,Tryz.ntmps148
   go_wp2_with fail
   go_ret;exact⟨_,rfl,by rw[Nat.gcd_zero_right];exact K.o,BB _ w⟩
 . have k:y≠0:=λe=>by rw[e,JD]at c;simp at c;omega
   have i:=On k B;obtain rfl:lb=1:=by rw[c,i];rfl
   obtain⟨P,Q,rfl,W,r⟩:=l 0 O;obtain⟨R,S,rfl,X,s⟩:=m 0 O;rw[o]at r;rw[i]at s;have an:w.cell? ⟨P,Q,none⟩=some (F G (x:Nat)):=r;have ap:w.cell? ⟨R,S,none⟩=some (F G (y:Nat)):=s;clear l m n c d t o i r s;go_enter Tryz.func148,Tryz.ntmps148
   go_upto_region 3 with fail
   go_quiet (fail)
   go_wp2_with fail
   go_loopw [5,6] (λV v wr=>∃(p q j:Nat),V=F G (p:Nat)/\v=F G (q:Nat)/\p<Z/\q<Z/\p≠0/\Hid (Nat.gcd p q=Nat.gcd x y)/\wr=w.drewN j)
    (λ_ v _=>(intOf v).toNat)
   case atStart=>exact⟨x,y,_,rfl,rfl,T,B,O,J rfl,rfl⟩
   case round=>
    obtain⟨p,q,j,rfl,rfl,hp,hq,U,g,rfl⟩:=hrel;by_cases A:q=0
    . subst A;have f:=J (show p=Nat.gcd x y by rw[<-g.o,Nat.gcd_zero_right]);have H:=J (On U hp);clear g;go_wp2_with fail
      go_ret;refine⟨C (some ⟨w.heap.size,0,none⟩) 1 1,rfl,?_,(LW (BB _ w) _).alloc (Aa _) _⟩;unfold UN;rw[<-f.o,H.o];exact(DU.made (xs:=[p]) (BE (w.drewN j) (.cells #[F G (p:Nat)] 156))).row 0 1 1 Y O O O
    . have f:=J (show Nat.gcd q (p%q)=Nat.gcd x y by rw[<-g.o,CX q,<-Nat.gcd_rec,CX]);have ai:=Ca p (show q>0 by omega);go_upto_region 5 with fail
      go_quiet (fail)
      go_wp2_with fail
      exact⟨⟨q,p%q,j+nq,rfl,Y,hq,O,A,f,Y⟩,by simp[intOf];omega⟩
attribute [local go_sem] Oper.semAt_some
def Gr(W:I)(base:Nat)(u:Value)(g l rc P:Nat)(a:List Nat):Prop:=
 u=C (some ⟨g,0,none⟩) l rc/\DU W g a/\DR Z a/\l<=a.length/\l<=rc/\rc<=9223372036854775807/\l<=1099511627776/\a.take l=Jd Z P/\base<=g
theorem Gr.below{W W':I}{base g l rc P:Nat}{u:Value}{a:List Nat}(h:Gr W base u g l rc P a)(b:Bl W W'):Gr W' base u g l rc P a:=
 ⟨h.1,h.2.1.below b,h.2.2⟩
theorem Gr.un(h:Gr W base u g l rc P a):UN W u P:=by
 obtain⟨rfl,b,i,j,c,d,e,f,k⟩:=h;have:=b.row 0 l rc O c d e;rw[AJ,f]at this;exact this
theorem aL{ds:List Nat}(i:DU W g a)(k:Row G W (C (some ⟨g,0,none⟩) l rc) ds)(hl:l<=a.length):a.take l=ds:=by
 obtain⟨m,_,_,_,f⟩:=Jy k;apply List.ext_getElem?;intro j;by_cases d:j<l
 . obtain⟨b,off,e,_,c⟩:=f j d;cases e;rw[Cc,i.cell O]at c;rw[AF d,Ai (show j<a.length by omega),Ai (show j<ds.length by omega)];rw[Ai (show j<a.length by omega),Ai (show j<ds.length by omega)]at c;simp only[Fq,Ag,Value.int.injEq,true_and]at c;congr 1;omega
 . rw[At (by rw[Am];omega),At O]
theorem Rb(a:Option Addr)(la ca:Nat)(b:Option Addr)(lb cb:Nat)(c d:List Nat)(w:I)(T:DR Z c)(U:DR Z d)(R:la+lb<=1099511627776)
(o:Row G w (C a la ca) c)(q:Row G w (C b lb cb) d):
 Calls M 120 #[C a la ca,C b lb cb] w λe r=>∃u,e=.returned u/\UN r u (val Z c*val Z d)/\(val Z c*val Z d≠0->∃g l rc m,Gr r w.heap.size u g l rc (val Z c*val Z d) m)/\Bl w r:=by
 have t:=Ke (la+lb) O w;rw[show((la+lb:Nat):Int)=(la:Int)+(lb:Int)from by omega]at t;obtain⟨i,k⟩:∃i,i=w.alloc (.cells (cellsOf G (List.replicate (la+lb) 0)).toArray 156):=⟨_,rfl⟩;have n:Bl w i:=by rw[k];exact Ba w _
 have s:DU i w.heap.size (List.replicate (la+lb) 0):=by rw[k];exact DU.made (BE w _)
 rw[<-k]at t;have D:=J (ZY w.heap.size (la+lb) (la+lb) (List.replicate (la+lb) 0) a la ca b lb cb c d i T U s (λx S=>by rw[CL S];unfold Z;omega) (by rw[Av];exact Aa _) (Aa _) O R (Row.below o n) (Row.below q n)
  (λp e j=>by have:=KI o e j;omega) λp e j=>by have:=KI q e j;omega)
 clear k s o q;go_enter Tryz.func120,Tryz.ntmps120
 go_wp2_with(go_at_call 141;refine D.o.mono ?_;rintro e X ⟨u,rfl,⟨f,Q⟩,P,m,A,K,B⟩;obtain⟨V,W,rfl⟩:=UN.form f)
 go_ret;refine⟨_,rfl,f,λj=>?_,below_grown n Q (Aa _)⟩;have H:(Jd Z (val Z c*val Z d)).length≠0:=λe=>j ((JH Jg).1 (Ar e));rcases P with e|⟨l,e⟩
 . injection e with v y z
   exact absurd y H
 . injection e with v y z
   subst v;subst z;rw[Av]at B;have hl:(Jd Z (val Z c*val Z d)).length<=m.length:=by rw[B];exact(Jy f).2.1
   exact⟨_,_,_,m,rfl,A,K,hl,(Jy f).2.1,(Jy f).2.2.1,(Jy f).2.2.2.1,aL A f hl,Aa _⟩
theorem Rc{Q:Nat}(h:Gr W base u g l rc P a)(b:Option Addr)(lb cb:Nat)(m:UN W (C b lb cb) Q)(d:Q<=P)(z:∀p,b=some p->0<lb->p.block≠g):
 Calls M 165 #[u,C b lb cb] W λe f=>∃c q,e=.returned (F G (c:Nat))/\(Row G f u q/\JA q=Jd Z (P-Q))/\W.grownBy f (some g):=by
 obtain⟨rfl,o,r,A,j,s,t,k,B⟩:=h;have hl:l=(Jd Z P).length:=by rw[<-k,Am];omega
 have n:=(Jy m).1;refine(QV g 0 l rc a b lb cb (Jd Z Q) W o r O j O (by rw[hl,n];exact Xy d) m (Jq Jg Q) z).mono ?_;rintro e f ⟨c,q,rfl,hq,w,x⟩;have y:Db a 0 l q=q++a.drop l:=by rw[Db,C5,Ap,Cc]
 have i:=hq.1;refine⟨c,q,rfl,⟨?_,?_⟩,x⟩
 . have v:=w.row 0 l rc (by rw[J6 i O];omega) j s t;rwa[y,AJ,AW O,Ad O]at v
 . have hs:GK (Jd Z P) (Jd Z Q) 0 l c q:=by
    refine⟨i,hq.2.1,hq.2.2.1,?_⟩;have:=hq.2.2.2;rw[AJ,k]at this;rw[AJ,Ad (show(Jd Z P).length<=l by omega)];exact this
   exact QW hs rfl rfl hl (by rw[hl];exact Xy d) d
theorem Re{w V a:I}{o:Obj}(h:Bl w V)(k:Below (V.alloc o).heap.size (V.alloc o) a):Bl w a:=(h.alloc h.size o).trans (k.mono (h.alloc h.size o).size)
theorem Rf(x:Nat):val Z [x]=x:=by rw[Yc,LF,CA,Cq]
theorem Rg(ma mb:Nat)(a:Option Addr)(la ca:Nat)(b:Option Addr)(lb cb A B:Nat)(w:I)(ra:Row G w (C a la ca) (Jd Z A))(rb:Row G w (C b lb cb) (Jd Z B))(bn:ma<Z)(bt:mb<Z)(ci:la<1099511627776)(cj:lb<1099511627776)(h0:mb*B≠0):
 Calls M 145 #[.agg #[F G (ma:Nat),F G (mb:Nat)],C a la ca,C b lb cb] w λe U=>∃u,e=.returned u/\UN U u (Xw (ma*A) (mb*B))/\Bl w U:=by
 have Qr:Tryz.prog.follows .mixedOrders=true:=by kernel_rfl
 obtain⟨W0,am⟩:=ex (w.alloc (.cells #[F G (ma:Nat),F G (mb:Nat)] 169));have Qa:Bl w W0:=by rw[<-am];exact Ba w _
 have bx:Jo W0 w.heap.size 169 (F G (ma:Nat)) (F G (mb:Nat)):=by rw[<-am];exact Jo.new w _ _ _
 have Qo:=J (show ∀(V:I) (g:Nat),Bl W0 V->DU V g [ma]->Calls M 120 #[C a la ca,C (some ⟨g,0,none⟩) 1 1] V λe U=>∃u,e=.returned u/\UN U u (ma*A)/\(ma*A≠0->∃g l rc zs,Gr U V.heap.size u g l rc (ma*A) zs)/\Bl V U from λV g h hA=>by
  have k:=Rb a la ca (some ⟨g,0,none⟩) 1 1 (Jd Z A) [ma] V (Jq Jg A) (DR.cons bn (DR.nil _)) O (Row.below (Row.below ra Qa) h) (hA.row 0 1 1 Y O O O);rw[Rf,Jp Jg,Au A ma]at k;exact k)
 have Qp:=J (show ∀(V:I) (g:Nat),Bl W0 V->DU V g [mb]->Calls M 120 #[C b lb cb,C (some ⟨g,0,none⟩) 1 1] V λe U=>∃u,e=.returned u/\UN U u (mb*B)/\(mb*B≠0->∃g l rc zs,Gr U V.heap.size u g l rc (mb*B) zs)/\Bl V U from λV g h hA=>by
  have k:=Rb b lb cb (some ⟨g,0,none⟩) 1 1 (Jd Z B) [mb] V (Jq Jg B) (DR.cons bt (DR.nil _)) O (Row.below (Row.below rb Qa) h) (hA.row 0 1 1 Y O O O);rw[Rf,Jp Jg,Au B mb]at k;exact k)
 have Qq:=J am;clear am ra rb;generalize ma*A=j at *;generalize mb*B=R at *;go_enter Tryz.func145,Tryz.ntmps145
 go_upto_region 1 with fail
 rw[Qq.o];refine Jl Qr [[],[],[1],[2],[0,3],[],[],[6],[7],[5,8,4],[4,9,0,1,2,3,4],[9,10,0,1,2,3,4,5,6,7,8,9,10]] (by kernel_rfl) DP
  (λd ac V=>∃t7 t8 t9 an ap aq W aw ay az bc aj:Value,ac={ tmps:=#[.agg #[F G (ma:Nat),F G (mb:Nat)],C a la ca,C b lb cb,L (some ⟨w.heap.size,0,none⟩),E,E,C none 0 0,t7,t8,t9,an,ap,aq,W,aw,ay,az,bc,aj,E,E,E,E,E,E,E,E,E,E,E],defers:=[] }/\Hid (d 0=true->t9=C a la ca)/\Hid (d 1=true->an=L (some ⟨w.heap.size,0,none⟩))/\Hid (d 2=true->ap=F G (ma:Nat))/\Hid (d 3=true->∃g,aq=C (some ⟨g,0,none⟩) 1 1/\DU V g [ma])/\Hid (d 4=true->UN V W j/\(j≠0->∃g1 l1 n o,Gr V W0.heap.size W g1 l1 n j o))/\Hid (d 5=true->aw=C b lb cb)/\Hid (d 6=true->ay=L (some ⟨w.heap.size,1,none⟩))/\Hid (d 7=true->az=F G (mb:Nat))/\Hid (d 8=true->∃g,bc=C (some ⟨g,0,none⟩) 1 1/\DU V g [mb])/\Hid (d 9=true->∃g2 l2 ad ae,Gr V W0.heap.size aj g2 l2 ad R ae/\UN V W j/\(j≠0->∃g1 l1 n o,Gr V W0.heap.size W g1 l1 n j o/\g1≠g2))/\Hid (d 10=true->t7=W)/\Hid (d 11=true->t8=aj)/\Bl W0 V)
  (E8 ⟨_,_,_,_,rfl,J Dk,J Dk,J Dk,J Dk,J Dk,J Dk,J Dk,J Dk,J Dk,J Dk,J Dk,J Dk,(BB _ W0).drew⟩) ?step1 ?fin1
 case step1=>
  rintro d a2 V i ds m bh f T ⟨t7,t8,t9,an,ap,aq,W,aw,ay,az,bc,aj,rfl,s,g1,g2,x,y,z,D,H,P,Q,t,v,hq⟩;have Qk:i<12:=(Ac.1 bh).1;obtain rfl|rfl|rfl|rfl|rfl|rfl|rfl|rfl|rfl|rfl|rfl|rfl:=I5 i O
  all_goals
   simp only[Af,Ae,Ag]at bh;subst bh;clear Qk
  . clear f m;refine EA ?_;exact⟨J λ_=>rfl,g1,g2,x,y,z,D,H,P,Q,t,v,hq⟩
  . clear f m;refine EA ?_;exact⟨s,J λ_=>rfl,g2,x,y,z,D,H,P,Q,t,v,hq⟩
  . obtain rfl:=g1.o (f 1 Y);have k0:=(bx.below hq).c0;clear f m;refine EA ?_;exact⟨s,J λ_=>rfl,J λ_=>rfl,x,y,z,D,H,P,Q,t,v,hq⟩
  . have Qs:d 4=false:=by
     cases h:d 4 with
     |false=>rfl
     |true=>rw[m 4 _ rfl h 3 Y]at T;cases T
    obtain rfl:=g2.o (f 2 Y);clear f m;refine EA ?_;exact⟨s,g1,J λ_=>rfl,J λ_=>⟨_,rfl,DU.made (xs:=[ma]) (BE V _)⟩,J (λh=>by simp[Qs]at h),z,D,H,J (λh=>by obtain⟨g,e,q⟩:=P.o h;exact⟨g,e,q.below (Ba V _)⟩),J (λh=>by obtain⟨g2,l2,ad,ae,q1,q2,q3⟩:=Q.o h;exact⟨g2,l2,ad,ae,q1.below (Ba V _),q2.below (Ba V _),λk=>by obtain⟨g1,l1,n,o,q,q4⟩:=q3 k;exact⟨g1,l1,n,o,q.below (Ba V _),q4⟩⟩),t,v,hq.alloc hq.size _⟩
  . have Qi:d 9=false:=by
     cases h:d 9 with
     |false=>rfl
     |true=>rw[m 9 _ rfl h 4 Y]at T;cases T
    have Qm:d 10=false:=by
     cases h:d 10 with
     |false=>rfl
     |true=>rw[m 10 _ rfl h 4 Y]at T;cases T
    obtain rfl:=s.o (f 0 Y);obtain⟨gm,rfl,ah⟩:=x.o (f 3 Y);clear f m;refine Jz rfl rfl λK hK=>?_;go_simp;go_wp2_with(go_at_call 120;refine(Qo.o _ _ hq ah).mono ?_;rintro e w5 ⟨u5,rfl,bm,bi,S⟩)
    exact E8 ⟨_,_,_,_,rfl,J λ_=>rfl,g1,g2,J λ_=>⟨gm,rfl,ah.below S⟩,J λ_=>⟨bm,λk=>by obtain⟨g1,l1,n,o,q⟩:=bi k;exact⟨g1,l1,n,o,q.1,q.2.1,q.2.2.1,q.2.2.2.1,q.2.2.2.2.1,q.2.2.2.2.2.1,q.2.2.2.2.2.2.1,q.2.2.2.2.2.2.2.1,As hq.size q.2.2.2.2.2.2.2.2⟩⟩,z,D,H,J (λh=>by obtain⟨g,e,q⟩:=P.o h;exact⟨g,e,q.below (S)⟩),J (λh=>by simp[Qi]at h),J (λh=>by simp[Qm]at h),v,Bt hq S⟩
  . clear f m;refine EA ?_;exact⟨s,g1,g2,x,y,J λ_=>rfl,D,H,P,Q,t,v,hq⟩
  . clear f m;refine EA ?_;exact⟨s,g1,g2,x,y,z,J λ_=>rfl,H,P,Q,t,v,hq⟩
  . obtain rfl:=D.o (f 6 Y);have k0:=(bx.below hq).c1;clear f m;refine EA ?_;exact⟨s,g1,g2,x,y,z,J λ_=>rfl,J λ_=>rfl,P,Q,t,v,hq⟩
  . have Qi:d 9=false:=by
     cases h:d 9 with
     |false=>rfl
     |true=>rw[m 9 _ rfl h 8 Y]at T;cases T
    obtain rfl:=H.o (f 7 Y);clear f m;refine EA ?_;exact⟨s,g1,g2,J (λh=>by obtain⟨g,e,q⟩:=x.o h;exact⟨g,e,q.below (Ba V _)⟩),J (λh=>by obtain⟨q1,q2⟩:=y.o h;exact⟨q1.below (Ba V _),λk=>by obtain⟨g1,l1,n,o,q⟩:=q2 k;exact⟨g1,l1,n,o,q.below (Ba V _)⟩⟩),z,D,J λ_=>rfl,J λ_=>⟨_,rfl,DU.made (xs:=[mb]) (BE V _)⟩,J (λh=>by simp[Qi]at h),t,v,hq.alloc hq.size _⟩
  . have Qj:d 11=false:=by
     cases h:d 11 with
     |false=>rfl
     |true=>rw[m 11 _ rfl h 9 Y]at T;cases T
    obtain rfl:=z.o (f 5 Y);obtain⟨gm,rfl,ah⟩:=P.o (f 8 Y);obtain⟨p1,p2⟩:=y.o (f 4 Y);clear f m;refine Jz rfl rfl λK hK=>?_;go_simp;go_wp2_with(go_at_call 120;refine(Qp.o _ _ hq ah).mono ?_;rintro e w5 ⟨u5,rfl,bm,bi,S⟩)
    exact⟨_,_,_,_,_,_,_,_,_,_,_,_,rfl,s,g1,g2,J (λh=>by obtain⟨g,e,q⟩:=x.o h;exact⟨g,e,q.below (S)⟩),J (λh=>by obtain⟨q1,q2⟩:=y.o h;exact⟨q1.below (S),λk=>by obtain⟨g1,l1,n,o,q⟩:=q2 k;exact⟨g1,l1,n,o,q.below (S)⟩⟩),J λ_=>rfl,D,H,J λ_=>⟨gm,rfl,ah.below S⟩,J (λ_=>by obtain⟨g2,l2,ad,ae,q⟩:=bi h0;exact⟨g2,l2,ad,ae,⟨q.1,q.2.1,q.2.2.1,q.2.2.2.1,q.2.2.2.2.1,q.2.2.2.2.2.1,q.2.2.2.2.2.2.1,q.2.2.2.2.2.2.2.1,As hq.size q.2.2.2.2.2.2.2.2⟩,p1.below S,λk=>by obtain⟨g1,l1,n,o,r⟩:=p2 k;exact⟨g1,l1,n,o,r.below S,by have:=r.2.1.lt;have:=q.2.2.2.2.2.2.2.2;omega⟩⟩),t,J (λh=>by simp[Qj]at h),Bt hq S⟩
  . clear f m;refine EA ?_;exact⟨s,g1,g2,x,y,z,D,H,P,Q,J λ_=>rfl,v,hq⟩
  . clear f m;refine EA ?_;exact⟨s,g1,g2,x,y,z,D,H,P,Q,t,J λ_=>rfl,hq⟩
 rintro d bu V1 ak ⟨t7,t8,t9,an,ap,aq,W,aw,ay,az,bc,aj,rfl,s,g1,g2,x,y,z,D,H,P,Q,t,v,hq⟩;obtain⟨gB,l2,ad,ae,o2,ai,o1⟩:=Q.o (ak 9 DP);obtain rfl:=t.o (ak 10 DP);obtain rfl:=v.o (ak 11 DP);obtain⟨a1,c1,rfl⟩:=UN.form ai;have Qc:=o2.un;obtain⟨a2,c2,rfl⟩:=UN.form Qc;clear s g1 g2 x y z D H P Q t v ak Qo Qp;have Qh:∀p,a1=some p->0<(Jd Z j).length->p.block≠gB:=λp e k=>by
  have hp:j≠0:=λe0=>by rw[e0,JD]at k;simp at k
  obtain⟨g1,l1,n,o,r,r2⟩:=o1 hp;have:=r.1;injection this with e1 e2 e3
  rw[e1]at e;cases e;exact r2
 have X:=J (OU _ _ (Jd Z j) (Jd Z R) V1 ai Qc (Jq Jg j) (Jq Jg R) (Yx Jg j) (Yx Jg R));rw[Jp Jg,Jp Jg]at X;have Qg:Bl w V1:=Bt Qa hq;have Qn:W0.heap.size<=gB:=o2.2.2.2.2.2.2.2.2;by_cases bk:j<R
 . have Qb:=Gz bk;rw[Qb]at X;have Qe:=J λ(V:I) (h:Bl V1 V)=>Rc (o2.below h) a1 (Jd Z j).length c1 (ai.below h) O Qh;have HD:=J (show R-j=Xw j R by unfold Xw;omega);clear Qb ai Qc o1 Qh;go_upto_region 4 with(go_at_call 132;refine X.o.mono ?_;rintro e w2 ⟨rfl,af⟩)
   go_upto_region 5 with(go_at_call 165;refine(Qe.o _ af).mono ?_;rintro e w3 ⟨c,q,rfl,⟨hr,bj⟩,bg⟩)
   have Qd:=J (Xg _ q _ hr);rw[bj,HD.o]at Qd;clear Qe X;go_wp2_with(go_at_call 128;refine Qd.o.mono ?_;rintro e w4 ⟨u,rfl,hu,bf⟩;obtain⟨ua,uc,rfl⟩:=UN.form hu)
   go_ret;have Qf:Bl w w3:=below_grown (Bt Qg af) bg (As Qa.size Qn);exact⟨_,rfl,hu,Bt Qf bf⟩
 . obtain⟨cm,Qb,ce⟩:∃cm:Int,Xt j R=cm/\¬(cm<0):=⟨_,rfl,by unfold Xt;rw[BC bk];split<;>omega⟩;rw[Qb]at X;obtain⟨g1,l1,n,o,r,r2⟩:=o1 O;have Ql:W0.heap.size<=g1:=r.2.2.2.2.2.2.2.2;have Qe:=J (λ(V:I) (h:Bl V1 V)=>Rc (r.below h) a2 (Jd Z R).length c2 (Qc.below h) O (λp e _=>by
    have:=o2.1;injection this with e1 e2 e3
    rw[e1]at e;cases e;exact λh=>r2 h.symm))
   have HD:=J (show j-R=Xw j R by unfold Xw;omega);clear Qb ai Qc o1 Qh;go_upto_region 4 with(go_at_call 132;refine X.o.mono ?_;rintro e w2 ⟨rfl,af⟩)
   go_upto_region 5 with(go_at_call 165;refine(Qe.o _ af).mono ?_;rintro e w3 ⟨c,q,rfl,⟨hr,bj⟩,bg⟩)
   have Qd:=J (Xg _ q _ hr);rw[bj,HD.o]at Qd;clear Qe X;go_wp2_with(go_at_call 128;refine Qd.o.mono ?_;rintro e w4 ⟨u,rfl,hu,bf⟩;obtain⟨ua,uc,rfl⟩:=UN.form hu)
   go_ret;have Qf:Bl w w3:=below_grown (Bt Qg af) bg (As Qa.size Ql);exact⟨_,rfl,hu,Bt Qf bf⟩
end
def Gd(x k s:Nat):Nat:=x/(Z^k*2^(64-s))
variable{a:List Nat}{k s:Nat}
theorem aM(hl:a.length=k+2)(b:DR Z a)(hs:s<=63)(f:a[k+1]?.getD 0<2^(64-s)):
 Gd (val Z a) k s=EX (a[k+1]?.getD 0) s+EN (a[k]?.getD 0) (64-s)/\EX (a[k+1]?.getD 0) s ||| EN (a[k]?.getD 0) (64-s)=EX (a[k+1]?.getD 0) s+EN (a[k]?.getD 0) (64-s):=by
 have g:=RX hl;have c:=YQ b k;have i:=b.getD (show 0<Z by unfold Z;omega) k;have hp:=LS (s:=s) O;have e:EX (a[k+1]?.getD 0) s=a[k+1]?.getD 0*2^s:=by rw[LT O,Ct f]
 rw[e];have d:EN (a[k]?.getD 0) (64-s)<2^s:=by
  unfold EN;rw[AZ (Ci _),hp];exact i
 refine⟨?_,by rw[Au,<-Fo d]⟩;unfold Gd EN;rw[g,<-Nat.div_div_eq_div_mul,Au _ (Z^k),Nat.mul_add_div (CN uo),Cg c,Cq,<-hp,<-Ay,C9,FL _ _ (Ci _)];omega
theorem aN(hl:a.length=k+1)(d:DR Z a):Gd (val Z a) k s=EN (a[k]?.getD 0) (64-s):=by
 have b:=Jr Z a k;rw[Ad O]at b;have c:=YQ d k;unfold Gd EN;rw[b,<-Nat.div_div_eq_div_mul,C9,Nat.mul_add_div (CN uo),Cg c,Cq]
theorem aO(hl:a.length<=k)(b:DR Z a):Gd (val Z a) k s=0:=by
 unfold Gd;apply Cg;have c:=Yu b;have d:Z^a.length<=Z^k:=Ax uo hl;have e:=Cp (Z^k) (Ci (64-s));omega
theorem Rh(a:Option Addr)(la ca:Nat)(c:List Nat)(k f d s:Nat)(w:I)(n:Row G w (C a la ca) c)(o:DR Z c)(q:d=k+2)(z:(d:Int)-1=f)(A:(d:Int)-2=k)(hs:s<=63)(R:la<=d)(T:d<=1099511627776)(m:la=d->c[k+1]?.getD 0<2^(64-s)):
 Calls M 167 #[C a la ca,F N (d:Nat),F G (s:Nat)] w λe K=>e=.returned (F G (Gd (val Z c) k s:Nat))/\Bl w K:=by
 obtain⟨hl,P,S,Q,i⟩:=Jy n;have W:IntKind.i64.wrap ((d:Int)-1)=(f:Int):=by rw[z];exact BW _ O
 have X:IntKind.i64.wrap ((d:Int)-2)=(k:Int):=by rw[A];exact BW _ O
 have i3:IntKind.i64.wrap (f:Int)=(f:Int):=BW _ O;have i4:IntKind.i64.wrap (k:Int)=(k:Int):=BW _ O;have i5:IntKind.u64.wrap ((64:Int)-s)=((64-s:Nat):Int):=by rw[BX];omega
 have p:=Of (c[k+1]?.getD 0) s;have x:=Og (c[k]?.getD 0) (64-s);have j:=o.getD (show 0<Z by unfold Z;omega) k;have l:=Oh (show EX (c[k+1]?.getD 0) s<Z by unfold EX;exact Ca _ uo) (show EN (c[k]?.getD 0) (64-s)<Z from Ck (Fz _ _) j);obtain rfl|U:=Decidable.em (la=d)
 . obtain⟨b,off,rfl,D,c1⟩:=i (k+1) O;obtain⟨_,_,y,_,c0⟩:=i k O;cases y;obtain⟨t,u⟩:=aM O o hs (m rfl);rw[u]at l;have g:=J t;have r:f=k+1:=O
   rw[<-r]at c1 p l g;have j1:(f:Int)<(la:Int):=O
   have j2:(k:Int)<(la:Int):=O
   have j3:(0:Int)<=(f:Int):=O
   have j4:(0:Int)<=(k:Int):=O
   have H:k<la:=O
   clear r i n t u m hl q j;generalize c[f]?.getD 0=x1 at *;generalize c[k]?.getD 0=x0 at *;go_enter Tryz.func167,Tryz.ntmps167
   go_upto_region 3 with fail
   go_quiet (fail)
   go_wp2_with fail
   go_ret;refine⟨?_,LW (BB _ w) _⟩;rw[g.o];first|rfl|(simp;done)
 . by_cases B:la=f
   . subst B;obtain⟨b,off,rfl,D,c0⟩:=i k O;have g:=J (aN (s:=s) (show c.length=k+1 by omega) o);have H:k<la:=O
     have v:¬((la:Int)=(d:Int)):=O
     clear i n m hl q j l p;generalize c[k]?.getD 0=x0 at *;go_enter Tryz.func167,Tryz.ntmps167
     go_wp2_with fail
     go_ret;refine⟨?_,BB _ w⟩;rw[g.o];first|rfl|(simp;done)
   . have g:=J (aO (s:=s) (show c.length<=k by omega) o);have v:¬((la:Int)=(d:Int)):=O
     have V:¬((la:Int)=(f:Int)):=O
     clear i n m hl q j p x l;go_enter Tryz.func167,Tryz.ntmps167
     go_wp2_with fail
     go_ret;refine⟨?_,BB _ w⟩;rw[g.o];first|rfl|(simp;done)

