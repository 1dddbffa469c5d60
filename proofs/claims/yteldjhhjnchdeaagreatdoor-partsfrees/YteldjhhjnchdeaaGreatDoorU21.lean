import Derived.BigQuiet
import Derived.Deep.RegionHeld3
import Derived.Test.YteldjhhjnchdeaaGreatDoorU18
import Derived.Test.YteldjhhjnchdeaaGreatDoorU04
open Go.Value renaming slice->C,int->F,pointer->L
open Go renaming undef->E,World->I
open Go.IntKind renaming u64->G,i64->N
open Go.Proofs.Tryz renaming prog->M
set_option maxRecDepth 100000
set_option maxHeartbeats 16000000
namespace Go.Proofs.YteldjhhjnchdeaaGreatDoor
open Go.RowKit Go.Shelf
section
theorem Bs:type_of% @IntWalk.u64_in:=@IntWalk.u64_in
theorem BW:type_of% @IntWalk.i64_in:=@IntWalk.i64_in
variable{c ds xs:List Nat}{B R R0 V base d0 d1 f g l len n q r ro s u0:Nat}{v:Value}{w:I}
theorem QA(h:ds.length=n+2):val Z ds=(ds[n+1]?.getD 0*Z+ds[n]?.getD 0)*Z^n+val Z (ds.take n):=by
 have a:=Jr Z ds (n+1);rw[Ac J,Jr,AQ]at a;rw[a];grind
theorem Wz(h:ds.length=n+3):val Z ds=((ds[n+2]?.getD 0*Z+ds[n+1]?.getD 0)*Z+ds[n]?.getD 0)*Z^n+val Z (ds.take n):=by
 have a:=Jr Z ds (n+2);rw[Ac J,Jr,Jr,AQ,AQ]at a;rw[a];grind
theorem YD(h:DS Z ds)(n:Nat):val Z (ds.take n)<Z^n:=by
 have:=Yl (h.take n);refine AB this (Aw uo ?_);rw[Am];omega
theorem Kx{a:I}(h:Below B a w)(n:Nat):Below B a (w.drewN n):=h.trans ⟨rfl,rfl,rfl,Aa _,λ_ _=>rfl⟩
theorem QB(a:u0<Z)(h:XS q d0<r\/XS q d0=r/\Yu q d0<=u0):q*d0<=r*Z+u0:=by
 unfold XS Yu at h;generalize q*d0=p at *;unfold Z at *;omega
theorem W2(b:u0<Z)(h:¬(XS q d0<r))(a:¬(XS q d0=r/\Yu q d0<=u0)):r*Z+u0<q*d0:=by
 unfold XS at h a;unfold Yu at a;generalize q*d0=p at *;unfold Z at *;omega
theorem W4{u2 u1 E:Nat}(b:R=((u2*Z+u1)*Z+u0)*E+R0)(d:V=(d1*Z+d0)*E+f)(i:f<E)(e:Z<=2*d1)(g:d0<Z)(c:R<V*Z)(h:d1<=u2):Gz R V (Z-1):=by
 have a:d0*E+f<Z*E:=by
  have:=Ak E (show d0+1<=Z from g);rw[Ay,Cw]at this;omega
 refine UI (d1:=d1) (E:=Z*E) (lo:=(u2-d1)*(Z*(Z*E))+(u1*Z+u0)*E+R0) (lo2:=d0*E+f) ?_ ?_ a e c Je
 . obtain⟨t,rfl⟩:∃t,u2=d1+t:=⟨u2-d1,J⟩;rw[b,Nat.add_sub_cancel_left];grind
 . rw[d];grind
theorem W7{U E:Nat}(a:R=(U*Z+u0)*E+R0)(c:V=(d1*Z+d0)*E+f)(b:R0<E)(d:f<E)(e:Z<=2*d1)(hq:q<Z)(h:q=(U*Z+u0)/(d1*Z+d0)):Gz R V q:=by
 rw[h];have hp:0<d1:=by unfold Z at e;omega
 have g:Z<=d1*Z:=CQ Z hp;exact UH a c b d (by rw[<-h];omega) J
theorem XX(l l1 l2:Nat)(h1:(l:Int)-1=l1)(h2:(l:Int)-2=l2)(a f P Q ca cb u2 u1 u0 d1 d0 R V:Nat)(w:I)(hl:l<=1099511627776)
(ka:w.cell? ⟨a,f+l,none⟩=some (F G (u2:Nat)))(aj:w.cell? ⟨a,f+l1,none⟩=some (F G (u1:Nat)))(ai:w.cell? ⟨a,f+l2,none⟩=some (F G (u0:Nat)))
(kb:w.cell? ⟨P,Q+l1,none⟩=some (F G (d1:Nat)))(aw:w.cell? ⟨P,Q+l2,none⟩=some (F G (d0:Nat)))(S:a<w.heap.size)
(ah:u1<Z)(A:u0<Z)(ad:d1<Z)(k:d0<Z)(ae:0<d1)
(W:Hid (d1<=u2->Gz R V (Z-1)))(x:Hid (∀q:Nat,q<Z->q=((u2*Z+u1)*Z+u0)/(d1*Z+d0)->Gz R V q)):
 Calls M 186 #[C (some ⟨a,f,none⟩) (l+1) ca,C (some ⟨P,Q,none⟩) l cb] w λe c=>∃g,e=.returned (F G (g:Nat))/\g<Z/\Gz R V g/\Bl w c:=by
 have i1:IntKind.i64.wrap ((l:Int)-1)=(l1:Int):=by rw[h1];exact BW _ J
 have i2:IntKind.i64.wrap ((l:Int)-2)=(l2:Int):=by rw[h2];exact BW _ J
 have j1:(l1:Int)<(l:Int):=J
 have j2:(l2:Int)<(l:Int):=J
 have j3:(l1:Int)<(l:Int)+1:=J
 have j4:(l2:Int)<(l:Int)+1:=J
 have i3:IntKind.i64.wrap (l1:Int)=(l1:Int):=BW _ J;have j7:(l:Int)<(l:Int)+1:=J
 have j8:(0:Int)<=(l:Int):=J
 have j9:(0:Int)<=(l1:Int):=J
 have aq:(0:Int)<=(l2:Int):=J
 go_enter Tryz.func186,Tryz.ntmps186
 go_upto_region 2 with fail
 go_quiet (fail)
 by_cases af:d1<=u2
 . go_wp2_with fail
   go_ret;exact⟨Z-1,rfl,by unfold Z;omega,W.o af,Kx (BB _ w) _⟩
 . have y:=UE (B:=Z) (u:=u2*Z+u1) (u1:=u0) (d1:=d1) (d0:=d0) ae ad A (by
    have:=Ak Z (show u2+1<=d1 by omega);rw[Ay,Cw]at this;omega)
   have X:=O λV=>Pn u2 u1 d1 J ah ad V;have Qf:=y.2.2.1;have Qe:=y.2.2.2;have d:=O y;clear y W;generalize hX:(u2*Z+u1)/d1=q0 at *;generalize hY:(u2*Z+u1)%d1=r0 at *;generalize hZ:u2*Z+u1=U at *;clear hX hY hZ;go_wp2_with fail
   have hq:Bl w (w.drewN (nq+1)):=Kx (BB _ w) _;go_region_held3 (λc=>c.cell? ⟨a,f+l,none⟩=some (F G (u2:Nat))/\c.cell? ⟨a,f+l1,none⟩=some (F G (u1:Nat))) (refine⟨?_,?_⟩<;>(first|(go_keep;done)|(simp[*];done)))
    (first|(go_at_call 175;refine(X.o _).mono ?_;rintro e w1 ⟨rfl,z⟩;have bc:=(z.cell (p:=⟨a,f+l,none⟩) (show a<w.heap.size from S)).trans ka;have az:=(z.cell (p:=⟨a,f+l1,none⟩) (show a<w.heap.size from S)).trans aj;have ay:=(z.cell (p:=⟨a,f+l2,none⟩) (show a<w.heap.size from S)).trans ai))
   have hq:Bl w w1:=Bt hq z;go_wp2_with fail
   go_loopw [8,9] (λT rv wr=>∃(q r:Nat),T=F G (q:Nat)/\rv=F G (r:Nat)/\q<Z/\r<Z/\Hid (LX Z U u0 d1 d0 q r)/\wr=w1)
    (λT _ _=>(intOf T).toNat)
   case atStart=>exact⟨q0,r0,rfl,rfl,Qf,Qe,d,rfl⟩
   case round=>
    clear X d;obtain⟨q,r,rfl,rfl,b,ap,d,rfl⟩:=hrel;have i:0<d1*Z:=DO ae uo;by_cases c1:XS q d0<r
    . have n:=O (x.o q b (NI d.o.1 d.o.2.1 i (QB A (Or.inl c1))));clear i;go_wp2_with(first
       |(go_at_call 183;refine(II _ _ b k _).mono ?_;rintro e c ⟨rfl,rfl⟩))
      go_ret;exact⟨q,rfl,b,n.o,hq⟩
    . by_cases c2:XS q d0=r/\Yu q d0<=u0
      . have n:=O (x.o q b (NI d.o.1 d.o.2.1 i (QB A (Or.inr c2))));obtain⟨c2,c3⟩:=c2;subst c2;clear i;go_wp2_with(first
         |(go_at_call 183;refine(II _ _ b k _).mono ?_;rintro e c ⟨rfl,rfl⟩))
        go_ret;exact⟨q,rfl,b,n.o,hq⟩
      . obtain⟨g1,o,t,j⟩:=UF d.o i (W2 A c1 c2);obtain⟨p,hp⟩:=ex (q-1:Nat);rw[hp]at o t j;have ak:(q:Int)-1=(p:Int):=J
        have am:p<q:=J
        have an:IntKind.u64.wrap (p:Int)=(p:Int):=by rw[BX];unfold Z at b;omega
        clear hp g1 d;have K:=Li r d1;have D:=O (x.o p);clear x;by_cases m:r+d1<Z
        . have v1:YC r d1 0=r+d1:=by unfold YC;rw[Ch,Cm m]
          have v:Xb r d1 0=0:=by unfold Xb;rw[Ch,Ca m]
          rw[v1,v]at K;have H:=O (show LX Z U u0 d1 d0 p (r+d1)from⟨o,t,j,m⟩);clear o t v1 v i D;obtain⟨s,hs⟩:=ex (r+d1);rw[hs]at K H m;clear hs;by_cases c3:XS q d0=r
          . have c4:¬(Yu q d0<=u0):=λh=>c2 ⟨c3,h⟩;clear c2;go_wp2_with(first
             |(go_at_call 183;refine(II _ _ b k _).mono ?_;rintro e c ⟨rfl,rfl⟩))
            exact⟨⟨p,s,rfl,rfl,j,m,H,by first|trivial|rfl⟩,by simp[intOf];omega⟩
          . clear c2;go_wp2_with(first
             |(go_at_call 183;refine(II _ _ b k _).mono ?_;rintro e c ⟨rfl,rfl⟩))
            exact⟨⟨p,s,rfl,rfl,j,m,H,by first|trivial|rfl⟩,by simp[intOf];omega⟩
        . have n:=O (D.o j (UG o t j k i J));have v:Xb r d1 0=1:=by unfold Xb;unfold Z at *;omega
          rw[v]at K;generalize YC r d1 0=s at *;clear o t v i D m;by_cases c3:XS q d0=r
          . have c4:¬(Yu q d0<=u0):=λh=>c2 ⟨c3,h⟩;clear c2;go_wp2_with(first
             |(go_at_call 183;refine(II _ _ b k _).mono ?_;rintro e c ⟨rfl,rfl⟩))
            go_ret;exact⟨p,rfl,j,n.o,hq⟩
          . clear c2;go_wp2_with(first
             |(go_at_call 183;refine(II _ _ b k _).mono ?_;rintro e c ⟨rfl,rfl⟩))
            go_ret;exact⟨p,rfl,j,n.o,hq⟩
theorem ZA(a b:Option Addr)(n ca cb:Nat)(i bs:List Nat)(w:I)(P:Row G w (C a (n+3) ca) i)(Q:Row G w (C b (n+2) cb) bs)(l:DS Z i)(f:DS Z bs)
(j:Z<=2*bs[n+1]?.getD 0)(v:val Z i<val Z bs*Z):
 Calls M 186 #[C a (n+3) ca,C b (n+2) cb] w λe R=>∃g,e=.returned (F G (g:Nat))/\g<Z/\Gz (val Z i) (val Z bs) g/\Bl w R:=by
 obtain⟨y,T,X,V,k⟩:=Jw P;obtain⟨z,U,ad,W,p⟩:=Jw Q;obtain⟨r,s,rfl,x,A⟩:=k (n+2) J;obtain⟨_,_,c,_,D⟩:=k (n+1) J;cases c;obtain⟨_,_,c,_,B⟩:=k n J;cases c;obtain⟨t,u,rfl,S,H⟩:=p (n+1) J;obtain⟨_,_,c,_,K⟩:=p n J;cases c;have d:0<Z:=by unfold Z;omega
 have m:=Wz y.symm;have o:=QA z.symm;exact XX (n+2) (n+1) n J J r s t u ca cb _ _ _ _ _ _ _ w J A D B H K x (l.getD d _) (l.getD d _) (f.getD d _) (f.getD d _) (by unfold Z at j;omega)
  (λh=>W4 m o (YD f n) j (f.getD d _) v h) λq hq h=>W7 m o (YD l n) (YD f n) j hq h
theorem DU.win{W:I}{b:Nat}(h:DU W b xs)(off len cap:Nat)(a:off+len<=xs.length)(c:len<=cap)(d:cap<=9223372036854775807)(e:len<=1099511627776):Row G W (C (some ⟨b,off,none⟩) len cap) ((xs.drop off).take len):=
 h.row off len cap a c d e
theorem ZB{q:List Nat}(hq:q.length=len)(h:ro+len<=xs.length):((DZ xs ro len q).drop ro).take len=q:=by
 rw[DZ,List.drop_append_of_le_length (by rw[Am];omega),AR (by rw[Am];omega),Ap,AU J,Ac J]
theorem ZC{p q:List Nat}(hp:p.length=len)(h:ro+len<=xs.length):DZ (DZ xs ro len p) ro len q=DZ xs ro len q:=by
 have a:(xs.take ro).length=ro:=by rw[Am];omega
 rw[DZ,DZ,DZ,AU J,Ac J,List.drop_append,a,show ro+len-ro=len from by omega,AR J,Ap,List.drop_append,hp,A3,AR J,Ap,AE]
theorem ZD{q:List Nat}(a:DS Z xs)(hq:DS Z q):DS Z (DZ xs ro len q):=by
 intro x b;rw[DZ]at b;rcases C9.1 b with h|h
 . exact(a.take ro) x h
 . rcases C9.1 h with h|h
   . exact hq x h
   . exact(a.drop _) x h
theorem ZE(d ro n cap:Nat)(xs:List Nat)(a:Option Addr)(cb:Nat)(bs:List Nat)(w:I)
(t:DU w d xs)(y:DS Z xs)(af:ro+(n+3)<=xs.length)(x:n+3<=cap)(ah:cap<=9223372036854775807)(hn:n+3<=1099511627776)(k:Row G w (C a (n+2) cb) bs)(l:DS Z bs)(X:∀p,a=some p->0<n+2->p.block≠d)
(V:Z<=2*bs[n+1]?.getD 0)(U:val Z ((xs.drop ro).take (n+3))<val Z bs*Z):
 Calls M 169 #[C (some ⟨d,ro,none⟩) (n+3) cap,C a (n+2) cb] w λe w'=>
  ∃q,e=.returned (F G ((val Z ((xs.drop ro).take (n+3))/val Z bs:Nat):Int))/\(q.length=n+3/\DS Z q/\val Z q=val Z ((xs.drop ro).take (n+3))%val Z bs)/\DU w' d (DZ xs ro (n+3) q)/\w.grownBy w' (some d):=by
 have K:=t.win ro (n+3) cap af x ah hn;have A:=O (ZA _ a n cap cb _ bs w K k ((y.drop ro).take _) l V U);have s:=(Jw k).1;have D:val Z bs<Z^(n+2):=by have:=Yl l;rwa[<-s]at this
 have Qk:val Z bs<Z^(n+3):=AB D (Aw uo J);obtain⟨z,r,B,R,HA,i,Qj⟩:=Lm k X y l t af s;clear K V U s D Qk k X y l t;go_enter Tryz.func169,Tryz.ntmps169
 go_upto_region 2 with(go_at_call 186;refine A.o.mono ?_;rintro e w1 ⟨g,rfl,W,T,j⟩;have o:=O T;clear T A)
 have Q:=O (WI d ro (n+2) cap xs a cb bs g w1 (HA.o.below j) B.o i.o x (Row.below z.o j) R.o r.o W);go_upto_if 13 with(go_at_call 187;refine Q.o.mono ?_;rintro e w2 ⟨c,q,rfl,⟨hc,ae⟩,hA2,u⟩;have b:=O ae;clear ae Q)
 obtain rfl|rfl:c=0\/c=1:=J
 . have m:=O (UJ o.o (by have:=b.o.2.2;rw[Cv,Ch]at this;exact this));have HE:=O m.o.1;have HM:=O m.o.2;clear m o;go_wp2_with fail
   go_ret;exact⟨q,by rw[<-HE.o];rfl,⟨b.o.1,b.o.2.1,HM.o⟩,hA2,Ji (J4 j _) u⟩
 . have H:=O (Nb d ro (n+3) cap (DZ xs ro (n+3) q) a (n+2) cb bs w2 hA2 (ZD B.o b.o.2.1) (by rw[JW b.o.1 i.o];exact i.o) x J J (Row.grown (Row.below z.o j) u r.o) R.o r.o);have Ql:1<=g:=by
    rcases AY g with h|h
    . exfalso
      have h1:=b.o.2.2;have h2:=Yl b.o.2.1;rw[b.o.1]at h2;rw[h,Cv,Fz]at h1;omega
    . exact h
   obtain⟨p,hp⟩:=ex (g-1:Nat);have aj:(g:Int)-1=(p:Int):=J
   have ak:IntKind.u64.wrap (p:Int)=(p:Int):=by rw[BX];unfold Z at W;omega
   have HP:=O hp;clear hp Ql;go_wp2_with(go_at_call 164;refine H.o.mono ?_;rintro e w3 ⟨c3,q3,rfl,ad,hA3,ai⟩;have f:=O ad;clear ad H)
   go_ret;have v:=UK o.o (P:=Z^(n+3)) (by have:=b.o.2.2;rw[Fz]at this;exact this) (by have:=Yl b.o.2.1;rw[b.o.1]at this;exact this) (q2:=val Z q3) (c2:=c3)
    (by
     have S:=f.o.2.2.2;rw[ZB b.o.1 i.o,Ac (show bs.length<=n+3 by rw[<-Qj.o];omega)]at S;exact S)
    (by have:=Yl f.o.2.1;rw[f.o.1]at this;exact this) f.o.2.2.1
   rw[HP.o]at v;rw[ZC b.o.1 i.o]at hA3;exact⟨q3,by rw[<-v.2.1];rfl,⟨f.o.1,f.o.2.1,v.2.2⟩,hA3,Ji (Ji (J4 j _) u) ai⟩
attribute [local go_sem] Oper.semAt_some
theorem QC{bs:List Nat}{d L:Nat}(j:DS Z bs)(hl:bs.length=l+2)(f:bs[l+1]?.getD 0=d)(c:2^(L-1)<=d)(e:d<2^L)(m:1<=L)(k:L<=64)(hs:s=64-L):
 val Z bs*2^s<Z^(l+2)/\2^63*Z^(l+1)<=val Z bs*2^s:=by
 have o:val Z bs=val Z (bs.take (l+1))+Z^(l+1)*d:=by
  have h:=Jr Z bs (l+1);rwa[Ac J,f]at h
 have n:=YD j (l+1);have g:2^L*2^s=Z:=by rw[<-CI,IK];congr 1;omega
 have i:2^(L-1)*2^s=2^63:=by rw[<-CI];congr 1;omega
 constructor
 . have b:val Z bs+1<=Z^(l+1)*2^L:=by
    have:=Av (Z^(l+1)) (show d+1<=2^L from e);rw[Ax,Fz]at this;omega
   have a:=Ak (2^s) b;rw[Az,g,<-AQ,Ay,Cw]at a;exact AB (Nat.lt_add_of_pos_right (Cc s)) a
 . have b:Z^(l+1)*2^(L-1)<=val Z bs:=by
    have:=Av (Z^(l+1)) c;omega
   have a:=Ak (2^s) b;rw[Az,i,As]at a;exact a
theorem ZF(i:DS Z c)(hl:c.length=l+3)(b:val Z c=V)(d:V<Z^(l+2))(j:2^63*Z^(l+1)<=V):
 val Z (c.take (l+2))=V/\Z<=2*(c.take (l+2))[l+1]?.getD 0:=by
 have g:=Np (B:=Z) (k:=l+2) (D:=c) J (by rw[b];exact d);have a:val Z (c.take (l+2))=V:=by
  have h:=val_append Z (c.take (l+2)) (c.drop (l+2));rw[Cn,g,Cv,Ch,b]at h;exact h.symm
 refine⟨a,?_⟩;rw[AH J];have e:=Jr Z c (l+1);have m:=YD i (l+1);rw[show l+1+1=l+2 from rfl,a]at e;rcases AO (c[l+1]?.getD 0) (2^63)with h|h
 . exfalso
   have f:=Av (Z^(l+1)) (show c[l+1]?.getD 0+1<=2^63 from h);rw[Ax,Fz,As _ (2^63)]at f;omega
 . rw[IK];omega
theorem ZG{m la:Nat}(c:m<Z^la)(d:Z^(l+1)<=n)(hl:l+1<=la):m*2^s<n*2^s*Z^(la-(l+1)):=by
 have b:Z^(l+1)*Z^(la-(l+1))=Z^la:=by rw[<-CI];congr 1;omega
 have a:=Ak (Z^(la-(l+1))) d;rw[b]at a;rw[Nat.mul_right_comm];exact Nat.mul_lt_mul_of_pos_right (AB c a) (Cc s)
theorem JT{P:Program}{c:Array Oper}{Q:Exit->Act->I->Prop}{i:Nat}{o:Oper}{K:Act->I->Prop}{a:Act}(e:c[i]?=some o)(d:o.guard=none)
(h:∀b:Act->I->Prop,(∀a w,K a w->b a w)->o.wp P a w b Q):wpOp P c Q i K a w:=by
 unfold wpOp;rw[e];simp only[Region.wanted,d,if_true];exact Or.inl (h K λ_ _ h=>h)
theorem Ed{p q:Prop}(k:q)(h:Hid q->p:=by intro x;refine JT rfl rfl λK a=>?_;go_simp;refine a _ _ ?_;(repeat apply Exists.intro);refine ⟨rfl,?_⟩;exact x.o):p:=h k
def Gn(V:I)(base:Nat)(v:Value)(g len b:Nat)(a:List Nat):Prop:=
 v=C (some ⟨g,0,none⟩) len len/\DU V g a/\a.length=len/\DS Z a/\val Z a=b/\base<=g
theorem Gn.below{V V':I}{base g len b:Nat}{v:Value}{a:List Nat}(h:Gn V base v g len b a)(c:Bl V V'):Gn V' base v g len b a:=
 ⟨h.1,h.2.1.below c,h.2.2⟩
theorem Gn.box{V:I}{u:Value}(h:Gn V base v g len f c)(hl:0<len)(d:Boxed V B 61 (C none 0 0)):Gn (V.setCell ⟨B,0,none⟩ u) base v g len f c:=
 ⟨h.1,h.2.1.far (by
  intro e;simp only at e;obtain⟨i,b⟩:=h.2.1;rw[e,show V.heap[B]?=_ from d]at b;obtain⟨z,a,rfl⟩:∃z a,c=z::a:=by
   cases c with
    |nil=>have:=h.2.2.1;simp at this;omega
    |cons z a=>exact⟨z,a,rfl⟩
  simp[cellsOf]at b) u,h.2.2⟩
theorem Gn.ne_box{V:I}{b:Option Addr}{k i:Nat}(h:Gn V base v g len f c)(hl:0<len)(j:Boxed V B 61 (C b k i)):g≠B:=by
 intro e;obtain⟨l,d⟩:=h.2.1;rw[e,show V.heap[B]?=_ from j]at d;obtain⟨z,a,rfl⟩:∃z a,c=z::a:=by
  cases c with
  |nil=>have:=h.2.2.1;simp at this;omega
  |cons z a=>exact⟨z,a,rfl⟩
 simp[cellsOf]at d
end
section
structure SplC where
 w:World
 bs:Value
 rs:Value
 ds:Value
 qs:Value
 B9:Nat
 B10:Nat
 B11:Nat
 B12:Nat
 gR:Nat
 gZ:Nat
 gQ:Nat
 Zb:List Nat
structure SplC.Apart(c:SplC):Prop where
 r0:c.gR≠c.w.heap.size
 r9:c.gR≠c.B9
 r10:c.gR≠c.B10
 r11:c.gR≠c.B11
 r12:c.gR≠c.B12
 rz:c.gR≠c.gZ
 rq:c.gR≠c.gQ
 q0:c.gQ≠c.w.heap.size
 q9:c.gQ≠c.B9
 q10:c.gQ≠c.B10
 q11:c.gQ≠c.B11
 q12:c.gQ≠c.B12
 qz:c.gQ≠c.gZ
 lr:c.w.heap.size<=c.gR
 lq:c.w.heap.size<=c.gQ
structure SplC.Holds(c:SplC)(W:World):Prop where
 b0:Boxed W c.w.heap.size 61 c.bs
 b9:Boxed W c.B9 61 c.rs
 b10:Boxed W c.B10 61 c.ds
 b11:Boxed W c.B11 61 c.qs
 b12:Boxed W c.B12 61 c.qs
 z:DU W c.gZ c.Zb
 B:Below c.w.heap.size c.w W
theorem SplC.Holds.kept{c:SplC}{W W':I}{g:Nat}(h:c.Holds W)(a:W.grownBy W' (some g))(b:g≠c.w.heap.size)(j:g≠c.B9)(d:g≠c.B10)(f:g≠c.B11)(i:g≠c.B12)(k:g≠c.gZ)(hl:c.w.heap.size<=g):c.Holds W':=
 ⟨h.b0.kept a (λe=>by injection e with e;exact b e.symm),h.b9.kept a (λe=>by injection e with e;exact j e.symm),h.b10.kept a (λe=>by injection e with e;exact d e.symm),h.b11.kept a (λe=>by injection e with e;exact f e.symm),
  h.b12.kept a (λe=>by injection e with e;exact i e.symm),h.z.kept a (λe=>by injection e with e;exact k e.symm),below_grown h.B a hl⟩
theorem SplC.Holds.drew{c:SplC}{W:I}(h:c.Holds W):c.Holds W.drew:=
 ⟨h.b0,h.b9,h.b10,h.b11,h.b12,h.z,h.B.drew⟩
variable{f:Bool}{D D' Q Q':List Nat}{B:Nat}{W W' W0:I}
theorem SplC.own(c:SplC)(d:c.w.heap.size<=B):OwnFrom B (λ(_:Nat) W=>c.Holds W):=λk W W' row hs a b=>
 ⟨XI hs.b0 a b,XI hs.b9 a b,XI hs.b10 a b,XI hs.b11 a b,XI hs.b12 a b,Kw hs.z a b,P0 d k W W' row hs.B a b⟩
def QD(c:SplC)(R0 V n K:Nat)(k:Nat)(W:I):Prop:=
 c.Holds W/\∃D Q,DU W c.gR D/\DU W c.gQ Q/\GZ R0 V n K (K-k) D Q
theorem ZH(c:SplC)(R0 V n K:Nat)(g:c.w.heap.size<=B):OwnFrom B (QD c R0 V n K):=
 BN (c.own g) (λ_ _ _ _ hs a b=>by obtain⟨D,Q,d,e,f⟩:=hs;exact⟨D,Q,Kw d a b,Kw e a b,f⟩)
structure SplM(c:SplC)(W0:World)(D D' Q Q':List Nat)(e f:Bool)(W:World):Prop where
 k:KeepsOthers W0 W
 h:c.Holds W
 r:DU W c.gR (bif e then D' else D)
 q:DU W c.gQ (bif f then Q' else Q)
theorem SplM.drew{c:SplC}{W0 W:I}{D D' Q Q':List Nat}{e f:Bool}(h:SplM c W0 D D' Q Q' e f W):SplM c W0 D D' Q Q' e f W.drew:=
 ⟨h.k.trans (KeepsOthers.drew W),h.h.drew,h.r,h.q⟩
theorem ZI{g:Nat}{xs:List Nat}(b:DU W g xs)(c:W.grownBy W' (some g)):KeepsOthers W W':=
 KeepsOthers.of_grownBy c λj o a d=>by cases a;exact b.other d
theorem SplM.any{c:SplC}(h:SplM c W0 D D' Q Q' false f W)(a:List Nat):SplM c W0 D a Q Q' false f W:=⟨h.k,h.h,h.r,h.q⟩
theorem SplM.split{c:SplC}(h:SplM c W0 D D' Q Q' false f W)(a:c.Apart)(b:W.grownBy W' (some c.gR))(d:DU W' c.gR D'):SplM c W0 D D' Q Q' true f W':=
 ⟨h.k.trans (ZI h.r b),h.h.kept b a.r0 a.r9 a.r10 a.r11 a.r12 a.rz a.lr,d,h.q.kept b λe=>by injection e with e;exact a.rq e.symm⟩
theorem SplM.store{c:SplC}{e:Bool}(h:SplM c W0 D D' Q Q' e false W)(a:c.Apart){j v:Nat}(d:Q.set j v=Q'):SplM c W0 D D' Q Q' e true (W.setCell ⟨c.gQ,j,none⟩ (F G (v:Nat))):=
 have b:=JE W c.gQ j (F G (v:Nat))
 ⟨h.k.trans (BL _ _ _),h.h.kept b a.q0 a.q9 a.q10 a.q11 a.q12 a.qz a.lq,h.r.kept b (λe=>by injection e with e;exact a.rq e),by have:=h.q.set j v;rw[cond_false,d]at this;exact this⟩
attribute [local go_sem] Oper.semAt_some
theorem ZJ(a:Option Addr)(la ca:Nat)(r t l lb l1 cb m n d s:Nat)(w:I)(fg:lb=l+2)(h2:(lb:Int)-1=l1)(fm:r<w.heap.size)
(ra:Row G w (C a la ca) (Jc Z m))(rb:Row G w (C (some ⟨r,t,none⟩) lb cb) (Jc Z n))
(kb:w.cell? ⟨r,t+l1,none⟩=some (F G (d:Nat)))(fo:d<Z)(hs:s<=63)(HS:Hid ((64:Int)-(Lib.bitLen d:Int)=(s:Int)))(gb:lb<=la)(fr:la<1099511627776)
(fa:Hid (n*2^s<Z^(l+2)))(fb:Hid (2^63*Z^(l+1)<=n*2^s))(fl:Hid (m*2^s<n*2^s*Z^(la-(l+1)))):
 Calls M 146 #[C a la ca,C (some ⟨r,t,none⟩) lb cb] w λe w'=>∃u v,e=.returned (.tuple #[u,v])/\UN w' u (m/n)/\UN w' v (m%n)/\Bl w w':=by
 have Uf:Tryz.prog.follows .mixedOrders=true:=by kernel_rfl
 have Qc:=O fg;have i1:IntKind.i64.wrap ((lb:Int)-1)=(l1:Int):=by rw[h2];exact BW _ J
 have i3:IntKind.i64.wrap (l1:Int)=(l1:Int):=BW _ J;have j1:(l1:Int)<(lb:Int):=J
 have j9:(0:Int)<=(l1:Int):=J
 have gg:¬(lb=1):=J
 have Qg:Bl w (w.alloc (.cells #[C (some ⟨r,t,none⟩) lb cb] 61)):=Ba w _;have Qf:=BM w 61 (C (some ⟨r,t,none⟩) lb cb);obtain⟨W0,cj⟩:=ex (w.alloc (.cells #[C (some ⟨r,t,none⟩) lb cb] 61));have Qs:W0.heap.size=w.heap.size+1:=by rw[<-cj];simp
 rw[cj]at Qg Qf;have Ur:=Qf.cell;have Wa:=(Qg.cell (p:=⟨r,t+l1,none⟩) fm).trans kb;have Qr:=O λ(V:I) (h:Bl W0 V)=>Pz a la ca (Jc Z m) s V hs (Row.below (Row.below ra Qg) h) (Jq Je m) fr;have Qp:=O λ(V:I) (h:Bl W0 V)=>Pz (some ⟨r,t,none⟩) lb cb (Jc Z n) s V hs (Row.below (Row.below rb Qg) h) (Jq Je n) J;rw[Jp Je]at Qr Qp;have Ub:=O cj;have Ua:=O (show ∀V:I,Calls M 166 #[F G (d:Nat)] V λe w'=>e=.returned (F N (s:Nat))/\w'=V from λV=>by
  have h:=Tryz.bits_LeadingZeros64 (d:Nat) V J (by unfold Z at fo;omega);rw[Cy,HS.o]at h;exact h)
 have gl:IntKind.u64.wrap (s:Int)=(s:Int):=Bs _ J;have Us:=O Qs;clear cj fg ra rb kb HS;refine(BJ (n:=3)).1 ?_;refine BU Tryz.func146 rfl trivial ?_ rfl;simp only[Tryz.ntmps146,Ao,An,AD,Nat.reduceAdd,Nat.reduceSub,AF,AG,AZ,AN,Ap,AA];refine wpIn_wide.2 ?_;go_upto_region 1 with fail
 rw[Ub.o];clear Ub Qs;go_upto_region 8 with(go_at_call 166;refine(Ua.o _).mono ?_;rintro e w' ⟨rfl,e1⟩;have e2:=e1.symm;subst e2;clear e1)
 refine Jn Uf [[],[],[0,1],[],[],[3,4,2],[],[6],[5,7],[],[],[9,2,5,0,1,2,9,10],[10,8,11,0,1,2,3,4,5,6,7,8,9,10,11]] (by kernel_rfl) DQ
  (λD ac V=>∃t9 aw ay az bc bf bg ce bh bi cg:Value,ac={ tmps:=#[C a la ca,C (some ⟨r,t,none⟩) lb cb,E,L (some ⟨w.heap.size,0,none⟩),C none 0 0,C none 0 0,E,E,F G (s:Nat),t9,aw,E,E,C a la ca,F N (la:Nat),C (some ⟨r,t,none⟩) lb cb,F N (lb:Nat),.bool false,E,E,C (some ⟨r,t,none⟩) lb cb,F N (lb:Nat),.bool false,E,E,E,E,E,E,E,E,E,E,E,E,C (some ⟨r,t,none⟩) lb cb,C (some ⟨r,t,none⟩) lb cb,F N (lb:Nat),F N (l1:Nat),L (some ⟨r,t+l1,none⟩),F G (d:Nat),F N (s:Nat),F G (s:Nat),ay,az,bc,bf,bg,ce,bh,bi,cg,E,E,E,E,E,E,E,E,E,E,E,E,E,E,E,E,E,E,E,E,E,E,E,E,E,E,E,E],defers:=[] }/\Hid (D 0=true->ay=C a la ca)/\Hid (D 1=true->az=F G (s:Nat))/\Hid (D 2=true->∃g bj,Gn V W0.heap.size bc g (la+1) (m*2^s) bj)/\Hid (D 3=true->bf=C (some ⟨r,t,none⟩) lb cb)/\Hid (D 4=true->bg=F G (s:Nat))/\Hid (D 5=true->∃gR Zr gZ Zb,Gn V W0.heap.size bc gR (la+1) (m*2^s) Zr/\Gn V W0.heap.size ce gZ (lb+1) (n*2^s) Zb/\gR≠gZ)/\Hid (D 6=true->bh=C (some ⟨r,t,none⟩) lb cb)/\Hid (D 7=true->bi=F N (lb:Nat))/\Hid (D 8=true->∃gZ,ce=C (some ⟨gZ,0,none⟩) (lb+1) (lb+1)/\cg=C (some ⟨gZ,0,none⟩) lb (lb+1))/\Hid (D 9=true->D 11=false->∃B,t9=L (some ⟨B,0,none⟩)/\Boxed V B 61 (C none 0 0)/\W0.heap.size<=B)/\Hid (D 10=true->D 12=false->∃B,aw=L (some ⟨B,0,none⟩)/\Boxed V B 61 (C none 0 0)/\W0.heap.size<=B)/\Hid (D 9=true->D 10=true->t9≠aw)/\Hid (D 11=true->∃B,t9=L (some ⟨B,0,none⟩)/\Boxed V B 61 bc/\W0.heap.size<=B)/\Hid (D 12=true->∃B,aw=L (some ⟨B,0,none⟩)/\Boxed V B 61 cg/\W0.heap.size<=B)/\Bl W0 V)
  (E8 ⟨_,_,_,rfl,O Dr,O Dr,O Dr,O Dr,O Dr,O Dr,O Dr,O Dr,O Dr,O Dr,O Dr,O Dr,O Dr,O Dr,(BB _ W0).drew⟩) ?step8 ?fin8
 case step8=>
  rintro D a2 V i ds ah et b ai ⟨t9,aw,ay,az,bc,bf,bg,ce,bh,bi,cg,rfl,A,P,g2,R,S,o,T,U,X,z,x,gx,ae,af,hq⟩;have Qx:i<13:=(Ad.1 et).1;obtain rfl|rfl|rfl|rfl|rfl|rfl|rfl|rfl|rfl|rfl|rfl|rfl|rfl:=Mn i J
  all_goals
   simp only[Af,Ae,Ah]at et;subst et;clear Qx
  . clear b ah;refine Ed ?_;exact⟨O λ_=>rfl,P,g2,R,S,o,T,U,X,z,x,gx,ae,af,hq⟩
  . clear b ah;refine Ed ?_;exact⟨A,O λ_=>rfl,g2,R,S,o,T,U,X,z,x,gx,ae,af,hq⟩
  . have Uu:D 5=false:=DR ah ai;have Qb:D 11=false:=DR ah ai;have Qa:D 12=false:=DR ah ai;obtain rfl:=A.o (b 0 Y);obtain rfl:=P.o (b 1 Y);clear b ah;refine JT rfl rfl λK hK=>?_;go_simp;go_wp2_with(go_at_call 168;refine(Qr.o _ hq).mono ?_;rintro e w5 ⟨o,Z5,rfl,⟨dz,ed,eh⟩,hA5,bt,an⟩)
    exact E8 ⟨_,_,_,rfl,O λ_=>rfl,O λ_=>rfl,O λ_=>⟨o,Z5,rfl,hA5,dz,ed,eh,Ar hq.size bt⟩,R,S,O (λh=>by simp[Uu]at h),T,U,X,O (λh h2=>by obtain⟨B,e,q,q2⟩:=z.o h h2;exact⟨B,e,boxed_below q an,q2⟩),O (λh h2=>by obtain⟨B,e,q,q2⟩:=x.o h h2;exact⟨B,e,boxed_below q an,q2⟩),gx,O (λh=>by simp[Qb]at h),O (λh=>by simp[Qa]at h),Bt hq an⟩
  . have k0:=(boxed_below Qf hq).cell;clear b ah;refine Ed ?_;exact⟨A,P,g2,O λ_=>rfl,S,o,T,U,X,z,x,gx,ae,af,hq⟩
  . clear b ah;refine Ed ?_;exact⟨A,P,g2,R,O λ_=>rfl,o,T,U,X,z,x,gx,ae,af,hq⟩
  . have Up:D 8=false:=DR ah ai;have Qb:D 11=false:=DR ah ai;have Qa:D 12=false:=DR ah ai;obtain rfl:=R.o (b 3 Y);obtain rfl:=S.o (b 4 Y);obtain⟨gR,Zr,hR⟩:=g2.o (b 2 Y);have fy:=hR.2.1.lt;clear b ah;refine JT rfl rfl λK hK=>?_;go_simp;go_wp2_with(go_at_call 168;refine(Qp.o _ hq).mono ?_;rintro e w5 ⟨o,Z5,rfl,⟨dz,ed,eh⟩,hA5,bt,an⟩)
    exact⟨_,_,_,_,_,_,_,_,_,_,_,rfl,A,P,O λ_=>⟨gR,Zr,hR.below an⟩,O λ_=>rfl,O λ_=>rfl,O λ_=>⟨gR,Zr,o,Z5,hR.below an,⟨rfl,hA5,dz,ed,eh,Ar hq.size bt⟩,J⟩,T,U,O (λh=>by simp[Up]at h),O (λh h2=>by obtain⟨B,e,q,q2⟩:=z.o h h2;exact⟨B,e,boxed_below q an,q2⟩),O (λh h2=>by obtain⟨B,e,q,q2⟩:=x.o h h2;exact⟨B,e,boxed_below q an,q2⟩),gx,O (λh=>by simp[Qb]at h),O (λh=>by simp[Qa]at h),Bt hq an⟩
  . have k0:=(boxed_below Qf hq).cell;clear b ah;refine Ed ?_;exact⟨A,P,g2,R,S,o,O λ_=>rfl,U,X,z,x,gx,ae,af,hq⟩
  . obtain rfl:=T.o (b 6 Y);clear b ah;refine Ed ?_;exact⟨A,P,g2,R,S,o,O λ_=>rfl,O λ_=>rfl,X,z,x,gx,ae,af,hq⟩
  . have Qa:D 12=false:=DR ah ai;obtain⟨gR,Zr,gZ,Zb,hR,hZ,aq⟩:=o.o (b 5 Y);obtain rfl:=hZ.1;obtain rfl:=U.o (b 7 Y);have b1:(0:Int)<=(lb:Int):=J
    have b2:(lb:Int)<=(lb:Int)+1:=J
    clear b ah;refine Ed ?_;exact⟨A,P,g2,R,S,O λ_=>⟨gR,Zr,gZ,Zb,hR,hZ,aq⟩,T,O λ_=>rfl,O λ_=>⟨gZ,rfl,rfl⟩,z,x,gx,ae,O (λh=>by simp[Qa]at h),hq⟩
  . have Qb:D 11=false:=DR ah ai;have Qa:D 12=false:=DR ah ai;clear b ah;refine Ed ?_;exact⟨A,P,O (λh=>by obtain⟨g,bj,q⟩:=g2.o h;exact⟨g,bj,q.below (Ba V _)⟩),R,S,O (λh=>by obtain⟨gR,Zr,gZ,Zb,q1,q2,q3⟩:=o.o h;exact⟨gR,Zr,gZ,Zb,q1.below (Ba V _),q2.below (Ba V _),q3⟩),T,U,X,O λ_ _=>⟨_,rfl,BM _ _ _,hq.size⟩,O (λh h2=>by obtain⟨B,e,q,q2⟩:=x.o h h2;exact⟨B,e,q.alloc _,q2⟩),O (λ_ h e=>by obtain⟨B,e2,q,q2⟩:=x.o (by simpa using h) Qa;have:=q.lt;rw[e2]at e;cases e;omega),O (λh=>by simp[Qb]at h),O (λh=>by simp[Qa]at h),hq.alloc hq.size _⟩
  . have Qb:D 11=false:=DR ah ai;have Qa:D 12=false:=DR ah ai;clear b ah;refine Ed ?_;exact⟨A,P,O (λh=>by obtain⟨g,bj,q⟩:=g2.o h;exact⟨g,bj,q.below (Ba V _)⟩),R,S,O (λh=>by obtain⟨gR,Zr,gZ,Zb,q1,q2,q3⟩:=o.o h;exact⟨gR,Zr,gZ,Zb,q1.below (Ba V _),q2.below (Ba V _),q3⟩),T,U,X,O (λh h2=>by obtain⟨B,e,q,q2⟩:=z.o h h2;exact⟨B,e,q.alloc _,q2⟩),O λ_ _=>⟨_,rfl,BM _ _ _,hq.size⟩,O (λh _ e=>by obtain⟨B,e2,q,q2⟩:=z.o (by simpa using h) Qb;have:=q.lt;rw[e2]at e;cases e;omega),O (λh=>by simp[Qb]at h),O (λh=>by simp[Qa]at h),hq.alloc hq.size _⟩
  . have Qa:D 12=false:=DR ah ai;obtain⟨B,rfl,ak,bu⟩:=z.o (b 9 Y) ai;obtain⟨gR,Zr,gZ,Zb,hR,hZ,aq⟩:=o.o (b 5 Y);have k0:=ak.cell;have f0:=ak.frozen;obtain⟨B2,bk,ei,f9⟩:=x.o (b 10 Y) Qa;have Qt:B≠B2:=λe=>gx.o (b 9 Y) (b 10 Y) (by rw[bk,e]);obtain rfl:=bk;obtain rfl:=hR.1;clear z ae;clear b ah;refine Ed ?_;exact⟨A,P,O λ_=>⟨gR,Zr,hR.box J ak⟩,R,S,O λ_=>⟨gR,Zr,gZ,Zb,hR.box J ak,hZ.box J ak,aq⟩,T,U,X,O (λ_ h=>by simp at h),O λ_ _=>⟨B2,rfl,ei.kept (DK _ B _) (λe=>by injection e;omega),f9⟩,gx,O λ_=>⟨B,rfl,ak.set _,bu⟩,O (λh=>by simp[Qa]at h),hq.setCell (p:=⟨B,0,none⟩) bu _⟩
  . obtain⟨B,rfl,ak,bu⟩:=x.o (b 10 Y) ai;obtain⟨gR,Zr,gZ,Zb,hR,hZ,aq⟩:=o.o (b 5 Y);obtain⟨fc,ci,dx⟩:=X.o (b 8 Y);have k0:=ak.cell;have f0:=ak.frozen;obtain⟨B2,bk,ei,f9⟩:=ae.o (b 11 Y);have Qt:B≠B2:=λe=>gx.o (b 9 Y) (b 10 Y) (by rw[bk,e]);obtain rfl:=dx;obtain rfl:=ci;obtain rfl:=bk;have Qy:=b 11 Y;clear x af;clear b ah;refine Ed ?_;exact⟨A,P,O λ_=>⟨gR,Zr,hR.box J ak⟩,R,S,O λ_=>⟨gR,Zr,gZ,Zb,hR.box J ak,hZ.box J ak,aq⟩,T,U,O λ_=>⟨fc,rfl,rfl⟩,O (λ_ h=>by simp[Qy]at h),O (λ_ h=>by simp at h),gx,O λ_=>⟨B2,rfl,ei.kept (DK _ B _) (λe=>by injection e;omega),f9⟩,O λ_=>⟨B,rfl,ak.set _,bu⟩,hq.setCell (p:=⟨B,0,none⟩) bu _⟩
 rintro D a2 f am ⟨t9,aw,ay,az,bc,bf,bg,ce,bh,bi,cg,rfl,A,P,g2,R,S,o,T,U,X,z,x,gx,ae,af,hq⟩;obtain⟨gR,Zr,gZ,Zb,hR,hZ,aq⟩:=o.o (am 5 DQ);obtain⟨fc,ci,dx⟩:=X.o (am 8 DQ);obtain⟨B9,rfl,bn,gk⟩:=ae.o (am 11 DQ);obtain⟨B10,rfl,bm,gj⟩:=af.o (am 12 DQ);obtain rfl:=dx;obtain rfl:=hR.1;have e0:=hZ.1;rw[ci]at e0;cases e0;obtain rfl:=ci;clear A P g2 R S o T U X z x gx ae af am Qr Qp Ua;obtain⟨K,hK⟩:∃K:Nat,(la:Int)+1-(lb:Int)=(K:Int):=⟨la+1-lb,J⟩;have fw:IntKind.i64.wrap (K:Int)=(K:Int):=BW _ J;have Ux:=Jx K J f;have k9:=bn.cell;have Ut:=bm.cell;have Qi:K+lb=la+1:=J
 have Qm:=O Qi;clear Qi;go_wp2_with(go_at_call 152;refine((BJ (n:=2)).1 (Ko Fence.wide _ trivial rfl _ _ _ _)).mono ?_;rintro e w' ⟨rfl,rfl⟩)
 refine(wpIn_wide (n:=3)).1 ?_;obtain⟨WQ,ap⟩:=ex (((f.alloc (.cells (cellsOf G (List.replicate K 0)).toArray 156)).alloc (.cells #[C (some ⟨f.heap.size,0,none⟩) K K] 61)).alloc (.cells #[C (some ⟨f.heap.size,0,none⟩) K K] 61));have Uw:WQ.heap.size=f.heap.size+1+1+1:=by rw[<-ap];simp
 have Qj:Bl w f:=Bt Qg hq;have Qs:=Us.o;have Un:Bl w WQ:=by rw[<-ap];exact((Qj.alloc Qj.size _).alloc (by have:=Qj.size;simp;omega) _).alloc (by have:=Qj.size;simp;omega) _
 have lR:=hR.2.1.lt;have lZ:=hZ.2.1.lt;have l9:=bn.lt;have gn:=bm.lt;have n9:gR≠B9:=λe=>hR.ne_box J bn e;have go:gR≠B10:=λe=>hR.ne_box J bm e;have fs:=hR.2.2.2.2.2;have ft:=hZ.2.2.2.2.2;obtain⟨c,hc⟩:∃c:SplC,c=⟨w,C (some ⟨r,t,none⟩) lb cb,C (some ⟨gR,0,none⟩) (la+1) (la+1),C (some ⟨gZ,0,none⟩) lb (lb+1),C (some ⟨f.heap.size,0,none⟩) K K,B9,B10,f.heap.size+1,f.heap.size+1+1,gR,gZ,f.heap.size,Zb⟩:=⟨_,rfl⟩;have Ue:c.Apart:=by
  rw[hc];constructor<;>(simp only;omega)
 have Uc:c.Holds WQ:=by
  rw[hc,<-ap];have Uj:=(BM (f.alloc (.cells (cellsOf G (List.replicate K 0)).toArray 156)) 61 (C (some ⟨f.heap.size,0,none⟩) K K)).alloc (.cells #[C (some ⟨f.heap.size,0,none⟩) K K] 61);have Ug:=BM ((f.alloc (.cells (cellsOf G (List.replicate K 0)).toArray 156)).alloc (.cells #[C (some ⟨f.heap.size,0,none⟩) K K] 61)) 61 (C (some ⟨f.heap.size,0,none⟩) K K);simp only[A1]at Uj Ug;exact⟨(((boxed_below Qf hq).alloc _).alloc _).alloc _,((bn.alloc _).alloc _).alloc _,((bm.alloc _).alloc _).alloc _,Uj,Ug,((hZ.2.1.alloc _).alloc _).alloc _,by rw[ap];exact Un⟩
 have Ui:DU WQ gR Zr:=by rw[<-ap];exact((hR.2.1.alloc _).alloc _).alloc _
 have Qz:DU WQ f.heap.size (List.replicate K 0):=by rw[<-ap];exact((DU.made (BD f _)).alloc _).alloc _
 have Qu:GZ (m*2^s) (n*2^s) lb K K Zr (List.replicate K 0):=GZ.start (by have:=Qm.o;rw[hR.2.2.1];omega) hR.2.2.2.1 hR.2.2.2.2.1 (by
  have h:=fl.o;rwa[show la-(l+1)=K from by have:=Qm.o;have:=Qc.o;omega]at h)
 obtain⟨f8,fi⟩:=ZF hZ.2.2.2.1 (by rw[hZ.2.2.1,Qc.o]) hZ.2.2.2.2.1 fa.o fb.o;have Uy:0<n*2^s:=by
  have h:=fb.o;have:=DO (Cc 63) (Fe (n:=l+1) (show 0<Z by unfold Z;omega));omega
 have Qh:n*2^s<Z^lb:=by rw[Qc.o];exact fa.o
 have Uq:=hZ.2.2.2.1;have ga:=hZ.2.2.1;rw[ap];clear ap Ux bn bm Qf Ur k9 Ut hR hZ hq Qj Wa;refine Y6 rfl J (gf:=174) (lb:=#[L (some ⟨f.heap.size+1+1,0,none⟩)]) rfl trivial (DF Tryz.func174 (by kernel_rfl) rfl)
  (Kn Fence.wide _ trivial rfl J (f.heap.size+1+1) (some ⟨f.heap.size,0,none⟩) K K (λ_=>0) J) (λ_=>rfl)
  (QD c (m*2^s) (n*2^s) lb K) (λ_ _ _=>False) (ZH c _ _ _ _ (by rw[hc,Uw];simp only;omega)) (λc _ _ _ _ h _ _=>h.elim)
  ⟨Uc,Zr,List.replicate K 0,by rw[hc];exact Ui,by rw[hc];exact Qz,by rw[Fd];exact Qu⟩ ?rd
  (λk=>{ tmps:=#[C a la ca,C (some ⟨r,t,none⟩) lb cb,E,L (some ⟨w.heap.size,0,none⟩),C none 0 0,C none 0 0,E,E,F G (s:Nat),L (some ⟨B9,0,none⟩),L (some ⟨B10,0,none⟩),L (some ⟨f.heap.size+1,0,none⟩),F N ((K:Int)-1-k),C a la ca,F N (la:Nat),C (some ⟨r,t,none⟩) lb cb,F N (lb:Nat),.bool false,E,E,C (some ⟨r,t,none⟩) lb cb,F N (lb:Nat),.bool false,E,E,E,E,E,E,E,E,E,E,E,E,C (some ⟨r,t,none⟩) lb cb,C (some ⟨r,t,none⟩) lb cb,F N (lb:Nat),F N (l1:Nat),L (some ⟨r,t+l1,none⟩),F G (d:Nat),F N (s:Nat),F G (s:Nat),ay,az,C (some ⟨gR,0,none⟩) (la+1) (la+1),bf,bg,C (some ⟨gZ,0,none⟩) (lb+1) (lb+1),bh,bi,C (some ⟨gZ,0,none⟩) lb (lb+1),C (some ⟨gR,0,none⟩) (la+1) (la+1),F N ((la:Int)+1),C (some ⟨gZ,0,none⟩) lb (lb+1),F N (lb:Nat),F N (K:Nat),C (some ⟨f.heap.size,0,none⟩) K K,C (some ⟨f.heap.size,0,none⟩) K K,.func (.func 174) #[] #[L (some ⟨f.heap.size+1+1,0,none⟩)],F N ((K:Int)-1-k),F G 0,E,E,E,E,E,E,E,E,E,E,E,E,E,E,E,E,E,E],defers:=[] }) ?assign ?body ?done ?stop
 case rd=>
  rintro k W ⟨hh,D,Q,_,hQ,hL⟩;have Ud:=hh.b12;rw[hc]at Ud hQ;refine⟨Ud.cell,λhk=>⟨f.heap.size,0,rfl,?_⟩⟩;rw[A8,hQ.cell (j:=K-1-k) (by rw[hL.2.2.1];omega),hL.2.2.2.2.2.2 (K-1-k) J]
 case assign=>
  intro l k W K hK;unfold Hb;gi_wp2;exact hK
 case stop=>
  rintro D c k W _ _ h _;exact h.elim
 case body=>
  rintro l' k W ⟨hh,D,Q,hD,hQ,hL⟩ hk gi;have Uh:K-k=K-1-k+1:=J
  rw[Uh]at hL;have e1:((K:Int)-1-k)=((K-1-k:Nat):Int):=J
  have HI:=O (show K-(k+1)=K-1-k by omega);have Qn:K-1-k<K:=J
  rw[e1];obtain⟨i,hi⟩:=ex (K-1-k);rw[hi]at hL Qn HI ⊢;clear Uh e1 hi;obtain⟨w1,w2,w3⟩:=hL.win Qn Qh;have Uv:=hL.1;have fx:=hL.2.2.1;have Um:=O (show ∀(V:I) (nn:Nat),DU V gR D->DU V gZ Zb->CallsIn (Fence.wide.inRound l') nn M 169 #[C (some ⟨gR,i,none⟩) (lb+1) (la+1-i),C (some ⟨gZ,0,none⟩) lb (lb+1)] V λe w'=>
   ∃q,e=.returned (F G ((val Z ((D.drop i).take (lb+1))/(n*2^s):Nat):Int))/\(q.length=lb+1/\DS Z q/\val Z q=val Z ((D.drop i).take (lb+1))%(n*2^s))/\DU w' gR (DZ D i (lb+1) q)/\V.grownBy w' (some gR)from λV nn h1 h2=>by
   have Qi:=Qm.o;have hz:=h2.row 0 lb (lb+1) J J J J;have Qw:=ZE gR i l (la+1-i) D (some ⟨gZ,0,none⟩) (lb+1) (Zb.take (l+2)) V h1 hL.2.1 (by rw[Uv];have:=Qc.o;omega) (by have:=Qc.o;omega) J (by have:=Qc.o;omega)
    (by rw[AE,Qc.o]at hz;rw[Qc.o];exact hz) (Uq.take _) (λp e _=>by cases e;exact λh=>aq h.symm) fi (by rw[f8];have:=w1;rw[Qc.o]at this;exact this)
   rw[f8]at Qw;have e3:l+3=lb+1:=by rw[Qc.o]
   have e2:l+2=lb:=Qc.o.symm;rw[e3,e2]at Qw;exact Be l' ((BJ (n:=nn)).2 Qw))
  have Uo:=O λ(q:List Nat) (h1:q.length=lb+1) (h2:DS Z q) (h3:val Z q=val Z ((D.drop i).take (lb+1))%(n*2^s))=>hL.step Qn Qh h1 h2 h3 Uy;obtain⟨qd,fh⟩:=ex (val Z ((D.drop i).take (lb+1))/(n*2^s));rw[fh]at Uo Um;clear fh w1 w2 w3 hL f8 fi Qu;obtain⟨H1,fu⟩:∃H1:Nat,(i:Int)+(lb:Int)=(H1:Int):=⟨i+lb,J⟩;obtain⟨H,hH⟩:∃H:Nat,(H1:Int)+1=(H:Int):=⟨H1+1,J⟩;have fv:H-i=lb+1:=J
  have y1:(i:Int)<=(H:Int):=J
  have y2:(H:Int)<=(la:Int)+1:=J
  have y3:(0:Int)<=(i:Int):=J
  have y4:(i:Int)<(K:Int):=J
  have y5:IntKind.i64.wrap (H1:Int)=(H1:Int):=BW _ J;have y6:IntKind.i64.wrap (H:Int)=(H:Int):=BW _ J;gi_wp2_with fail
  refine Yc Uf [[],[],[],[],[],[],[5],[4,6],[7],[2,3,8],[],[9,10],[0,1,0,1,2,3,4,5,6,7,8,9,10,11],[12,11,11,0,1,2,3,4,5,6,7,8,9,10,11]] (by kernel_rfl) DQ
   (λDD ac V=>∃ck cl cn co ct de dh di dj dp dt du dw:Value,ac={ tmps:=#[C a la ca,C (some ⟨r,t,none⟩) lb cb,E,L (some ⟨w.heap.size,0,none⟩),C none 0 0,C none 0 0,E,E,F G (s:Nat),L (some ⟨B9,0,none⟩),L (some ⟨B10,0,none⟩),L (some ⟨f.heap.size+1,0,none⟩),F N (i:Nat),C a la ca,F N (la:Nat),C (some ⟨r,t,none⟩) lb cb,F N (lb:Nat),.bool false,E,E,C (some ⟨r,t,none⟩) lb cb,F N (lb:Nat),.bool false,E,E,E,E,E,E,E,E,E,E,E,E,C (some ⟨r,t,none⟩) lb cb,C (some ⟨r,t,none⟩) lb cb,F N (lb:Nat),F N (l1:Nat),L (some ⟨r,t+l1,none⟩),F G (d:Nat),F N (s:Nat),F G (s:Nat),ay,az,C (some ⟨gR,0,none⟩) (la+1) (la+1),bf,bg,C (some ⟨gZ,0,none⟩) (lb+1) (lb+1),bh,bi,C (some ⟨gZ,0,none⟩) lb (lb+1),C (some ⟨gR,0,none⟩) (la+1) (la+1),F N ((la:Int)+1),C (some ⟨gZ,0,none⟩) lb (lb+1),F N (lb:Nat),F N (K:Nat),C (some ⟨f.heap.size,0,none⟩) K K,C (some ⟨f.heap.size,0,none⟩) K K,.func (.func 174) #[] #[L (some ⟨f.heap.size+1+1,0,none⟩)],F N (i:Nat),F G 0,ck,cl,cn,co,ct,de,dh,di,dj,dp,dt,du,dw,E,E,E,E,E],defers:=[] }/\Hid (DD 0=true->ck=C (some ⟨f.heap.size,0,none⟩) K K)/\Hid (DD 1=true->cl=F N (i:Nat))/\Hid (DD 2=true->cn=C (some ⟨gR,0,none⟩) (la+1) (la+1))/\Hid (DD 3=true->co=F N (i:Nat))/\Hid (DD 4=true->ct=F N (i:Nat))/\Hid (DD 5=true->de=C (some ⟨r,t,none⟩) lb cb)/\Hid (DD 6=true->dh=F N (lb:Nat))/\Hid (DD 7=true->di=F N (H1:Nat))/\Hid (DD 8=true->dj=F N (H:Nat))/\Hid (DD 9=true->dp=C (some ⟨gR,i,none⟩) (lb+1) (la+1-i))/\Hid (DD 10=true->dt=C (some ⟨gZ,0,none⟩) lb (lb+1))/\Hid (DD 11=true->du=F G (qd:Nat))/\Hid (DD 12=true->dw=L (some ⟨f.heap.size,i,none⟩))/\∃D2,Hid (DD 11=true->∃q,(q.length=lb+1/\DS Z q/\val Z q=val Z ((D.drop i).take (lb+1))%(n*2^s))/\D2=DZ D i (lb+1) q)/\SplM c W D D2 Q (Q.set i qd) (DD 11) (DD 13) V)
   (E8 ⟨_,_,_,_,_,rfl,O Dr,O Dr,O Dr,O Dr,O Dr,O Dr,O Dr,O Dr,O Dr,O Dr,O Dr,O Dr,O Dr,D,O Dr,SplM.drew ⟨KeepsOthers.refl _,hh,hD,hQ⟩⟩) ?step ?fin
  case fin=>
   rintro DD ac V am ⟨ck,cl,cn,co,ct,de,dh,di,dj,dp,dt,du,dw,rfl,A,P,g2,R,S,o,T,U,X,z,x,ae,af,D2,gd,y⟩;rw[am 11 DQ,am 13 DQ]at y;obtain⟨q,⟨ew,f6,f7⟩,rfl⟩:=gd.o (am 11 DQ);refine⟨y.k.from _,y.h,DZ D i (lb+1) q,Q.set i qd,y.r,y.q,?_⟩;rw[HI.o];exact Uo.o q ew f6 f7
  case step=>
   rintro DD ac V j ds aj hj b ai ⟨ck,cl,cn,co,ct,de,dh,di,dj,dp,dt,du,dw,rfl,A,P,g2,R,S,o,T,U,X,z,x,ae,af,D2,gd,y⟩;have Qv:j<14:=(Ad.1 hj).1;obtain rfl|rfl|rfl|rfl|rfl|rfl|rfl|rfl|rfl|rfl|rfl|rfl|rfl|rfl:=FX j J
   all_goals
    simp only[Af,Ae,Ah]at hj;subst hj;clear Qv
   . have b11:Boxed V (f.heap.size+1) 61 (C (some ⟨f.heap.size,0,none⟩) K K):=by have:=y.h.b11;rw[hc]at this;exact this
     have k0:=b11.cell;clear b aj;refine BQ rfl λK2 ad=>?_;go_simp;exact ad _ _ (E8 ⟨_,_,_,_,_,rfl,O λ_=>rfl,P,g2,R,S,o,T,U,X,z,x,ae,af,D2,gd,y⟩)
   . clear b aj;refine BQ rfl λK2 ad=>?_;go_simp;exact ad _ _ ⟨_,_,_,_,_,_,_,_,_,_,_,_,_,rfl,A,O λ_=>rfl,g2,R,S,o,T,U,X,z,x,ae,af,D2,gd,y⟩
   . have b9:Boxed V B9 61 (C (some ⟨gR,0,none⟩) (la+1) (la+1)):=by have:=y.h.b9;rw[hc]at this;exact this
     have k0:=b9.cell;clear b aj;refine BQ rfl λK2 ad=>?_;go_simp;exact ad _ _ ⟨_,_,_,_,_,_,_,_,_,_,_,_,_,rfl,A,P,O λ_=>rfl,R,S,o,T,U,X,z,x,ae,af,D2,gd,y⟩
   . clear b aj;refine BQ rfl λK2 ad=>?_;go_simp;exact ad _ _ ⟨_,_,_,_,_,_,_,_,_,_,_,_,_,rfl,A,P,g2,O λ_=>rfl,S,o,T,U,X,z,x,ae,af,D2,gd,y⟩
   . clear b aj;refine BQ rfl λK2 ad=>?_;go_simp;exact ad _ _ ⟨_,_,_,_,_,_,_,_,_,_,_,_,_,rfl,A,P,g2,R,O λ_=>rfl,o,T,U,X,z,x,ae,af,D2,gd,y⟩
   . have b0:Boxed V w.heap.size 61 (C (some ⟨r,t,none⟩) lb cb):=by have:=y.h.b0;rw[hc]at this;exact this
     have k0:=b0.cell;clear b aj;refine BQ rfl λK2 ad=>?_;go_simp;exact ad _ _ ⟨_,_,_,_,_,_,_,_,_,_,_,_,_,rfl,A,P,g2,R,S,O λ_=>rfl,T,U,X,z,x,ae,af,D2,gd,y⟩
   . obtain rfl:=o.o (b 5 Y);clear b aj;refine BQ rfl λK2 ad=>?_;go_simp;exact ad _ _ ⟨_,_,_,_,_,_,_,_,_,_,_,_,_,rfl,A,P,g2,R,S,O λ_=>rfl,O λ_=>rfl,U,X,z,x,ae,af,D2,gd,y⟩
   . obtain rfl:=S.o (b 4 Y);obtain rfl:=T.o (b 6 Y);clear b aj;refine BQ rfl λK2 ad=>?_;go_simp;exact ad _ _ ⟨_,_,_,_,_,_,_,_,_,_,_,_,_,rfl,A,P,g2,R,O λ_=>rfl,o,O λ_=>rfl,O λ_=>rfl,X,z,x,ae,af,D2,gd,y⟩
   . obtain rfl:=U.o (b 7 Y);clear b aj;refine BQ rfl λK2 ad=>?_;go_simp;exact ad _ _ ⟨_,_,_,_,_,_,_,_,_,_,_,_,_,rfl,A,P,g2,R,S,o,T,O λ_=>rfl,O λ_=>rfl,z,x,ae,af,D2,gd,y⟩
   . obtain rfl:=g2.o (b 2 Y);obtain rfl:=R.o (b 3 Y);obtain rfl:=X.o (b 8 Y);have gh:¬(la+1=i):=J
     clear b aj;refine BQ rfl λK2 ad=>?_;go_simp;exact ad _ _ ⟨_,_,_,_,_,_,_,_,_,_,_,_,_,rfl,A,P,O λ_=>rfl,O λ_=>rfl,S,o,T,U,O λ_=>rfl,O λ_=>rfl,x,ae,af,D2,gd,y⟩
   . have b10:Boxed V B10 61 (C (some ⟨gZ,0,none⟩) lb (lb+1)):=by have:=y.h.b10;rw[hc]at this;exact this
     have k0:=b10.cell;clear b aj;refine BQ rfl λK2 ad=>?_;go_simp;exact ad _ _ ⟨_,_,_,_,_,_,_,_,_,_,_,_,_,rfl,A,P,g2,R,S,o,T,U,X,z,O λ_=>rfl,ae,af,D2,gd,y⟩
   . obtain rfl:=z.o (b 9 Y);obtain rfl:=x.o (b 10 Y);rw[ai]at y;have hr:DU V gR D:=by have:=y.r;rw[hc]at this;exact this
     have hz:DU V gZ Zb:=by have:=y.h.z;rw[hc]at this;exact this
     have HV:=O y;clear y;clear b aj;refine BQ rfl λK2 ad=>?_;go_simp;gi_wp2_with(refine⟨trivial,?_⟩;gi_at_call 169;refine(Um.o _ _ hr hz).mono ?_;rintro e w5 ⟨q,rfl,⟨ew,f6,f7⟩,hA5,bt⟩)
     exact⟨_,_,_,_,_,_,_,_,_,_,_,_,_,rfl,A,P,g2,R,S,o,T,U,X,O λ_=>rfl,O λ_=>rfl,O λ_=>rfl,af,DZ D i (lb+1) q,O λ_=>⟨q,⟨ew,f6,f7⟩,rfl⟩,SplM.split (HV.o.any _) Ue (by rw[hc];exact bt) (by rw[hc];exact hA5)⟩
   . obtain rfl:=A.o (b 0 Y);obtain rfl:=P.o (b 1 Y);clear b aj;refine BQ rfl λK2 ad=>?_;go_simp;exact ad _ _ (E8 ⟨_,_,_,_,_,rfl,O λ_=>rfl,O λ_=>rfl,g2,R,S,o,T,U,X,z,x,ae,O λ_=>rfl,D2,gd,y⟩)
   . obtain rfl:=ae.o (b 11 Y);obtain rfl:=af.o (b 12 Y);rw[ai]at y;have Qk:DU V f.heap.size Q:=by have:=y.q;rw[hc]at this;exact this
     have k0:=Qk.cell (j:=i) J;have f0:=Qk.frozen i;have Ql:SplM c W D D2 Q (Q.set i qd) (DD 11) true (V.setCell ⟨f.heap.size,i,none⟩ (F G (qd:Nat))):=by have:=y.store Ue (j:=i) (v:=qd) rfl;rw[hc]at this ⊢;exact this
     have Qo:=O Ql;clear Ql y;clear b aj;refine BQ rfl λK2 ad=>?_;go_simp;exact ad _ _ ⟨_,_,_,_,_,_,_,_,_,_,_,_,_,rfl,A,P,g2,R,S,o,T,U,X,z,x,O λ_=>rfl,O λ_=>rfl,D2,gd,Qo.o⟩
 case done=>
  rintro D W hD ⟨hh,D2,Q2,am,fd,hL⟩ ad;rw[A3]at hL;obtain⟨f1,f2⟩:=hL.fin rfl rfl;have b11:Boxed W (f.heap.size+1) 61 (C (some ⟨f.heap.size,0,none⟩) K K):=by have:=hh.b11;rw[hc]at this;exact this
  have b9:Boxed W B9 61 (C (some ⟨gR,0,none⟩) (la+1) (la+1)):=by have:=hh.b9;rw[hc]at this;exact this
  have Uk:Bl w W:=by have:=hh.B;rw[hc]at this;exact this
  have hr:DU W gR D2:=by have:=am;rw[hc]at this;exact this
  have Qk:DU W f.heap.size Q2:=by have:=fd;rw[hc]at this;exact this
  have Qi:=Qm.o;have Qd:Row G W (C (some ⟨f.heap.size,0,none⟩) K K) Q2:=by
   have h1:=Qk.row 0 K K (by rw[hL.2.2.1];omega) (Aa _) J J;rwa[AE,Ac (by rw[hL.2.2.1];exact Aa _)]at h1
  have Qe:Row G W (C (some ⟨gR,0,none⟩) (la+1) (la+1)) D2:=by
   have h1:=hr.row 0 (la+1) (la+1) (by rw[hL.1];omega) (Aa _) J J;rwa[AE,Ac (by rw[hL.1];omega)]at h1
  have HT:=O (show ∀V:I,Bl W V->Calls M 128 #[C (some ⟨f.heap.size,0,none⟩) K K] V λe w'=>∃u,e=.returned u/\UN w' u (m/n)/\Bl V w' from λV h=>by
   have h1:=Y3 _ Q2 V (Row.below Qd h);rw[f1]at h1;exact h1)
  have Uz:=O (show ∀V:I,Bl W V->Calls M 170 #[C (some ⟨gR,0,none⟩) (la+1) (la+1),F G (s:Nat)] V λe w'=>∃u,e=.returned u/\UN w' u (m%n)/\Bl V w' from λV h=>by
   have h1:=WT _ _ _ D2 s V hs (Row.below Qe h) hL.2.1;rw[f2,Nat.mul_div_cancel _ (Cc s)]at h1;exact h1)
  have l9:=b9.lt;have Ul:=b11.cell;have k9:=b9.cell;clear hL f1 f2 Qd Qe hr Qk hh am fd Uc Ui Qz Qu Qi;go_upto_region 13 with fail
  have hq:Bl W W.drew:=(BB _ W).drew;go_region_held3 (λw'=>w'.cell? ⟨f.heap.size+1,0,none⟩=some (C (some ⟨f.heap.size,0,none⟩) K K)/\w'.cell? ⟨B9,0,none⟩=some (C (some ⟨gR,0,none⟩) (la+1) (la+1))) (refine⟨?_,?_⟩<;>(first|(go_keep;done)|(simp[*];done)))
   (first
    |(go_at_call 128;refine(HT.o _ hq).mono ?_;rintro e w5 ⟨u5,rfl,fj,an⟩;obtain⟨ua,uc,rfl⟩:=UN.form fj;have hq:=Bt hq an;have Ul:=(boxed_below b11 hq).cell;have k9:=(boxed_below b9 hq).cell)
    |(go_at_call 170;refine(Uz.o _ hq).mono ?_;rintro e w6 ⟨u6,rfl,fk,fe⟩;obtain⟨va,vc,rfl⟩:=UN.form fk;have hq:=Bt hq fe;have Ul:=(boxed_below b11 hq).cell;have k9:=(boxed_below b9 hq).cell))
  all_goals go_wp2_with fail
  have Qq:w6.heap[D]?=some (.deferred (some [])):=(hq.block D (Ab.1 ad).1).trans ad;refine⟨Y,.inl ⟨_,_,rfl,Bb Qq,?_⟩⟩;refine⟨.tuple #[C ua (Jc Z (m/n)).length uc,C va (Jc Z (m%n)).length vc],by simp[results,Tryz.results146,go_sem],_,_,rfl,Nu (UN.below fj fe) Qq,Nu fk Qq,?_⟩;exact below_grown (Bt Uk hq) (BV _ D (.deferred none)) (by have:=Un.size;omega)
end
section
variable{a:List Nat}{P base g l rc:Nat}{u:Value}{W:I}
theorem Ny(a:Option Addr)(la ca:Nat)(b:Option Addr)(lb cb m n:Nat)(w:I)(g:Row G w (C a la ca) (Jc Z m))(i:Row G w (C b lb cb) (Jc Z n))(X:n≠0)(V:la<1099511627776):
 Calls M 146 #[C a la ca,C b lb cb] w λe j=>∃u v,e=.returned (.tuple #[u,v])/\UN j u (m/n)/\UN j v (m%n)/\Bl w j:=by
 obtain⟨U,ad,ak,ah,af⟩:=Jw g;obtain⟨f,ae,am,ai,T⟩:=Jw i;have aj:lb≠0:=λe=>X ((JD Je).1 (Aq (by rw[<-f,e])));by_cases K:la<lb
 . exact WU a la ca b lb cb m n w g i K
 . by_cases P:lb=1
   . subst P;exact WW a la ca b cb m n w g i J
   . obtain⟨l,rfl⟩:∃l,lb=l+2:=⟨lb-2,J⟩;obtain⟨z,A,rfl,S,r⟩:=T (l+1) J;have k:=Jq Je n;have p:(Jc Z n)[l+1]?.getD 0≠0:=by
      intro e;have Q:=Jr Z (Jc Z n) (l+1);rw[Ac J,e,Cv,Ch,Jp Je]at Q;have h4:=YD k (l+1);have o:=Xk Je f.symm J;rw[show l+2-1=l+1 from rfl]at o;omega
     have c:(Jc Z n)[l+1]?.getD 0<Z:=k.getD uo _;obtain⟨d,q⟩:=ex ((Jc Z n)[l+1]?.getD 0);rw[q]at r p c;obtain⟨B,D,H⟩:=bitLen_spec d p (by rw[<-IK];exact c);have R:Lib.bitLen d<=64:=by
      rcases AO 64 (Lib.bitLen d)with h|h
      . exfalso
        have o:2^64<=2^(Lib.bitLen d-1):=Aw J J;rw[IK]at c;omega
      . exact h
     obtain⟨t,x⟩:=QC (s:=64-Lib.bitLen d) k f.symm q D H B R rfl;rw[Jp Je]at t x;have W:m<Z^la:=by
      have:=Yl (Jq Je m);rwa[Jp Je,<-U]at this
     have y:Z^(l+1)<=n:=Xk Je f.symm J;exact ZJ a la ca z A l (l+2) (l+1) cb m n d (64-Lib.bitLen d) w rfl J S g i r c J (show _=_ by omega) J V t x (ZG W y J)
theorem Nz{p:Nat}(a:p≠0)(h:p<Z):Jc Z p=[p]:=by
 rw[XR Je a,Cm h,Ca h,Jz]
theorem ZK(a:Option Addr)(ca:Nat)(b:Option Addr)(lb cb x y:Nat)(w:I)(d:Row G w (C a 1 ca) (Jc Z x))(t:Row G w (C b lb cb) (Jc Z y))(B:y<Z):
 Calls M 148 #[C a 1 ca,C b lb cb] w λe D=>∃u,e=.returned u/\UN D u (Nat.gcd x y)/\Bl w D:=by
 obtain⟨n,ad,aj,af,l⟩:=Jw d;obtain⟨c,ae,ak,ah,m⟩:=Jw t;obtain⟨o,am,T⟩:=Nv n.symm;rcases AY lb with z|z
 . subst z;have k:y=0:=(JD Je).1 (Aq c.symm);subst k;have K:=O d;clear l m n c d t o;go_enter Tryz.func148,Tryz.ntmps148
   go_wp2_with fail
   go_ret;exact⟨_,rfl,by rw[Nat.gcd_zero_right];exact K.o,BB _ w⟩
 . have k:y≠0:=λe=>by rw[e,Jz]at c;simp at c;omega
   have i:=Nz k B;obtain rfl:lb=1:=by rw[c,i];rfl
   obtain⟨P,Q,rfl,W,r⟩:=l 0 J;obtain⟨R,S,rfl,X,s⟩:=m 0 J;rw[o]at r;rw[i]at s;have an:w.cell? ⟨P,Q,none⟩=some (F G (x:Nat)):=r;have ap:w.cell? ⟨R,S,none⟩=some (F G (y:Nat)):=s;clear l m n c d t o i r s;go_enter Tryz.func148,Tryz.ntmps148
   go_upto_region 3 with fail
   go_quiet (fail)
   go_wp2_with fail
   go_loopw [5,6] (λV v wr=>∃(p q j:Nat),V=F G (p:Nat)/\v=F G (q:Nat)/\p<Z/\q<Z/\p≠0/\Hid (Nat.gcd p q=Nat.gcd x y)/\wr=w.drewN j)
    (λ_ v _=>(intOf v).toNat)
   case atStart=>exact⟨x,y,_,rfl,rfl,T,B,J,O rfl,rfl⟩
   case round=>
    obtain⟨p,q,j,rfl,rfl,hp,hq,U,g,rfl⟩:=hrel;by_cases A:q=0
    . subst A;have f:=O (show p=Nat.gcd x y by rw[<-g.o,Nat.gcd_zero_right]);have H:=O (Nz U hp);clear g;go_wp2_with fail
      go_ret;refine⟨C (some ⟨w.heap.size,0,none⟩) 1 1,rfl,?_,(Kx (BB _ w) _).alloc (Aa _) _⟩;unfold UN;rw[<-f.o,H.o];exact(DU.made (xs:=[p]) (BD (w.drewN j) (.cells #[F G (p:Nat)] 156))).row 0 1 1 Y J J J
    . have f:=O (show Nat.gcd q (p%q)=Nat.gcd x y by rw[<-g.o,C6 q,<-Nat.gcd_rec,C6]);have ai:=A7 p (show q>0 by omega);go_upto_region 5 with fail
      go_quiet (fail)
      go_wp2_with fail
      exact⟨⟨q,p%q,j+nq,rfl,Y,hq,J,A,f,Y⟩,by simp[intOf];omega⟩
attribute [local go_sem] Oper.semAt_some
def Ga(W:I)(base:Nat)(u:Value)(g l rc P:Nat)(a:List Nat):Prop:=
 u=C (some ⟨g,0,none⟩) l rc/\DU W g a/\DS Z a/\l<=a.length/\l<=rc/\rc<=9223372036854775807/\l<=1099511627776/\a.take l=Jc Z P/\base<=g
theorem Ga.below{W W':I}{base g l rc P:Nat}{u:Value}{a:List Nat}(h:Ga W base u g l rc P a)(b:Bl W W'):Ga W' base u g l rc P a:=
 ⟨h.1,h.2.1.below b,h.2.2⟩
theorem Ga.un(h:Ga W base u g l rc P a):UN W u P:=by
 obtain⟨rfl,b,i,j,c,d,e,f,k⟩:=h;have:=b.row 0 l rc J c d e;rw[AE,f]at this;exact this
theorem ZL{ds:List Nat}(i:DU W g a)(k:Row G W (C (some ⟨g,0,none⟩) l rc) ds)(hl:l<=a.length):a.take l=ds:=by
 obtain⟨m,_,_,_,f⟩:=Jw k;apply List.ext_getElem?;intro j;by_cases d:j<l
 . obtain⟨b,off,e,_,c⟩:=f j d;cases e;rw[A8,i.cell J]at c;rw[AH d,Ag (show j<a.length by omega),Ag (show j<ds.length by omega)];rw[Ag (show j<a.length by omega),Ag (show j<ds.length by omega)]at c;simp only[Fo,Ah,Value.int.injEq,true_and]at c;congr 1;omega
 . rw[At (by rw[Am];omega),At J]
theorem QE(a:Option Addr)(la ca:Nat)(b:Option Addr)(lb cb:Nat)(c d:List Nat)(w:I)(T:DS Z c)(U:DS Z d)(R:la+lb<=1099511627776)
(o:Row G w (C a la ca) c)(q:Row G w (C b lb cb) d):
 Calls M 120 #[C a la ca,C b lb cb] w λe r=>∃u,e=.returned u/\UN r u (val Z c*val Z d)/\(val Z c*val Z d≠0->∃g l rc m,Ga r w.heap.size u g l rc (val Z c*val Z d) m)/\Bl w r:=by
 have t:=Jx (la+lb) J w;rw[show((la+lb:Nat):Int)=(la:Int)+(lb:Int)from by omega]at t;obtain⟨i,k⟩:∃i,i=w.alloc (.cells (cellsOf G (List.replicate (la+lb) 0)).toArray 156):=⟨_,rfl⟩;have n:Bl w i:=by rw[k];exact Ba w _
 have s:DU i w.heap.size (List.replicate (la+lb) 0):=by rw[k];exact DU.made (BD w _)
 rw[<-k]at t;have D:=O (WD w.heap.size (la+lb) (la+lb) (List.replicate (la+lb) 0) a la ca b lb cb c d i T U s (λx S=>by rw[CH S];unfold Z;omega) (by rw[Au];exact Aa _) (Aa _) J R (Row.below o n) (Row.below q n)
  (λp e j=>by have:=Ip o e j;omega) λp e j=>by have:=Ip q e j;omega)
 clear k s o q;go_enter Tryz.func120,Tryz.ntmps120
 go_wp2_with(go_at_call 141;refine D.o.mono ?_;rintro e X ⟨u,rfl,⟨f,Q⟩,P,m,A,K,B⟩;obtain⟨V,W,rfl⟩:=UN.form f)
 go_ret;refine⟨_,rfl,f,λj=>?_,below_grown n Q (Aa _)⟩;have H:(Jc Z (val Z c*val Z d)).length≠0:=λe=>j ((JD Je).1 (Aq e));rcases P with e|⟨l,e⟩
 . injection e with v y z
   exact absurd y H
 . injection e with v y z
   subst v;subst z;rw[Au]at B;have hl:(Jc Z (val Z c*val Z d)).length<=m.length:=by rw[B];exact(Jw f).2.1
   exact⟨_,_,_,m,rfl,A,K,hl,(Jw f).2.1,(Jw f).2.2.1,(Jw f).2.2.2.1,ZL A f hl,Aa _⟩
theorem QF{Q:Nat}(h:Ga W base u g l rc P a)(b:Option Addr)(lb cb:Nat)(m:UN W (C b lb cb) Q)(d:Q<=P)(z:∀p,b=some p->0<lb->p.block≠g):
 Calls M 165 #[u,C b lb cb] W λe f=>∃c q,e=.returned (F G (c:Nat))/\(Row G f u q/\Jy q=Jc Z (P-Q))/\W.grownBy f (some g):=by
 obtain⟨rfl,o,r,A,j,s,t,k,B⟩:=h;have hl:l=(Jc Z P).length:=by rw[<-k,Am];omega
 have n:=(Jw m).1;refine(Pb g 0 l rc a b lb cb (Jc Z Q) W o r J j J (by rw[hl,n];exact Xn d) m (Jq Je Q) z).mono ?_;rintro e f ⟨c,q,rfl,hq,w,x⟩;have y:DZ a 0 l q=q++a.drop l:=by rw[DZ,CX,Ap,A8]
 have i:=hq.1;refine⟨c,q,rfl,⟨?_,?_⟩,x⟩
 . have v:=w.row 0 l rc (by rw[JW i J];omega) j s t;rwa[y,AE,AU J,Ac J]at v
 . have hs:F4 (Jc Z P) (Jc Z Q) 0 l c q:=by
    refine⟨i,hq.2.1,hq.2.2.1,?_⟩;have:=hq.2.2.2;rw[AE,k]at this;rw[AE,Ac (show(Jc Z P).length<=l by omega)];exact this
   exact Pc hs rfl rfl hl (by rw[hl];exact Xn d) d
theorem QG{w V a:I}{o:Obj}(h:Bl w V)(k:Below (V.alloc o).heap.size (V.alloc o) a):Bl w a:=(h.alloc h.size o).trans (k.mono (h.alloc h.size o).size)
theorem QH(x:Nat):val Z [x]=x:=by rw[J5,Kh,Cv,Ch]
theorem QI(ma mb:Nat)(a:Option Addr)(la ca:Nat)(b:Option Addr)(lb cb A B:Nat)(w:I)(ra:Row G w (C a la ca) (Jc Z A))(rb:Row G w (C b lb cb) (Jc Z B))(bt:ma<Z)(bu:mb<Z)(ci:la<1099511627776)(cj:lb<1099511627776)(h0:mb*B≠0):
 Calls M 145 #[.agg #[F G (ma:Nat),F G (mb:Nat)],C a la ca,C b lb cb] w λe X=>∃u,e=.returned u/\UN X u (Xl (ma*A) (mb*B))/\Bl w X:=by
 have Qr:Tryz.prog.follows .mixedOrders=true:=by kernel_rfl
 obtain⟨W0,an⟩:=ex (w.alloc (.cells #[F G (ma:Nat),F G (mb:Nat)] 169));have Qa:Bl w W0:=by rw[<-an];exact Ba w _
 have bx:Jm W0 w.heap.size 169 (F G (ma:Nat)) (F G (mb:Nat)):=by rw[<-an];exact Jm.new w _ _ _
 have Qo:=O (show ∀(V:I) (g:Nat),Bl W0 V->DU V g [ma]->Calls M 120 #[C a la ca,C (some ⟨g,0,none⟩) 1 1] V λe X=>∃u,e=.returned u/\UN X u (ma*A)/\(ma*A≠0->∃g l rc zs,Ga X V.heap.size u g l rc (ma*A) zs)/\Bl V X from λV g h hA=>by
  have n:=QE a la ca (some ⟨g,0,none⟩) 1 1 (Jc Z A) [ma] V (Jq Je A) (DS.cons bt (DS.nil _)) J (Row.below (Row.below ra Qa) h) (hA.row 0 1 1 Y J J J);rw[QH,Jp Je,As A ma]at n;exact n)
 have Qp:=O (show ∀(V:I) (g:Nat),Bl W0 V->DU V g [mb]->Calls M 120 #[C b lb cb,C (some ⟨g,0,none⟩) 1 1] V λe X=>∃u,e=.returned u/\UN X u (mb*B)/\(mb*B≠0->∃g l rc zs,Ga X V.heap.size u g l rc (mb*B) zs)/\Bl V X from λV g h hA=>by
  have n:=QE b lb cb (some ⟨g,0,none⟩) 1 1 (Jc Z B) [mb] V (Jq Je B) (DS.cons bu (DS.nil _)) J (Row.below (Row.below rb Qa) h) (hA.row 0 1 1 Y J J J);rw[QH,Jp Je,As B mb]at n;exact n)
 have Qq:=O an;clear an ra rb;generalize ma*A=m at *;generalize mb*B=T at *;go_enter Tryz.func145,Tryz.ntmps145
 go_upto_region 1 with fail
 rw[Qq.o];refine Jn Qr [[],[],[1],[2],[0,3],[],[],[6],[7],[5,8,4],[4,9,0,1,2,3,4],[9,10,0,1,2,3,4,5,6,7,8,9,10]] (by kernel_rfl) DQ
  (λf ac V=>∃t7 t8 t9 ap aq aw ad ay az bc bf ak:Value,ac={ tmps:=#[.agg #[F G (ma:Nat),F G (mb:Nat)],C a la ca,C b lb cb,L (some ⟨w.heap.size,0,none⟩),E,E,C none 0 0,t7,t8,t9,ap,aq,aw,ad,ay,az,bc,bf,ak,E,E,E,E,E,E,E,E,E,E,E],defers:=[] }/\Hid (f 0=true->t9=C a la ca)/\Hid (f 1=true->ap=L (some ⟨w.heap.size,0,none⟩))/\Hid (f 2=true->aq=F G (ma:Nat))/\Hid (f 3=true->∃g,aw=C (some ⟨g,0,none⟩) 1 1/\DU V g [ma])/\Hid (f 4=true->UN V ad m/\(m≠0->∃d l1 s t,Ga V W0.heap.size ad d l1 s m t))/\Hid (f 5=true->ay=C b lb cb)/\Hid (f 6=true->az=L (some ⟨w.heap.size,1,none⟩))/\Hid (f 7=true->bc=F G (mb:Nat))/\Hid (f 8=true->∃g,bf=C (some ⟨g,0,none⟩) 1 1/\DU V g [mb])/\Hid (f 9=true->∃k l2 ae af,Ga V W0.heap.size ak k l2 ae T af/\UN V ad m/\(m≠0->∃d l1 s t,Ga V W0.heap.size ad d l1 s m t/\d≠k))/\Hid (f 10=true->t7=ad)/\Hid (f 11=true->t8=ak)/\Bl W0 V)
  (E8 ⟨_,_,_,_,rfl,O Dr,O Dr,O Dr,O Dr,O Dr,O Dr,O Dr,O Dr,O Dr,O Dr,O Dr,O Dr,(BB _ W0).drew⟩) ?step1 ?fin1
 case step1=>
  rintro f a2 V i ds o bi j W ⟨t7,t8,t9,ap,aq,aw,ad,ay,az,bc,bf,ak,rfl,v,d,k,z,D,H,P,Q,R,S,x,y,hq⟩;have Qk:i<12:=(Ad.1 bi).1;obtain rfl|rfl|rfl|rfl|rfl|rfl|rfl|rfl|rfl|rfl|rfl|rfl:=IY i J
  all_goals
   simp only[Af,Ae,Ah]at bi;subst bi;clear Qk
  . clear j o;refine Ed ?_;exact⟨O λ_=>rfl,d,k,z,D,H,P,Q,R,S,x,y,hq⟩
  . clear j o;refine Ed ?_;exact⟨v,O λ_=>rfl,k,z,D,H,P,Q,R,S,x,y,hq⟩
  . obtain rfl:=d.o (j 1 Y);have k0:=(bx.below hq).c0;clear j o;refine Ed ?_;exact⟨v,O λ_=>rfl,O λ_=>rfl,z,D,H,P,Q,R,S,x,y,hq⟩
  . have Qs:f 4=false:=by
     cases h:f 4 with
     |false=>rfl
     |true=>rw[o 4 _ rfl h 3 Y]at W;cases W
    obtain rfl:=k.o (j 2 Y);clear j o;refine Ed ?_;exact⟨v,d,O λ_=>rfl,O λ_=>⟨_,rfl,DU.made (xs:=[ma]) (BD V _)⟩,O (λh=>by simp[Qs]at h),H,P,Q,O (λh=>by obtain⟨g,e,q⟩:=R.o h;exact⟨g,e,q.below (Ba V _)⟩),O (λh=>by obtain⟨k,l2,ae,af,q1,q2,q3⟩:=S.o h;exact⟨k,l2,ae,af,q1.below (Ba V _),q2.below (Ba V _),λn=>by obtain⟨d,l1,s,t,q,q4⟩:=q3 n;exact⟨d,l1,s,t,q.below (Ba V _),q4⟩⟩),x,y,hq.alloc hq.size _⟩
  . have Qi:f 9=false:=by
     cases h:f 9 with
     |false=>rfl
     |true=>rw[o 9 _ rfl h 4 Y]at W;cases W
    have Qm:f 10=false:=by
     cases h:f 10 with
     |false=>rfl
     |true=>rw[o 10 _ rfl h 4 Y]at W;cases W
    obtain rfl:=v.o (j 0 Y);obtain⟨gm,rfl,ai⟩:=z.o (j 3 Y);clear j o;refine JT rfl rfl λK hK=>?_;go_simp;go_wp2_with(go_at_call 120;refine(Qo.o _ _ hq ai).mono ?_;rintro e w5 ⟨u5,rfl,bn,bj,U⟩)
    exact E8 ⟨_,_,_,_,rfl,O λ_=>rfl,d,k,O λ_=>⟨gm,rfl,ai.below U⟩,O λ_=>⟨bn,λn=>by obtain⟨d,l1,s,t,q⟩:=bj n;exact⟨d,l1,s,t,q.1,q.2.1,q.2.2.1,q.2.2.2.1,q.2.2.2.2.1,q.2.2.2.2.2.1,q.2.2.2.2.2.2.1,q.2.2.2.2.2.2.2.1,Ar hq.size q.2.2.2.2.2.2.2.2⟩⟩,H,P,Q,O (λh=>by obtain⟨g,e,q⟩:=R.o h;exact⟨g,e,q.below (U)⟩),O (λh=>by simp[Qi]at h),O (λh=>by simp[Qm]at h),y,Bt hq U⟩
  . clear j o;refine Ed ?_;exact⟨v,d,k,z,D,O λ_=>rfl,P,Q,R,S,x,y,hq⟩
  . clear j o;refine Ed ?_;exact⟨v,d,k,z,D,H,O λ_=>rfl,Q,R,S,x,y,hq⟩
  . obtain rfl:=P.o (j 6 Y);have k0:=(bx.below hq).c1;clear j o;refine Ed ?_;exact⟨v,d,k,z,D,H,O λ_=>rfl,O λ_=>rfl,R,S,x,y,hq⟩
  . have Qi:f 9=false:=by
     cases h:f 9 with
     |false=>rfl
     |true=>rw[o 9 _ rfl h 8 Y]at W;cases W
    obtain rfl:=Q.o (j 7 Y);clear j o;refine Ed ?_;exact⟨v,d,k,O (λh=>by obtain⟨g,e,q⟩:=z.o h;exact⟨g,e,q.below (Ba V _)⟩),O (λh=>by obtain⟨q1,q2⟩:=D.o h;exact⟨q1.below (Ba V _),λn=>by obtain⟨d,l1,s,t,q⟩:=q2 n;exact⟨d,l1,s,t,q.below (Ba V _)⟩⟩),H,P,O λ_=>rfl,O λ_=>⟨_,rfl,DU.made (xs:=[mb]) (BD V _)⟩,O (λh=>by simp[Qi]at h),x,y,hq.alloc hq.size _⟩
  . have Qj:f 11=false:=by
     cases h:f 11 with
     |false=>rfl
     |true=>rw[o 11 _ rfl h 9 Y]at W;cases W
    obtain rfl:=H.o (j 5 Y);obtain⟨gm,rfl,ai⟩:=R.o (j 8 Y);obtain⟨p1,p2⟩:=D.o (j 4 Y);clear j o;refine JT rfl rfl λK hK=>?_;go_simp;go_wp2_with(go_at_call 120;refine(Qp.o _ _ hq ai).mono ?_;rintro e w5 ⟨u5,rfl,bn,bj,U⟩)
    exact⟨_,_,_,_,_,_,_,_,_,_,_,_,rfl,v,d,k,O (λh=>by obtain⟨g,e,q⟩:=z.o h;exact⟨g,e,q.below (U)⟩),O (λh=>by obtain⟨q1,q2⟩:=D.o h;exact⟨q1.below (U),λn=>by obtain⟨d,l1,s,t,q⟩:=q2 n;exact⟨d,l1,s,t,q.below (U)⟩⟩),O λ_=>rfl,P,Q,O λ_=>⟨gm,rfl,ai.below U⟩,O (λ_=>by obtain⟨k,l2,ae,af,q⟩:=bj h0;exact⟨k,l2,ae,af,⟨q.1,q.2.1,q.2.2.1,q.2.2.2.1,q.2.2.2.2.1,q.2.2.2.2.2.1,q.2.2.2.2.2.2.1,q.2.2.2.2.2.2.2.1,Ar hq.size q.2.2.2.2.2.2.2.2⟩,p1.below U,λn=>by obtain⟨d,l1,s,t,r⟩:=p2 n;exact⟨d,l1,s,t,r.below U,by have:=r.2.1.lt;have:=q.2.2.2.2.2.2.2.2;omega⟩⟩),x,O (λh=>by simp[Qj]at h),Bt hq U⟩
  . clear j o;refine Ed ?_;exact⟨v,d,k,z,D,H,P,Q,R,S,O λ_=>rfl,y,hq⟩
  . clear j o;refine Ed ?_;exact⟨v,d,k,z,D,H,P,Q,R,S,x,O λ_=>rfl,hq⟩
 rintro f ce V1 am ⟨t7,t8,t9,ap,aq,aw,ad,ay,az,bc,bf,ak,rfl,v,d,k,z,D,H,P,Q,R,S,x,y,hq⟩;obtain⟨gB,l2,ae,af,o2,aj,o1⟩:=S.o (am 9 DQ);obtain rfl:=x.o (am 10 DQ);obtain rfl:=y.o (am 11 DQ);obtain⟨a1,c1,rfl⟩:=UN.form aj;have Qc:=o2.un;obtain⟨a2,c2,rfl⟩:=UN.form Qc;clear v d k z D H P Q R S x y am Qo Qp;have Qh:∀p,a1=some p->0<(Jc Z m).length->p.block≠gB:=λp e n=>by
  have hp:m≠0:=λe0=>by rw[e0,Jz]at n;simp at n
  obtain⟨d,l1,s,t,r,r2⟩:=o1 hp;have:=r.1;injection this with e1 e2 e3
  rw[e1]at e;cases e;exact r2
 have HO:=O (Nf _ _ (Jc Z m) (Jc Z T) V1 aj Qc (Jq Je m) (Jq Je T) (Ym Je m) (Ym Je T));rw[Jp Je,Jp Je]at HO;have Qg:Bl w V1:=Bt Qa hq;have Qn:W0.heap.size<=gB:=o2.2.2.2.2.2.2.2.2;by_cases bm:m<T
 . have Qb:=XZ bm;rw[Qb]at HO;have Qe:=O λ(V:I) (h:Bl V1 V)=>QF (o2.below h) a1 (Jc Z m).length c1 (aj.below h) J Qh;have HD:=O (show T-m=Xl m T by unfold Xl;omega);clear Qb aj Qc o1 Qh;go_upto_region 4 with(go_at_call 132;refine HO.o.mono ?_;rintro e w2 ⟨rfl,ah⟩)
   go_upto_region 5 with(go_at_call 165;refine(Qe.o _ ah).mono ?_;rintro e w3 ⟨c,q,rfl,⟨hr,bk⟩,bh⟩)
   have Qd:=O (Y3 _ q _ hr);rw[bk,HD.o]at Qd;clear Qe HO;go_wp2_with(go_at_call 128;refine Qd.o.mono ?_;rintro e w4 ⟨u,rfl,hu,bg⟩;obtain⟨ua,uc,rfl⟩:=UN.form hu)
   go_ret;have Qf:Bl w w3:=below_grown (Bt Qg ah) bh (Ar Qa.size Qn);exact⟨_,rfl,hu,Bt Qf bg⟩
 . obtain⟨cm,Qb,cg⟩:∃cm:Int,Xf m T=cm/\¬(cm<0):=⟨_,rfl,by unfold Xf;rw[BE bm];split<;>omega⟩;rw[Qb]at HO;obtain⟨d,l1,s,t,r,r2⟩:=o1 J;have Ql:W0.heap.size<=d:=r.2.2.2.2.2.2.2.2;have Qe:=O (λ(V:I) (h:Bl V1 V)=>QF (r.below h) a2 (Jc Z T).length c2 (Qc.below h) J (λp e _=>by
    have:=o2.1;injection this with e1 e2 e3
    rw[e1]at e;cases e;exact λh=>r2 h.symm))
   have HD:=O (show m-T=Xl m T by unfold Xl;omega);clear Qb aj Qc o1 Qh;go_upto_region 4 with(go_at_call 132;refine HO.o.mono ?_;rintro e w2 ⟨rfl,ah⟩)
   go_upto_region 5 with(go_at_call 165;refine(Qe.o _ ah).mono ?_;rintro e w3 ⟨c,q,rfl,⟨hr,bk⟩,bh⟩)
   have Qd:=O (Y3 _ q _ hr);rw[bk,HD.o]at Qd;clear Qe HO;go_wp2_with(go_at_call 128;refine Qd.o.mono ?_;rintro e w4 ⟨u,rfl,hu,bg⟩;obtain⟨ua,uc,rfl⟩:=UN.form hu)
   go_ret;have Qf:Bl w w3:=below_grown (Bt Qg ah) bh (Ar Qa.size Ql);exact⟨_,rfl,hu,Bt Qf bg⟩
end
def GO(x k s:Nat):Nat:=x/(Z^k*2^(64-s))
variable{a:List Nat}{k s:Nat}
theorem ZM(hl:a.length=k+2)(b:DS Z a)(hs:s<=63)(f:a[k+1]?.getD 0<2^(64-s)):
 GO (val Z a) k s=EO (a[k+1]?.getD 0) s+EG (a[k]?.getD 0) (64-s)/\EO (a[k+1]?.getD 0) s ||| EG (a[k]?.getD 0) (64-s)=EO (a[k+1]?.getD 0) s+EG (a[k]?.getD 0) (64-s):=by
 have g:=QA hl;have c:=YD b k;have i:=b.getD (show 0<Z by unfold Z;omega) k;have hp:=Ku (s:=s) J;have e:EO (a[k+1]?.getD 0) s=a[k+1]?.getD 0*2^s:=by rw[Kv J,Cm f]
 rw[e];have d:EG (a[k]?.getD 0) (64-s)<2^s:=by
  unfold EG;rw[AX (Cc _),hp];exact i
 refine⟨?_,by rw[As,<-Fj d]⟩;unfold GO EG;rw[g,<-Nat.div_div_eq_div_mul,As _ (Z^k),Nat.mul_add_div (Fe uo),Ca c,Ch,<-hp,<-Az,C1,FG _ _ (Cc _)];omega
theorem ZN(hl:a.length=k+1)(d:DS Z a):GO (val Z a) k s=EG (a[k]?.getD 0) (64-s):=by
 have b:=Jr Z a k;rw[Ac J]at b;have c:=YD d k;unfold GO EG;rw[b,<-Nat.div_div_eq_div_mul,C1,Nat.mul_add_div (Fe uo),Ca c,Ch]
theorem ZO(hl:a.length<=k)(b:DS Z a):GO (val Z a) k s=0:=by
 unfold GO;apply Ca;have c:=Yl b;have d:Z^a.length<=Z^k:=Aw uo hl;have e:=CB (Z^k) (Cc (64-s));omega
theorem QJ(a:Option Addr)(la ca:Nat)(c:List Nat)(k f d s:Nat)(w:I)(n:Row G w (C a la ca) c)(o:DS Z c)(q:d=k+2)(z:(d:Int)-1=f)(A:(d:Int)-2=k)(hs:s<=63)(R:la<=d)(T:d<=1099511627776)(m:la=d->c[k+1]?.getD 0<2^(64-s)):
 Calls M 167 #[C a la ca,F N (d:Nat),F G (s:Nat)] w λe K=>e=.returned (F G (GO (val Z c) k s:Nat))/\Bl w K:=by
 obtain⟨hl,P,S,Q,i⟩:=Jw n;have W:IntKind.i64.wrap ((d:Int)-1)=(f:Int):=by rw[z];exact BW _ J
 have X:IntKind.i64.wrap ((d:Int)-2)=(k:Int):=by rw[A];exact BW _ J
 have i3:IntKind.i64.wrap (f:Int)=(f:Int):=BW _ J;have i4:IntKind.i64.wrap (k:Int)=(k:Int):=BW _ J;have i5:IntKind.u64.wrap ((64:Int)-s)=((64-s:Nat):Int):=by rw[BX];omega
 have p:=Nr (c[k+1]?.getD 0) s;have x:=Ns (c[k]?.getD 0) (64-s);have j:=o.getD (show 0<Z by unfold Z;omega) k;have l:=Nt (show EO (c[k+1]?.getD 0) s<Z by unfold EO;exact A7 _ uo) (show EG (c[k]?.getD 0) (64-s)<Z from Cp (Fw _ _) j);obtain rfl|U:=Decidable.em (la=d)
 . obtain⟨b,off,rfl,D,c1⟩:=i (k+1) J;obtain⟨_,_,y,_,c0⟩:=i k J;cases y;obtain⟨t,u⟩:=ZM J o hs (m rfl);rw[u]at l;have g:=O t;have r:f=k+1:=J
   rw[<-r]at c1 p l g;have j1:(f:Int)<(la:Int):=J
   have j2:(k:Int)<(la:Int):=J
   have j3:(0:Int)<=(f:Int):=J
   have j4:(0:Int)<=(k:Int):=J
   have H:k<la:=J
   clear r i n t u m hl q j;generalize c[f]?.getD 0=x1 at *;generalize c[k]?.getD 0=x0 at *;go_enter Tryz.func167,Tryz.ntmps167
   go_upto_region 3 with fail
   go_quiet (fail)
   go_wp2_with fail
   go_ret;refine⟨?_,Kx (BB _ w) _⟩;rw[g.o];first|rfl|(simp;done)
 . by_cases B:la=f
   . subst B;obtain⟨b,off,rfl,D,c0⟩:=i k J;have g:=O (ZN (s:=s) (show c.length=k+1 by omega) o);have H:k<la:=J
     have v:¬((la:Int)=(d:Int)):=J
     clear i n m hl q j l p;generalize c[k]?.getD 0=x0 at *;go_enter Tryz.func167,Tryz.ntmps167
     go_wp2_with fail
     go_ret;refine⟨?_,BB _ w⟩;rw[g.o];first|rfl|(simp;done)
   . have g:=O (ZO (s:=s) (show c.length<=k by omega) o);have v:¬((la:Int)=(d:Int)):=J
     have V:¬((la:Int)=(f:Int)):=J
     clear i n m hl q j p x l;go_enter Tryz.func167,Tryz.ntmps167
     go_wp2_with fail
     go_ret;refine⟨?_,BB _ w⟩;rw[g.o];first|rfl|(simp;done)

