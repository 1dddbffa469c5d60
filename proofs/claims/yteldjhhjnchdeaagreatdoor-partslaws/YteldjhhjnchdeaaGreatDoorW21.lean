import Derived.BigQuiet
import Derived.Deep.RegionHeld3
import Derived.Test.YteldjhhjnchdeaaGreatDoorW18
import Derived.Test.YteldjhhjnchdeaaGreatDoorW04
open Go.Value renaming slice->C,int->F,pointer->L
open Go renaming undef->E,World->I
open Go.IntKind renaming u64->G,i64->N
open Go.Proofs.Tryz renaming prog->M
set_option maxRecDepth 100000
set_option maxHeartbeats 16000000
namespace Go.Proofs.YteldjhhjnchdeaaGreatDoor
open Go.RowKit Go.Shelf
section
theorem Bj:type_of% @IntWalk.u64_in:=@IntWalk.u64_in
theorem Bb:type_of% @IntWalk.i64_in:=@IntWalk.i64_in
variable{c ds xs:List Nat}{B R R0 V base d0 d1 f g l len n q r ro s u0:Nat}{v:Value}{w:I}
theorem O0(h:ds.length=n+2):val Y ds=(ds[n+1]?.getD 0*Y+ds[n]?.getD 0)*Y^n+val Y (ds.take n):=by
 have a:=Jv Y ds (n+1);rw[Ag Z,Jv,AY]at a;rw[a];grind
theorem UQ(h:ds.length=n+3):val Y ds=((ds[n+2]?.getD 0*Y+ds[n+1]?.getD 0)*Y+ds[n]?.getD 0)*Y^n+val Y (ds.take n):=by
 have a:=Jv Y ds (n+2);rw[Ag Z,Jv,Jv,AY,AY]at a;rw[a];grind
theorem Yt(h:DN Y ds)(n:Nat):val Y (ds.take n)<Y^n:=by
 have:=Yv (h.take n);refine AJ this (Az uo ?_);rw[Ap];omega
theorem Iw{a:I}(h:Below B a w)(n:Nat):Below B a (w.drewN n):=h.trans ⟨rfl,rfl,rfl,Aa _,λ_ _=>rfl⟩
theorem O1(a:u0<Y)(h:Xo q d0<r\/Xo q d0=r/\Yl q d0<=u0):q*d0<=r*Y+u0:=by
 unfold Xo Yl at h;generalize q*d0=p at *;unfold Y at *;omega
theorem UR(b:u0<Y)(h:¬(Xo q d0<r))(a:¬(Xo q d0=r/\Yl q d0<=u0)):r*Y+u0<q*d0:=by
 unfold Xo at h a;unfold Yl at a;generalize q*d0=p at *;unfold Y at *;omega
theorem US{u2 u1 E:Nat}(b:R=((u2*Y+u1)*Y+u0)*E+R0)(d:V=(d1*Y+d0)*E+f)(i:f<E)(e:Y<=2*d1)(g:d0<Y)(c:R<V*Y)(h:d1<=u2):GF R V (Y-1):=by
 have a:d0*E+f<Y*E:=by
  have:=Am E (show d0+1<=Y from g);rw[AD,Ct]at this;omega
 refine SN (d1:=d1) (E:=Y*E) (lo:=(u2-d1)*(Y*(Y*E))+(u1*Y+u0)*E+R0) (lo2:=d0*E+f) ?_ ?_ a e c Jf
 . obtain⟨t,rfl⟩:∃t,u2=d1+t:=⟨u2-d1,Z⟩;rw[b,Nat.add_sub_cancel_left];grind
 . rw[d];grind
theorem UT{U E:Nat}(a:R=(U*Y+u0)*E+R0)(c:V=(d1*Y+d0)*E+f)(b:R0<E)(d:f<E)(e:Y<=2*d1)(hq:q<Y)(h:q=(U*Y+u0)/(d1*Y+d0)):GF R V q:=by
 rw[h];have hp:0<d1:=by unfold Y at e;omega
 have g:Y<=d1*Y:=C0 Y hp;exact SM a c b d (by rw[<-h];omega) Z
theorem UU(l l1 l2:Nat)(h1:(l:Int)-1=l1)(h2:(l:Int)-2=l2)(a f P Q ca cb u2 u1 u0 d1 d0 R V:Nat)(w:I)(hl:l<=1099511627776)
(ka:w.cell? ⟨a,f+l,none⟩=some (F G (u2:Nat)))(ak:w.cell? ⟨a,f+l1,none⟩=some (F G (u1:Nat)))(ai:w.cell? ⟨a,f+l2,none⟩=some (F G (u0:Nat)))
(kb:w.cell? ⟨P,Q+l1,none⟩=some (F G (d1:Nat)))(aw:w.cell? ⟨P,Q+l2,none⟩=some (F G (d0:Nat)))(S:a<w.heap.size)
(ah:u1<Y)(A:u0<Y)(ad:d1<Y)(k:d0<Y)(ae:0<d1)
(W:Hid (d1<=u2->GF R V (Y-1)))(x:Hid (∀q:Nat,q<Y->q=((u2*Y+u1)*Y+u0)/(d1*Y+d0)->GF R V q)):
 Calls M 186 #[C (some ⟨a,f,none⟩) (l+1) ca,C (some ⟨P,Q,none⟩) l cb] w λe c=>∃g,e=.returned (F G (g:Nat))/\g<Y/\GF R V g/\Bl w c:=by
 have i1:IntKind.i64.wrap ((l:Int)-1)=(l1:Int):=by rw[h1];exact Bb _ Z
 have i2:IntKind.i64.wrap ((l:Int)-2)=(l2:Int):=by rw[h2];exact Bb _ Z
 have j1:(l1:Int)<(l:Int):=Z
 have j2:(l2:Int)<(l:Int):=Z
 have j3:(l1:Int)<(l:Int)+1:=Z
 have j4:(l2:Int)<(l:Int)+1:=Z
 have i3:IntKind.i64.wrap (l1:Int)=(l1:Int):=Bb _ Z;have j7:(l:Int)<(l:Int)+1:=Z
 have j8:(0:Int)<=(l:Int):=Z
 have j9:(0:Int)<=(l1:Int):=Z
 have av:(0:Int)<=(l2:Int):=Z
 go_enter Tryz.func186,Tryz.ntmps186
 go_upto_region 2 with fail
 go_quiet (fail)
 by_cases af:d1<=u2
 . go_wp2_with fail
   go_ret;exact⟨Y-1,rfl,by unfold Y;omega,W.o af,Iw (BE _ w) _⟩
 . have y:=SJ (B:=Y) (u:=u2*Y+u1) (u1:=u0) (d1:=d1) (d0:=d0) ae ad A (by
    have:=Am Y (show u2+1<=d1 by omega);rw[AD,Ct]at this;omega)
   have X:=O λV=>Ob u2 u1 d1 Z ah ad V;have Qf:=y.2.2.1;have Qe:=y.2.2.2;have d:=O y;clear y W;generalize hX:(u2*Y+u1)/d1=q0 at *;generalize hY:(u2*Y+u1)%d1=r0 at *;generalize hZ:u2*Y+u1=U at *;clear hX hY hZ;go_wp2_with fail
   have hq:Bl w (w.drewN (nq+1)):=Iw (BE _ w) _;go_region_held3 (λc=>c.cell? ⟨a,f+l,none⟩=some (F G (u2:Nat))/\c.cell? ⟨a,f+l1,none⟩=some (F G (u1:Nat))) (refine⟨?_,?_⟩<;>(first|(go_keep;done)|(simp[*];done)))
    (first|(go_at_call 175;refine(X.o _).mono ?_;rintro e w1 ⟨rfl,z⟩;have ba:=(z.cell (p:=⟨a,f+l,none⟩) (show a<w.heap.size from S)).trans ka;have az:=(z.cell (p:=⟨a,f+l1,none⟩) (show a<w.heap.size from S)).trans ak;have ay:=(z.cell (p:=⟨a,f+l2,none⟩) (show a<w.heap.size from S)).trans ai))
   have hq:Bl w w1:=Bt hq z;go_wp2_with fail
   go_loopw [8,9] (λT rv wr=>∃(q r:Nat),T=F G (q:Nat)/\rv=F G (r:Nat)/\q<Y/\r<Y/\Hid (KX Y U u0 d1 d0 q r)/\wr=w1)
    (λT _ _=>(intOf T).toNat)
   case atStart=>exact⟨q0,r0,rfl,rfl,Qf,Qe,d,rfl⟩
   case round=>
    clear X d;obtain⟨q,r,rfl,rfl,b,aq,d,rfl⟩:=hrel;have i:0<d1*Y:=FK ae uo;by_cases c1:Xo q d0<r
    . have n:=O (x.o q b (Lz d.o.1 d.o.2.1 i (O1 A (Or.inl c1))));clear i;go_wp2_with(first
       |(go_at_call 183;refine(Gn _ _ b k _).mono ?_;rintro e c ⟨rfl,rfl⟩))
      go_ret;exact⟨q,rfl,b,n.o,hq⟩
    . by_cases c2:Xo q d0=r/\Yl q d0<=u0
      . have n:=O (x.o q b (Lz d.o.1 d.o.2.1 i (O1 A (Or.inr c2))));obtain⟨c2,c3⟩:=c2;subst c2;clear i;go_wp2_with(first
         |(go_at_call 183;refine(Gn _ _ b k _).mono ?_;rintro e c ⟨rfl,rfl⟩))
        go_ret;exact⟨q,rfl,b,n.o,hq⟩
      . obtain⟨g1,o,t,j⟩:=SK d.o i (UR A c1 c2);obtain⟨p,hp⟩:=ex (q-1:Nat);rw[hp]at o t j;have am:(q:Int)-1=(p:Int):=Z
        have an:p<q:=Z
        have ap:IntKind.u64.wrap (p:Int)=(p:Int):=by rw[BV];unfold Y at b;omega
        clear hp g1 d;have K:=Kc r d1;have D:=O (x.o p);clear x;by_cases m:r+d1<Y
        . have v1:Ys r d1 0=r+d1:=by unfold Ys;rw[Cn,Cm m]
          have v:YP r d1 0=0:=by unfold YP;rw[Cn,Ch m]
          rw[v1,v]at K;have H:=O (show KX Y U u0 d1 d0 p (r+d1)from⟨o,t,j,m⟩);clear o t v1 v i D;obtain⟨s,hs⟩:=ex (r+d1);rw[hs]at K H m;clear hs;by_cases c3:Xo q d0=r
          . have c4:¬(Yl q d0<=u0):=λh=>c2 ⟨c3,h⟩;clear c2;go_wp2_with(first
             |(go_at_call 183;refine(Gn _ _ b k _).mono ?_;rintro e c ⟨rfl,rfl⟩))
            exact⟨⟨p,s,rfl,rfl,j,m,H,by first|trivial|rfl⟩,by simp[intOf];omega⟩
          . clear c2;go_wp2_with(first
             |(go_at_call 183;refine(Gn _ _ b k _).mono ?_;rintro e c ⟨rfl,rfl⟩))
            exact⟨⟨p,s,rfl,rfl,j,m,H,by first|trivial|rfl⟩,by simp[intOf];omega⟩
        . have n:=O (D.o j (SL o t j k i Z));have v:YP r d1 0=1:=by unfold YP;unfold Y at *;omega
          rw[v]at K;generalize Ys r d1 0=s at *;clear o t v i D m;by_cases c3:Xo q d0=r
          . have c4:¬(Yl q d0<=u0):=λh=>c2 ⟨c3,h⟩;clear c2;go_wp2_with(first
             |(go_at_call 183;refine(Gn _ _ b k _).mono ?_;rintro e c ⟨rfl,rfl⟩))
            go_ret;exact⟨p,rfl,j,n.o,hq⟩
          . clear c2;go_wp2_with(first
             |(go_at_call 183;refine(Gn _ _ b k _).mono ?_;rintro e c ⟨rfl,rfl⟩))
            go_ret;exact⟨p,rfl,j,n.o,hq⟩
theorem UV(a b:Option Addr)(n ca cb:Nat)(i bs:List Nat)(w:I)(P:Row G w (C a (n+3) ca) i)(Q:Row G w (C b (n+2) cb) bs)(l:DN Y i)(f:DN Y bs)
(j:Y<=2*bs[n+1]?.getD 0)(v:val Y i<val Y bs*Y):
 Calls M 186 #[C a (n+3) ca,C b (n+2) cb] w λe R=>∃g,e=.returned (F G (g:Nat))/\g<Y/\GF (val Y i) (val Y bs) g/\Bl w R:=by
 obtain⟨y,T,X,V,k⟩:=JA P;obtain⟨z,U,ad,W,p⟩:=JA Q;obtain⟨r,s,rfl,x,A⟩:=k (n+2) Z;obtain⟨_,_,c,_,D⟩:=k (n+1) Z;cases c;obtain⟨_,_,c,_,B⟩:=k n Z;cases c;obtain⟨t,u,rfl,S,H⟩:=p (n+1) Z;obtain⟨_,_,c,_,K⟩:=p n Z;cases c;have d:0<Y:=by unfold Y;omega
 have m:=UQ y.symm;have o:=O0 z.symm;exact UU (n+2) (n+1) n Z Z r s t u ca cb _ _ _ _ _ _ _ w Z A D B H K x (l.getD d _) (l.getD d _) (f.getD d _) (f.getD d _) (by unfold Y at j;omega)
  (λh=>US m o (Yt f n) j (f.getD d _) v h) λq hq h=>UT m o (Yt l n) (Yt f n) j hq h
theorem DO.win{W:I}{b:Nat}(h:DO W b xs)(off len cap:Nat)(a:off+len<=xs.length)(c:len<=cap)(d:cap<=9223372036854775807)(e:len<=1099511627776):Row G W (C (some ⟨b,off,none⟩) len cap) ((xs.drop off).take len):=
 h.row off len cap a c d e
theorem UW{q:List Nat}(hq:q.length=len)(h:ro+len<=xs.length):((DU xs ro len q).drop ro).take len=q:=by
 rw[DU,List.drop_append_of_le_length (by rw[Ap];omega),A2 (by rw[Ap];omega),At,AN Z,Ag Z]
theorem UX{p q:List Nat}(hp:p.length=len)(h:ro+len<=xs.length):DU (DU xs ro len p) ro len q=DU xs ro len q:=by
 have a:(xs.take ro).length=ro:=by rw[Ap];omega
 rw[DU,DU,DU,AN Z,Ag Z,List.drop_append,a,show ro+len-ro=len from by omega,A2 Z,At,List.drop_append,hp,A7,A2 Z,At,AQ]
theorem UY{q:List Nat}(a:DN Y xs)(hq:DN Y q):DN Y (DU xs ro len q):=by
 intro x b;rw[DU]at b;rcases C7.1 b with h|h
 . exact(a.take ro) x h
 . rcases C7.1 h with h|h
   . exact hq x h
   . exact(a.drop _) x h
theorem UZ(d ro n cap:Nat)(xs:List Nat)(a:Option Addr)(cb:Nat)(bs:List Nat)(w:I)
(t:DO w d xs)(y:DN Y xs)(af:ro+(n+3)<=xs.length)(x:n+3<=cap)(ah:cap<=9223372036854775807)(hn:n+3<=1099511627776)(k:Row G w (C a (n+2) cb) bs)(l:DN Y bs)(X:∀p,a=some p->0<n+2->p.block≠d)
(V:Y<=2*bs[n+1]?.getD 0)(U:val Y ((xs.drop ro).take (n+3))<val Y bs*Y):
 Calls M 169 #[C (some ⟨d,ro,none⟩) (n+3) cap,C a (n+2) cb] w λe w'=>
  ∃q,e=.returned (F G ((val Y ((xs.drop ro).take (n+3))/val Y bs:Nat):Int))/\(q.length=n+3/\DN Y q/\val Y q=val Y ((xs.drop ro).take (n+3))%val Y bs)/\DO w' d (DU xs ro (n+3) q)/\w.grownBy w' (some d):=by
 have K:=t.win ro (n+3) cap af x ah hn;have A:=O (UV _ a n cap cb _ bs w K k ((y.drop ro).take _) l V U);have s:=(JA k).1;have D:val Y bs<Y^(n+2):=by have:=Yv l;rwa[<-s]at this
 have Qk:val Y bs<Y^(n+3):=AJ D (Az uo Z);obtain⟨z,r,B,R,HA,i,Qj⟩:=OL k X y l t af s;clear K V U s D Qk k X y l t;go_enter Tryz.func169,Tryz.ntmps169
 go_upto_region 2 with(go_at_call 186;refine A.o.mono ?_;rintro e w1 ⟨g,rfl,W,T,j⟩;have o:=O T;clear T A)
 have Q:=O (Tt d ro (n+2) cap xs a cb bs g w1 (HA.o.below j) B.o i.o x (Row.below z.o j) R.o r.o W);go_upto_if 13 with(go_at_call 187;refine Q.o.mono ?_;rintro e w2 ⟨c,q,rfl,⟨hc,ae⟩,hA2,u⟩;have b:=O ae;clear ae Q)
 obtain rfl|rfl:c=0\/c=1:=Z
 . have m:=O (SO o.o (by have:=b.o.2.2;rw[CK,Cn]at this;exact this));have HE:=O m.o.1;have HM:=O m.o.2;clear m o;go_wp2_with fail
   go_ret;exact⟨q,by rw[<-HE.o];rfl,⟨b.o.1,b.o.2.1,HM.o⟩,hA2,Jl (Yc j _) u⟩
 . have H:=O (MD d ro (n+3) cap (DU xs ro (n+3) q) a (n+2) cb bs w2 hA2 (UY B.o b.o.2.1) (by rw[JR b.o.1 i.o];exact i.o) x Z Z (Row.grown (Row.below z.o j) u r.o) R.o r.o);have Ql:1<=g:=by
    rcases Ca g with h|h
    . exfalso
      have h1:=b.o.2.2;have h2:=Yv b.o.2.1;rw[b.o.1]at h2;rw[h,CK,Fs]at h1;omega
    . exact h
   obtain⟨p,hp⟩:=ex (g-1:Nat);have ak:(g:Int)-1=(p:Int):=Z
   have am:IntKind.u64.wrap (p:Int)=(p:Int):=by rw[BV];unfold Y at W;omega
   have HP:=O hp;clear hp Ql;go_wp2_with(go_at_call 164;refine H.o.mono ?_;rintro e w3 ⟨c3,q3,rfl,ad,hA3,ai⟩;have f:=O ad;clear ad H)
   go_ret;have v:=SP o.o (P:=Y^(n+3)) (by have:=b.o.2.2;rw[Fs]at this;exact this) (by have:=Yv b.o.2.1;rw[b.o.1]at this;exact this) (q2:=val Y q3) (c2:=c3)
    (by
     have S:=f.o.2.2.2;rw[UW b.o.1 i.o,Ag (show bs.length<=n+3 by rw[<-Qj.o];omega)]at S;exact S)
    (by have:=Yv f.o.2.1;rw[f.o.1]at this;exact this) f.o.2.2.1
   rw[HP.o]at v;rw[UX b.o.1 i.o]at hA3;exact⟨q3,by rw[<-v.2.1];rfl,⟨f.o.1,f.o.2.1,v.2.2⟩,hA3,Jl (Jl (Yc j _) u) ai⟩
attribute [local go_sem] Oper.semAt_some
theorem O2{bs:List Nat}{d L:Nat}(j:DN Y bs)(hl:bs.length=l+2)(f:bs[l+1]?.getD 0=d)(c:2^(L-1)<=d)(e:d<2^L)(m:1<=L)(k:L<=64)(hs:s=64-L):
 val Y bs*2^s<Y^(l+2)/\2^63*Y^(l+1)<=val Y bs*2^s:=by
 have o:val Y bs=val Y (bs.take (l+1))+Y^(l+1)*d:=by
  have h:=Jv Y bs (l+1);rwa[Ag Z,f]at h
 have n:=Yt j (l+1);have g:2^L*2^s=Y:=by rw[<-CE,Gq];congr 1;omega
 have i:2^(L-1)*2^s=2^63:=by rw[<-CE];congr 1;omega
 constructor
 . have b:val Y bs+1<=Y^(l+1)*2^L:=by
    have:=As (Y^(l+1)) (show d+1<=2^L from e);rw[AO,Fs]at this;omega
   have a:=Am (2^s) b;rw[AG,g,<-AY,AD,Ct]at a;exact AJ (Nat.lt_add_of_pos_right (A8 s)) a
 . have b:Y^(l+1)*2^(L-1)<=val Y bs:=by
    have:=As (Y^(l+1)) c;omega
   have a:=Am (2^s) b;rw[AG,i,Av]at a;exact a
theorem U0(i:DN Y c)(hl:c.length=l+3)(b:val Y c=V)(d:V<Y^(l+2))(j:2^63*Y^(l+1)<=V):
 val Y (c.take (l+2))=V/\Y<=2*(c.take (l+2))[l+1]?.getD 0:=by
 have g:=MR (B:=Y) (k:=l+2) (D:=c) Z (by rw[b];exact d);have a:val Y (c.take (l+2))=V:=by
  have h:=val_append Y (c.take (l+2)) (c.drop (l+2));rw[Ci,g,CK,Cn,b]at h;exact h.symm
 refine⟨a,?_⟩;rw[AX Z];have e:=Jv Y c (l+1);have m:=Yt i (l+1);rw[show l+1+1=l+2 from rfl,a]at e;rcases AZ (c[l+1]?.getD 0) (2^63)with h|h
 . exfalso
   have f:=As (Y^(l+1)) (show c[l+1]?.getD 0+1<=2^63 from h);rw[AO,Fs,Av _ (2^63)]at f;omega
 . rw[Gq];omega
theorem U1{m la:Nat}(c:m<Y^la)(d:Y^(l+1)<=n)(hl:l+1<=la):m*2^s<n*2^s*Y^(la-(l+1)):=by
 have b:Y^(l+1)*Y^(la-(l+1))=Y^la:=by rw[<-CE];congr 1;omega
 have a:=Am (Y^(la-(l+1))) d;rw[b]at a;rw[Nat.mul_right_comm];exact Nat.mul_lt_mul_of_pos_right (AJ c a) (A8 s)
theorem JO{P:Program}{c:Array Oper}{Q:Exit->Act->I->Prop}{i:Nat}{o:Oper}{K:Act->I->Prop}{a:Act}(e:c[i]?=some o)(d:o.guard=none)
(h:∀b:Act->I->Prop,(∀a w,K a w->b a w)->o.wp P a w b Q):wpOp P c Q i K a w:=by
 unfold wpOp;rw[e];simp only[Region.wanted,d,if_true];exact Or.inl (h K λ_ _ h=>h)
theorem EO{p q:Prop}(k:q)(h:Hid q->p:=by intro x;refine JO rfl rfl λK a=>?_;go_simp;refine a _ _ ?_;(repeat apply Exists.intro);refine ⟨rfl,?_⟩;exact x.o):p:=h k
def F5(V:I)(base:Nat)(v:Value)(g len b:Nat)(a:List Nat):Prop:=
 v=C (some ⟨g,0,none⟩) len len/\DO V g a/\a.length=len/\DN Y a/\val Y a=b/\base<=g
theorem F5.below{V V':I}{base g len b:Nat}{v:Value}{a:List Nat}(h:F5 V base v g len b a)(c:Bl V V'):F5 V' base v g len b a:=
 ⟨h.1,h.2.1.below c,h.2.2⟩
theorem F5.box{V:I}{u:Value}(h:F5 V base v g len f c)(hl:0<len)(d:Boxed V B 61 (C none 0 0)):F5 (V.setCell ⟨B,0,none⟩ u) base v g len f c:=
 ⟨h.1,h.2.1.far (by
  intro e;simp only at e;obtain⟨i,b⟩:=h.2.1;rw[e,show V.heap[B]?=_ from d]at b;obtain⟨z,a,rfl⟩:∃z a,c=z::a:=by
   cases c with
    |nil=>have:=h.2.2.1;simp at this;omega
    |cons z a=>exact⟨z,a,rfl⟩
  simp[cellsOf]at b) u,h.2.2⟩
theorem F5.ne_box{V:I}{b:Option Addr}{k i:Nat}(h:F5 V base v g len f c)(hl:0<len)(j:Boxed V B 61 (C b k i)):g≠B:=by
 intro e;obtain⟨l,d⟩:=h.2.1;rw[e,show V.heap[B]?=_ from j]at d;obtain⟨z,a,rfl⟩:∃z a,c=z::a:=by
  cases c with
  |nil=>have:=h.2.2.1;simp at this;omega
  |cons z a=>exact⟨z,a,rfl⟩
 simp[cellsOf]at d
end
section
structure SplC where
 w:World
 bs:Value
 rs:Value
 ds:Value
 qs:Value
 B9:Nat
 B10:Nat
 B11:Nat
 B12:Nat
 gR:Nat
 gZ:Nat
 gQ:Nat
 Zb:List Nat
structure SplC.Apart(c:SplC):Prop where
 r0:c.gR≠c.w.heap.size
 r9:c.gR≠c.B9
 r10:c.gR≠c.B10
 r11:c.gR≠c.B11
 r12:c.gR≠c.B12
 rz:c.gR≠c.gZ
 rq:c.gR≠c.gQ
 q0:c.gQ≠c.w.heap.size
 q9:c.gQ≠c.B9
 q10:c.gQ≠c.B10
 q11:c.gQ≠c.B11
 q12:c.gQ≠c.B12
 qz:c.gQ≠c.gZ
 lr:c.w.heap.size<=c.gR
 lq:c.w.heap.size<=c.gQ
structure SplC.Holds(c:SplC)(W:World):Prop where
 b0:Boxed W c.w.heap.size 61 c.bs
 b9:Boxed W c.B9 61 c.rs
 b10:Boxed W c.B10 61 c.ds
 b11:Boxed W c.B11 61 c.qs
 b12:Boxed W c.B12 61 c.qs
 z:DO W c.gZ c.Zb
 B:Below c.w.heap.size c.w W
theorem SplC.Holds.kept{c:SplC}{W W':I}{g:Nat}(h:c.Holds W)(a:W.grownBy W' (some g))(b:g≠c.w.heap.size)(j:g≠c.B9)(d:g≠c.B10)(f:g≠c.B11)(i:g≠c.B12)(k:g≠c.gZ)(hl:c.w.heap.size<=g):c.Holds W':=
 ⟨h.b0.kept a (λe=>by injection e with e;exact b e.symm),h.b9.kept a (λe=>by injection e with e;exact j e.symm),h.b10.kept a (λe=>by injection e with e;exact d e.symm),h.b11.kept a (λe=>by injection e with e;exact f e.symm),
  h.b12.kept a (λe=>by injection e with e;exact i e.symm),h.z.kept a (λe=>by injection e with e;exact k e.symm),below_grown h.B a hl⟩
theorem SplC.Holds.drew{c:SplC}{W:I}(h:c.Holds W):c.Holds W.drew:=
 ⟨h.b0,h.b9,h.b10,h.b11,h.b12,h.z,h.B.drew⟩
variable{f:Bool}{D D' Q Q':List Nat}{B:Nat}{W W' W0:I}
theorem SplC.own(c:SplC)(d:c.w.heap.size<=B):OwnFrom B (λ(_:Nat) W=>c.Holds W):=λk W W' row hs a b=>
 ⟨Xi hs.b0 a b,Xi hs.b9 a b,Xi hs.b10 a b,Xi hs.b11 a b,Xi hs.b12 a b,Iv hs.z a b,On d k W W' row hs.B a b⟩
def O3(c:SplC)(R0 V n K:Nat)(k:Nat)(W:I):Prop:=
 c.Holds W/\∃D Q,DO W c.gR D/\DO W c.gQ Q/\X3 R0 V n K (K-k) D Q
theorem U2(c:SplC)(R0 V n K:Nat)(g:c.w.heap.size<=B):OwnFrom B (O3 c R0 V n K):=
 BN (c.own g) (λ_ _ _ _ hs a b=>by obtain⟨D,Q,d,e,f⟩:=hs;exact⟨D,Q,Iv d a b,Iv e a b,f⟩)
structure SplM(c:SplC)(W0:World)(D D' Q Q':List Nat)(e f:Bool)(W:World):Prop where
 k:KeepsOthers W0 W
 h:c.Holds W
 r:DO W c.gR (bif e then D' else D)
 q:DO W c.gQ (bif f then Q' else Q)
theorem SplM.drew{c:SplC}{W0 W:I}{D D' Q Q':List Nat}{e f:Bool}(h:SplM c W0 D D' Q Q' e f W):SplM c W0 D D' Q Q' e f W.drew:=
 ⟨h.k.trans (KeepsOthers.drew W),h.h.drew,h.r,h.q⟩
theorem U3{g:Nat}{xs:List Nat}(b:DO W g xs)(c:W.grownBy W' (some g)):KeepsOthers W W':=
 KeepsOthers.of_grownBy c λj o a d=>by cases a;exact b.other d
theorem SplM.any{c:SplC}(h:SplM c W0 D D' Q Q' false f W)(a:List Nat):SplM c W0 D a Q Q' false f W:=⟨h.k,h.h,h.r,h.q⟩
theorem SplM.split{c:SplC}(h:SplM c W0 D D' Q Q' false f W)(a:c.Apart)(b:W.grownBy W' (some c.gR))(d:DO W' c.gR D'):SplM c W0 D D' Q Q' true f W':=
 ⟨h.k.trans (U3 h.r b),h.h.kept b a.r0 a.r9 a.r10 a.r11 a.r12 a.rz a.lr,d,h.q.kept b λe=>by injection e with e;exact a.rq e.symm⟩
theorem SplM.store{c:SplC}{e:Bool}(h:SplM c W0 D D' Q Q' e false W)(a:c.Apart){j v:Nat}(d:Q.set j v=Q'):SplM c W0 D D' Q Q' e true (W.setCell ⟨c.gQ,j,none⟩ (F G (v:Nat))):=
 have b:=JJ W c.gQ j (F G (v:Nat))
 ⟨h.k.trans (BL _ _ _),h.h.kept b a.q0 a.q9 a.q10 a.q11 a.q12 a.qz a.lq,h.r.kept b (λe=>by injection e with e;exact a.rq e),by have:=h.q.set j v;rw[cond_false,d]at this;exact this⟩
attribute [local go_sem] Oper.semAt_some
theorem U4(a:Option Addr)(la ca:Nat)(r t l lb l1 cb m n d s:Nat)(w:I)(fj:lb=l+2)(h2:(lb:Int)-1=l1)(ft:r<w.heap.size)
(ra:Row G w (C a la ca) (Jg Y m))(rb:Row G w (C (some ⟨r,t,none⟩) lb cb) (Jg Y n))
(kb:w.cell? ⟨r,t+l1,none⟩=some (F G (d:Nat)))(fu:d<Y)(hs:s<=63)(HS:Hid ((64:Int)-(Lib.bitLen d:Int)=(s:Int)))(gk:lb<=la)(fv:la<1099511627776)
(fe:Hid (n*2^s<Y^(l+2)))(ff:Hid (2^63*Y^(l+1)<=n*2^s))(fs:Hid (m*2^s<n*2^s*Y^(la-(l+1)))):
 Calls M 146 #[C a la ca,C (some ⟨r,t,none⟩) lb cb] w λe w'=>∃u v,e=.returned (.tuple #[u,v])/\UN w' u (m/n)/\UN w' v (m%n)/\Bl w w':=by
 have Uf:Tryz.prog.follows .mixedOrders=true:=by kernel_rfl
 have Qc:=O fj;have i1:IntKind.i64.wrap ((lb:Int)-1)=(l1:Int):=by rw[h2];exact Bb _ Z
 have i3:IntKind.i64.wrap (l1:Int)=(l1:Int):=Bb _ Z;have j1:(l1:Int)<(lb:Int):=Z
 have j9:(0:Int)<=(l1:Int):=Z
 have gn:¬(lb=1):=Z
 have Qg:Bl w (w.alloc (.cells #[C (some ⟨r,t,none⟩) lb cb] 61)):=Ba w _;have Qf:=BM w 61 (C (some ⟨r,t,none⟩) lb cb);obtain⟨W0,ck⟩:=ex (w.alloc (.cells #[C (some ⟨r,t,none⟩) lb cb] 61));have Qs:W0.heap.size=w.heap.size+1:=by rw[<-ck];simp
 rw[ck]at Qg Qf;have Ur:=Qf.cell;have Wa:=(Qg.cell (p:=⟨r,t+l1,none⟩) ft).trans kb;have Qr:=O λ(V:I) (h:Bl W0 V)=>Om a la ca (Jg Y m) s V hs (Row.below (Row.below ra Qg) h) (Ju Jf m) fv;have Qp:=O λ(V:I) (h:Bl W0 V)=>Om (some ⟨r,t,none⟩) lb cb (Jg Y n) s V hs (Row.below (Row.below rb Qg) h) (Ju Jf n) Z;rw[Js Jf]at Qr Qp;have Ub:=O ck;have Ua:=O (show ∀V:I,Calls M 166 #[F G (d:Nat)] V λe w'=>e=.returned (F N (s:Nat))/\w'=V from λV=>by
  have h:=Tryz.bits_LeadingZeros64 (d:Nat) V Z (by unfold Y at fu;omega);rw[CP,HS.o]at h;exact h)
 have gv:IntKind.u64.wrap (s:Int)=(s:Int):=Bj _ Z;have Us:=O Qs;clear ck fj ra rb kb HS;refine(BG (n:=3)).1 ?_;refine BT Tryz.func146 rfl trivial ?_ rfl;simp only[Tryz.ntmps146,Ar,Ao,AF,Nat.reduceAdd,Nat.reduceSub,AA,AB,AR,AH,At,AE];refine wpIn_wide.2 ?_;go_upto_region 1 with fail
 rw[Ub.o];clear Ub Qs;go_upto_region 8 with(go_at_call 166;refine(Ua.o _).mono ?_;rintro e w' ⟨rfl,e1⟩;have e2:=e1.symm;subst e2;clear e1)
 refine Jm Uf [[],[],[0,1],[],[],[3,4,2],[],[6],[5,7],[],[],[9,2,5,0,1,2,9,10],[10,8,11,0,1,2,3,4,5,6,7,8,9,10,11]] (by kernel_rfl) DL
  (λD ac V=>∃t9 aw ay az ba bc bf bz bg bh ce:Value,ac={ tmps:=#[C a la ca,C (some ⟨r,t,none⟩) lb cb,E,L (some ⟨w.heap.size,0,none⟩),C none 0 0,C none 0 0,E,E,F G (s:Nat),t9,aw,E,E,C a la ca,F N (la:Nat),C (some ⟨r,t,none⟩) lb cb,F N (lb:Nat),.bool false,E,E,C (some ⟨r,t,none⟩) lb cb,F N (lb:Nat),.bool false,E,E,E,E,E,E,E,E,E,E,E,E,C (some ⟨r,t,none⟩) lb cb,C (some ⟨r,t,none⟩) lb cb,F N (lb:Nat),F N (l1:Nat),L (some ⟨r,t+l1,none⟩),F G (d:Nat),F N (s:Nat),F G (s:Nat),ay,az,ba,bc,bf,bz,bg,bh,ce,E,E,E,E,E,E,E,E,E,E,E,E,E,E,E,E,E,E,E,E,E,E,E,E,E,E,E,E],defers:=[] }/\Hid (D 0=true->ay=C a la ca)/\Hid (D 1=true->az=F G (s:Nat))/\Hid (D 2=true->∃g bi,F5 V W0.heap.size ba g (la+1) (m*2^s) bi)/\Hid (D 3=true->bc=C (some ⟨r,t,none⟩) lb cb)/\Hid (D 4=true->bf=F G (s:Nat))/\Hid (D 5=true->∃gR Zr gZ Zb,F5 V W0.heap.size ba gR (la+1) (m*2^s) Zr/\F5 V W0.heap.size bz gZ (lb+1) (n*2^s) Zb/\gR≠gZ)/\Hid (D 6=true->bg=C (some ⟨r,t,none⟩) lb cb)/\Hid (D 7=true->bh=F N (lb:Nat))/\Hid (D 8=true->∃gZ,bz=C (some ⟨gZ,0,none⟩) (lb+1) (lb+1)/\ce=C (some ⟨gZ,0,none⟩) lb (lb+1))/\Hid (D 9=true->D 11=false->∃B,t9=L (some ⟨B,0,none⟩)/\Boxed V B 61 (C none 0 0)/\W0.heap.size<=B)/\Hid (D 10=true->D 12=false->∃B,aw=L (some ⟨B,0,none⟩)/\Boxed V B 61 (C none 0 0)/\W0.heap.size<=B)/\Hid (D 9=true->D 10=true->t9≠aw)/\Hid (D 11=true->∃B,t9=L (some ⟨B,0,none⟩)/\Boxed V B 61 ba/\W0.heap.size<=B)/\Hid (D 12=true->∃B,aw=L (some ⟨B,0,none⟩)/\Boxed V B 61 ce/\W0.heap.size<=B)/\Bl W0 V)
  (E8 ⟨_,_,_,rfl,O Dl,O Dl,O Dl,O Dl,O Dl,O Dl,O Dl,O Dl,O Dl,O Dl,O Dl,O Dl,O Dl,O Dl,(BE _ W0).drew⟩) ?step8 ?fin8
 case step8=>
  rintro D a2 V i ds ah f8 b ai ⟨t9,aw,ay,az,ba,bc,bf,bz,bg,bh,ce,rfl,A,P,g2,R,S,o,T,U,X,z,x,gx,ae,af,hq⟩;have Qx:i<13:=(Af.1 f8).1;obtain rfl|rfl|rfl|rfl|rfl|rfl|rfl|rfl|rfl|rfl|rfl|rfl|rfl:=LW i Z
  all_goals
   simp only[Ai,Ah,Ak]at f8;subst f8;clear Qx
  . clear b ah;refine EO ?_;exact⟨O λ_=>rfl,P,g2,R,S,o,T,U,X,z,x,gx,ae,af,hq⟩
  . clear b ah;refine EO ?_;exact⟨A,O λ_=>rfl,g2,R,S,o,T,U,X,z,x,gx,ae,af,hq⟩
  . have Uu:D 5=false:=DM ah ai;have Qb:D 11=false:=DM ah ai;have Qa:D 12=false:=DM ah ai;obtain rfl:=A.o (b 0 J);obtain rfl:=P.o (b 1 J);clear b ah;refine JO rfl rfl λK hK=>?_;go_simp;go_wp2_with(go_at_call 168;refine(Qr.o _ hq).mono ?_;rintro e w5 ⟨o,Z5,rfl,⟨ei,et,ew⟩,hA5,bt,ap⟩)
    exact E8 ⟨_,_,_,rfl,O λ_=>rfl,O λ_=>rfl,O λ_=>⟨o,Z5,rfl,hA5,ei,et,ew,Aw hq.size bt⟩,R,S,O (λh=>by simp[Uu]at h),T,U,X,O (λh h2=>by obtain⟨B,e,q,q2⟩:=z.o h h2;exact⟨B,e,boxed_below q ap,q2⟩),O (λh h2=>by obtain⟨B,e,q,q2⟩:=x.o h h2;exact⟨B,e,boxed_below q ap,q2⟩),gx,O (λh=>by simp[Qb]at h),O (λh=>by simp[Qa]at h),Bt hq ap⟩
  . have k0:=(boxed_below Qf hq).cell;clear b ah;refine EO ?_;exact⟨A,P,g2,O λ_=>rfl,S,o,T,U,X,z,x,gx,ae,af,hq⟩
  . clear b ah;refine EO ?_;exact⟨A,P,g2,R,O λ_=>rfl,o,T,U,X,z,x,gx,ae,af,hq⟩
  . have Up:D 8=false:=DM ah ai;have Qb:D 11=false:=DM ah ai;have Qa:D 12=false:=DM ah ai;obtain rfl:=R.o (b 3 J);obtain rfl:=S.o (b 4 J);obtain⟨gR,Zr,hR⟩:=g2.o (b 2 J);have gi:=hR.2.1.lt;clear b ah;refine JO rfl rfl λK hK=>?_;go_simp;go_wp2_with(go_at_call 168;refine(Qp.o _ hq).mono ?_;rintro e w5 ⟨o,Z5,rfl,⟨ei,et,ew⟩,hA5,bt,ap⟩)
    exact⟨_,_,_,_,_,_,_,_,_,_,_,rfl,A,P,O λ_=>⟨gR,Zr,hR.below ap⟩,O λ_=>rfl,O λ_=>rfl,O λ_=>⟨gR,Zr,o,Z5,hR.below ap,⟨rfl,hA5,ei,et,ew,Aw hq.size bt⟩,Z⟩,T,U,O (λh=>by simp[Up]at h),O (λh h2=>by obtain⟨B,e,q,q2⟩:=z.o h h2;exact⟨B,e,boxed_below q ap,q2⟩),O (λh h2=>by obtain⟨B,e,q,q2⟩:=x.o h h2;exact⟨B,e,boxed_below q ap,q2⟩),gx,O (λh=>by simp[Qb]at h),O (λh=>by simp[Qa]at h),Bt hq ap⟩
  . have k0:=(boxed_below Qf hq).cell;clear b ah;refine EO ?_;exact⟨A,P,g2,R,S,o,O λ_=>rfl,U,X,z,x,gx,ae,af,hq⟩
  . obtain rfl:=T.o (b 6 J);clear b ah;refine EO ?_;exact⟨A,P,g2,R,S,o,O λ_=>rfl,O λ_=>rfl,X,z,x,gx,ae,af,hq⟩
  . have Qa:D 12=false:=DM ah ai;obtain⟨gR,Zr,gZ,Zb,hR,hZ,av⟩:=o.o (b 5 J);obtain rfl:=hZ.1;obtain rfl:=U.o (b 7 J);have b1:(0:Int)<=(lb:Int):=Z
    have b2:(lb:Int)<=(lb:Int)+1:=Z
    clear b ah;refine EO ?_;exact⟨A,P,g2,R,S,O λ_=>⟨gR,Zr,gZ,Zb,hR,hZ,av⟩,T,O λ_=>rfl,O λ_=>⟨gZ,rfl,rfl⟩,z,x,gx,ae,O (λh=>by simp[Qa]at h),hq⟩
  . have Qb:D 11=false:=DM ah ai;have Qa:D 12=false:=DM ah ai;clear b ah;refine EO ?_;exact⟨A,P,O (λh=>by obtain⟨g,bi,q⟩:=g2.o h;exact⟨g,bi,q.below (Ba V _)⟩),R,S,O (λh=>by obtain⟨gR,Zr,gZ,Zb,q1,q2,q3⟩:=o.o h;exact⟨gR,Zr,gZ,Zb,q1.below (Ba V _),q2.below (Ba V _),q3⟩),T,U,X,O λ_ _=>⟨_,rfl,BM _ _ _,hq.size⟩,O (λh h2=>by obtain⟨B,e,q,q2⟩:=x.o h h2;exact⟨B,e,q.alloc _,q2⟩),O (λ_ h e=>by obtain⟨B,e2,q,q2⟩:=x.o (by simpa using h) Qa;have:=q.lt;rw[e2]at e;cases e;omega),O (λh=>by simp[Qb]at h),O (λh=>by simp[Qa]at h),hq.alloc hq.size _⟩
  . have Qb:D 11=false:=DM ah ai;have Qa:D 12=false:=DM ah ai;clear b ah;refine EO ?_;exact⟨A,P,O (λh=>by obtain⟨g,bi,q⟩:=g2.o h;exact⟨g,bi,q.below (Ba V _)⟩),R,S,O (λh=>by obtain⟨gR,Zr,gZ,Zb,q1,q2,q3⟩:=o.o h;exact⟨gR,Zr,gZ,Zb,q1.below (Ba V _),q2.below (Ba V _),q3⟩),T,U,X,O (λh h2=>by obtain⟨B,e,q,q2⟩:=z.o h h2;exact⟨B,e,q.alloc _,q2⟩),O λ_ _=>⟨_,rfl,BM _ _ _,hq.size⟩,O (λh _ e=>by obtain⟨B,e2,q,q2⟩:=z.o (by simpa using h) Qb;have:=q.lt;rw[e2]at e;cases e;omega),O (λh=>by simp[Qb]at h),O (λh=>by simp[Qa]at h),hq.alloc hq.size _⟩
  . have Qa:D 12=false:=DM ah ai;obtain⟨B,rfl,am,bu⟩:=z.o (b 9 J) ai;obtain⟨gR,Zr,gZ,Zb,hR,hZ,av⟩:=o.o (b 5 J);have k0:=am.cell;have f0:=am.frozen;obtain⟨B2,bj,f7,fd⟩:=x.o (b 10 J) Qa;have Qt:B≠B2:=λe=>gx.o (b 9 J) (b 10 J) (by rw[bj,e]);obtain rfl:=bj;obtain rfl:=hR.1;clear z ae;clear b ah;refine EO ?_;exact⟨A,P,O λ_=>⟨gR,Zr,hR.box Z am⟩,R,S,O λ_=>⟨gR,Zr,gZ,Zb,hR.box Z am,hZ.box Z am,av⟩,T,U,X,O (λ_ h=>by simp at h),O λ_ _=>⟨B2,rfl,f7.kept (DA _ B _) (λe=>by injection e;omega),fd⟩,gx,O λ_=>⟨B,rfl,am.set _,bu⟩,O (λh=>by simp[Qa]at h),hq.setCell (p:=⟨B,0,none⟩) bu _⟩
  . obtain⟨B,rfl,am,bu⟩:=x.o (b 10 J) ai;obtain⟨gR,Zr,gZ,Zb,hR,hZ,av⟩:=o.o (b 5 J);obtain⟨fg,ci,ed⟩:=X.o (b 8 J);have k0:=am.cell;have f0:=am.frozen;obtain⟨B2,bj,f7,fd⟩:=ae.o (b 11 J);have Qt:B≠B2:=λe=>gx.o (b 9 J) (b 10 J) (by rw[bj,e]);obtain rfl:=ed;obtain rfl:=ci;obtain rfl:=bj;have Qy:=b 11 J;clear x af;clear b ah;refine EO ?_;exact⟨A,P,O λ_=>⟨gR,Zr,hR.box Z am⟩,R,S,O λ_=>⟨gR,Zr,gZ,Zb,hR.box Z am,hZ.box Z am,av⟩,T,U,O λ_=>⟨fg,rfl,rfl⟩,O (λ_ h=>by simp[Qy]at h),O (λ_ h=>by simp at h),gx,O λ_=>⟨B2,rfl,f7.kept (DA _ B _) (λe=>by injection e;omega),fd⟩,O λ_=>⟨B,rfl,am.set _,bu⟩,hq.setCell (p:=⟨B,0,none⟩) bu _⟩
 rintro D a2 f an ⟨t9,aw,ay,az,ba,bc,bf,bz,bg,bh,ce,rfl,A,P,g2,R,S,o,T,U,X,z,x,gx,ae,af,hq⟩;obtain⟨gR,Zr,gZ,Zb,hR,hZ,av⟩:=o.o (an 5 DL);obtain⟨fg,ci,ed⟩:=X.o (an 8 DL);obtain⟨B9,rfl,bn,gu⟩:=ae.o (an 11 DL);obtain⟨B10,rfl,bm,gr⟩:=af.o (an 12 DL);obtain rfl:=ed;obtain rfl:=hR.1;have e0:=hZ.1;rw[ci]at e0;cases e0;obtain rfl:=ci;clear A P g2 R S o T U X z x gx ae af an Qr Qp Ua;obtain⟨K,hK⟩:∃K:Nat,(la:Int)+1-(lb:Int)=(K:Int):=⟨la+1-lb,Z⟩;have gg:IntKind.i64.wrap (K:Int)=(K:Int):=Bb _ Z;have Ux:=IB K Z f;have k9:=bn.cell;have Ut:=bm.cell;have Qi:K+lb=la+1:=Z
 have Qm:=O Qi;clear Qi;go_wp2_with(go_at_call 152;refine((BG (n:=2)).1 (Io Fence.wide _ trivial rfl _ _ _ _)).mono ?_;rintro e w' ⟨rfl,rfl⟩)
 refine(wpIn_wide (n:=3)).1 ?_;obtain⟨WQ,aq⟩:=ex (((f.alloc (.cells (cellsOf G (List.replicate K 0)).toArray 156)).alloc (.cells #[C (some ⟨f.heap.size,0,none⟩) K K] 61)).alloc (.cells #[C (some ⟨f.heap.size,0,none⟩) K K] 61));have Uw:WQ.heap.size=f.heap.size+1+1+1:=by rw[<-aq];simp
 have Qj:Bl w f:=Bt Qg hq;have Qs:=Us.o;have Un:Bl w WQ:=by rw[<-aq];exact((Qj.alloc Qj.size _).alloc (by have:=Qj.size;simp;omega) _).alloc (by have:=Qj.size;simp;omega) _
 have lR:=hR.2.1.lt;have lZ:=hZ.2.1.lt;have l9:=bn.lt;have gw:=bm.lt;have n9:gR≠B9:=λe=>hR.ne_box Z bn e;have gy:gR≠B10:=λe=>hR.ne_box Z bm e;have fw:=hR.2.2.2.2.2;have fx:=hZ.2.2.2.2.2;obtain⟨c,hc⟩:∃c:SplC,c=⟨w,C (some ⟨r,t,none⟩) lb cb,C (some ⟨gR,0,none⟩) (la+1) (la+1),C (some ⟨gZ,0,none⟩) lb (lb+1),C (some ⟨f.heap.size,0,none⟩) K K,B9,B10,f.heap.size+1,f.heap.size+1+1,gR,gZ,f.heap.size,Zb⟩:=⟨_,rfl⟩;have Ue:c.Apart:=by
  rw[hc];constructor<;>(simp only;omega)
 have Uc:c.Holds WQ:=by
  rw[hc,<-aq];have Uj:=(BM (f.alloc (.cells (cellsOf G (List.replicate K 0)).toArray 156)) 61 (C (some ⟨f.heap.size,0,none⟩) K K)).alloc (.cells #[C (some ⟨f.heap.size,0,none⟩) K K] 61);have Ug:=BM ((f.alloc (.cells (cellsOf G (List.replicate K 0)).toArray 156)).alloc (.cells #[C (some ⟨f.heap.size,0,none⟩) K K] 61)) 61 (C (some ⟨f.heap.size,0,none⟩) K K);simp only[BA]at Uj Ug;exact⟨(((boxed_below Qf hq).alloc _).alloc _).alloc _,((bn.alloc _).alloc _).alloc _,((bm.alloc _).alloc _).alloc _,Uj,Ug,((hZ.2.1.alloc _).alloc _).alloc _,by rw[aq];exact Un⟩
 have Ui:DO WQ gR Zr:=by rw[<-aq];exact((hR.2.1.alloc _).alloc _).alloc _
 have Qz:DO WQ f.heap.size (List.replicate K 0):=by rw[<-aq];exact((DO.made (BD f _)).alloc _).alloc _
 have Qu:X3 (m*2^s) (n*2^s) lb K K Zr (List.replicate K 0):=X3.start (by have:=Qm.o;rw[hR.2.2.1];omega) hR.2.2.2.1 hR.2.2.2.2.1 (by
  have h:=fs.o;rwa[show la-(l+1)=K from by have:=Qm.o;have:=Qc.o;omega]at h)
 obtain⟨fc,fl⟩:=U0 hZ.2.2.2.1 (by rw[hZ.2.2.1,Qc.o]) hZ.2.2.2.2.1 fe.o ff.o;have Uy:0<n*2^s:=by
  have h:=ff.o;have:=FK (A8 63) (CA (n:=l+1) (show 0<Y by unfold Y;omega));omega
 have Qh:n*2^s<Y^lb:=by rw[Qc.o];exact fe.o
 have Uq:=hZ.2.2.2.1;have gj:=hZ.2.2.1;rw[aq];clear aq Ux bn bm Qf Ur k9 Ut hR hZ hq Qj Wa;refine YI rfl Z (gf:=174) (lb:=#[L (some ⟨f.heap.size+1+1,0,none⟩)]) rfl trivial (B0 Tryz.func174 (by kernel_rfl) rfl)
  (Im Fence.wide _ trivial rfl Z (f.heap.size+1+1) (some ⟨f.heap.size,0,none⟩) K K (λ_=>0) Z) (λ_=>rfl)
  (O3 c (m*2^s) (n*2^s) lb K) (λ_ _ _=>False) (U2 c _ _ _ _ (by rw[hc,Uw];simp only;omega)) (λc _ _ _ _ h _ _=>h.elim)
  ⟨Uc,Zr,List.replicate K 0,by rw[hc];exact Ui,by rw[hc];exact Qz,by rw[Fa];exact Qu⟩ ?rd
  (λk=>{ tmps:=#[C a la ca,C (some ⟨r,t,none⟩) lb cb,E,L (some ⟨w.heap.size,0,none⟩),C none 0 0,C none 0 0,E,E,F G (s:Nat),L (some ⟨B9,0,none⟩),L (some ⟨B10,0,none⟩),L (some ⟨f.heap.size+1,0,none⟩),F N ((K:Int)-1-k),C a la ca,F N (la:Nat),C (some ⟨r,t,none⟩) lb cb,F N (lb:Nat),.bool false,E,E,C (some ⟨r,t,none⟩) lb cb,F N (lb:Nat),.bool false,E,E,E,E,E,E,E,E,E,E,E,E,C (some ⟨r,t,none⟩) lb cb,C (some ⟨r,t,none⟩) lb cb,F N (lb:Nat),F N (l1:Nat),L (some ⟨r,t+l1,none⟩),F G (d:Nat),F N (s:Nat),F G (s:Nat),ay,az,C (some ⟨gR,0,none⟩) (la+1) (la+1),bc,bf,C (some ⟨gZ,0,none⟩) (lb+1) (lb+1),bg,bh,C (some ⟨gZ,0,none⟩) lb (lb+1),C (some ⟨gR,0,none⟩) (la+1) (la+1),F N ((la:Int)+1),C (some ⟨gZ,0,none⟩) lb (lb+1),F N (lb:Nat),F N (K:Nat),C (some ⟨f.heap.size,0,none⟩) K K,C (some ⟨f.heap.size,0,none⟩) K K,.func (.func 174) #[] #[L (some ⟨f.heap.size+1+1,0,none⟩)],F N ((K:Int)-1-k),F G 0,E,E,E,E,E,E,E,E,E,E,E,E,E,E,E,E,E,E],defers:=[] }) ?assign ?body ?done ?stop
 case rd=>
  rintro k W ⟨hh,D,Q,_,hQ,hL⟩;have Ud:=hh.b12;rw[hc]at Ud hQ;refine⟨Ud.cell,λhk=>⟨f.heap.size,0,rfl,?_⟩⟩;rw[A9,hQ.cell (j:=K-1-k) (by rw[hL.2.2.1];omega),hL.2.2.2.2.2.2 (K-1-k) Z]
 case assign=>
  intro l k W K hK;unfold XP;gi_wp2;exact hK
 case stop=>
  rintro D c k W _ _ h _;exact h.elim
 case body=>
  rintro l' k W ⟨hh,D,Q,hD,hQ,hL⟩ hk gq;have Uh:K-k=K-1-k+1:=Z
  rw[Uh]at hL;have e1:((K:Int)-1-k)=((K-1-k:Nat):Int):=Z
  have HI:=O (show K-(k+1)=K-1-k by omega);have Qn:K-1-k<K:=Z
  rw[e1];obtain⟨i,hi⟩:=ex (K-1-k);rw[hi]at hL Qn HI ⊢;clear Uh e1 hi;obtain⟨w1,w2,w3⟩:=hL.win Qn Qh;have Uv:=hL.1;have gh:=hL.2.2.1;have Um:=O (show ∀(V:I) (nn:Nat),DO V gR D->DO V gZ Zb->CallsIn (Fence.wide.inRound l') nn M 169 #[C (some ⟨gR,i,none⟩) (lb+1) (la+1-i),C (some ⟨gZ,0,none⟩) lb (lb+1)] V λe w'=>
   ∃q,e=.returned (F G ((val Y ((D.drop i).take (lb+1))/(n*2^s):Nat):Int))/\(q.length=lb+1/\DN Y q/\val Y q=val Y ((D.drop i).take (lb+1))%(n*2^s))/\DO w' gR (DU D i (lb+1) q)/\V.grownBy w' (some gR)from λV nn h1 h2=>by
   have Qi:=Qm.o;have hz:=h2.row 0 lb (lb+1) Z Z Z Z;have Qw:=UZ gR i l (la+1-i) D (some ⟨gZ,0,none⟩) (lb+1) (Zb.take (l+2)) V h1 hL.2.1 (by rw[Uv];have:=Qc.o;omega) (by have:=Qc.o;omega) Z (by have:=Qc.o;omega)
    (by rw[AQ,Qc.o]at hz;rw[Qc.o];exact hz) (Uq.take _) (λp e _=>by cases e;exact λh=>av h.symm) fl (by rw[fc];have:=w1;rw[Qc.o]at this;exact this)
   rw[fc]at Qw;have e3:l+3=lb+1:=by rw[Qc.o]
   have e2:l+2=lb:=Qc.o.symm;rw[e3,e2]at Qw;exact BX l' ((BG (n:=nn)).2 Qw))
  have Uo:=O λ(q:List Nat) (h1:q.length=lb+1) (h2:DN Y q) (h3:val Y q=val Y ((D.drop i).take (lb+1))%(n*2^s))=>hL.step Qn Qh h1 h2 h3 Uy;obtain⟨qd,fk⟩:=ex (val Y ((D.drop i).take (lb+1))/(n*2^s));rw[fk]at Uo Um;clear fk w1 w2 w3 hL fc fl Qu;obtain⟨H1,fy⟩:∃H1:Nat,(i:Int)+(lb:Int)=(H1:Int):=⟨i+lb,Z⟩;obtain⟨H,hH⟩:∃H:Nat,(H1:Int)+1=(H:Int):=⟨H1+1,Z⟩;have gb:H-i=lb+1:=Z
  have y1:(i:Int)<=(H:Int):=Z
  have y2:(H:Int)<=(la:Int)+1:=Z
  have y3:(0:Int)<=(i:Int):=Z
  have y4:(i:Int)<(K:Int):=Z
  have y5:IntKind.i64.wrap (H1:Int)=(H1:Int):=Bb _ Z;have y6:IntKind.i64.wrap (H:Int)=(H:Int):=Bb _ Z;gi_wp2_with fail
  refine J0 Uf [[],[],[],[],[],[],[5],[4,6],[7],[2,3,8],[],[9,10],[0,1,0,1,2,3,4,5,6,7,8,9,10,11],[12,11,11,0,1,2,3,4,5,6,7,8,9,10,11]] (by kernel_rfl) DL
   (λDD ac V=>∃cl cn co ct da db df dh di dj dm dt du:Value,ac={ tmps:=#[C a la ca,C (some ⟨r,t,none⟩) lb cb,E,L (some ⟨w.heap.size,0,none⟩),C none 0 0,C none 0 0,E,E,F G (s:Nat),L (some ⟨B9,0,none⟩),L (some ⟨B10,0,none⟩),L (some ⟨f.heap.size+1,0,none⟩),F N (i:Nat),C a la ca,F N (la:Nat),C (some ⟨r,t,none⟩) lb cb,F N (lb:Nat),.bool false,E,E,C (some ⟨r,t,none⟩) lb cb,F N (lb:Nat),.bool false,E,E,E,E,E,E,E,E,E,E,E,E,C (some ⟨r,t,none⟩) lb cb,C (some ⟨r,t,none⟩) lb cb,F N (lb:Nat),F N (l1:Nat),L (some ⟨r,t+l1,none⟩),F G (d:Nat),F N (s:Nat),F G (s:Nat),ay,az,C (some ⟨gR,0,none⟩) (la+1) (la+1),bc,bf,C (some ⟨gZ,0,none⟩) (lb+1) (lb+1),bg,bh,C (some ⟨gZ,0,none⟩) lb (lb+1),C (some ⟨gR,0,none⟩) (la+1) (la+1),F N ((la:Int)+1),C (some ⟨gZ,0,none⟩) lb (lb+1),F N (lb:Nat),F N (K:Nat),C (some ⟨f.heap.size,0,none⟩) K K,C (some ⟨f.heap.size,0,none⟩) K K,.func (.func 174) #[] #[L (some ⟨f.heap.size+1+1,0,none⟩)],F N (i:Nat),F G 0,cl,cn,co,ct,da,db,df,dh,di,dj,dm,dt,du,E,E,E,E,E],defers:=[] }/\Hid (DD 0=true->cl=C (some ⟨f.heap.size,0,none⟩) K K)/\Hid (DD 1=true->cn=F N (i:Nat))/\Hid (DD 2=true->co=C (some ⟨gR,0,none⟩) (la+1) (la+1))/\Hid (DD 3=true->ct=F N (i:Nat))/\Hid (DD 4=true->da=F N (i:Nat))/\Hid (DD 5=true->db=C (some ⟨r,t,none⟩) lb cb)/\Hid (DD 6=true->df=F N (lb:Nat))/\Hid (DD 7=true->dh=F N (H1:Nat))/\Hid (DD 8=true->di=F N (H:Nat))/\Hid (DD 9=true->dj=C (some ⟨gR,i,none⟩) (lb+1) (la+1-i))/\Hid (DD 10=true->dm=C (some ⟨gZ,0,none⟩) lb (lb+1))/\Hid (DD 11=true->dt=F G (qd:Nat))/\Hid (DD 12=true->du=L (some ⟨f.heap.size,i,none⟩))/\∃D2,Hid (DD 11=true->∃q,(q.length=lb+1/\DN Y q/\val Y q=val Y ((D.drop i).take (lb+1))%(n*2^s))/\D2=DU D i (lb+1) q)/\SplM c W D D2 Q (Q.set i qd) (DD 11) (DD 13) V)
   (E8 ⟨_,_,_,_,_,rfl,O Dl,O Dl,O Dl,O Dl,O Dl,O Dl,O Dl,O Dl,O Dl,O Dl,O Dl,O Dl,O Dl,D,O Dl,SplM.drew ⟨KeepsOthers.refl _,hh,hD,hQ⟩⟩) ?step ?fin
  case fin=>
   rintro DD ac V an ⟨cl,cn,co,ct,da,db,df,dh,di,dj,dm,dt,du,rfl,A,P,g2,R,S,o,T,U,X,z,x,ae,af,D2,gd,y⟩;rw[an 11 DL,an 13 DL]at y;obtain⟨q,⟨f9,fa,fb⟩,rfl⟩:=gd.o (an 11 DL);refine⟨y.k.from _,y.h,DU D i (lb+1) q,Q.set i qd,y.r,y.q,?_⟩;rw[HI.o];exact Uo.o q f9 fa fb
  case step=>
   rintro DD ac V j ds ak hj b ai ⟨cl,cn,co,ct,da,db,df,dh,di,dj,dm,dt,du,rfl,A,P,g2,R,S,o,T,U,X,z,x,ae,af,D2,gd,y⟩;have Qv:j<14:=(Af.1 hj).1;obtain rfl|rfl|rfl|rfl|rfl|rfl|rfl|rfl|rfl|rfl|rfl|rfl|rfl|rfl:=FZ j Z
   all_goals
    simp only[Ai,Ah,Ak]at hj;subst hj;clear Qv
   . have b11:Boxed V (f.heap.size+1) 61 (C (some ⟨f.heap.size,0,none⟩) K K):=by have:=y.h.b11;rw[hc]at this;exact this
     have k0:=b11.cell;clear b ak;refine BO rfl λK2 ad=>?_;go_simp;exact ad _ _ (E8 ⟨_,_,_,_,_,rfl,O λ_=>rfl,P,g2,R,S,o,T,U,X,z,x,ae,af,D2,gd,y⟩)
   . clear b ak;refine BO rfl λK2 ad=>?_;go_simp;exact ad _ _ ⟨_,_,_,_,_,_,_,_,_,_,_,_,_,rfl,A,O λ_=>rfl,g2,R,S,o,T,U,X,z,x,ae,af,D2,gd,y⟩
   . have b9:Boxed V B9 61 (C (some ⟨gR,0,none⟩) (la+1) (la+1)):=by have:=y.h.b9;rw[hc]at this;exact this
     have k0:=b9.cell;clear b ak;refine BO rfl λK2 ad=>?_;go_simp;exact ad _ _ ⟨_,_,_,_,_,_,_,_,_,_,_,_,_,rfl,A,P,O λ_=>rfl,R,S,o,T,U,X,z,x,ae,af,D2,gd,y⟩
   . clear b ak;refine BO rfl λK2 ad=>?_;go_simp;exact ad _ _ ⟨_,_,_,_,_,_,_,_,_,_,_,_,_,rfl,A,P,g2,O λ_=>rfl,S,o,T,U,X,z,x,ae,af,D2,gd,y⟩
   . clear b ak;refine BO rfl λK2 ad=>?_;go_simp;exact ad _ _ ⟨_,_,_,_,_,_,_,_,_,_,_,_,_,rfl,A,P,g2,R,O λ_=>rfl,o,T,U,X,z,x,ae,af,D2,gd,y⟩
   . have b0:Boxed V w.heap.size 61 (C (some ⟨r,t,none⟩) lb cb):=by have:=y.h.b0;rw[hc]at this;exact this
     have k0:=b0.cell;clear b ak;refine BO rfl λK2 ad=>?_;go_simp;exact ad _ _ ⟨_,_,_,_,_,_,_,_,_,_,_,_,_,rfl,A,P,g2,R,S,O λ_=>rfl,T,U,X,z,x,ae,af,D2,gd,y⟩
   . obtain rfl:=o.o (b 5 J);clear b ak;refine BO rfl λK2 ad=>?_;go_simp;exact ad _ _ ⟨_,_,_,_,_,_,_,_,_,_,_,_,_,rfl,A,P,g2,R,S,O λ_=>rfl,O λ_=>rfl,U,X,z,x,ae,af,D2,gd,y⟩
   . obtain rfl:=S.o (b 4 J);obtain rfl:=T.o (b 6 J);clear b ak;refine BO rfl λK2 ad=>?_;go_simp;exact ad _ _ ⟨_,_,_,_,_,_,_,_,_,_,_,_,_,rfl,A,P,g2,R,O λ_=>rfl,o,O λ_=>rfl,O λ_=>rfl,X,z,x,ae,af,D2,gd,y⟩
   . obtain rfl:=U.o (b 7 J);clear b ak;refine BO rfl λK2 ad=>?_;go_simp;exact ad _ _ ⟨_,_,_,_,_,_,_,_,_,_,_,_,_,rfl,A,P,g2,R,S,o,T,O λ_=>rfl,O λ_=>rfl,z,x,ae,af,D2,gd,y⟩
   . obtain rfl:=g2.o (b 2 J);obtain rfl:=R.o (b 3 J);obtain rfl:=X.o (b 8 J);have gp:¬(la+1=i):=Z
     clear b ak;refine BO rfl λK2 ad=>?_;go_simp;exact ad _ _ ⟨_,_,_,_,_,_,_,_,_,_,_,_,_,rfl,A,P,O λ_=>rfl,O λ_=>rfl,S,o,T,U,O λ_=>rfl,O λ_=>rfl,x,ae,af,D2,gd,y⟩
   . have b10:Boxed V B10 61 (C (some ⟨gZ,0,none⟩) lb (lb+1)):=by have:=y.h.b10;rw[hc]at this;exact this
     have k0:=b10.cell;clear b ak;refine BO rfl λK2 ad=>?_;go_simp;exact ad _ _ ⟨_,_,_,_,_,_,_,_,_,_,_,_,_,rfl,A,P,g2,R,S,o,T,U,X,z,O λ_=>rfl,ae,af,D2,gd,y⟩
   . obtain rfl:=z.o (b 9 J);obtain rfl:=x.o (b 10 J);rw[ai]at y;have hr:DO V gR D:=by have:=y.r;rw[hc]at this;exact this
     have hz:DO V gZ Zb:=by have:=y.h.z;rw[hc]at this;exact this
     have HV:=O y;clear y;clear b ak;refine BO rfl λK2 ad=>?_;go_simp;gi_wp2_with(refine⟨trivial,?_⟩;gi_at_call 169;refine(Um.o _ _ hr hz).mono ?_;rintro e w5 ⟨q,rfl,⟨f9,fa,fb⟩,hA5,bt⟩)
     exact⟨_,_,_,_,_,_,_,_,_,_,_,_,_,rfl,A,P,g2,R,S,o,T,U,X,O λ_=>rfl,O λ_=>rfl,O λ_=>rfl,af,DU D i (lb+1) q,O λ_=>⟨q,⟨f9,fa,fb⟩,rfl⟩,SplM.split (HV.o.any _) Ue (by rw[hc];exact bt) (by rw[hc];exact hA5)⟩
   . obtain rfl:=A.o (b 0 J);obtain rfl:=P.o (b 1 J);clear b ak;refine BO rfl λK2 ad=>?_;go_simp;exact ad _ _ (E8 ⟨_,_,_,_,_,rfl,O λ_=>rfl,O λ_=>rfl,g2,R,S,o,T,U,X,z,x,ae,O λ_=>rfl,D2,gd,y⟩)
   . obtain rfl:=ae.o (b 11 J);obtain rfl:=af.o (b 12 J);rw[ai]at y;have Qk:DO V f.heap.size Q:=by have:=y.q;rw[hc]at this;exact this
     have k0:=Qk.cell (j:=i) Z;have f0:=Qk.frozen i;have Ql:SplM c W D D2 Q (Q.set i qd) (DD 11) true (V.setCell ⟨f.heap.size,i,none⟩ (F G (qd:Nat))):=by have:=y.store Ue (j:=i) (v:=qd) rfl;rw[hc]at this ⊢;exact this
     have Qo:=O Ql;clear Ql y;clear b ak;refine BO rfl λK2 ad=>?_;go_simp;exact ad _ _ ⟨_,_,_,_,_,_,_,_,_,_,_,_,_,rfl,A,P,g2,R,S,o,T,U,X,z,x,O λ_=>rfl,O λ_=>rfl,D2,gd,Qo.o⟩
 case done=>
  rintro D W hD ⟨hh,D2,Q2,an,fh,hL⟩ ad;rw[A7]at hL;obtain⟨f1,f2⟩:=hL.fin rfl rfl;have b11:Boxed W (f.heap.size+1) 61 (C (some ⟨f.heap.size,0,none⟩) K K):=by have:=hh.b11;rw[hc]at this;exact this
  have b9:Boxed W B9 61 (C (some ⟨gR,0,none⟩) (la+1) (la+1)):=by have:=hh.b9;rw[hc]at this;exact this
  have Uk:Bl w W:=by have:=hh.B;rw[hc]at this;exact this
  have hr:DO W gR D2:=by have:=an;rw[hc]at this;exact this
  have Qk:DO W f.heap.size Q2:=by have:=fh;rw[hc]at this;exact this
  have Qi:=Qm.o;have Qd:Row G W (C (some ⟨f.heap.size,0,none⟩) K K) Q2:=by
   have h1:=Qk.row 0 K K (by rw[hL.2.2.1];omega) (Aa _) Z Z;rwa[AQ,Ag (by rw[hL.2.2.1];exact Aa _)]at h1
  have Qe:Row G W (C (some ⟨gR,0,none⟩) (la+1) (la+1)) D2:=by
   have h1:=hr.row 0 (la+1) (la+1) (by rw[hL.1];omega) (Aa _) Z Z;rwa[AQ,Ag (by rw[hL.1];omega)]at h1
  have HT:=O (show ∀V:I,Bl W V->Calls M 128 #[C (some ⟨f.heap.size,0,none⟩) K K] V λe w'=>∃u,e=.returned u/\UN w' u (m/n)/\Bl V w' from λV h=>by
   have h1:=YE _ Q2 V (Row.below Qd h);rw[f1]at h1;exact h1)
  have Uz:=O (show ∀V:I,Bl W V->Calls M 170 #[C (some ⟨gR,0,none⟩) (la+1) (la+1),F G (s:Nat)] V λe w'=>∃u,e=.returned u/\UN w' u (m%n)/\Bl V w' from λV h=>by
   have h1:=UC _ _ _ D2 s V hs (Row.below Qe h) hL.2.1;rw[f2,Nat.mul_div_cancel _ (A8 s)]at h1;exact h1)
  have l9:=b9.lt;have Ul:=b11.cell;have k9:=b9.cell;clear hL f1 f2 Qd Qe hr Qk hh an fh Uc Ui Qz Qu Qi;go_upto_region 13 with fail
  have hq:Bl W W.drew:=(BE _ W).drew;go_region_held3 (λw'=>w'.cell? ⟨f.heap.size+1,0,none⟩=some (C (some ⟨f.heap.size,0,none⟩) K K)/\w'.cell? ⟨B9,0,none⟩=some (C (some ⟨gR,0,none⟩) (la+1) (la+1))) (refine⟨?_,?_⟩<;>(first|(go_keep;done)|(simp[*];done)))
   (first
    |(go_at_call 128;refine(HT.o _ hq).mono ?_;rintro e w5 ⟨u5,rfl,fm,ap⟩;obtain⟨ua,uc,rfl⟩:=UN.form fm;have hq:=Bt hq ap;have Ul:=(boxed_below b11 hq).cell;have k9:=(boxed_below b9 hq).cell)
    |(go_at_call 170;refine(Uz.o _ hq).mono ?_;rintro e w6 ⟨u6,rfl,fo,fi⟩;obtain⟨va,vc,rfl⟩:=UN.form fo;have hq:=Bt hq fi;have Ul:=(boxed_below b11 hq).cell;have k9:=(boxed_below b9 hq).cell))
  all_goals go_wp2_with fail
  have Qq:w6.heap[D]?=some (.deferred (some [])):=(hq.block D (Ae.1 ad).1).trans ad;refine⟨J,.inl ⟨_,_,rfl,BW Qq,?_⟩⟩;refine⟨.tuple #[C ua (Jg Y (m/n)).length uc,C va (Jg Y (m%n)).length vc],by simp[results,Tryz.results146,go_sem],_,_,rfl,MW (UN.below fm fi) Qq,MW fo Qq,?_⟩;exact below_grown (Bt Uk hq) (BU _ D (.deferred none)) (by have:=Un.size;omega)
end
section
variable{a:List Nat}{P base g l rc:Nat}{u:Value}{W:I}
theorem Ma(a:Option Addr)(la ca:Nat)(b:Option Addr)(lb cb m n:Nat)(w:I)(g:Row G w (C a la ca) (Jg Y m))(i:Row G w (C b lb cb) (Jg Y n))(X:n≠0)(V:la<1099511627776):
 Calls M 146 #[C a la ca,C b lb cb] w λe j=>∃u v,e=.returned (.tuple #[u,v])/\UN j u (m/n)/\UN j v (m%n)/\Bl w j:=by
 obtain⟨U,ad,am,ah,af⟩:=JA g;obtain⟨f,ae,an,ai,T⟩:=JA i;have ak:lb≠0:=λe=>X ((JL Jf).1 (Ay (by rw[<-f,e])));by_cases K:la<lb
 . exact UD a la ca b lb cb m n w g i K
 . by_cases P:lb=1
   . subst P;exact UF a la ca b cb m n w g i Z
   . obtain⟨l,rfl⟩:∃l,lb=l+2:=⟨lb-2,Z⟩;obtain⟨z,A,rfl,S,r⟩:=T (l+1) Z;have k:=Ju Jf n;have p:(Jg Y n)[l+1]?.getD 0≠0:=by
      intro e;have Q:=Jv Y (Jg Y n) (l+1);rw[Ag Z,e,CK,Cn,Js Jf]at Q;have h4:=Yt k (l+1);have o:=Lo Jf f.symm Z;rw[show l+2-1=l+1 from rfl]at o;omega
     have c:(Jg Y n)[l+1]?.getD 0<Y:=k.getD uo _;obtain⟨d,q⟩:=ex ((Jg Y n)[l+1]?.getD 0);rw[q]at r p c;obtain⟨B,D,H⟩:=bitLen_spec d p (by rw[<-Gq];exact c);have R:Lib.bitLen d<=64:=by
      rcases AZ 64 (Lib.bitLen d)with h|h
      . exfalso
        have o:2^64<=2^(Lib.bitLen d-1):=Az Z Z;rw[Gq]at c;omega
      . exact h
     obtain⟨t,x⟩:=O2 (s:=64-Lib.bitLen d) k f.symm q D H B R rfl;rw[Js Jf]at t x;have W:m<Y^la:=by
      have:=Yv (Ju Jf m);rwa[Js Jf,<-U]at this
     have y:Y^(l+1)<=n:=Lo Jf f.symm Z;exact U4 a la ca z A l (l+2) (l+1) cb m n d (64-Lib.bitLen d) w rfl Z S g i r c Z (show _=_ by omega) Z V t x (U1 W y Z)
theorem Mb{p:Nat}(a:p≠0)(h:p<Y):Jg Y p=[p]:=by
 rw[Xm Jf a,Cm h,Ch h,JF]
theorem U5(a:Option Addr)(ca:Nat)(b:Option Addr)(lb cb x y:Nat)(w:I)(d:Row G w (C a 1 ca) (Jg Y x))(t:Row G w (C b lb cb) (Jg Y y))(B:y<Y):
 Calls M 148 #[C a 1 ca,C b lb cb] w λe D=>∃u,e=.returned u/\UN D u (Nat.gcd x y)/\Bl w D:=by
 obtain⟨n,ad,ak,af,l⟩:=JA d;obtain⟨c,ae,am,ah,m⟩:=JA t;obtain⟨o,an,T⟩:=MX n.symm;rcases Ca lb with z|z
 . subst z;have k:y=0:=(JL Jf).1 (Ay c.symm);subst k;have K:=O d;clear l m n c d t o;go_enter Tryz.func148,Tryz.ntmps148
   go_wp2_with fail
   go_ret;exact⟨_,rfl,by rw[Nat.gcd_zero_right];exact K.o,BE _ w⟩
 . have k:y≠0:=λe=>by rw[e,JF]at c;simp at c;omega
   have i:=Mb k B;obtain rfl:lb=1:=by rw[c,i];rfl
   obtain⟨P,Q,rfl,W,r⟩:=l 0 Z;obtain⟨R,S,rfl,X,s⟩:=m 0 Z;rw[o]at r;rw[i]at s;have ap:w.cell? ⟨P,Q,none⟩=some (F G (x:Nat)):=r;have aq:w.cell? ⟨R,S,none⟩=some (F G (y:Nat)):=s;clear l m n c d t o i r s;go_enter Tryz.func148,Tryz.ntmps148
   go_upto_region 3 with fail
   go_quiet (fail)
   go_wp2_with fail
   go_loopw [5,6] (λV v wr=>∃(p q j:Nat),V=F G (p:Nat)/\v=F G (q:Nat)/\p<Y/\q<Y/\p≠0/\Hid (Nat.gcd p q=Nat.gcd x y)/\wr=w.drewN j)
    (λ_ v _=>(intOf v).toNat)
   case atStart=>exact⟨x,y,_,rfl,rfl,T,B,Z,O rfl,rfl⟩
   case round=>
    obtain⟨p,q,j,rfl,rfl,hp,hq,U,g,rfl⟩:=hrel;by_cases A:q=0
    . subst A;have f:=O (show p=Nat.gcd x y by rw[<-g.o,Nat.gcd_zero_right]);have H:=O (Mb U hp);clear g;go_wp2_with fail
      go_ret;refine⟨C (some ⟨w.heap.size,0,none⟩) 1 1,rfl,?_,(Iw (BE _ w) _).alloc (Aa _) _⟩;unfold UN;rw[<-f.o,H.o];exact(DO.made (xs:=[p]) (BD (w.drewN j) (.cells #[F G (p:Nat)] 156))).row 0 1 1 J Z Z Z
    . have f:=O (show Nat.gcd q (p%q)=Nat.gcd x y by rw[<-g.o,CY q,<-Nat.gcd_rec,CY]);have ai:=Cl p (show q>0 by omega);go_upto_region 5 with fail
      go_quiet (fail)
      go_wp2_with fail
      exact⟨⟨q,p%q,j+nq,rfl,J,hq,Z,A,f,J⟩,by simp[intOf];omega⟩
attribute [local go_sem] Oper.semAt_some
def FT(W:I)(base:Nat)(u:Value)(g l rc P:Nat)(a:List Nat):Prop:=
 u=C (some ⟨g,0,none⟩) l rc/\DO W g a/\DN Y a/\l<=a.length/\l<=rc/\rc<=9223372036854775807/\l<=1099511627776/\a.take l=Jg Y P/\base<=g
theorem FT.below{W W':I}{base g l rc P:Nat}{u:Value}{a:List Nat}(h:FT W base u g l rc P a)(b:Bl W W'):FT W' base u g l rc P a:=
 ⟨h.1,h.2.1.below b,h.2.2⟩
theorem FT.un(h:FT W base u g l rc P a):UN W u P:=by
 obtain⟨rfl,b,i,j,c,d,e,f,k⟩:=h;have:=b.row 0 l rc Z c d e;rw[AQ,f]at this;exact this
theorem U6{ds:List Nat}(i:DO W g a)(k:Row G W (C (some ⟨g,0,none⟩) l rc) ds)(hl:l<=a.length):a.take l=ds:=by
 obtain⟨m,_,_,_,f⟩:=JA k;apply List.ext_getElem?;intro j;by_cases d:j<l
 . obtain⟨b,off,e,_,c⟩:=f j d;cases e;rw[A9,i.cell Z]at c;rw[AX d,An (show j<a.length by omega),An (show j<ds.length by omega)];rw[An (show j<a.length by omega),An (show j<ds.length by omega)]at c;simp only[Fq,Ak,Value.int.injEq,true_and]at c;congr 1;omega
 . rw[AP (by rw[Ap];omega),AP Z]
theorem O4(a:Option Addr)(la ca:Nat)(b:Option Addr)(lb cb:Nat)(c d:List Nat)(w:I)(T:DN Y c)(U:DN Y d)(R:la+lb<=1099511627776)
(o:Row G w (C a la ca) c)(q:Row G w (C b lb cb) d):
 Calls M 120 #[C a la ca,C b lb cb] w λe r=>∃u,e=.returned u/\UN r u (val Y c*val Y d)/\(val Y c*val Y d≠0->∃g l rc m,FT r w.heap.size u g l rc (val Y c*val Y d) m)/\Bl w r:=by
 have t:=IB (la+lb) Z w;rw[show((la+lb:Nat):Int)=(la:Int)+(lb:Int)from by omega]at t;obtain⟨i,k⟩:∃i,i=w.alloc (.cells (cellsOf G (List.replicate (la+lb) 0)).toArray 156):=⟨_,rfl⟩;have n:Bl w i:=by rw[k];exact Ba w _
 have s:DO i w.heap.size (List.replicate (la+lb) 0):=by rw[k];exact DO.made (BD w _)
 rw[<-k]at t;have D:=O (To w.heap.size (la+lb) (la+lb) (List.replicate (la+lb) 0) a la ca b lb cb c d i T U s (λx S=>by rw[C3 S];unfold Y;omega) (by rw[Au];exact Aa _) (Aa _) Z R (Row.below o n) (Row.below q n)
  (λp e j=>by have:=Hk o e j;omega) λp e j=>by have:=Hk q e j;omega)
 clear k s o q;go_enter Tryz.func120,Tryz.ntmps120
 go_wp2_with(go_at_call 141;refine D.o.mono ?_;rintro e X ⟨u,rfl,⟨f,Q⟩,P,m,A,K,B⟩;obtain⟨V,W,rfl⟩:=UN.form f)
 go_ret;refine⟨_,rfl,f,λj=>?_,below_grown n Q (Aa _)⟩;have H:(Jg Y (val Y c*val Y d)).length≠0:=λe=>j ((JL Jf).1 (Ay e));rcases P with e|⟨l,e⟩
 . injection e with v y z
   exact absurd y H
 . injection e with v y z
   subst v;subst z;rw[Au]at B;have hl:(Jg Y (val Y c*val Y d)).length<=m.length:=by rw[B];exact(JA f).2.1
   exact⟨_,_,_,m,rfl,A,K,hl,(JA f).2.1,(JA f).2.2.1,(JA f).2.2.2.1,U6 A f hl,Aa _⟩
theorem O5{Q:Nat}(h:FT W base u g l rc P a)(b:Option Addr)(lb cb:Nat)(m:UN W (C b lb cb) Q)(d:Q<=P)(z:∀p,b=some p->0<lb->p.block≠g):
 Calls M 165 #[u,C b lb cb] W λe f=>∃c q,e=.returned (F G (c:Nat))/\(Row G f u q/\JI q=Jg Y (P-Q))/\W.grownBy f (some g):=by
 obtain⟨rfl,o,r,A,j,s,t,k,B⟩:=h;have hl:l=(Jg Y P).length:=by rw[<-k,Ap];omega
 have n:=(JA m).1;refine(OO g 0 l rc a b lb cb (Jg Y Q) W o r Z j Z (by rw[hl,n];exact Y0 d) m (Ju Jf Q) z).mono ?_;rintro e f ⟨c,q,rfl,hq,w,x⟩;have y:DU a 0 l q=q++a.drop l:=by rw[DU,CU,At,A9]
 have i:=hq.1;refine⟨c,q,rfl,⟨?_,?_⟩,x⟩
 . have v:=w.row 0 l rc (by rw[JR i Z];omega) j s t;rwa[y,AQ,AN Z,Ag Z]at v
 . have hs:El (Jg Y P) (Jg Y Q) 0 l c q:=by
    refine⟨i,hq.2.1,hq.2.2.1,?_⟩;have:=hq.2.2.2;rw[AQ,k]at this;rw[AQ,Ag (show(Jg Y P).length<=l by omega)];exact this
   exact OP hs rfl rfl hl (by rw[hl];exact Y0 d) d
theorem O6{w V a:I}{o:Obj}(h:Bl w V)(k:Below (V.alloc o).heap.size (V.alloc o) a):Bl w a:=(h.alloc h.size o).trans (k.mono (h.alloc h.size o).size)
theorem O7(x:Nat):val Y [x]=x:=by rw[J2,Li,CK,Cn]
theorem O8(ma mb:Nat)(a:Option Addr)(la ca:Nat)(b:Option Addr)(lb cb A B:Nat)(w:I)(ra:Row G w (C a la ca) (Jg Y A))(rb:Row G w (C b lb cb) (Jg Y B))(bt:ma<Y)(bu:mb<Y)(ci:la<1099511627776)(ck:lb<1099511627776)(h0:mb*B≠0):
 Calls M 145 #[.agg #[F G (ma:Nat),F G (mb:Nat)],C a la ca,C b lb cb] w λe X=>∃u,e=.returned u/\UN X u (YY (ma*A) (mb*B))/\Bl w X:=by
 have Qr:Tryz.prog.follows .mixedOrders=true:=by kernel_rfl
 obtain⟨W0,ap⟩:=ex (w.alloc (.cells #[F G (ma:Nat),F G (mb:Nat)] 169));have Qa:Bl w W0:=by rw[<-ap];exact Ba w _
 have bx:Jr W0 w.heap.size 169 (F G (ma:Nat)) (F G (mb:Nat)):=by rw[<-ap];exact Jr.new w _ _ _
 have Qo:=O (show ∀(V:I) (g:Nat),Bl W0 V->DO V g [ma]->Calls M 120 #[C a la ca,C (some ⟨g,0,none⟩) 1 1] V λe X=>∃u,e=.returned u/\UN X u (ma*A)/\(ma*A≠0->∃g l rc zs,FT X V.heap.size u g l rc (ma*A) zs)/\Bl V X from λV g h hA=>by
  have n:=O4 a la ca (some ⟨g,0,none⟩) 1 1 (Jg Y A) [ma] V (Ju Jf A) (DN.cons bt (DN.nil _)) Z (Row.below (Row.below ra Qa) h) (hA.row 0 1 1 J Z Z Z);rw[O7,Js Jf,Av A ma]at n;exact n)
 have Qp:=O (show ∀(V:I) (g:Nat),Bl W0 V->DO V g [mb]->Calls M 120 #[C b lb cb,C (some ⟨g,0,none⟩) 1 1] V λe X=>∃u,e=.returned u/\UN X u (mb*B)/\(mb*B≠0->∃g l rc zs,FT X V.heap.size u g l rc (mb*B) zs)/\Bl V X from λV g h hA=>by
  have n:=O4 b lb cb (some ⟨g,0,none⟩) 1 1 (Jg Y B) [mb] V (Ju Jf B) (DN.cons bu (DN.nil _)) Z (Row.below (Row.below rb Qa) h) (hA.row 0 1 1 J Z Z Z);rw[O7,Js Jf,Av B mb]at n;exact n)
 have Qq:=O ap;clear ap ra rb;generalize ma*A=m at *;generalize mb*B=T at *;go_enter Tryz.func145,Tryz.ntmps145
 go_upto_region 1 with fail
 rw[Qq.o];refine Jm Qr [[],[],[1],[2],[0,3],[],[],[6],[7],[5,8,4],[4,9,0,1,2,3,4],[9,10,0,1,2,3,4,5,6,7,8,9,10]] (by kernel_rfl) DL
  (λf ac V=>∃t7 t8 t9 aq av aw ad ay az ba bc am:Value,ac={ tmps:=#[.agg #[F G (ma:Nat),F G (mb:Nat)],C a la ca,C b lb cb,L (some ⟨w.heap.size,0,none⟩),E,E,C none 0 0,t7,t8,t9,aq,av,aw,ad,ay,az,ba,bc,am,E,E,E,E,E,E,E,E,E,E,E],defers:=[] }/\Hid (f 0=true->t9=C a la ca)/\Hid (f 1=true->aq=L (some ⟨w.heap.size,0,none⟩))/\Hid (f 2=true->av=F G (ma:Nat))/\Hid (f 3=true->∃g,aw=C (some ⟨g,0,none⟩) 1 1/\DO V g [ma])/\Hid (f 4=true->UN V ad m/\(m≠0->∃d l1 s t,FT V W0.heap.size ad d l1 s m t))/\Hid (f 5=true->ay=C b lb cb)/\Hid (f 6=true->az=L (some ⟨w.heap.size,1,none⟩))/\Hid (f 7=true->ba=F G (mb:Nat))/\Hid (f 8=true->∃g,bc=C (some ⟨g,0,none⟩) 1 1/\DO V g [mb])/\Hid (f 9=true->∃k l2 ae af,FT V W0.heap.size am k l2 ae T af/\UN V ad m/\(m≠0->∃d l1 s t,FT V W0.heap.size ad d l1 s m t/\d≠k))/\Hid (f 10=true->t7=ad)/\Hid (f 11=true->t8=am)/\Bl W0 V)
  (E8 ⟨_,_,_,_,rfl,O Dl,O Dl,O Dl,O Dl,O Dl,O Dl,O Dl,O Dl,O Dl,O Dl,O Dl,O Dl,(BE _ W0).drew⟩) ?step1 ?fin1
 case step1=>
  rintro f a2 V i ds o bh j W ⟨t7,t8,t9,aq,av,aw,ad,ay,az,ba,bc,am,rfl,v,d,k,z,D,H,P,Q,R,S,x,y,hq⟩;have Qk:i<12:=(Af.1 bh).1;obtain rfl|rfl|rfl|rfl|rfl|rfl|rfl|rfl|rfl|rfl|rfl|rfl:=Gx i Z
  all_goals
   simp only[Ai,Ah,Ak]at bh;subst bh;clear Qk
  . clear j o;refine EO ?_;exact⟨O λ_=>rfl,d,k,z,D,H,P,Q,R,S,x,y,hq⟩
  . clear j o;refine EO ?_;exact⟨v,O λ_=>rfl,k,z,D,H,P,Q,R,S,x,y,hq⟩
  . obtain rfl:=d.o (j 1 J);have k0:=(bx.below hq).c0;clear j o;refine EO ?_;exact⟨v,O λ_=>rfl,O λ_=>rfl,z,D,H,P,Q,R,S,x,y,hq⟩
  . have Qs:f 4=false:=by
     cases h:f 4 with
     |false=>rfl
     |true=>rw[o 4 _ rfl h 3 J]at W;cases W
    obtain rfl:=k.o (j 2 J);clear j o;refine EO ?_;exact⟨v,d,O λ_=>rfl,O λ_=>⟨_,rfl,DO.made (xs:=[ma]) (BD V _)⟩,O (λh=>by simp[Qs]at h),H,P,Q,O (λh=>by obtain⟨g,e,q⟩:=R.o h;exact⟨g,e,q.below (Ba V _)⟩),O (λh=>by obtain⟨k,l2,ae,af,q1,q2,q3⟩:=S.o h;exact⟨k,l2,ae,af,q1.below (Ba V _),q2.below (Ba V _),λn=>by obtain⟨d,l1,s,t,q,q4⟩:=q3 n;exact⟨d,l1,s,t,q.below (Ba V _),q4⟩⟩),x,y,hq.alloc hq.size _⟩
  . have Qi:f 9=false:=by
     cases h:f 9 with
     |false=>rfl
     |true=>rw[o 9 _ rfl h 4 J]at W;cases W
    have Qm:f 10=false:=by
     cases h:f 10 with
     |false=>rfl
     |true=>rw[o 10 _ rfl h 4 J]at W;cases W
    obtain rfl:=v.o (j 0 J);obtain⟨gm,rfl,ai⟩:=z.o (j 3 J);clear j o;refine JO rfl rfl λK hK=>?_;go_simp;go_wp2_with(go_at_call 120;refine(Qo.o _ _ hq ai).mono ?_;rintro e w5 ⟨u5,rfl,bn,bi,U⟩)
    exact E8 ⟨_,_,_,_,rfl,O λ_=>rfl,d,k,O λ_=>⟨gm,rfl,ai.below U⟩,O λ_=>⟨bn,λn=>by obtain⟨d,l1,s,t,q⟩:=bi n;exact⟨d,l1,s,t,q.1,q.2.1,q.2.2.1,q.2.2.2.1,q.2.2.2.2.1,q.2.2.2.2.2.1,q.2.2.2.2.2.2.1,q.2.2.2.2.2.2.2.1,Aw hq.size q.2.2.2.2.2.2.2.2⟩⟩,H,P,Q,O (λh=>by obtain⟨g,e,q⟩:=R.o h;exact⟨g,e,q.below (U)⟩),O (λh=>by simp[Qi]at h),O (λh=>by simp[Qm]at h),y,Bt hq U⟩
  . clear j o;refine EO ?_;exact⟨v,d,k,z,D,O λ_=>rfl,P,Q,R,S,x,y,hq⟩
  . clear j o;refine EO ?_;exact⟨v,d,k,z,D,H,O λ_=>rfl,Q,R,S,x,y,hq⟩
  . obtain rfl:=P.o (j 6 J);have k0:=(bx.below hq).c1;clear j o;refine EO ?_;exact⟨v,d,k,z,D,H,O λ_=>rfl,O λ_=>rfl,R,S,x,y,hq⟩
  . have Qi:f 9=false:=by
     cases h:f 9 with
     |false=>rfl
     |true=>rw[o 9 _ rfl h 8 J]at W;cases W
    obtain rfl:=Q.o (j 7 J);clear j o;refine EO ?_;exact⟨v,d,k,O (λh=>by obtain⟨g,e,q⟩:=z.o h;exact⟨g,e,q.below (Ba V _)⟩),O (λh=>by obtain⟨q1,q2⟩:=D.o h;exact⟨q1.below (Ba V _),λn=>by obtain⟨d,l1,s,t,q⟩:=q2 n;exact⟨d,l1,s,t,q.below (Ba V _)⟩⟩),H,P,O λ_=>rfl,O λ_=>⟨_,rfl,DO.made (xs:=[mb]) (BD V _)⟩,O (λh=>by simp[Qi]at h),x,y,hq.alloc hq.size _⟩
  . have Qj:f 11=false:=by
     cases h:f 11 with
     |false=>rfl
     |true=>rw[o 11 _ rfl h 9 J]at W;cases W
    obtain rfl:=H.o (j 5 J);obtain⟨gm,rfl,ai⟩:=R.o (j 8 J);obtain⟨p1,p2⟩:=D.o (j 4 J);clear j o;refine JO rfl rfl λK hK=>?_;go_simp;go_wp2_with(go_at_call 120;refine(Qp.o _ _ hq ai).mono ?_;rintro e w5 ⟨u5,rfl,bn,bi,U⟩)
    exact⟨_,_,_,_,_,_,_,_,_,_,_,_,rfl,v,d,k,O (λh=>by obtain⟨g,e,q⟩:=z.o h;exact⟨g,e,q.below (U)⟩),O (λh=>by obtain⟨q1,q2⟩:=D.o h;exact⟨q1.below (U),λn=>by obtain⟨d,l1,s,t,q⟩:=q2 n;exact⟨d,l1,s,t,q.below (U)⟩⟩),O λ_=>rfl,P,Q,O λ_=>⟨gm,rfl,ai.below U⟩,O (λ_=>by obtain⟨k,l2,ae,af,q⟩:=bi h0;exact⟨k,l2,ae,af,⟨q.1,q.2.1,q.2.2.1,q.2.2.2.1,q.2.2.2.2.1,q.2.2.2.2.2.1,q.2.2.2.2.2.2.1,q.2.2.2.2.2.2.2.1,Aw hq.size q.2.2.2.2.2.2.2.2⟩,p1.below U,λn=>by obtain⟨d,l1,s,t,r⟩:=p2 n;exact⟨d,l1,s,t,r.below U,by have:=r.2.1.lt;have:=q.2.2.2.2.2.2.2.2;omega⟩⟩),x,O (λh=>by simp[Qj]at h),Bt hq U⟩
  . clear j o;refine EO ?_;exact⟨v,d,k,z,D,H,P,Q,R,S,O λ_=>rfl,y,hq⟩
  . clear j o;refine EO ?_;exact⟨v,d,k,z,D,H,P,Q,R,S,x,O λ_=>rfl,hq⟩
 rintro f bz V1 an ⟨t7,t8,t9,aq,av,aw,ad,ay,az,ba,bc,am,rfl,v,d,k,z,D,H,P,Q,R,S,x,y,hq⟩;obtain⟨gB,l2,ae,af,o2,ak,o1⟩:=S.o (an 9 DL);obtain rfl:=x.o (an 10 DL);obtain rfl:=y.o (an 11 DL);obtain⟨a1,c1,rfl⟩:=UN.form ak;have Qc:=o2.un;obtain⟨a2,c2,rfl⟩:=UN.form Qc;clear v d k z D H P Q R S x y an Qo Qp;have Qh:∀p,a1=some p->0<(Jg Y m).length->p.block≠gB:=λp e n=>by
  have hp:m≠0:=λe0=>by rw[e0,JF]at n;simp at n
  obtain⟨d,l1,s,t,r,r2⟩:=o1 hp;have:=r.1;injection this with e1 e2 e3
  rw[e1]at e;cases e;exact r2
 have HO:=O (MG _ _ (Jg Y m) (Jg Y T) V1 ak Qc (Ju Jf m) (Ju Jf T) (Xn Jf m) (Xn Jf T));rw[Js Jf,Js Jf]at HO;have Qg:Bl w V1:=Bt Qa hq;have Qn:W0.heap.size<=gB:=o2.2.2.2.2.2.2.2.2;by_cases bm:m<T
 . have Qb:=Hc bm;rw[Qb]at HO;have Qe:=O λ(V:I) (h:Bl V1 V)=>O5 (o2.below h) a1 (Jg Y m).length c1 (ak.below h) Z Qh;have HD:=O (show T-m=YY m T by unfold YY;omega);clear Qb ak Qc o1 Qh;go_upto_region 4 with(go_at_call 132;refine HO.o.mono ?_;rintro e w2 ⟨rfl,ah⟩)
   go_upto_region 5 with(go_at_call 165;refine(Qe.o _ ah).mono ?_;rintro e w3 ⟨c,q,rfl,⟨hr,bj⟩,bg⟩)
   have Qd:=O (YE _ q _ hr);rw[bj,HD.o]at Qd;clear Qe HO;go_wp2_with(go_at_call 128;refine Qd.o.mono ?_;rintro e w4 ⟨u,rfl,hu,bf⟩;obtain⟨ua,uc,rfl⟩:=UN.form hu)
   go_ret;have Qf:Bl w w3:=below_grown (Bt Qg ah) bg (Aw Qa.size Qn);exact⟨_,rfl,hu,Bt Qf bf⟩
 . obtain⟨cm,Qb,ce⟩:∃cm:Int,Xu m T=cm/\¬(cm<0):=⟨_,rfl,by unfold Xu;rw[BH bm];split<;>omega⟩;rw[Qb]at HO;obtain⟨d,l1,s,t,r,r2⟩:=o1 Z;have Ql:W0.heap.size<=d:=r.2.2.2.2.2.2.2.2;have Qe:=O (λ(V:I) (h:Bl V1 V)=>O5 (r.below h) a2 (Jg Y T).length c2 (Qc.below h) Z (λp e _=>by
    have:=o2.1;injection this with e1 e2 e3
    rw[e1]at e;cases e;exact λh=>r2 h.symm))
   have HD:=O (show m-T=YY m T by unfold YY;omega);clear Qb ak Qc o1 Qh;go_upto_region 4 with(go_at_call 132;refine HO.o.mono ?_;rintro e w2 ⟨rfl,ah⟩)
   go_upto_region 5 with(go_at_call 165;refine(Qe.o _ ah).mono ?_;rintro e w3 ⟨c,q,rfl,⟨hr,bj⟩,bg⟩)
   have Qd:=O (YE _ q _ hr);rw[bj,HD.o]at Qd;clear Qe HO;go_wp2_with(go_at_call 128;refine Qd.o.mono ?_;rintro e w4 ⟨u,rfl,hu,bf⟩;obtain⟨ua,uc,rfl⟩:=UN.form hu)
   go_ret;have Qf:Bl w w3:=below_grown (Bt Qg ah) bg (Aw Qa.size Ql);exact⟨_,rfl,hu,Bt Qf bf⟩
end
def Ez(x k s:Nat):Nat:=x/(Y^k*2^(64-s))
variable{a:List Nat}{k s:Nat}
theorem U7(hl:a.length=k+2)(b:DN Y a)(hs:s<=63)(f:a[k+1]?.getD 0<2^(64-s)):
 Ez (val Y a) k s=D8 (a[k+1]?.getD 0) s+D3 (a[k]?.getD 0) (64-s)/\D8 (a[k+1]?.getD 0) s ||| D3 (a[k]?.getD 0) (64-s)=D8 (a[k+1]?.getD 0) s+D3 (a[k]?.getD 0) (64-s):=by
 have g:=O0 hl;have c:=Yt b k;have i:=b.getD (show 0<Y by unfold Y;omega) k;have hp:=It (s:=s) Z;have e:D8 (a[k+1]?.getD 0) s=a[k+1]?.getD 0*2^s:=by rw[Iu Z,Cm f]
 rw[e];have d:D3 (a[k]?.getD 0) (64-s)<2^s:=by
  unfold D3;rw[A0 (A8 _),hp];exact i
 refine⟨?_,by rw[Av,<-Fc d]⟩;unfold Ez D3;rw[g,<-Nat.div_div_eq_div_mul,Av _ (Y^k),Nat.mul_add_div (CA uo),Ch c,Cn,<-hp,<-AG,Fb,Fz _ _ (A8 _)];omega
theorem U8(hl:a.length=k+1)(d:DN Y a):Ez (val Y a) k s=D3 (a[k]?.getD 0) (64-s):=by
 have b:=Jv Y a k;rw[Ag Z]at b;have c:=Yt d k;unfold Ez D3;rw[b,<-Nat.div_div_eq_div_mul,Fb,Nat.mul_add_div (CA uo),Ch c,Cn]
theorem U9(hl:a.length<=k)(b:DN Y a):Ez (val Y a) k s=0:=by
 unfold Ez;apply Ch;have c:=Yv b;have d:Y^a.length<=Y^k:=Az uo hl;have e:=Cb (Y^k) (A8 (64-s));omega
theorem O9(a:Option Addr)(la ca:Nat)(c:List Nat)(k f d s:Nat)(w:I)(n:Row G w (C a la ca) c)(o:DN Y c)(q:d=k+2)(z:(d:Int)-1=f)(A:(d:Int)-2=k)(hs:s<=63)(R:la<=d)(T:d<=1099511627776)(m:la=d->c[k+1]?.getD 0<2^(64-s)):
 Calls M 167 #[C a la ca,F N (d:Nat),F G (s:Nat)] w λe K=>e=.returned (F G (Ez (val Y c) k s:Nat))/\Bl w K:=by
 obtain⟨hl,P,S,Q,i⟩:=JA n;have W:IntKind.i64.wrap ((d:Int)-1)=(f:Int):=by rw[z];exact Bb _ Z
 have X:IntKind.i64.wrap ((d:Int)-2)=(k:Int):=by rw[A];exact Bb _ Z
 have i3:IntKind.i64.wrap (f:Int)=(f:Int):=Bb _ Z;have i4:IntKind.i64.wrap (k:Int)=(k:Int):=Bb _ Z;have i5:IntKind.u64.wrap ((64:Int)-s)=((64-s:Nat):Int):=by rw[BV];omega
 have p:=MT (c[k+1]?.getD 0) s;have x:=MU (c[k]?.getD 0) (64-s);have j:=o.getD (show 0<Y by unfold Y;omega) k;have l:=MV (show D8 (c[k+1]?.getD 0) s<Y by unfold D8;exact Cl _ uo) (show D3 (c[k]?.getD 0) (64-s)<Y from Cf (Fx _ _) j);obtain rfl|U:=Decidable.em (la=d)
 . obtain⟨b,off,rfl,D,c1⟩:=i (k+1) Z;obtain⟨_,_,y,_,c0⟩:=i k Z;cases y;obtain⟨t,u⟩:=U7 Z o hs (m rfl);rw[u]at l;have g:=O t;have r:f=k+1:=Z
   rw[<-r]at c1 p l g;have j1:(f:Int)<(la:Int):=Z
   have j2:(k:Int)<(la:Int):=Z
   have j3:(0:Int)<=(f:Int):=Z
   have j4:(0:Int)<=(k:Int):=Z
   have H:k<la:=Z
   clear r i n t u m hl q j;generalize c[f]?.getD 0=x1 at *;generalize c[k]?.getD 0=x0 at *;go_enter Tryz.func167,Tryz.ntmps167
   go_upto_region 3 with fail
   go_quiet (fail)
   go_wp2_with fail
   go_ret;refine⟨?_,Iw (BE _ w) _⟩;rw[g.o];first|rfl|(simp;done)
 . by_cases B:la=f
   . subst B;obtain⟨b,off,rfl,D,c0⟩:=i k Z;have g:=O (U8 (s:=s) (show c.length=k+1 by omega) o);have H:k<la:=Z
     have v:¬((la:Int)=(d:Int)):=Z
     clear i n m hl q j l p;generalize c[k]?.getD 0=x0 at *;go_enter Tryz.func167,Tryz.ntmps167
     go_wp2_with fail
     go_ret;refine⟨?_,BE _ w⟩;rw[g.o];first|rfl|(simp;done)
   . have g:=O (U9 (s:=s) (show c.length<=k by omega) o);have v:¬((la:Int)=(d:Int)):=Z
     have V:¬((la:Int)=(f:Int)):=Z
     clear i n m hl q j p x l;go_enter Tryz.func167,Tryz.ntmps167
     go_wp2_with fail
     go_ret;refine⟨?_,BE _ w⟩;rw[g.o];first|rfl|(simp;done)

