import Derived.BigQuiet
import Derived.Deep.RegionHeld3
import Derived.Test.YteldjhhjnchdeaaGreatDoorW18
import Derived.Test.YteldjhhjnchdeaaGreatDoorW04
open Go.Value renaming slice->C,int->F,pointer->L
open Go renaming undef->E,World->I
open Go.IntKind renaming u64->G,i64->N
open Go.Proofs.Tryz renaming prog->M
set_option maxRecDepth 100000
set_option maxHeartbeats 16000000
namespace Go.Proofs.YteldjhhjnchdeaaGreatDoor
open Go.RowKit Go.Shelf
section
theorem Bj:type_of% @IntWalk.u64_in:=@IntWalk.u64_in
theorem Bb:type_of% @IntWalk.i64_in:=@IntWalk.i64_in
variable{c ds xs:List Nat}{B R R0 V base d0 d1 f g l len n q r ro s u0:Nat}{v:Value}{w:I}
theorem Oz(h:ds.length=n+2):val J ds=(ds[n+1]?.getD 0*J+ds[n]?.getD 0)*J^n+val J (ds.take n):=by
 have a:=Jv J ds (n+1);rw[Ag Y,Jv,AY]at a;rw[a];grind
theorem UR(h:ds.length=n+3):val J ds=((ds[n+2]?.getD 0*J+ds[n+1]?.getD 0)*J+ds[n]?.getD 0)*J^n+val J (ds.take n):=by
 have a:=Jv J ds (n+2);rw[Ag Y,Jv,Jv,AY,AY]at a;rw[a];grind
theorem Ys(h:DM J ds)(n:Nat):val J (ds.take n)<J^n:=by
 have:=Yv (h.take n);refine AC this (Ay uo ?_);rw[Ap];omega
theorem Iv{a:I}(h:Below B a w)(n:Nat):Below B a (w.drewN n):=h.trans ⟨rfl,rfl,rfl,Aa _,λ_ _=>rfl⟩
theorem O0(a:u0<J)(h:Xk q d0<r\/Xk q d0=r/\Yk q d0<=u0):q*d0<=r*J+u0:=by
 unfold Xk Yk at h;generalize q*d0=p at *;unfold J at *;omega
theorem US(b:u0<J)(h:¬(Xk q d0<r))(a:¬(Xk q d0=r/\Yk q d0<=u0)):r*J+u0<q*d0:=by
 unfold Xk at h a;unfold Yk at a;generalize q*d0=p at *;unfold J at *;omega
theorem UT{u2 u1 E:Nat}(b:R=((u2*J+u1)*J+u0)*E+R0)(d:V=(d1*J+d0)*E+f)(i:f<E)(e:J<=2*d1)(g:d0<J)(c:R<V*J)(h:d1<=u2):GE R V (J-1):=by
 have a:d0*E+f<J*E:=by
  have:=Am E (show d0+1<=J from g);rw[AE,Ct]at this;omega
 refine SO (d1:=d1) (E:=J*E) (lo:=(u2-d1)*(J*(J*E))+(u1*J+u0)*E+R0) (lo2:=d0*E+f) ?_ ?_ a e c Jf
 . obtain⟨t,rfl⟩:∃t,u2=d1+t:=⟨u2-d1,Y⟩;rw[b,Nat.add_sub_cancel_left];grind
 . rw[d];grind
theorem UU{U E:Nat}(a:R=(U*J+u0)*E+R0)(c:V=(d1*J+d0)*E+f)(b:R0<E)(d:f<E)(e:J<=2*d1)(hq:q<J)(h:q=(U*J+u0)/(d1*J+d0)):GE R V q:=by
 rw[h];have hp:0<d1:=by unfold J at e;omega
 have g:J<=d1*J:=Cz J hp;exact SN a c b d (by rw[<-h];omega) Y
theorem UV(l l1 l2:Nat)(h1:(l:Int)-1=l1)(h2:(l:Int)-2=l2)(a f P Q ca cb u2 u1 u0 d1 d0 R V:Nat)(w:I)(hl:l<=1099511627776)
(ka:w.cell? ⟨a,f+l,none⟩=some (F G (u2:Nat)))(ak:w.cell? ⟨a,f+l1,none⟩=some (F G (u1:Nat)))(ai:w.cell? ⟨a,f+l2,none⟩=some (F G (u0:Nat)))
(kb:w.cell? ⟨P,Q+l1,none⟩=some (F G (d1:Nat)))(aw:w.cell? ⟨P,Q+l2,none⟩=some (F G (d0:Nat)))(S:a<w.heap.size)
(ah:u1<J)(A:u0<J)(ad:d1<J)(k:d0<J)(ae:0<d1)
(W:Hid (d1<=u2->GE R V (J-1)))(x:Hid (∀q:Nat,q<J->q=((u2*J+u1)*J+u0)/(d1*J+d0)->GE R V q)):
 Calls M 186 #[C (some ⟨a,f,none⟩) (l+1) ca,C (some ⟨P,Q,none⟩) l cb] w λe c=>∃g,e=.returned (F G (g:Nat))/\g<J/\GE R V g/\Bl w c:=by
 have i1:IntKind.i64.wrap ((l:Int)-1)=(l1:Int):=by rw[h1];exact Bb _ Y
 have i2:IntKind.i64.wrap ((l:Int)-2)=(l2:Int):=by rw[h2];exact Bb _ Y
 have j1:(l1:Int)<(l:Int):=Y
 have j2:(l2:Int)<(l:Int):=Y
 have j3:(l1:Int)<(l:Int)+1:=Y
 have j4:(l2:Int)<(l:Int)+1:=Y
 have i3:IntKind.i64.wrap (l1:Int)=(l1:Int):=Bb _ Y;have j7:(l:Int)<(l:Int)+1:=Y
 have j8:(0:Int)<=(l:Int):=Y
 have j9:(0:Int)<=(l1:Int):=Y
 have av:(0:Int)<=(l2:Int):=Y
 go_enter Tryz.func186,Tryz.ntmps186
 go_upto_region 2 with fail
 go_quiet (fail)
 by_cases af:d1<=u2
 . go_wp2_with fail
   go_ret;exact⟨J-1,rfl,by unfold J;omega,W.o af,Iv (BE _ w) _⟩
 . have y:=SK (B:=J) (u:=u2*J+u1) (u1:=u0) (d1:=d1) (d0:=d0) ae ad A (by
    have:=Am J (show u2+1<=d1 by omega);rw[AE,Ct]at this;omega)
   have X:=Z λV=>Oa u2 u1 d1 Y ah ad V;have Qf:=y.2.2.1;have Qe:=y.2.2.2;have d:=Z y;clear y W;generalize hX:(u2*J+u1)/d1=q0 at *;generalize hY:(u2*J+u1)%d1=r0 at *;generalize hZ:u2*J+u1=U at *;clear hX hY hZ;go_wp2_with fail
   have hq:Bl w (w.drewN (nq+1)):=Iv (BE _ w) _;go_region_held3 (λc=>c.cell? ⟨a,f+l,none⟩=some (F G (u2:Nat))/\c.cell? ⟨a,f+l1,none⟩=some (F G (u1:Nat))) (refine⟨?_,?_⟩<;>(first|(go_keep;done)|(simp[*];done)))
    (first|(go_at_call 175;refine(X.o _).mono ?_;rintro e w1 ⟨rfl,z⟩;have ba:=(z.cell (p:=⟨a,f+l,none⟩) (show a<w.heap.size from S)).trans ka;have az:=(z.cell (p:=⟨a,f+l1,none⟩) (show a<w.heap.size from S)).trans ak;have ay:=(z.cell (p:=⟨a,f+l2,none⟩) (show a<w.heap.size from S)).trans ai))
   have hq:Bl w w1:=Bt hq z;go_wp2_with fail
   go_loopw [8,9] (λT rv wr=>∃(q r:Nat),T=F G (q:Nat)/\rv=F G (r:Nat)/\q<J/\r<J/\Hid (KS J U u0 d1 d0 q r)/\wr=w1)
    (λT _ _=>(intOf T).toNat)
   case atStart=>exact⟨q0,r0,rfl,rfl,Qf,Qe,d,rfl⟩
   case round=>
    clear X d;obtain⟨q,r,rfl,rfl,b,aq,d,rfl⟩:=hrel;have i:0<d1*J:=FL ae uo;by_cases c1:Xk q d0<r
    . have n:=Z (x.o q b (Lt d.o.1 d.o.2.1 i (O0 A (Or.inl c1))));clear i;go_wp2_with(first
       |(go_at_call 183;refine(Gh _ _ b k _).mono ?_;rintro e c ⟨rfl,rfl⟩))
      go_ret;exact⟨q,rfl,b,n.o,hq⟩
    . by_cases c2:Xk q d0=r/\Yk q d0<=u0
      . have n:=Z (x.o q b (Lt d.o.1 d.o.2.1 i (O0 A (Or.inr c2))));obtain⟨c2,c3⟩:=c2;subst c2;clear i;go_wp2_with(first
         |(go_at_call 183;refine(Gh _ _ b k _).mono ?_;rintro e c ⟨rfl,rfl⟩))
        go_ret;exact⟨q,rfl,b,n.o,hq⟩
      . obtain⟨g1,o,t,j⟩:=SL d.o i (US A c1 c2);obtain⟨p,hp⟩:=ex (q-1:Nat);rw[hp]at o t j;have am:(q:Int)-1=(p:Int):=Y
        have an:p<q:=Y
        have ap:IntKind.u64.wrap (p:Int)=(p:Int):=by rw[BV];unfold J at b;omega
        clear hp g1 d;have K:=KX r d1;have D:=Z (x.o p);clear x;by_cases m:r+d1<J
        . have v1:Yr r d1 0=r+d1:=by unfold Yr;rw[Cn,Cl m]
          have v:YO r d1 0=0:=by unfold YO;rw[Cn,Cg m]
          rw[v1,v]at K;have H:=Z (show KS J U u0 d1 d0 p (r+d1)from⟨o,t,j,m⟩);clear o t v1 v i D;obtain⟨s,hs⟩:=ex (r+d1);rw[hs]at K H m;clear hs;by_cases c3:Xk q d0=r
          . have c4:¬(Yk q d0<=u0):=λh=>c2 ⟨c3,h⟩;clear c2;go_wp2_with(first
             |(go_at_call 183;refine(Gh _ _ b k _).mono ?_;rintro e c ⟨rfl,rfl⟩))
            exact⟨⟨p,s,rfl,rfl,j,m,H,by first|trivial|rfl⟩,by simp[intOf];omega⟩
          . clear c2;go_wp2_with(first
             |(go_at_call 183;refine(Gh _ _ b k _).mono ?_;rintro e c ⟨rfl,rfl⟩))
            exact⟨⟨p,s,rfl,rfl,j,m,H,by first|trivial|rfl⟩,by simp[intOf];omega⟩
        . have n:=Z (D.o j (SM o t j k i Y));have v:YO r d1 0=1:=by unfold YO;unfold J at *;omega
          rw[v]at K;generalize Yr r d1 0=s at *;clear o t v i D m;by_cases c3:Xk q d0=r
          . have c4:¬(Yk q d0<=u0):=λh=>c2 ⟨c3,h⟩;clear c2;go_wp2_with(first
             |(go_at_call 183;refine(Gh _ _ b k _).mono ?_;rintro e c ⟨rfl,rfl⟩))
            go_ret;exact⟨p,rfl,j,n.o,hq⟩
          . clear c2;go_wp2_with(first
             |(go_at_call 183;refine(Gh _ _ b k _).mono ?_;rintro e c ⟨rfl,rfl⟩))
            go_ret;exact⟨p,rfl,j,n.o,hq⟩
theorem UW(a b:Option Addr)(n ca cb:Nat)(i bs:List Nat)(w:I)(P:Row G w (C a (n+3) ca) i)(Q:Row G w (C b (n+2) cb) bs)(l:DM J i)(f:DM J bs)
(j:J<=2*bs[n+1]?.getD 0)(v:val J i<val J bs*J):
 Calls M 186 #[C a (n+3) ca,C b (n+2) cb] w λe R=>∃g,e=.returned (F G (g:Nat))/\g<J/\GE (val J i) (val J bs) g/\Bl w R:=by
 obtain⟨y,T,X,V,k⟩:=JA P;obtain⟨z,U,ad,W,p⟩:=JA Q;obtain⟨r,s,rfl,x,A⟩:=k (n+2) Y;obtain⟨_,_,c,_,D⟩:=k (n+1) Y;cases c;obtain⟨_,_,c,_,B⟩:=k n Y;cases c;obtain⟨t,u,rfl,S,H⟩:=p (n+1) Y;obtain⟨_,_,c,_,K⟩:=p n Y;cases c;have d:0<J:=by unfold J;omega
 have m:=UR y.symm;have o:=Oz z.symm;exact UV (n+2) (n+1) n Y Y r s t u ca cb _ _ _ _ _ _ _ w Y A D B H K x (l.getD d _) (l.getD d _) (f.getD d _) (f.getD d _) (by unfold J at j;omega)
  (λh=>UT m o (Ys f n) j (f.getD d _) v h) λq hq h=>UU m o (Ys l n) (Ys f n) j hq h
theorem DO.win{W:I}{b:Nat}(h:DO W b xs)(off len cap:Nat)(a:off+len<=xs.length)(c:len<=cap)(d:cap<=9223372036854775807)(e:len<=1099511627776):Row G W (C (some ⟨b,off,none⟩) len cap) ((xs.drop off).take len):=
 h.row off len cap a c d e
theorem UX{q:List Nat}(hq:q.length=len)(h:ro+len<=xs.length):((DS xs ro len q).drop ro).take len=q:=by
 rw[DS,List.drop_append_of_le_length (by rw[Ap];omega),A2 (by rw[Ap];omega),At,AN Y,Ag Y]
theorem UY{p q:List Nat}(hp:p.length=len)(h:ro+len<=xs.length):DS (DS xs ro len p) ro len q=DS xs ro len q:=by
 have a:(xs.take ro).length=ro:=by rw[Ap];omega
 rw[DS,DS,DS,AN Y,Ag Y,List.drop_append,a,show ro+len-ro=len from by omega,A2 Y,At,List.drop_append,hp,A7,A2 Y,At,AQ]
theorem UZ{q:List Nat}(a:DM J xs)(hq:DM J q):DM J (DS xs ro len q):=by
 intro x b;rw[DS]at b;rcases C7.1 b with h|h
 . exact(a.take ro) x h
 . rcases C7.1 h with h|h
   . exact hq x h
   . exact(a.drop _) x h
theorem U0(d ro n cap:Nat)(xs:List Nat)(a:Option Addr)(cb:Nat)(bs:List Nat)(w:I)
(t:DO w d xs)(y:DM J xs)(af:ro+(n+3)<=xs.length)(x:n+3<=cap)(ah:cap<=9223372036854775807)(hn:n+3<=1099511627776)(k:Row G w (C a (n+2) cb) bs)(l:DM J bs)(X:∀p,a=some p->0<n+2->p.block≠d)
(V:J<=2*bs[n+1]?.getD 0)(U:val J ((xs.drop ro).take (n+3))<val J bs*J):
 Calls M 169 #[C (some ⟨d,ro,none⟩) (n+3) cap,C a (n+2) cb] w λe w'=>
  ∃q,e=.returned (F G ((val J ((xs.drop ro).take (n+3))/val J bs:Nat):Int))/\(q.length=n+3/\DM J q/\val J q=val J ((xs.drop ro).take (n+3))%val J bs)/\DO w' d (DS xs ro (n+3) q)/\w.grownBy w' (some d):=by
 have K:=t.win ro (n+3) cap af x ah hn;have A:=Z (UW _ a n cap cb _ bs w K k ((y.drop ro).take _) l V U);have s:=(JA k).1;have D:val J bs<J^(n+2):=by have:=Yv l;rwa[<-s]at this
 have Qk:val J bs<J^(n+3):=AC D (Ay uo Y);obtain⟨z,r,B,R,HA,i,Qj⟩:=OK k X y l t af s;clear K V U s D Qk k X y l t;go_enter Tryz.func169,Tryz.ntmps169
 go_upto_region 2 with(go_at_call 186;refine A.o.mono ?_;rintro e w1 ⟨g,rfl,W,T,j⟩;have o:=Z T;clear T A)
 have Q:=Z (Tu d ro (n+2) cap xs a cb bs g w1 (HA.o.below j) B.o i.o x (Row.below z.o j) R.o r.o W);go_upto_if 13 with(go_at_call 187;refine Q.o.mono ?_;rintro e w2 ⟨c,q,rfl,⟨hc,ae⟩,hA2,u⟩;have b:=Z ae;clear ae Q)
 obtain rfl|rfl:c=0\/c=1:=Y
 . have m:=Z (SP o.o (by have:=b.o.2.2;rw[CL,Cn]at this;exact this));have HE:=Z m.o.1;have HM:=Z m.o.2;clear m o;go_wp2_with fail
   go_ret;exact⟨q,by rw[<-HE.o];rfl,⟨b.o.1,b.o.2.1,HM.o⟩,hA2,Jl (Yb j _) u⟩
 . have H:=Z (L8 d ro (n+3) cap (DS xs ro (n+3) q) a (n+2) cb bs w2 hA2 (UZ B.o b.o.2.1) (by rw[JR b.o.1 i.o];exact i.o) x Y Y (Row.grown (Row.below z.o j) u r.o) R.o r.o);have Ql:1<=g:=by
    rcases Ca g with h|h
    . exfalso
      have h1:=b.o.2.2;have h2:=Yv b.o.2.1;rw[b.o.1]at h2;rw[h,CL,Fs]at h1;omega
    . exact h
   obtain⟨p,hp⟩:=ex (g-1:Nat);have ak:(g:Int)-1=(p:Int):=Y
   have am:IntKind.u64.wrap (p:Int)=(p:Int):=by rw[BV];unfold J at W;omega
   have HP:=Z hp;clear hp Ql;go_wp2_with(go_at_call 164;refine H.o.mono ?_;rintro e w3 ⟨c3,q3,rfl,ad,hA3,ai⟩;have f:=Z ad;clear ad H)
   go_ret;have v:=SQ o.o (P:=J^(n+3)) (by have:=b.o.2.2;rw[Fs]at this;exact this) (by have:=Yv b.o.2.1;rw[b.o.1]at this;exact this) (q2:=val J q3) (c2:=c3)
    (by
     have S:=f.o.2.2.2;rw[UX b.o.1 i.o,Ag (show bs.length<=n+3 by rw[<-Qj.o];omega)]at S;exact S)
    (by have:=Yv f.o.2.1;rw[f.o.1]at this;exact this) f.o.2.2.1
   rw[HP.o]at v;rw[UY b.o.1 i.o]at hA3;exact⟨q3,by rw[<-v.2.1];rfl,⟨f.o.1,f.o.2.1,v.2.2⟩,hA3,Jl (Jl (Yb j _) u) ai⟩
attribute [local go_sem] Oper.semAt_some
theorem O1{bs:List Nat}{d L:Nat}(j:DM J bs)(hl:bs.length=l+2)(f:bs[l+1]?.getD 0=d)(c:2^(L-1)<=d)(e:d<2^L)(m:1<=L)(k:L<=64)(hs:s=64-L):
 val J bs*2^s<J^(l+2)/\2^63*J^(l+1)<=val J bs*2^s:=by
 have o:val J bs=val J (bs.take (l+1))+J^(l+1)*d:=by
  have h:=Jv J bs (l+1);rwa[Ag Y,f]at h
 have n:=Ys j (l+1);have g:2^L*2^s=J:=by rw[<-CF,Gj];congr 1;omega
 have i:2^(L-1)*2^s=2^63:=by rw[<-CF];congr 1;omega
 constructor
 . have b:val J bs+1<=J^(l+1)*2^L:=by
    have:=As (J^(l+1)) (show d+1<=2^L from e);rw[AO,Fs]at this;omega
   have a:=Am (2^s) b;rw[AH,g,<-AY,AE,Ct]at a;exact AC (Nat.lt_add_of_pos_right (A8 s)) a
 . have b:J^(l+1)*2^(L-1)<=val J bs:=by
    have:=As (J^(l+1)) c;omega
   have a:=Am (2^s) b;rw[AH,i,Av]at a;exact a
theorem U1(i:DM J c)(hl:c.length=l+3)(b:val J c=V)(d:V<J^(l+2))(j:2^63*J^(l+1)<=V):
 val J (c.take (l+2))=V/\J<=2*(c.take (l+2))[l+1]?.getD 0:=by
 have g:=MK (B:=J) (k:=l+2) (D:=c) Y (by rw[b];exact d);have a:val J (c.take (l+2))=V:=by
  have h:=val_append J (c.take (l+2)) (c.drop (l+2));rw[Ch,g,CL,Cn,b]at h;exact h.symm
 refine⟨a,?_⟩;rw[AX Y];have e:=Jv J c (l+1);have m:=Ys i (l+1);rw[show l+1+1=l+2 from rfl,a]at e;rcases AZ (c[l+1]?.getD 0) (2^63)with h|h
 . exfalso
   have f:=As (J^(l+1)) (show c[l+1]?.getD 0+1<=2^63 from h);rw[AO,Fs,Av _ (2^63)]at f;omega
 . rw[Gj];omega
theorem U2{m la:Nat}(c:m<J^la)(d:J^(l+1)<=n)(hl:l+1<=la):m*2^s<n*2^s*J^(la-(l+1)):=by
 have b:J^(l+1)*J^(la-(l+1))=J^la:=by rw[<-CF];congr 1;omega
 have a:=Am (J^(la-(l+1))) d;rw[b]at a;rw[Nat.mul_right_comm];exact Nat.mul_lt_mul_of_pos_right (AC c a) (A8 s)
theorem JO{P:Program}{c:Array Oper}{Q:Exit->Act->I->Prop}{i:Nat}{o:Oper}{K:Act->I->Prop}{a:Act}(e:c[i]?=some o)(d:o.guard=none)
(h:∀b:Act->I->Prop,(∀a w,K a w->b a w)->o.wp P a w b Q):wpOp P c Q i K a w:=by
 unfold wpOp;rw[e];simp only[Region.wanted,d,if_true];exact Or.inl (h K λ_ _ h=>h)
theorem EG{p q:Prop}(k:q)(h:Hid q->p:=by intro x;refine JO rfl rfl λK a=>?_;go_simp;refine a _ _ ?_;(repeat apply Exists.intro);refine ⟨rfl,?_⟩;exact x.o):p:=h k
def F2(V:I)(base:Nat)(v:Value)(g len b:Nat)(a:List Nat):Prop:=
 v=C (some ⟨g,0,none⟩) len len/\DO V g a/\a.length=len/\DM J a/\val J a=b/\base<=g
theorem F2.below{V V':I}{base g len b:Nat}{v:Value}{a:List Nat}(h:F2 V base v g len b a)(c:Bl V V'):F2 V' base v g len b a:=
 ⟨h.1,h.2.1.below c,h.2.2⟩
theorem F2.box{V:I}{u:Value}(h:F2 V base v g len f c)(hl:0<len)(d:Boxed V B 61 (C none 0 0)):F2 (V.setCell ⟨B,0,none⟩ u) base v g len f c:=
 ⟨h.1,h.2.1.far (by
  intro e;simp only at e;obtain⟨i,b⟩:=h.2.1;rw[e,show V.heap[B]?=_ from d]at b;obtain⟨z,a,rfl⟩:∃z a,c=z::a:=by
   cases c with
    |nil=>have:=h.2.2.1;simp at this;omega
    |cons z a=>exact⟨z,a,rfl⟩
  simp[cellsOf]at b) u,h.2.2⟩
theorem F2.ne_box{V:I}{b:Option Addr}{k i:Nat}(h:F2 V base v g len f c)(hl:0<len)(j:Boxed V B 61 (C b k i)):g≠B:=by
 intro e;obtain⟨l,d⟩:=h.2.1;rw[e,show V.heap[B]?=_ from j]at d;obtain⟨z,a,rfl⟩:∃z a,c=z::a:=by
  cases c with
  |nil=>have:=h.2.2.1;simp at this;omega
  |cons z a=>exact⟨z,a,rfl⟩
 simp[cellsOf]at d
end
section
structure SplC where
 w:World
 bs:Value
 rs:Value
 ds:Value
 qs:Value
 B9:Nat
 B10:Nat
 B11:Nat
 B12:Nat
 gR:Nat
 gZ:Nat
 gQ:Nat
 Zb:List Nat
structure SplC.Apart(c:SplC):Prop where
 r0:c.gR≠c.w.heap.size
 r9:c.gR≠c.B9
 r10:c.gR≠c.B10
 r11:c.gR≠c.B11
 r12:c.gR≠c.B12
 rz:c.gR≠c.gZ
 rq:c.gR≠c.gQ
 q0:c.gQ≠c.w.heap.size
 q9:c.gQ≠c.B9
 q10:c.gQ≠c.B10
 q11:c.gQ≠c.B11
 q12:c.gQ≠c.B12
 qz:c.gQ≠c.gZ
 lr:c.w.heap.size<=c.gR
 lq:c.w.heap.size<=c.gQ
structure SplC.Holds(c:SplC)(W:World):Prop where
 b0:Boxed W c.w.heap.size 61 c.bs
 b9:Boxed W c.B9 61 c.rs
 b10:Boxed W c.B10 61 c.ds
 b11:Boxed W c.B11 61 c.qs
 b12:Boxed W c.B12 61 c.qs
 z:DO W c.gZ c.Zb
 B:Below c.w.heap.size c.w W
theorem SplC.Holds.kept{c:SplC}{W W':I}{g:Nat}(h:c.Holds W)(a:W.grownBy W' (some g))(b:g≠c.w.heap.size)(j:g≠c.B9)(d:g≠c.B10)(f:g≠c.B11)(i:g≠c.B12)(k:g≠c.gZ)(hl:c.w.heap.size<=g):c.Holds W':=
 ⟨h.b0.kept a (λe=>by injection e with e;exact b e.symm),h.b9.kept a (λe=>by injection e with e;exact j e.symm),h.b10.kept a (λe=>by injection e with e;exact d e.symm),h.b11.kept a (λe=>by injection e with e;exact f e.symm),
  h.b12.kept a (λe=>by injection e with e;exact i e.symm),h.z.kept a (λe=>by injection e with e;exact k e.symm),below_grown h.B a hl⟩
theorem SplC.Holds.drew{c:SplC}{W:I}(h:c.Holds W):c.Holds W.drew:=
 ⟨h.b0,h.b9,h.b10,h.b11,h.b12,h.z,h.B.drew⟩
variable{f:Bool}{D D' Q Q':List Nat}{B:Nat}{W W' W0:I}
theorem SplC.own(c:SplC)(d:c.w.heap.size<=B):OwnFrom B (λ(_:Nat) W=>c.Holds W):=λk W W' row hs a b=>
 ⟨Xf hs.b0 a b,Xf hs.b9 a b,Xf hs.b10 a b,Xf hs.b11 a b,Xf hs.b12 a b,Iu hs.z a b,Om d k W W' row hs.B a b⟩
def O2(c:SplC)(R0 V n K:Nat)(k:Nat)(W:I):Prop:=
 c.Holds W/\∃D Q,DO W c.gR D/\DO W c.gQ Q/\X1 R0 V n K (K-k) D Q
theorem U3(c:SplC)(R0 V n K:Nat)(g:c.w.heap.size<=B):OwnFrom B (O2 c R0 V n K):=
 BN (c.own g) (λ_ _ _ _ hs a b=>by obtain⟨D,Q,d,e,f⟩:=hs;exact⟨D,Q,Iu d a b,Iu e a b,f⟩)
structure SplM(c:SplC)(W0:World)(D D' Q Q':List Nat)(e f:Bool)(W:World):Prop where
 k:KeepsOthers W0 W
 h:c.Holds W
 r:DO W c.gR (bif e then D' else D)
 q:DO W c.gQ (bif f then Q' else Q)
theorem SplM.drew{c:SplC}{W0 W:I}{D D' Q Q':List Nat}{e f:Bool}(h:SplM c W0 D D' Q Q' e f W):SplM c W0 D D' Q Q' e f W.drew:=
 ⟨h.k.trans (KeepsOthers.drew W),h.h.drew,h.r,h.q⟩
theorem U4{g:Nat}{xs:List Nat}(b:DO W g xs)(c:W.grownBy W' (some g)):KeepsOthers W W':=
 KeepsOthers.of_grownBy c λj o a d=>by cases a;exact b.other d
theorem SplM.any{c:SplC}(h:SplM c W0 D D' Q Q' false f W)(a:List Nat):SplM c W0 D a Q Q' false f W:=⟨h.k,h.h,h.r,h.q⟩
theorem SplM.split{c:SplC}(h:SplM c W0 D D' Q Q' false f W)(a:c.Apart)(b:W.grownBy W' (some c.gR))(d:DO W' c.gR D'):SplM c W0 D D' Q Q' true f W':=
 ⟨h.k.trans (U4 h.r b),h.h.kept b a.r0 a.r9 a.r10 a.r11 a.r12 a.rz a.lr,d,h.q.kept b λe=>by injection e with e;exact a.rq e.symm⟩
theorem SplM.store{c:SplC}{e:Bool}(h:SplM c W0 D D' Q Q' e false W)(a:c.Apart){j v:Nat}(d:Q.set j v=Q'):SplM c W0 D D' Q Q' e true (W.setCell ⟨c.gQ,j,none⟩ (F G (v:Nat))):=
 have b:=JJ W c.gQ j (F G (v:Nat))
 ⟨h.k.trans (BK _ _ _),h.h.kept b a.q0 a.q9 a.q10 a.q11 a.q12 a.qz a.lq,h.r.kept b (λe=>by injection e with e;exact a.rq e),by have:=h.q.set j v;rw[cond_false,d]at this;exact this⟩
attribute [local go_sem] Oper.semAt_some
theorem U5(a:Option Addr)(la ca:Nat)(r t l lb l1 cb m n d s:Nat)(w:I)(fk:lb=l+2)(h2:(lb:Int)-1=l1)(fu:r<w.heap.size)
(ra:Row G w (C a la ca) (Jg J m))(rb:Row G w (C (some ⟨r,t,none⟩) lb cb) (Jg J n))
(kb:w.cell? ⟨r,t+l1,none⟩=some (F G (d:Nat)))(fv:d<J)(hs:s<=63)(HS:Hid ((64:Int)-(Lib.bitLen d:Int)=(s:Int)))(gn:lb<=la)(fw:la<1099511627776)
(fe:Hid (n*2^s<J^(l+2)))(fg:Hid (2^63*J^(l+1)<=n*2^s))(ft:Hid (m*2^s<n*2^s*J^(la-(l+1)))):
 Calls M 146 #[C a la ca,C (some ⟨r,t,none⟩) lb cb] w λe w'=>∃u v,e=.returned (.tuple #[u,v])/\UN w' u (m/n)/\UN w' v (m%n)/\Bl w w':=by
 have Uf:Tryz.prog.follows .mixedOrders=true:=by kernel_rfl
 have Qc:=Z fk;have i1:IntKind.i64.wrap ((lb:Int)-1)=(l1:Int):=by rw[h2];exact Bb _ Y
 have i3:IntKind.i64.wrap (l1:Int)=(l1:Int):=Bb _ Y;have j1:(l1:Int)<(lb:Int):=Y
 have j9:(0:Int)<=(l1:Int):=Y
 have gp:¬(lb=1):=Y
 have Qg:Bl w (w.alloc (.cells #[C (some ⟨r,t,none⟩) lb cb] 61)):=Ba w _;have Qf:=BL w 61 (C (some ⟨r,t,none⟩) lb cb);obtain⟨W0,ck⟩:=ex (w.alloc (.cells #[C (some ⟨r,t,none⟩) lb cb] 61));have Qs:W0.heap.size=w.heap.size+1:=by rw[<-ck];simp
 rw[ck]at Qg Qf;have Ur:=Qf.cell;have Wa:=(Qg.cell (p:=⟨r,t+l1,none⟩) fu).trans kb;have Qr:=Z λ(V:I) (h:Bl W0 V)=>Ol a la ca (Jg J m) s V hs (Row.below (Row.below ra Qg) h) (Ju Jf m) fw;have Qp:=Z λ(V:I) (h:Bl W0 V)=>Ol (some ⟨r,t,none⟩) lb cb (Jg J n) s V hs (Row.below (Row.below rb Qg) h) (Ju Jf n) Y;rw[Js Jf]at Qr Qp;have Ub:=Z ck;have Ua:=Z (show ∀V:I,Calls M 166 #[F G (d:Nat)] V λe w'=>e=.returned (F N (s:Nat))/\w'=V from λV=>by
  have h:=Tryz.bits_LeadingZeros64 (d:Nat) V Y (by unfold J at fv;omega);rw[CQ,HS.o]at h;exact h)
 have gw:IntKind.u64.wrap (s:Int)=(s:Int):=Bj _ Y;have Us:=Z Qs;clear ck fk ra rb kb HS;refine(BG (n:=3)).1 ?_;refine BT Tryz.func146 rfl trivial ?_ rfl;simp only[Tryz.ntmps146,Ar,Ao,AG,Nat.reduceAdd,Nat.reduceSub,AA,AB,AR,AJ,At,AF];refine wpIn_wide.2 ?_;go_upto_region 1 with fail
 rw[Ub.o];clear Ub Qs;go_upto_region 8 with(go_at_call 166;refine(Ua.o _).mono ?_;rintro e w' ⟨rfl,e1⟩;have e2:=e1.symm;subst e2;clear e1)
 refine Jn Uf [[],[],[0,1],[],[],[3,4,2],[],[6],[5,7],[],[],[9,2,5,0,1,2,9,10],[10,8,11,0,1,2,3,4,5,6,7,8,9,10,11]] (by kernel_rfl) DL
  (λD ac V=>∃t9 aw ay az ba bc bf bz bg bh ce:Value,ac={ tmps:=#[C a la ca,C (some ⟨r,t,none⟩) lb cb,E,L (some ⟨w.heap.size,0,none⟩),C none 0 0,C none 0 0,E,E,F G (s:Nat),t9,aw,E,E,C a la ca,F N (la:Nat),C (some ⟨r,t,none⟩) lb cb,F N (lb:Nat),.bool false,E,E,C (some ⟨r,t,none⟩) lb cb,F N (lb:Nat),.bool false,E,E,E,E,E,E,E,E,E,E,E,E,C (some ⟨r,t,none⟩) lb cb,C (some ⟨r,t,none⟩) lb cb,F N (lb:Nat),F N (l1:Nat),L (some ⟨r,t+l1,none⟩),F G (d:Nat),F N (s:Nat),F G (s:Nat),ay,az,ba,bc,bf,bz,bg,bh,ce,E,E,E,E,E,E,E,E,E,E,E,E,E,E,E,E,E,E,E,E,E,E,E,E,E,E,E,E],defers:=[] }/\Hid (D 0=true->ay=C a la ca)/\Hid (D 1=true->az=F G (s:Nat))/\Hid (D 2=true->∃g bi,F2 V W0.heap.size ba g (la+1) (m*2^s) bi)/\Hid (D 3=true->bc=C (some ⟨r,t,none⟩) lb cb)/\Hid (D 4=true->bf=F G (s:Nat))/\Hid (D 5=true->∃gR Zr gZ Zb,F2 V W0.heap.size ba gR (la+1) (m*2^s) Zr/\F2 V W0.heap.size bz gZ (lb+1) (n*2^s) Zb/\gR≠gZ)/\Hid (D 6=true->bg=C (some ⟨r,t,none⟩) lb cb)/\Hid (D 7=true->bh=F N (lb:Nat))/\Hid (D 8=true->∃gZ,bz=C (some ⟨gZ,0,none⟩) (lb+1) (lb+1)/\ce=C (some ⟨gZ,0,none⟩) lb (lb+1))/\Hid (D 9=true->D 11=false->∃B,t9=L (some ⟨B,0,none⟩)/\Boxed V B 61 (C none 0 0)/\W0.heap.size<=B)/\Hid (D 10=true->D 12=false->∃B,aw=L (some ⟨B,0,none⟩)/\Boxed V B 61 (C none 0 0)/\W0.heap.size<=B)/\Hid (D 9=true->D 10=true->t9≠aw)/\Hid (D 11=true->∃B,t9=L (some ⟨B,0,none⟩)/\Boxed V B 61 ba/\W0.heap.size<=B)/\Hid (D 12=true->∃B,aw=L (some ⟨B,0,none⟩)/\Boxed V B 61 ce/\W0.heap.size<=B)/\Bl W0 V)
  (E8 ⟨_,_,_,rfl,Z Dl,Z Dl,Z Dl,Z Dl,Z Dl,Z Dl,Z Dl,Z Dl,Z Dl,Z Dl,Z Dl,Z Dl,Z Dl,Z Dl,(BE _ W0).drew⟩) ?step8 ?fin8
 case step8=>
  rintro D a2 V i ds ah f8 b ai ⟨t9,aw,ay,az,ba,bc,bf,bz,bg,bh,ce,rfl,A,P,g2,R,S,o,T,U,X,z,x,gx,ae,af,hq⟩;have Qx:i<13:=(Af.1 f8).1;obtain rfl|rfl|rfl|rfl|rfl|rfl|rfl|rfl|rfl|rfl|rfl|rfl|rfl:=LP i Y
  all_goals
   simp only[Aj,Ah,Al]at f8;subst f8;clear Qx
  . clear b ah;refine EG ?_;exact⟨Z λ_=>rfl,P,g2,R,S,o,T,U,X,z,x,gx,ae,af,hq⟩
  . clear b ah;refine EG ?_;exact⟨A,Z λ_=>rfl,g2,R,S,o,T,U,X,z,x,gx,ae,af,hq⟩
  . have Uu:D 5=false:=DN ah ai;have Qb:D 11=false:=DN ah ai;have Qa:D 12=false:=DN ah ai;obtain rfl:=A.o (b 0 O);obtain rfl:=P.o (b 1 O);clear b ah;refine JO rfl rfl λK hK=>?_;go_simp;go_wp2_with(go_at_call 168;refine(Qr.o _ hq).mono ?_;rintro e w5 ⟨o,Z5,rfl,⟨ei,et,ew⟩,hA5,bt,ap⟩)
    exact E8 ⟨_,_,_,rfl,Z λ_=>rfl,Z λ_=>rfl,Z λ_=>⟨o,Z5,rfl,hA5,ei,et,ew,Aw hq.size bt⟩,R,S,Z (λh=>by simp[Uu]at h),T,U,X,Z (λh h2=>by obtain⟨B,e,q,q2⟩:=z.o h h2;exact⟨B,e,boxed_below q ap,q2⟩),Z (λh h2=>by obtain⟨B,e,q,q2⟩:=x.o h h2;exact⟨B,e,boxed_below q ap,q2⟩),gx,Z (λh=>by simp[Qb]at h),Z (λh=>by simp[Qa]at h),Bt hq ap⟩
  . have k0:=(boxed_below Qf hq).cell;clear b ah;refine EG ?_;exact⟨A,P,g2,Z λ_=>rfl,S,o,T,U,X,z,x,gx,ae,af,hq⟩
  . clear b ah;refine EG ?_;exact⟨A,P,g2,R,Z λ_=>rfl,o,T,U,X,z,x,gx,ae,af,hq⟩
  . have Up:D 8=false:=DN ah ai;have Qb:D 11=false:=DN ah ai;have Qa:D 12=false:=DN ah ai;obtain rfl:=R.o (b 3 O);obtain rfl:=S.o (b 4 O);obtain⟨gR,Zr,hR⟩:=g2.o (b 2 O);have gj:=hR.2.1.lt;clear b ah;refine JO rfl rfl λK hK=>?_;go_simp;go_wp2_with(go_at_call 168;refine(Qp.o _ hq).mono ?_;rintro e w5 ⟨o,Z5,rfl,⟨ei,et,ew⟩,hA5,bt,ap⟩)
    exact⟨_,_,_,_,_,_,_,_,_,_,_,rfl,A,P,Z λ_=>⟨gR,Zr,hR.below ap⟩,Z λ_=>rfl,Z λ_=>rfl,Z λ_=>⟨gR,Zr,o,Z5,hR.below ap,⟨rfl,hA5,ei,et,ew,Aw hq.size bt⟩,Y⟩,T,U,Z (λh=>by simp[Up]at h),Z (λh h2=>by obtain⟨B,e,q,q2⟩:=z.o h h2;exact⟨B,e,boxed_below q ap,q2⟩),Z (λh h2=>by obtain⟨B,e,q,q2⟩:=x.o h h2;exact⟨B,e,boxed_below q ap,q2⟩),gx,Z (λh=>by simp[Qb]at h),Z (λh=>by simp[Qa]at h),Bt hq ap⟩
  . have k0:=(boxed_below Qf hq).cell;clear b ah;refine EG ?_;exact⟨A,P,g2,R,S,o,Z λ_=>rfl,U,X,z,x,gx,ae,af,hq⟩
  . obtain rfl:=T.o (b 6 O);clear b ah;refine EG ?_;exact⟨A,P,g2,R,S,o,Z λ_=>rfl,Z λ_=>rfl,X,z,x,gx,ae,af,hq⟩
  . have Qa:D 12=false:=DN ah ai;obtain⟨gR,Zr,gZ,Zb,hR,hZ,av⟩:=o.o (b 5 O);obtain rfl:=hZ.1;obtain rfl:=U.o (b 7 O);have b1:(0:Int)<=(lb:Int):=Y
    have b2:(lb:Int)<=(lb:Int)+1:=Y
    clear b ah;refine EG ?_;exact⟨A,P,g2,R,S,Z λ_=>⟨gR,Zr,gZ,Zb,hR,hZ,av⟩,T,Z λ_=>rfl,Z λ_=>⟨gZ,rfl,rfl⟩,z,x,gx,ae,Z (λh=>by simp[Qa]at h),hq⟩
  . have Qb:D 11=false:=DN ah ai;have Qa:D 12=false:=DN ah ai;clear b ah;refine EG ?_;exact⟨A,P,Z (λh=>by obtain⟨g,bi,q⟩:=g2.o h;exact⟨g,bi,q.below (Ba V _)⟩),R,S,Z (λh=>by obtain⟨gR,Zr,gZ,Zb,q1,q2,q3⟩:=o.o h;exact⟨gR,Zr,gZ,Zb,q1.below (Ba V _),q2.below (Ba V _),q3⟩),T,U,X,Z λ_ _=>⟨_,rfl,BL _ _ _,hq.size⟩,Z (λh h2=>by obtain⟨B,e,q,q2⟩:=x.o h h2;exact⟨B,e,q.alloc _,q2⟩),Z (λ_ h e=>by obtain⟨B,e2,q,q2⟩:=x.o (by simpa using h) Qa;have:=q.lt;rw[e2]at e;cases e;omega),Z (λh=>by simp[Qb]at h),Z (λh=>by simp[Qa]at h),hq.alloc hq.size _⟩
  . have Qb:D 11=false:=DN ah ai;have Qa:D 12=false:=DN ah ai;clear b ah;refine EG ?_;exact⟨A,P,Z (λh=>by obtain⟨g,bi,q⟩:=g2.o h;exact⟨g,bi,q.below (Ba V _)⟩),R,S,Z (λh=>by obtain⟨gR,Zr,gZ,Zb,q1,q2,q3⟩:=o.o h;exact⟨gR,Zr,gZ,Zb,q1.below (Ba V _),q2.below (Ba V _),q3⟩),T,U,X,Z (λh h2=>by obtain⟨B,e,q,q2⟩:=z.o h h2;exact⟨B,e,q.alloc _,q2⟩),Z λ_ _=>⟨_,rfl,BL _ _ _,hq.size⟩,Z (λh _ e=>by obtain⟨B,e2,q,q2⟩:=z.o (by simpa using h) Qb;have:=q.lt;rw[e2]at e;cases e;omega),Z (λh=>by simp[Qb]at h),Z (λh=>by simp[Qa]at h),hq.alloc hq.size _⟩
  . have Qa:D 12=false:=DN ah ai;obtain⟨B,rfl,am,bu⟩:=z.o (b 9 O) ai;obtain⟨gR,Zr,gZ,Zb,hR,hZ,av⟩:=o.o (b 5 O);have k0:=am.cell;have f0:=am.frozen;obtain⟨B2,bj,f7,fd⟩:=x.o (b 10 O) Qa;have Qt:B≠B2:=λe=>gx.o (b 9 O) (b 10 O) (by rw[bj,e]);obtain rfl:=bj;obtain rfl:=hR.1;clear z ae;clear b ah;refine EG ?_;exact⟨A,P,Z λ_=>⟨gR,Zr,hR.box Y am⟩,R,S,Z λ_=>⟨gR,Zr,gZ,Zb,hR.box Y am,hZ.box Y am,av⟩,T,U,X,Z (λ_ h=>by simp at h),Z λ_ _=>⟨B2,rfl,f7.kept (DA _ B _) (λe=>by injection e;omega),fd⟩,gx,Z λ_=>⟨B,rfl,am.set _,bu⟩,Z (λh=>by simp[Qa]at h),hq.setCell (p:=⟨B,0,none⟩) bu _⟩
  . obtain⟨B,rfl,am,bu⟩:=x.o (b 10 O) ai;obtain⟨gR,Zr,gZ,Zb,hR,hZ,av⟩:=o.o (b 5 O);obtain⟨fh,ci,ed⟩:=X.o (b 8 O);have k0:=am.cell;have f0:=am.frozen;obtain⟨B2,bj,f7,fd⟩:=ae.o (b 11 O);have Qt:B≠B2:=λe=>gx.o (b 9 O) (b 10 O) (by rw[bj,e]);obtain rfl:=ed;obtain rfl:=ci;obtain rfl:=bj;have Qy:=b 11 O;clear x af;clear b ah;refine EG ?_;exact⟨A,P,Z λ_=>⟨gR,Zr,hR.box Y am⟩,R,S,Z λ_=>⟨gR,Zr,gZ,Zb,hR.box Y am,hZ.box Y am,av⟩,T,U,Z λ_=>⟨fh,rfl,rfl⟩,Z (λ_ h=>by simp[Qy]at h),Z (λ_ h=>by simp at h),gx,Z λ_=>⟨B2,rfl,f7.kept (DA _ B _) (λe=>by injection e;omega),fd⟩,Z λ_=>⟨B,rfl,am.set _,bu⟩,hq.setCell (p:=⟨B,0,none⟩) bu _⟩
 rintro D a2 f an ⟨t9,aw,ay,az,ba,bc,bf,bz,bg,bh,ce,rfl,A,P,g2,R,S,o,T,U,X,z,x,gx,ae,af,hq⟩;obtain⟨gR,Zr,gZ,Zb,hR,hZ,av⟩:=o.o (an 5 DL);obtain⟨fh,ci,ed⟩:=X.o (an 8 DL);obtain⟨B9,rfl,bn,gv⟩:=ae.o (an 11 DL);obtain⟨B10,rfl,bm,gu⟩:=af.o (an 12 DL);obtain rfl:=ed;obtain rfl:=hR.1;have e0:=hZ.1;rw[ci]at e0;cases e0;obtain rfl:=ci;clear A P g2 R S o T U X z x gx ae af an Qr Qp Ua;obtain⟨K,hK⟩:∃K:Nat,(la:Int)+1-(lb:Int)=(K:Int):=⟨la+1-lb,Y⟩;have gh:IntKind.i64.wrap (K:Int)=(K:Int):=Bb _ Y;have Ux:=IA K Y f;have k9:=bn.cell;have Ut:=bm.cell;have Qi:K+lb=la+1:=Y
 have Qm:=Z Qi;clear Qi;go_wp2_with(go_at_call 152;refine((BG (n:=2)).1 (Il Fence.wide _ trivial rfl _ _ _ _)).mono ?_;rintro e w' ⟨rfl,rfl⟩)
 refine(wpIn_wide (n:=3)).1 ?_;obtain⟨WQ,aq⟩:=ex (((f.alloc (.cells (cellsOf G (List.replicate K 0)).toArray 156)).alloc (.cells #[C (some ⟨f.heap.size,0,none⟩) K K] 61)).alloc (.cells #[C (some ⟨f.heap.size,0,none⟩) K K] 61));have Uw:WQ.heap.size=f.heap.size+1+1+1:=by rw[<-aq];simp
 have Qj:Bl w f:=Bt Qg hq;have Qs:=Us.o;have Un:Bl w WQ:=by rw[<-aq];exact((Qj.alloc Qj.size _).alloc (by have:=Qj.size;simp;omega) _).alloc (by have:=Qj.size;simp;omega) _
 have lR:=hR.2.1.lt;have lZ:=hZ.2.1.lt;have l9:=bn.lt;have gy:=bm.lt;have n9:gR≠B9:=λe=>hR.ne_box Y bn e;have gz:gR≠B10:=λe=>hR.ne_box Y bm e;have fx:=hR.2.2.2.2.2;have fy:=hZ.2.2.2.2.2;obtain⟨c,hc⟩:∃c:SplC,c=⟨w,C (some ⟨r,t,none⟩) lb cb,C (some ⟨gR,0,none⟩) (la+1) (la+1),C (some ⟨gZ,0,none⟩) lb (lb+1),C (some ⟨f.heap.size,0,none⟩) K K,B9,B10,f.heap.size+1,f.heap.size+1+1,gR,gZ,f.heap.size,Zb⟩:=⟨_,rfl⟩;have Ue:c.Apart:=by
  rw[hc];constructor<;>(simp only;omega)
 have Uc:c.Holds WQ:=by
  rw[hc,<-aq];have Uj:=(BL (f.alloc (.cells (cellsOf G (List.replicate K 0)).toArray 156)) 61 (C (some ⟨f.heap.size,0,none⟩) K K)).alloc (.cells #[C (some ⟨f.heap.size,0,none⟩) K K] 61);have Ug:=BL ((f.alloc (.cells (cellsOf G (List.replicate K 0)).toArray 156)).alloc (.cells #[C (some ⟨f.heap.size,0,none⟩) K K] 61)) 61 (C (some ⟨f.heap.size,0,none⟩) K K);simp only[BA]at Uj Ug;exact⟨(((boxed_below Qf hq).alloc _).alloc _).alloc _,((bn.alloc _).alloc _).alloc _,((bm.alloc _).alloc _).alloc _,Uj,Ug,((hZ.2.1.alloc _).alloc _).alloc _,by rw[aq];exact Un⟩
 have Ui:DO WQ gR Zr:=by rw[<-aq];exact((hR.2.1.alloc _).alloc _).alloc _
 have Qz:DO WQ f.heap.size (List.replicate K 0):=by rw[<-aq];exact((DO.made (BD f _)).alloc _).alloc _
 have Qu:X1 (m*2^s) (n*2^s) lb K K Zr (List.replicate K 0):=X1.start (by have:=Qm.o;rw[hR.2.2.1];omega) hR.2.2.2.1 hR.2.2.2.2.1 (by
  have h:=ft.o;rwa[show la-(l+1)=K from by have:=Qm.o;have:=Qc.o;omega]at h)
 obtain⟨fc,fm⟩:=U1 hZ.2.2.2.1 (by rw[hZ.2.2.1,Qc.o]) hZ.2.2.2.2.1 fe.o fg.o;have Uy:0<n*2^s:=by
  have h:=fg.o;have:=FL (A8 63) (Cx (n:=l+1) (show 0<J by unfold J;omega));omega
 have Qh:n*2^s<J^lb:=by rw[Qc.o];exact fe.o
 have Uq:=hZ.2.2.2.1;have gk:=hZ.2.2.1;rw[aq];clear aq Ux bn bm Qf Ur k9 Ut hR hZ hq Qj Wa;refine YH rfl Y (gf:=174) (lb:=#[L (some ⟨f.heap.size+1+1,0,none⟩)]) rfl trivial (B0 Tryz.func174 (by kernel_rfl) rfl)
  (Ik Fence.wide _ trivial rfl Y (f.heap.size+1+1) (some ⟨f.heap.size,0,none⟩) K K (λ_=>0) Y) (λ_=>rfl)
  (O2 c (m*2^s) (n*2^s) lb K) (λ_ _ _=>False) (U3 c _ _ _ _ (by rw[hc,Uw];simp only;omega)) (λc _ _ _ _ h _ _=>h.elim)
  ⟨Uc,Zr,List.replicate K 0,by rw[hc];exact Ui,by rw[hc];exact Qz,by rw[Fa];exact Qu⟩ ?rd
  (λk=>{ tmps:=#[C a la ca,C (some ⟨r,t,none⟩) lb cb,E,L (some ⟨w.heap.size,0,none⟩),C none 0 0,C none 0 0,E,E,F G (s:Nat),L (some ⟨B9,0,none⟩),L (some ⟨B10,0,none⟩),L (some ⟨f.heap.size+1,0,none⟩),F N ((K:Int)-1-k),C a la ca,F N (la:Nat),C (some ⟨r,t,none⟩) lb cb,F N (lb:Nat),.bool false,E,E,C (some ⟨r,t,none⟩) lb cb,F N (lb:Nat),.bool false,E,E,E,E,E,E,E,E,E,E,E,E,C (some ⟨r,t,none⟩) lb cb,C (some ⟨r,t,none⟩) lb cb,F N (lb:Nat),F N (l1:Nat),L (some ⟨r,t+l1,none⟩),F G (d:Nat),F N (s:Nat),F G (s:Nat),ay,az,C (some ⟨gR,0,none⟩) (la+1) (la+1),bc,bf,C (some ⟨gZ,0,none⟩) (lb+1) (lb+1),bg,bh,C (some ⟨gZ,0,none⟩) lb (lb+1),C (some ⟨gR,0,none⟩) (la+1) (la+1),F N ((la:Int)+1),C (some ⟨gZ,0,none⟩) lb (lb+1),F N (lb:Nat),F N (K:Nat),C (some ⟨f.heap.size,0,none⟩) K K,C (some ⟨f.heap.size,0,none⟩) K K,.func (.func 174) #[] #[L (some ⟨f.heap.size+1+1,0,none⟩)],F N ((K:Int)-1-k),F G 0,E,E,E,E,E,E,E,E,E,E,E,E,E,E,E,E,E,E],defers:=[] }) ?assign ?body ?done ?stop
 case rd=>
  rintro k W ⟨hh,D,Q,_,hQ,hL⟩;have Ud:=hh.b12;rw[hc]at Ud hQ;refine⟨Ud.cell,λhk=>⟨f.heap.size,0,rfl,?_⟩⟩;rw[A9,hQ.cell (j:=K-1-k) (by rw[hL.2.2.1];omega),hL.2.2.2.2.2.2 (K-1-k) Y]
 case assign=>
  intro l k W K hK;unfold XQ;gi_wp2;exact hK
 case stop=>
  rintro D c k W _ _ h _;exact h.elim
 case body=>
  rintro l' k W ⟨hh,D,Q,hD,hQ,hL⟩ hk gr;have Uh:K-k=K-1-k+1:=Y
  rw[Uh]at hL;have e1:((K:Int)-1-k)=((K-1-k:Nat):Int):=Y
  have HI:=Z (show K-(k+1)=K-1-k by omega);have Qn:K-1-k<K:=Y
  rw[e1];obtain⟨i,hi⟩:=ex (K-1-k);rw[hi]at hL Qn HI ⊢;clear Uh e1 hi;obtain⟨w1,w2,w3⟩:=hL.win Qn Qh;have Uv:=hL.1;have gi:=hL.2.2.1;have Um:=Z (show ∀(V:I) (nn:Nat),DO V gR D->DO V gZ Zb->CallsIn (Fence.wide.inRound l') nn M 169 #[C (some ⟨gR,i,none⟩) (lb+1) (la+1-i),C (some ⟨gZ,0,none⟩) lb (lb+1)] V λe w'=>
   ∃q,e=.returned (F G ((val J ((D.drop i).take (lb+1))/(n*2^s):Nat):Int))/\(q.length=lb+1/\DM J q/\val J q=val J ((D.drop i).take (lb+1))%(n*2^s))/\DO w' gR (DS D i (lb+1) q)/\V.grownBy w' (some gR)from λV nn h1 h2=>by
   have Qi:=Qm.o;have hz:=h2.row 0 lb (lb+1) Y Y Y Y;have Qw:=U0 gR i l (la+1-i) D (some ⟨gZ,0,none⟩) (lb+1) (Zb.take (l+2)) V h1 hL.2.1 (by rw[Uv];have:=Qc.o;omega) (by have:=Qc.o;omega) Y (by have:=Qc.o;omega)
    (by rw[AQ,Qc.o]at hz;rw[Qc.o];exact hz) (Uq.take _) (λp e _=>by cases e;exact λh=>av h.symm) fm (by rw[fc];have:=w1;rw[Qc.o]at this;exact this)
   rw[fc]at Qw;have e3:l+3=lb+1:=by rw[Qc.o]
   have e2:l+2=lb:=Qc.o.symm;rw[e3,e2]at Qw;exact BX l' ((BG (n:=nn)).2 Qw))
  have Uo:=Z λ(q:List Nat) (h1:q.length=lb+1) (h2:DM J q) (h3:val J q=val J ((D.drop i).take (lb+1))%(n*2^s))=>hL.step Qn Qh h1 h2 h3 Uy;obtain⟨qd,fl⟩:=ex (val J ((D.drop i).take (lb+1))/(n*2^s));rw[fl]at Uo Um;clear fl w1 w2 w3 hL fc fm Qu;obtain⟨H1,gb⟩:∃H1:Nat,(i:Int)+(lb:Int)=(H1:Int):=⟨i+lb,Y⟩;obtain⟨H,hH⟩:∃H:Nat,(H1:Int)+1=(H:Int):=⟨H1+1,Y⟩;have gg:H-i=lb+1:=Y
  have y1:(i:Int)<=(H:Int):=Y
  have y2:(H:Int)<=(la:Int)+1:=Y
  have y3:(0:Int)<=(i:Int):=Y
  have y4:(i:Int)<(K:Int):=Y
  have y5:IntKind.i64.wrap (H1:Int)=(H1:Int):=Bb _ Y;have y6:IntKind.i64.wrap (H:Int)=(H:Int):=Bb _ Y;gi_wp2_with fail
  refine J1 Uf [[],[],[],[],[],[],[5],[4,6],[7],[2,3,8],[],[9,10],[0,1,0,1,2,3,4,5,6,7,8,9,10,11],[12,11,11,0,1,2,3,4,5,6,7,8,9,10,11]] (by kernel_rfl) DL
   (λDD ac V=>∃cl cn co ct da db df dh di dj dm dt du:Value,ac={ tmps:=#[C a la ca,C (some ⟨r,t,none⟩) lb cb,E,L (some ⟨w.heap.size,0,none⟩),C none 0 0,C none 0 0,E,E,F G (s:Nat),L (some ⟨B9,0,none⟩),L (some ⟨B10,0,none⟩),L (some ⟨f.heap.size+1,0,none⟩),F N (i:Nat),C a la ca,F N (la:Nat),C (some ⟨r,t,none⟩) lb cb,F N (lb:Nat),.bool false,E,E,C (some ⟨r,t,none⟩) lb cb,F N (lb:Nat),.bool false,E,E,E,E,E,E,E,E,E,E,E,E,C (some ⟨r,t,none⟩) lb cb,C (some ⟨r,t,none⟩) lb cb,F N (lb:Nat),F N (l1:Nat),L (some ⟨r,t+l1,none⟩),F G (d:Nat),F N (s:Nat),F G (s:Nat),ay,az,C (some ⟨gR,0,none⟩) (la+1) (la+1),bc,bf,C (some ⟨gZ,0,none⟩) (lb+1) (lb+1),bg,bh,C (some ⟨gZ,0,none⟩) lb (lb+1),C (some ⟨gR,0,none⟩) (la+1) (la+1),F N ((la:Int)+1),C (some ⟨gZ,0,none⟩) lb (lb+1),F N (lb:Nat),F N (K:Nat),C (some ⟨f.heap.size,0,none⟩) K K,C (some ⟨f.heap.size,0,none⟩) K K,.func (.func 174) #[] #[L (some ⟨f.heap.size+1+1,0,none⟩)],F N (i:Nat),F G 0,cl,cn,co,ct,da,db,df,dh,di,dj,dm,dt,du,E,E,E,E,E],defers:=[] }/\Hid (DD 0=true->cl=C (some ⟨f.heap.size,0,none⟩) K K)/\Hid (DD 1=true->cn=F N (i:Nat))/\Hid (DD 2=true->co=C (some ⟨gR,0,none⟩) (la+1) (la+1))/\Hid (DD 3=true->ct=F N (i:Nat))/\Hid (DD 4=true->da=F N (i:Nat))/\Hid (DD 5=true->db=C (some ⟨r,t,none⟩) lb cb)/\Hid (DD 6=true->df=F N (lb:Nat))/\Hid (DD 7=true->dh=F N (H1:Nat))/\Hid (DD 8=true->di=F N (H:Nat))/\Hid (DD 9=true->dj=C (some ⟨gR,i,none⟩) (lb+1) (la+1-i))/\Hid (DD 10=true->dm=C (some ⟨gZ,0,none⟩) lb (lb+1))/\Hid (DD 11=true->dt=F G (qd:Nat))/\Hid (DD 12=true->du=L (some ⟨f.heap.size,i,none⟩))/\∃D2,Hid (DD 11=true->∃q,(q.length=lb+1/\DM J q/\val J q=val J ((D.drop i).take (lb+1))%(n*2^s))/\D2=DS D i (lb+1) q)/\SplM c W D D2 Q (Q.set i qd) (DD 11) (DD 13) V)
   (E8 ⟨_,_,_,_,_,rfl,Z Dl,Z Dl,Z Dl,Z Dl,Z Dl,Z Dl,Z Dl,Z Dl,Z Dl,Z Dl,Z Dl,Z Dl,Z Dl,D,Z Dl,SplM.drew ⟨KeepsOthers.refl _,hh,hD,hQ⟩⟩) ?step ?fin
  case fin=>
   rintro DD ac V an ⟨cl,cn,co,ct,da,db,df,dh,di,dj,dm,dt,du,rfl,A,P,g2,R,S,o,T,U,X,z,x,ae,af,D2,gd,y⟩;rw[an 11 DL,an 13 DL]at y;obtain⟨q,⟨f9,fa,fb⟩,rfl⟩:=gd.o (an 11 DL);refine⟨y.k.from _,y.h,DS D i (lb+1) q,Q.set i qd,y.r,y.q,?_⟩;rw[HI.o];exact Uo.o q f9 fa fb
  case step=>
   rintro DD ac V j ds ak hj b ai ⟨cl,cn,co,ct,da,db,df,dh,di,dj,dm,dt,du,rfl,A,P,g2,R,S,o,T,U,X,z,x,ae,af,D2,gd,y⟩;have Qv:j<14:=(Af.1 hj).1;obtain rfl|rfl|rfl|rfl|rfl|rfl|rfl|rfl|rfl|rfl|rfl|rfl|rfl|rfl:=FW j Y
   all_goals
    simp only[Aj,Ah,Al]at hj;subst hj;clear Qv
   . have b11:Boxed V (f.heap.size+1) 61 (C (some ⟨f.heap.size,0,none⟩) K K):=by have:=y.h.b11;rw[hc]at this;exact this
     have k0:=b11.cell;clear b ak;refine BO rfl λK2 ad=>?_;go_simp;exact ad _ _ (E8 ⟨_,_,_,_,_,rfl,Z λ_=>rfl,P,g2,R,S,o,T,U,X,z,x,ae,af,D2,gd,y⟩)
   . clear b ak;refine BO rfl λK2 ad=>?_;go_simp;exact ad _ _ ⟨_,_,_,_,_,_,_,_,_,_,_,_,_,rfl,A,Z λ_=>rfl,g2,R,S,o,T,U,X,z,x,ae,af,D2,gd,y⟩
   . have b9:Boxed V B9 61 (C (some ⟨gR,0,none⟩) (la+1) (la+1)):=by have:=y.h.b9;rw[hc]at this;exact this
     have k0:=b9.cell;clear b ak;refine BO rfl λK2 ad=>?_;go_simp;exact ad _ _ ⟨_,_,_,_,_,_,_,_,_,_,_,_,_,rfl,A,P,Z λ_=>rfl,R,S,o,T,U,X,z,x,ae,af,D2,gd,y⟩
   . clear b ak;refine BO rfl λK2 ad=>?_;go_simp;exact ad _ _ ⟨_,_,_,_,_,_,_,_,_,_,_,_,_,rfl,A,P,g2,Z λ_=>rfl,S,o,T,U,X,z,x,ae,af,D2,gd,y⟩
   . clear b ak;refine BO rfl λK2 ad=>?_;go_simp;exact ad _ _ ⟨_,_,_,_,_,_,_,_,_,_,_,_,_,rfl,A,P,g2,R,Z λ_=>rfl,o,T,U,X,z,x,ae,af,D2,gd,y⟩
   . have b0:Boxed V w.heap.size 61 (C (some ⟨r,t,none⟩) lb cb):=by have:=y.h.b0;rw[hc]at this;exact this
     have k0:=b0.cell;clear b ak;refine BO rfl λK2 ad=>?_;go_simp;exact ad _ _ ⟨_,_,_,_,_,_,_,_,_,_,_,_,_,rfl,A,P,g2,R,S,Z λ_=>rfl,T,U,X,z,x,ae,af,D2,gd,y⟩
   . obtain rfl:=o.o (b 5 O);clear b ak;refine BO rfl λK2 ad=>?_;go_simp;exact ad _ _ ⟨_,_,_,_,_,_,_,_,_,_,_,_,_,rfl,A,P,g2,R,S,Z λ_=>rfl,Z λ_=>rfl,U,X,z,x,ae,af,D2,gd,y⟩
   . obtain rfl:=S.o (b 4 O);obtain rfl:=T.o (b 6 O);clear b ak;refine BO rfl λK2 ad=>?_;go_simp;exact ad _ _ ⟨_,_,_,_,_,_,_,_,_,_,_,_,_,rfl,A,P,g2,R,Z λ_=>rfl,o,Z λ_=>rfl,Z λ_=>rfl,X,z,x,ae,af,D2,gd,y⟩
   . obtain rfl:=U.o (b 7 O);clear b ak;refine BO rfl λK2 ad=>?_;go_simp;exact ad _ _ ⟨_,_,_,_,_,_,_,_,_,_,_,_,_,rfl,A,P,g2,R,S,o,T,Z λ_=>rfl,Z λ_=>rfl,z,x,ae,af,D2,gd,y⟩
   . obtain rfl:=g2.o (b 2 O);obtain rfl:=R.o (b 3 O);obtain rfl:=X.o (b 8 O);have gq:¬(la+1=i):=Y
     clear b ak;refine BO rfl λK2 ad=>?_;go_simp;exact ad _ _ ⟨_,_,_,_,_,_,_,_,_,_,_,_,_,rfl,A,P,Z λ_=>rfl,Z λ_=>rfl,S,o,T,U,Z λ_=>rfl,Z λ_=>rfl,x,ae,af,D2,gd,y⟩
   . have b10:Boxed V B10 61 (C (some ⟨gZ,0,none⟩) lb (lb+1)):=by have:=y.h.b10;rw[hc]at this;exact this
     have k0:=b10.cell;clear b ak;refine BO rfl λK2 ad=>?_;go_simp;exact ad _ _ ⟨_,_,_,_,_,_,_,_,_,_,_,_,_,rfl,A,P,g2,R,S,o,T,U,X,z,Z λ_=>rfl,ae,af,D2,gd,y⟩
   . obtain rfl:=z.o (b 9 O);obtain rfl:=x.o (b 10 O);rw[ai]at y;have hr:DO V gR D:=by have:=y.r;rw[hc]at this;exact this
     have hz:DO V gZ Zb:=by have:=y.h.z;rw[hc]at this;exact this
     have HV:=Z y;clear y;clear b ak;refine BO rfl λK2 ad=>?_;go_simp;gi_wp2_with(refine⟨trivial,?_⟩;gi_at_call 169;refine(Um.o _ _ hr hz).mono ?_;rintro e w5 ⟨q,rfl,⟨f9,fa,fb⟩,hA5,bt⟩)
     exact⟨_,_,_,_,_,_,_,_,_,_,_,_,_,rfl,A,P,g2,R,S,o,T,U,X,Z λ_=>rfl,Z λ_=>rfl,Z λ_=>rfl,af,DS D i (lb+1) q,Z λ_=>⟨q,⟨f9,fa,fb⟩,rfl⟩,SplM.split (HV.o.any _) Ue (by rw[hc];exact bt) (by rw[hc];exact hA5)⟩
   . obtain rfl:=A.o (b 0 O);obtain rfl:=P.o (b 1 O);clear b ak;refine BO rfl λK2 ad=>?_;go_simp;exact ad _ _ (E8 ⟨_,_,_,_,_,rfl,Z λ_=>rfl,Z λ_=>rfl,g2,R,S,o,T,U,X,z,x,ae,Z λ_=>rfl,D2,gd,y⟩)
   . obtain rfl:=ae.o (b 11 O);obtain rfl:=af.o (b 12 O);rw[ai]at y;have Qk:DO V f.heap.size Q:=by have:=y.q;rw[hc]at this;exact this
     have k0:=Qk.cell (j:=i) Y;have f0:=Qk.frozen i;have Ql:SplM c W D D2 Q (Q.set i qd) (DD 11) true (V.setCell ⟨f.heap.size,i,none⟩ (F G (qd:Nat))):=by have:=y.store Ue (j:=i) (v:=qd) rfl;rw[hc]at this ⊢;exact this
     have Qo:=Z Ql;clear Ql y;clear b ak;refine BO rfl λK2 ad=>?_;go_simp;exact ad _ _ ⟨_,_,_,_,_,_,_,_,_,_,_,_,_,rfl,A,P,g2,R,S,o,T,U,X,z,x,Z λ_=>rfl,Z λ_=>rfl,D2,gd,Qo.o⟩
 case done=>
  rintro D W hD ⟨hh,D2,Q2,an,fi,hL⟩ ad;rw[A7]at hL;obtain⟨f1,f2⟩:=hL.fin rfl rfl;have b11:Boxed W (f.heap.size+1) 61 (C (some ⟨f.heap.size,0,none⟩) K K):=by have:=hh.b11;rw[hc]at this;exact this
  have b9:Boxed W B9 61 (C (some ⟨gR,0,none⟩) (la+1) (la+1)):=by have:=hh.b9;rw[hc]at this;exact this
  have Uk:Bl w W:=by have:=hh.B;rw[hc]at this;exact this
  have hr:DO W gR D2:=by have:=an;rw[hc]at this;exact this
  have Qk:DO W f.heap.size Q2:=by have:=fi;rw[hc]at this;exact this
  have Qi:=Qm.o;have Qd:Row G W (C (some ⟨f.heap.size,0,none⟩) K K) Q2:=by
   have h1:=Qk.row 0 K K (by rw[hL.2.2.1];omega) (Aa _) Y Y;rwa[AQ,Ag (by rw[hL.2.2.1];exact Aa _)]at h1
  have Qe:Row G W (C (some ⟨gR,0,none⟩) (la+1) (la+1)) D2:=by
   have h1:=hr.row 0 (la+1) (la+1) (by rw[hL.1];omega) (Aa _) Y Y;rwa[AQ,Ag (by rw[hL.1];omega)]at h1
  have HT:=Z (show ∀V:I,Bl W V->Calls M 128 #[C (some ⟨f.heap.size,0,none⟩) K K] V λe w'=>∃u,e=.returned u/\UN w' u (m/n)/\Bl V w' from λV h=>by
   have h1:=YD _ Q2 V (Row.below Qd h);rw[f1]at h1;exact h1)
  have Uz:=Z (show ∀V:I,Bl W V->Calls M 170 #[C (some ⟨gR,0,none⟩) (la+1) (la+1),F G (s:Nat)] V λe w'=>∃u,e=.returned u/\UN w' u (m%n)/\Bl V w' from λV h=>by
   have h1:=UD _ _ _ D2 s V hs (Row.below Qe h) hL.2.1;rw[f2,Nat.mul_div_cancel _ (A8 s)]at h1;exact h1)
  have l9:=b9.lt;have Ul:=b11.cell;have k9:=b9.cell;clear hL f1 f2 Qd Qe hr Qk hh an fi Uc Ui Qz Qu Qi;go_upto_region 13 with fail
  have hq:Bl W W.drew:=(BE _ W).drew;go_region_held3 (λw'=>w'.cell? ⟨f.heap.size+1,0,none⟩=some (C (some ⟨f.heap.size,0,none⟩) K K)/\w'.cell? ⟨B9,0,none⟩=some (C (some ⟨gR,0,none⟩) (la+1) (la+1))) (refine⟨?_,?_⟩<;>(first|(go_keep;done)|(simp[*];done)))
   (first
    |(go_at_call 128;refine(HT.o _ hq).mono ?_;rintro e w5 ⟨u5,rfl,fo,ap⟩;obtain⟨ua,uc,rfl⟩:=UN.form fo;have hq:=Bt hq ap;have Ul:=(boxed_below b11 hq).cell;have k9:=(boxed_below b9 hq).cell)
    |(go_at_call 170;refine(Uz.o _ hq).mono ?_;rintro e w6 ⟨u6,rfl,fs,fj⟩;obtain⟨va,vc,rfl⟩:=UN.form fs;have hq:=Bt hq fj;have Ul:=(boxed_below b11 hq).cell;have k9:=(boxed_below b9 hq).cell))
  all_goals go_wp2_with fail
  have Qq:w6.heap[D]?=some (.deferred (some [])):=(hq.block D (Ae.1 ad).1).trans ad;refine⟨O,.inl ⟨_,_,rfl,BW Qq,?_⟩⟩;refine⟨.tuple #[C ua (Jg J (m/n)).length uc,C va (Jg J (m%n)).length vc],by simp[results,Tryz.results146,go_sem],_,_,rfl,MR (UN.below fo fj) Qq,MR fs Qq,?_⟩;exact below_grown (Bt Uk hq) (BU _ D (.deferred none)) (by have:=Un.size;omega)
end
section
variable{a:List Nat}{P base g l rc:Nat}{u:Value}{W:I}
theorem MV(a:Option Addr)(la ca:Nat)(b:Option Addr)(lb cb m n:Nat)(w:I)(g:Row G w (C a la ca) (Jg J m))(i:Row G w (C b lb cb) (Jg J n))(X:n≠0)(V:la<1099511627776):
 Calls M 146 #[C a la ca,C b lb cb] w λe j=>∃u v,e=.returned (.tuple #[u,v])/\UN j u (m/n)/\UN j v (m%n)/\Bl w j:=by
 obtain⟨U,ad,am,ah,af⟩:=JA g;obtain⟨f,ae,an,ai,T⟩:=JA i;have ak:lb≠0:=λe=>X ((JL Jf).1 (Az (by rw[<-f,e])));by_cases K:la<lb
 . exact UE a la ca b lb cb m n w g i K
 . by_cases P:lb=1
   . subst P;exact UG a la ca b cb m n w g i Y
   . obtain⟨l,rfl⟩:∃l,lb=l+2:=⟨lb-2,Y⟩;obtain⟨z,A,rfl,S,r⟩:=T (l+1) Y;have k:=Ju Jf n;have p:(Jg J n)[l+1]?.getD 0≠0:=by
      intro e;have Q:=Jv J (Jg J n) (l+1);rw[Ag Y,e,CL,Cn,Js Jf]at Q;have h4:=Ys k (l+1);have o:=Lg Jf f.symm Y;rw[show l+2-1=l+1 from rfl]at o;omega
     have c:(Jg J n)[l+1]?.getD 0<J:=k.getD uo _;obtain⟨d,q⟩:=ex ((Jg J n)[l+1]?.getD 0);rw[q]at r p c;obtain⟨B,D,H⟩:=bitLen_spec d p (by rw[<-Gj];exact c);have R:Lib.bitLen d<=64:=by
      rcases AZ 64 (Lib.bitLen d)with h|h
      . exfalso
        have o:2^64<=2^(Lib.bitLen d-1):=Ay Y Y;rw[Gj]at c;omega
      . exact h
     obtain⟨t,x⟩:=O1 (s:=64-Lib.bitLen d) k f.symm q D H B R rfl;rw[Js Jf]at t x;have W:m<J^la:=by
      have:=Yv (Ju Jf m);rwa[Js Jf,<-U]at this
     have y:J^(l+1)<=n:=Lg Jf f.symm Y;exact U5 a la ca z A l (l+2) (l+1) cb m n d (64-Lib.bitLen d) w rfl Y S g i r c Y (show _=_ by omega) Y V t x (U2 W y Y)
theorem MW{p:Nat}(a:p≠0)(h:p<J):Jg J p=[p]:=by
 rw[Xi Jf a,Cl h,Cg h,JF]
theorem U6(a:Option Addr)(ca:Nat)(b:Option Addr)(lb cb x y:Nat)(w:I)(d:Row G w (C a 1 ca) (Jg J x))(t:Row G w (C b lb cb) (Jg J y))(B:y<J):
 Calls M 148 #[C a 1 ca,C b lb cb] w λe D=>∃u,e=.returned u/\UN D u (Nat.gcd x y)/\Bl w D:=by
 obtain⟨n,ad,ak,af,l⟩:=JA d;obtain⟨c,ae,am,ah,m⟩:=JA t;obtain⟨o,an,T⟩:=MS n.symm;rcases Ca lb with z|z
 . subst z;have k:y=0:=(JL Jf).1 (Az c.symm);subst k;have K:=Z d;clear l m n c d t o;go_enter Tryz.func148,Tryz.ntmps148
   go_wp2_with fail
   go_ret;exact⟨_,rfl,by rw[Nat.gcd_zero_right];exact K.o,BE _ w⟩
 . have k:y≠0:=λe=>by rw[e,JF]at c;simp at c;omega
   have i:=MW k B;obtain rfl:lb=1:=by rw[c,i];rfl
   obtain⟨P,Q,rfl,W,r⟩:=l 0 Y;obtain⟨R,S,rfl,X,s⟩:=m 0 Y;rw[o]at r;rw[i]at s;have ap:w.cell? ⟨P,Q,none⟩=some (F G (x:Nat)):=r;have aq:w.cell? ⟨R,S,none⟩=some (F G (y:Nat)):=s;clear l m n c d t o i r s;go_enter Tryz.func148,Tryz.ntmps148
   go_upto_region 3 with fail
   go_quiet (fail)
   go_wp2_with fail
   go_loopw [5,6] (λV v wr=>∃(p q j:Nat),V=F G (p:Nat)/\v=F G (q:Nat)/\p<J/\q<J/\p≠0/\Hid (Nat.gcd p q=Nat.gcd x y)/\wr=w.drewN j)
    (λ_ v _=>(intOf v).toNat)
   case atStart=>exact⟨x,y,_,rfl,rfl,T,B,Y,Z rfl,rfl⟩
   case round=>
    obtain⟨p,q,j,rfl,rfl,hp,hq,U,g,rfl⟩:=hrel;by_cases A:q=0
    . subst A;have f:=Z (show p=Nat.gcd x y by rw[<-g.o,Nat.gcd_zero_right]);have H:=Z (MW U hp);clear g;go_wp2_with fail
      go_ret;refine⟨C (some ⟨w.heap.size,0,none⟩) 1 1,rfl,?_,(Iv (BE _ w) _).alloc (Aa _) _⟩;unfold UN;rw[<-f.o,H.o];exact(DO.made (xs:=[p]) (BD (w.drewN j) (.cells #[F G (p:Nat)] 156))).row 0 1 1 O Y Y Y
    . have f:=Z (show Nat.gcd q (p%q)=Nat.gcd x y by rw[<-g.o,CZ q,<-Nat.gcd_rec,CZ]);have ai:=Ck p (show q>0 by omega);go_upto_region 5 with fail
      go_quiet (fail)
      go_wp2_with fail
      exact⟨⟨q,p%q,j+nq,rfl,O,hq,Y,A,f,O⟩,by simp[intOf];omega⟩
attribute [local go_sem] Oper.semAt_some
def FQ(W:I)(base:Nat)(u:Value)(g l rc P:Nat)(a:List Nat):Prop:=
 u=C (some ⟨g,0,none⟩) l rc/\DO W g a/\DM J a/\l<=a.length/\l<=rc/\rc<=9223372036854775807/\l<=1099511627776/\a.take l=Jg J P/\base<=g
theorem FQ.below{W W':I}{base g l rc P:Nat}{u:Value}{a:List Nat}(h:FQ W base u g l rc P a)(b:Bl W W'):FQ W' base u g l rc P a:=
 ⟨h.1,h.2.1.below b,h.2.2⟩
theorem FQ.un(h:FQ W base u g l rc P a):UN W u P:=by
 obtain⟨rfl,b,i,j,c,d,e,f,k⟩:=h;have:=b.row 0 l rc Y c d e;rw[AQ,f]at this;exact this
theorem U7{ds:List Nat}(i:DO W g a)(k:Row G W (C (some ⟨g,0,none⟩) l rc) ds)(hl:l<=a.length):a.take l=ds:=by
 obtain⟨m,_,_,_,f⟩:=JA k;apply List.ext_getElem?;intro j;by_cases d:j<l
 . obtain⟨b,off,e,_,c⟩:=f j d;cases e;rw[A9,i.cell Y]at c;rw[AX d,An (show j<a.length by omega),An (show j<ds.length by omega)];rw[An (show j<a.length by omega),An (show j<ds.length by omega)]at c;simp only[Fq,Al,Value.int.injEq,true_and]at c;congr 1;omega
 . rw[AP (by rw[Ap];omega),AP Y]
theorem O3(a:Option Addr)(la ca:Nat)(b:Option Addr)(lb cb:Nat)(c d:List Nat)(w:I)(T:DM J c)(U:DM J d)(R:la+lb<=1099511627776)
(o:Row G w (C a la ca) c)(q:Row G w (C b lb cb) d):
 Calls M 120 #[C a la ca,C b lb cb] w λe r=>∃u,e=.returned u/\UN r u (val J c*val J d)/\(val J c*val J d≠0->∃g l rc m,FQ r w.heap.size u g l rc (val J c*val J d) m)/\Bl w r:=by
 have t:=IA (la+lb) Y w;rw[show((la+lb:Nat):Int)=(la:Int)+(lb:Int)from by omega]at t;obtain⟨i,k⟩:∃i,i=w.alloc (.cells (cellsOf G (List.replicate (la+lb) 0)).toArray 156):=⟨_,rfl⟩;have n:Bl w i:=by rw[k];exact Ba w _
 have s:DO i w.heap.size (List.replicate (la+lb) 0):=by rw[k];exact DO.made (BD w _)
 rw[<-k]at t;have D:=Z (Tp w.heap.size (la+lb) (la+lb) (List.replicate (la+lb) 0) a la ca b lb cb c d i T U s (λx S=>by rw[C3 S];unfold J;omega) (by rw[Au];exact Aa _) (Aa _) Y R (Row.below o n) (Row.below q n)
  (λp e j=>by have:=Hh o e j;omega) λp e j=>by have:=Hh q e j;omega)
 clear k s o q;go_enter Tryz.func120,Tryz.ntmps120
 go_wp2_with(go_at_call 141;refine D.o.mono ?_;rintro e X ⟨u,rfl,⟨f,Q⟩,P,m,A,K,B⟩;obtain⟨V,W,rfl⟩:=UN.form f)
 go_ret;refine⟨_,rfl,f,λj=>?_,below_grown n Q (Aa _)⟩;have H:(Jg J (val J c*val J d)).length≠0:=λe=>j ((JL Jf).1 (Az e));rcases P with e|⟨l,e⟩
 . injection e with v y z
   exact absurd y H
 . injection e with v y z
   subst v;subst z;rw[Au]at B;have hl:(Jg J (val J c*val J d)).length<=m.length:=by rw[B];exact(JA f).2.1
   exact⟨_,_,_,m,rfl,A,K,hl,(JA f).2.1,(JA f).2.2.1,(JA f).2.2.2.1,U7 A f hl,Aa _⟩
theorem O4{Q:Nat}(h:FQ W base u g l rc P a)(b:Option Addr)(lb cb:Nat)(m:UN W (C b lb cb) Q)(d:Q<=P)(z:∀p,b=some p->0<lb->p.block≠g):
 Calls M 165 #[u,C b lb cb] W λe f=>∃c q,e=.returned (F G (c:Nat))/\(Row G f u q/\JI q=Jg J (P-Q))/\W.grownBy f (some g):=by
 obtain⟨rfl,o,r,A,j,s,t,k,B⟩:=h;have hl:l=(Jg J P).length:=by rw[<-k,Ap];omega
 have n:=(JA m).1;refine(ON g 0 l rc a b lb cb (Jg J Q) W o r Y j Y (by rw[hl,n];exact Y0 d) m (Ju Jf Q) z).mono ?_;rintro e f ⟨c,q,rfl,hq,w,x⟩;have y:DS a 0 l q=q++a.drop l:=by rw[DS,CV,At,A9]
 have i:=hq.1;refine⟨c,q,rfl,⟨?_,?_⟩,x⟩
 . have v:=w.row 0 l rc (by rw[JR i Y];omega) j s t;rwa[y,AQ,AN Y,Ag Y]at v
 . have hs:Eg (Jg J P) (Jg J Q) 0 l c q:=by
    refine⟨i,hq.2.1,hq.2.2.1,?_⟩;have:=hq.2.2.2;rw[AQ,k]at this;rw[AQ,Ag (show(Jg J P).length<=l by omega)];exact this
   exact OO hs rfl rfl hl (by rw[hl];exact Y0 d) d
theorem O5{w V a:I}{o:Obj}(h:Bl w V)(k:Below (V.alloc o).heap.size (V.alloc o) a):Bl w a:=(h.alloc h.size o).trans (k.mono (h.alloc h.size o).size)
theorem O6(x:Nat):val J [x]=x:=by rw[J3,Lb,CL,Cn]
theorem O7(ma mb:Nat)(a:Option Addr)(la ca:Nat)(b:Option Addr)(lb cb A B:Nat)(w:I)(ra:Row G w (C a la ca) (Jg J A))(rb:Row G w (C b lb cb) (Jg J B))(bt:ma<J)(bu:mb<J)(ci:la<1099511627776)(ck:lb<1099511627776)(h0:mb*B≠0):
 Calls M 145 #[.agg #[F G (ma:Nat),F G (mb:Nat)],C a la ca,C b lb cb] w λe X=>∃u,e=.returned u/\UN X u (YY (ma*A) (mb*B))/\Bl w X:=by
 have Qr:Tryz.prog.follows .mixedOrders=true:=by kernel_rfl
 obtain⟨W0,ap⟩:=ex (w.alloc (.cells #[F G (ma:Nat),F G (mb:Nat)] 169));have Qa:Bl w W0:=by rw[<-ap];exact Ba w _
 have bx:Jq W0 w.heap.size 169 (F G (ma:Nat)) (F G (mb:Nat)):=by rw[<-ap];exact Jq.new w _ _ _
 have Qo:=Z (show ∀(V:I) (g:Nat),Bl W0 V->DO V g [ma]->Calls M 120 #[C a la ca,C (some ⟨g,0,none⟩) 1 1] V λe X=>∃u,e=.returned u/\UN X u (ma*A)/\(ma*A≠0->∃g l rc zs,FQ X V.heap.size u g l rc (ma*A) zs)/\Bl V X from λV g h hA=>by
  have n:=O3 a la ca (some ⟨g,0,none⟩) 1 1 (Jg J A) [ma] V (Ju Jf A) (DM.cons bt (DM.nil _)) Y (Row.below (Row.below ra Qa) h) (hA.row 0 1 1 O Y Y Y);rw[O6,Js Jf,Av A ma]at n;exact n)
 have Qp:=Z (show ∀(V:I) (g:Nat),Bl W0 V->DO V g [mb]->Calls M 120 #[C b lb cb,C (some ⟨g,0,none⟩) 1 1] V λe X=>∃u,e=.returned u/\UN X u (mb*B)/\(mb*B≠0->∃g l rc zs,FQ X V.heap.size u g l rc (mb*B) zs)/\Bl V X from λV g h hA=>by
  have n:=O3 b lb cb (some ⟨g,0,none⟩) 1 1 (Jg J B) [mb] V (Ju Jf B) (DM.cons bu (DM.nil _)) Y (Row.below (Row.below rb Qa) h) (hA.row 0 1 1 O Y Y Y);rw[O6,Js Jf,Av B mb]at n;exact n)
 have Qq:=Z ap;clear ap ra rb;generalize ma*A=m at *;generalize mb*B=T at *;go_enter Tryz.func145,Tryz.ntmps145
 go_upto_region 1 with fail
 rw[Qq.o];refine Jn Qr [[],[],[1],[2],[0,3],[],[],[6],[7],[5,8,4],[4,9,0,1,2,3,4],[9,10,0,1,2,3,4,5,6,7,8,9,10]] (by kernel_rfl) DL
  (λf ac V=>∃t7 t8 t9 aq av aw ad ay az ba bc am:Value,ac={ tmps:=#[.agg #[F G (ma:Nat),F G (mb:Nat)],C a la ca,C b lb cb,L (some ⟨w.heap.size,0,none⟩),E,E,C none 0 0,t7,t8,t9,aq,av,aw,ad,ay,az,ba,bc,am,E,E,E,E,E,E,E,E,E,E,E],defers:=[] }/\Hid (f 0=true->t9=C a la ca)/\Hid (f 1=true->aq=L (some ⟨w.heap.size,0,none⟩))/\Hid (f 2=true->av=F G (ma:Nat))/\Hid (f 3=true->∃g,aw=C (some ⟨g,0,none⟩) 1 1/\DO V g [ma])/\Hid (f 4=true->UN V ad m/\(m≠0->∃d l1 s t,FQ V W0.heap.size ad d l1 s m t))/\Hid (f 5=true->ay=C b lb cb)/\Hid (f 6=true->az=L (some ⟨w.heap.size,1,none⟩))/\Hid (f 7=true->ba=F G (mb:Nat))/\Hid (f 8=true->∃g,bc=C (some ⟨g,0,none⟩) 1 1/\DO V g [mb])/\Hid (f 9=true->∃k l2 ae af,FQ V W0.heap.size am k l2 ae T af/\UN V ad m/\(m≠0->∃d l1 s t,FQ V W0.heap.size ad d l1 s m t/\d≠k))/\Hid (f 10=true->t7=ad)/\Hid (f 11=true->t8=am)/\Bl W0 V)
  (E8 ⟨_,_,_,_,rfl,Z Dl,Z Dl,Z Dl,Z Dl,Z Dl,Z Dl,Z Dl,Z Dl,Z Dl,Z Dl,Z Dl,Z Dl,(BE _ W0).drew⟩) ?step1 ?fin1
 case step1=>
  rintro f a2 V i ds o bh j W ⟨t7,t8,t9,aq,av,aw,ad,ay,az,ba,bc,am,rfl,v,d,k,z,D,H,P,Q,R,S,x,y,hq⟩;have Qk:i<12:=(Af.1 bh).1;obtain rfl|rfl|rfl|rfl|rfl|rfl|rfl|rfl|rfl|rfl|rfl|rfl:=Gu i Y
  all_goals
   simp only[Aj,Ah,Al]at bh;subst bh;clear Qk
  . clear j o;refine EG ?_;exact⟨Z λ_=>rfl,d,k,z,D,H,P,Q,R,S,x,y,hq⟩
  . clear j o;refine EG ?_;exact⟨v,Z λ_=>rfl,k,z,D,H,P,Q,R,S,x,y,hq⟩
  . obtain rfl:=d.o (j 1 O);have k0:=(bx.below hq).c0;clear j o;refine EG ?_;exact⟨v,Z λ_=>rfl,Z λ_=>rfl,z,D,H,P,Q,R,S,x,y,hq⟩
  . have Qs:f 4=false:=by
     cases h:f 4 with
     |false=>rfl
     |true=>rw[o 4 _ rfl h 3 O]at W;cases W
    obtain rfl:=k.o (j 2 O);clear j o;refine EG ?_;exact⟨v,d,Z λ_=>rfl,Z λ_=>⟨_,rfl,DO.made (xs:=[ma]) (BD V _)⟩,Z (λh=>by simp[Qs]at h),H,P,Q,Z (λh=>by obtain⟨g,e,q⟩:=R.o h;exact⟨g,e,q.below (Ba V _)⟩),Z (λh=>by obtain⟨k,l2,ae,af,q1,q2,q3⟩:=S.o h;exact⟨k,l2,ae,af,q1.below (Ba V _),q2.below (Ba V _),λn=>by obtain⟨d,l1,s,t,q,q4⟩:=q3 n;exact⟨d,l1,s,t,q.below (Ba V _),q4⟩⟩),x,y,hq.alloc hq.size _⟩
  . have Qi:f 9=false:=by
     cases h:f 9 with
     |false=>rfl
     |true=>rw[o 9 _ rfl h 4 O]at W;cases W
    have Qm:f 10=false:=by
     cases h:f 10 with
     |false=>rfl
     |true=>rw[o 10 _ rfl h 4 O]at W;cases W
    obtain rfl:=v.o (j 0 O);obtain⟨gm,rfl,ai⟩:=z.o (j 3 O);clear j o;refine JO rfl rfl λK hK=>?_;go_simp;go_wp2_with(go_at_call 120;refine(Qo.o _ _ hq ai).mono ?_;rintro e w5 ⟨u5,rfl,bn,bi,U⟩)
    exact E8 ⟨_,_,_,_,rfl,Z λ_=>rfl,d,k,Z λ_=>⟨gm,rfl,ai.below U⟩,Z λ_=>⟨bn,λn=>by obtain⟨d,l1,s,t,q⟩:=bi n;exact⟨d,l1,s,t,q.1,q.2.1,q.2.2.1,q.2.2.2.1,q.2.2.2.2.1,q.2.2.2.2.2.1,q.2.2.2.2.2.2.1,q.2.2.2.2.2.2.2.1,Aw hq.size q.2.2.2.2.2.2.2.2⟩⟩,H,P,Q,Z (λh=>by obtain⟨g,e,q⟩:=R.o h;exact⟨g,e,q.below (U)⟩),Z (λh=>by simp[Qi]at h),Z (λh=>by simp[Qm]at h),y,Bt hq U⟩
  . clear j o;refine EG ?_;exact⟨v,d,k,z,D,Z λ_=>rfl,P,Q,R,S,x,y,hq⟩
  . clear j o;refine EG ?_;exact⟨v,d,k,z,D,H,Z λ_=>rfl,Q,R,S,x,y,hq⟩
  . obtain rfl:=P.o (j 6 O);have k0:=(bx.below hq).c1;clear j o;refine EG ?_;exact⟨v,d,k,z,D,H,Z λ_=>rfl,Z λ_=>rfl,R,S,x,y,hq⟩
  . have Qi:f 9=false:=by
     cases h:f 9 with
     |false=>rfl
     |true=>rw[o 9 _ rfl h 8 O]at W;cases W
    obtain rfl:=Q.o (j 7 O);clear j o;refine EG ?_;exact⟨v,d,k,Z (λh=>by obtain⟨g,e,q⟩:=z.o h;exact⟨g,e,q.below (Ba V _)⟩),Z (λh=>by obtain⟨q1,q2⟩:=D.o h;exact⟨q1.below (Ba V _),λn=>by obtain⟨d,l1,s,t,q⟩:=q2 n;exact⟨d,l1,s,t,q.below (Ba V _)⟩⟩),H,P,Z λ_=>rfl,Z λ_=>⟨_,rfl,DO.made (xs:=[mb]) (BD V _)⟩,Z (λh=>by simp[Qi]at h),x,y,hq.alloc hq.size _⟩
  . have Qj:f 11=false:=by
     cases h:f 11 with
     |false=>rfl
     |true=>rw[o 11 _ rfl h 9 O]at W;cases W
    obtain rfl:=H.o (j 5 O);obtain⟨gm,rfl,ai⟩:=R.o (j 8 O);obtain⟨p1,p2⟩:=D.o (j 4 O);clear j o;refine JO rfl rfl λK hK=>?_;go_simp;go_wp2_with(go_at_call 120;refine(Qp.o _ _ hq ai).mono ?_;rintro e w5 ⟨u5,rfl,bn,bi,U⟩)
    exact⟨_,_,_,_,_,_,_,_,_,_,_,_,rfl,v,d,k,Z (λh=>by obtain⟨g,e,q⟩:=z.o h;exact⟨g,e,q.below (U)⟩),Z (λh=>by obtain⟨q1,q2⟩:=D.o h;exact⟨q1.below (U),λn=>by obtain⟨d,l1,s,t,q⟩:=q2 n;exact⟨d,l1,s,t,q.below (U)⟩⟩),Z λ_=>rfl,P,Q,Z λ_=>⟨gm,rfl,ai.below U⟩,Z (λ_=>by obtain⟨k,l2,ae,af,q⟩:=bi h0;exact⟨k,l2,ae,af,⟨q.1,q.2.1,q.2.2.1,q.2.2.2.1,q.2.2.2.2.1,q.2.2.2.2.2.1,q.2.2.2.2.2.2.1,q.2.2.2.2.2.2.2.1,Aw hq.size q.2.2.2.2.2.2.2.2⟩,p1.below U,λn=>by obtain⟨d,l1,s,t,r⟩:=p2 n;exact⟨d,l1,s,t,r.below U,by have:=r.2.1.lt;have:=q.2.2.2.2.2.2.2.2;omega⟩⟩),x,Z (λh=>by simp[Qj]at h),Bt hq U⟩
  . clear j o;refine EG ?_;exact⟨v,d,k,z,D,H,P,Q,R,S,Z λ_=>rfl,y,hq⟩
  . clear j o;refine EG ?_;exact⟨v,d,k,z,D,H,P,Q,R,S,x,Z λ_=>rfl,hq⟩
 rintro f bz V1 an ⟨t7,t8,t9,aq,av,aw,ad,ay,az,ba,bc,am,rfl,v,d,k,z,D,H,P,Q,R,S,x,y,hq⟩;obtain⟨gB,l2,ae,af,o2,ak,o1⟩:=S.o (an 9 DL);obtain rfl:=x.o (an 10 DL);obtain rfl:=y.o (an 11 DL);obtain⟨a1,c1,rfl⟩:=UN.form ak;have Qc:=o2.un;obtain⟨a2,c2,rfl⟩:=UN.form Qc;clear v d k z D H P Q R S x y an Qo Qp;have Qh:∀p,a1=some p->0<(Jg J m).length->p.block≠gB:=λp e n=>by
  have hp:m≠0:=λe0=>by rw[e0,JF]at n;simp at n
  obtain⟨d,l1,s,t,r,r2⟩:=o1 hp;have:=r.1;injection this with e1 e2 e3
  rw[e1]at e;cases e;exact r2
 have HO:=Z (MB _ _ (Jg J m) (Jg J T) V1 ak Qc (Ju Jf m) (Ju Jf T) (Xj Jf m) (Xj Jf T));rw[Js Jf,Js Jf]at HO;have Qg:Bl w V1:=Bt Qa hq;have Qn:W0.heap.size<=gB:=o2.2.2.2.2.2.2.2.2;by_cases bm:m<T
 . have Qb:=Gz bm;rw[Qb]at HO;have Qe:=Z λ(V:I) (h:Bl V1 V)=>O4 (o2.below h) a1 (Jg J m).length c1 (ak.below h) Y Qh;have HD:=Z (show T-m=YY m T by unfold YY;omega);clear Qb ak Qc o1 Qh;go_upto_region 4 with(go_at_call 132;refine HO.o.mono ?_;rintro e w2 ⟨rfl,ah⟩)
   go_upto_region 5 with(go_at_call 165;refine(Qe.o _ ah).mono ?_;rintro e w3 ⟨c,q,rfl,⟨hr,bj⟩,bg⟩)
   have Qd:=Z (YD _ q _ hr);rw[bj,HD.o]at Qd;clear Qe HO;go_wp2_with(go_at_call 128;refine Qd.o.mono ?_;rintro e w4 ⟨u,rfl,hu,bf⟩;obtain⟨ua,uc,rfl⟩:=UN.form hu)
   go_ret;have Qf:Bl w w3:=below_grown (Bt Qg ah) bg (Aw Qa.size Qn);exact⟨_,rfl,hu,Bt Qf bf⟩
 . obtain⟨cm,Qb,ce⟩:∃cm:Int,Xr m T=cm/\¬(cm<0):=⟨_,rfl,by unfold Xr;rw[BH bm];split<;>omega⟩;rw[Qb]at HO;obtain⟨d,l1,s,t,r,r2⟩:=o1 Y;have Ql:W0.heap.size<=d:=r.2.2.2.2.2.2.2.2;have Qe:=Z (λ(V:I) (h:Bl V1 V)=>O4 (r.below h) a2 (Jg J T).length c2 (Qc.below h) Y (λp e _=>by
    have:=o2.1;injection this with e1 e2 e3
    rw[e1]at e;cases e;exact λh=>r2 h.symm))
   have HD:=Z (show m-T=YY m T by unfold YY;omega);clear Qb ak Qc o1 Qh;go_upto_region 4 with(go_at_call 132;refine HO.o.mono ?_;rintro e w2 ⟨rfl,ah⟩)
   go_upto_region 5 with(go_at_call 165;refine(Qe.o _ ah).mono ?_;rintro e w3 ⟨c,q,rfl,⟨hr,bj⟩,bg⟩)
   have Qd:=Z (YD _ q _ hr);rw[bj,HD.o]at Qd;clear Qe HO;go_wp2_with(go_at_call 128;refine Qd.o.mono ?_;rintro e w4 ⟨u,rfl,hu,bf⟩;obtain⟨ua,uc,rfl⟩:=UN.form hu)
   go_ret;have Qf:Bl w w3:=below_grown (Bt Qg ah) bg (Aw Qa.size Ql);exact⟨_,rfl,hu,Bt Qf bf⟩
end
def Ev(x k s:Nat):Nat:=x/(J^k*2^(64-s))
variable{a:List Nat}{k s:Nat}
theorem U8(hl:a.length=k+2)(b:DM J a)(hs:s<=63)(f:a[k+1]?.getD 0<2^(64-s)):
 Ev (val J a) k s=D5 (a[k+1]?.getD 0) s+Dw (a[k]?.getD 0) (64-s)/\D5 (a[k+1]?.getD 0) s ||| Dw (a[k]?.getD 0) (64-s)=D5 (a[k+1]?.getD 0) s+Dw (a[k]?.getD 0) (64-s):=by
 have g:=Oz hl;have c:=Ys b k;have i:=b.getD (show 0<J by unfold J;omega) k;have hp:=Is (s:=s) Y;have e:D5 (a[k+1]?.getD 0) s=a[k+1]?.getD 0*2^s:=by rw[It Y,Cl f]
 rw[e];have d:Dw (a[k]?.getD 0) (64-s)<2^s:=by
  unfold Dw;rw[A0 (A8 _),hp];exact i
 refine⟨?_,by rw[Av,<-Fc d]⟩;unfold Ev Dw;rw[g,<-Nat.div_div_eq_div_mul,Av _ (J^k),Nat.mul_add_div (Cx uo),Cg c,Cn,<-hp,<-AH,Fb,Fz _ _ (A8 _)];omega
theorem U9(hl:a.length=k+1)(d:DM J a):Ev (val J a) k s=Dw (a[k]?.getD 0) (64-s):=by
 have b:=Jv J a k;rw[Ag Y]at b;have c:=Ys d k;unfold Ev Dw;rw[b,<-Nat.div_div_eq_div_mul,Fb,Nat.mul_add_div (Cx uo),Cg c,Cn]
theorem VA(hl:a.length<=k)(b:DM J a):Ev (val J a) k s=0:=by
 unfold Ev;apply Cg;have c:=Yv b;have d:J^a.length<=J^k:=Ay uo hl;have e:=Cc (J^k) (A8 (64-s));omega
theorem O8(a:Option Addr)(la ca:Nat)(c:List Nat)(k f d s:Nat)(w:I)(n:Row G w (C a la ca) c)(o:DM J c)(q:d=k+2)(z:(d:Int)-1=f)(A:(d:Int)-2=k)(hs:s<=63)(R:la<=d)(T:d<=1099511627776)(m:la=d->c[k+1]?.getD 0<2^(64-s)):
 Calls M 167 #[C a la ca,F N (d:Nat),F G (s:Nat)] w λe K=>e=.returned (F G (Ev (val J c) k s:Nat))/\Bl w K:=by
 obtain⟨hl,P,S,Q,i⟩:=JA n;have W:IntKind.i64.wrap ((d:Int)-1)=(f:Int):=by rw[z];exact Bb _ Y
 have X:IntKind.i64.wrap ((d:Int)-2)=(k:Int):=by rw[A];exact Bb _ Y
 have i3:IntKind.i64.wrap (f:Int)=(f:Int):=Bb _ Y;have i4:IntKind.i64.wrap (k:Int)=(k:Int):=Bb _ Y;have i5:IntKind.u64.wrap ((64:Int)-s)=((64-s:Nat):Int):=by rw[BV];omega
 have p:=MO (c[k+1]?.getD 0) s;have x:=MP (c[k]?.getD 0) (64-s);have j:=o.getD (show 0<J by unfold J;omega) k;have l:=MQ (show D5 (c[k+1]?.getD 0) s<J by unfold D5;exact Ck _ uo) (show Dw (c[k]?.getD 0) (64-s)<J from Cb (Fx _ _) j);obtain rfl|U:=Decidable.em (la=d)
 . obtain⟨b,off,rfl,D,c1⟩:=i (k+1) Y;obtain⟨_,_,y,_,c0⟩:=i k Y;cases y;obtain⟨t,u⟩:=U8 Y o hs (m rfl);rw[u]at l;have g:=Z t;have r:f=k+1:=Y
   rw[<-r]at c1 p l g;have j1:(f:Int)<(la:Int):=Y
   have j2:(k:Int)<(la:Int):=Y
   have j3:(0:Int)<=(f:Int):=Y
   have j4:(0:Int)<=(k:Int):=Y
   have H:k<la:=Y
   clear r i n t u m hl q j;generalize c[f]?.getD 0=x1 at *;generalize c[k]?.getD 0=x0 at *;go_enter Tryz.func167,Tryz.ntmps167
   go_upto_region 3 with fail
   go_quiet (fail)
   go_wp2_with fail
   go_ret;refine⟨?_,Iv (BE _ w) _⟩;rw[g.o];first|rfl|(simp;done)
 . by_cases B:la=f
   . subst B;obtain⟨b,off,rfl,D,c0⟩:=i k Y;have g:=Z (U9 (s:=s) (show c.length=k+1 by omega) o);have H:k<la:=Y
     have v:¬((la:Int)=(d:Int)):=Y
     clear i n m hl q j l p;generalize c[k]?.getD 0=x0 at *;go_enter Tryz.func167,Tryz.ntmps167
     go_wp2_with fail
     go_ret;refine⟨?_,BE _ w⟩;rw[g.o];first|rfl|(simp;done)
   . have g:=Z (VA (s:=s) (show c.length<=k by omega) o);have v:¬((la:Int)=(d:Int)):=Y
     have V:¬((la:Int)=(f:Int)):=Y
     clear i n m hl q j p x l;go_enter Tryz.func167,Tryz.ntmps167
     go_wp2_with fail
     go_ret;refine⟨?_,BE _ w⟩;rw[g.o];first|rfl|(simp;done)

