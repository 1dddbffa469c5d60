import Derived.Test.YteldjhhjnchdeaaGreatDoorT33
import Derived.WalkLawsBesides
open Go renaming World->B,undef->H
open Go.Value renaming slice->C,int->E,pointer->G
open Go.IntKind renaming i64->F
set_option maxRecDepth 100000
set_option maxHeartbeats 16000000
namespace Go.Proofs.YteldjhhjnchdeaaGreatDoor
open Go.RowKit Go.Shelf
section
attribute [local go_sem] Oper.semAt_some
section
variable{b:Bool}{S:List Rat}{l:List UInt8}{I e f k m n p:Nat}{c:Rat}{a:B}
theorem Df.add2{p q:Rat}(hp:Df k p)(hq:Df m q):Df (k+m+1) (p+q):=by
 rw[<-PV];refine Df.divInt ?_ ((hp.1.mul hq.2).add (by have:=hq.1.mul hp.2;rwa[CZ]at this)) ((hp.2.mul hq.2).mono om);exact Co (by have:=p.den_nz;omega) (by have:=q.den_nz;omega)
theorem F4.sm(h:F4 c):Df 1 c:=by
 obtain⟨x,y,rfl,a,d,b⟩:=h;exact Df.divInt om (by unfold Sm DR;omega) (by unfold Sm DR;omega)
theorem Df.zero(k:Nat)(a:1<=k):Df k 0:=⟨Sm.zero k,Sm.one k a⟩
theorem MU(n:Nat)(c:Rat)(i:Nat):cf (Dn n [c]) i=if i=n then c else 0:=by
 rw[IV];by_cases h:n<=i
 . rw[BG h];by_cases a:i=n
   . rw[BG a,a,A3,Xl]
   . rw[BC a,J4 si]
 . rw[BC h,BC om]
theorem Y4(h:F4 c):Db (Jd (Dn n [c])):=Db.of λi=>by
 rw[JX,MU];split
 . exact Sq.of h.sm om
 . exact Sq.of (Df.zero 1 om) om
theorem YX(n:Nat)(c:Rat):(Jd (Dn n [c])).length<=n+1:=As (JB _) (by simp[Dn])
theorem KJ(c:Rat)(h:n<S.length):EX (Jd S) (Jd (Dn n [c]))=Jd (S.set n (cf S n+c)):=by
 unfold EX;refine YM λi=>?_;rw[Xw,JX,JX,MU,Xy _ _ _ _ h];split
 . rename_i h;rw[h]
 . grind
theorem KK(c:Rat)(h:n<S.length):J2 (Jd S) (Jd (Dn n [c]))=Jd (S.set n (cf S n-c)):=by
 unfold J2;refine YM λi=>?_;rw[Xw,Y5,JX,JX,MU,Xy _ _ _ _ h];split
 . rename_i h;rw[h];grind
 . grind
def YJ(S:List Rat)(m:Nat):Prop:=S.length=9/\∀i,Df (2*m+1) (cf S i)
theorem YJ.start:YJ (List.replicate 9 0) 0:=⟨rfl,λi=>by rw[JN];exact Df.zero 1 om⟩
theorem YJ.sqs(h:YJ S m)(a:m<=300):Db (Jd S):=Db.of λi=>by rw[JX];exact Sq.of (h.2 i) om
theorem YJ.next(h:YJ S m)(a:F4 c)(d:n<=8)(b:Bool):YJ (S.set n (if b then cf S n-c else cf S n+c)) (m+1):=by
 refine⟨by rw[Cq];exact h.1,λi=>?_⟩;rw[Xy _ _ _ _ (by rw[h.1];omega)];split
 . cases b
   . exact((h.2 n).add2 a.sm).mono om
   . rw[BG rfl,FC];exact((h.2 n).add2 a.sm.neg).mono om
 . exact(h.2 i).mono om
theorem Rq{j:Nat}{c d:UInt8}(a:JO l j c=true)(b:JO l j d=true):c=d:=by
 unfold JO at a b;rw[beq_iff_eq]at a b;exact Ch (a.symm.trans b)
theorem KL(h:JU l I=.bad e p):ES l (f+1) b I S=.bad e p:=by
 rw[ES,h]
theorem KM(h:JU l I=.ok (c,n) k):ES l (f+1) b I S =
 if JO l (DV l k) 43 then ES l f false (DV l k+1) (S.set n (if b then cf S n-c else cf S n+c))else if JO l (DV l k) 45 then ES l f true (DV l k+1) (S.set n (if b then cf S n-c else cf S n+c))else if DV l k=l.length then .ok (S.set n (if b then cf S n-c else cf S n+c)) (DV l k)else .bad 2 (DV l k):=by
 rw[ES,h]
theorem Rr(l:List UInt8)(i:Nat):(JU l i).pos:=by
 intro e p h;rw[IH]at h;split at h
 . rename_i c b a;cases h;exact Rm l i _ _ a
 . split at h
   . split at h
     . rename_i c b a;cases h;exact aU _ _ _ _ a
     . cases h
   . cases h
def Xt(l:List UInt8):Rd (List Rat):=if JO l (DV l 0) 45 then ES l (l.length+1) true (DV l 0+1) (List.replicate 9 0)else ES l (l.length+1) false (DV l 0) (List.replicate 9 0)
def KN(r:Rd (List Rat)):List Rat × Nat × Nat:=match r with|.bad e p=>([],e,p)|.ok s _=>(Jd s,0,0)
theorem K5(h:¬300<l.length):JQ l=KN (Xt l):=by
 unfold JQ Xt KN;rw[BC h];split<;>(rename_i a;rw[a])
def F1(l:List UInt8)(a:B)(u:Value)(e p:Int):Prop:=e=((JQ l).2.1:Int)/\p=((JQ l).2.2:Int)/\RowK false a u (JQ l).1/\(JQ l).1.length<=9/\∀i,Df 601 (cf (JQ l).1 i)
theorem F1.bad(h:JQ l=([],e,p)):F1 l a (C none 0 0) e p:=by
 rw[F1,h];exact⟨rfl,rfl,RowK.nil _ _,DQ,λi=>by rw[YQ];exact Df.zero _ om⟩
theorem F1.ok{u:Value}(h:JQ l=(Jd S,0,0))(hs:YJ S m)(c:m<=300)(b:RowK false a u (Jd S)):F1 l a u 0 0:=by
 rw[F1,h];exact⟨rfl,rfl,b,As (JB _) (by rw[hs.1];exact Aa _),λi=>by rw[JX];exact(hs.2 i).mono om⟩
theorem below_drewN{w W:B}(h:Bl w W)(k:Nat):Bl w (W.drewN k):=h.grown (JI W k none) h.size (λk e=>by cases e)
theorem DZ.new(w:B)(s:ByteArray):DZ (w.alloc (.cells #[.string s,E F 0,E F 0,E F 0] 106)) w.heap.size s 0 0 0:=BE w _
theorem bD(s:ByteArray)(bj:s.size<=140737488351232)(w:B):
 Calls Tryz.prog 29 #[.string s] w λr w'=>∃(u:Value) (e p:Int),r=.returned (.tuple #[u,E F e,E F p])/\F1 (Je s) w' u e p/\Bl w w':=by
 by_cases ay:300<s.size
 . have bk:(300:Int)<(s.size:Int):=om
   have HP:=Ja (show JQ (Je s)=([],1,0)by unfold JQ;rw[BG (by rw[Ji];exact ay)]);go_enter Tryz.func29,Tryz.ntmps29
   go_wp2;exact BA (v:=.tuple #[C none 0 0,E F 1,E F 0]) (by simp[results,Tryz.results29,go_sem]) rfl ⟨_,_,_,rfl,F1.bad HP.o,BB _ _⟩
 . have bk:¬(300:Int)<(s.size:Int):=om
   have hs:s.size<=300:=om
   have HP:=Ja (K5 (l:=Je s) (by rw[Ji];exact ay));clear ay bj;have Uo:Bl w (w.alloc (.cells #[.string s,E F 0,E F 0,E F 0] 106)):=Ba w _;have Un:=DZ.new w s;obtain⟨W0,bc⟩:=ex (w.alloc (.cells #[.string s,E F 0,E F 0,E F 0] 106));rw[bc]at Uo Un;obtain⟨R,hR⟩:=ex (w.heap.size);rw[hR]at Un;obtain⟨q,Us,Uq⟩:=Dm hR bc Uo;obtain⟨b0,bf⟩:∃b,b=(decide ((0:Int)=0)&&JO (Je s) (DV (Je s) 0) 45):=⟨_,rfl⟩;have Uv:=Ja (J8 R s 0 0 0 45 W0 Un om hs b0 bf);have HB:=Ja (show JO (Je s) (DV (Je s) 0) 45=b0 by rw[bf];simp);clear Uo Un bf hR bc;go_enter Tryz.func29,Tryz.ntmps29
   go_upto_region 4 with fail
   rw[Us.o,q.o];go_wp2_with(first
    |(go_at_call 61;refine Uv.o.mono ?_;clear Uv;rintro e w1 ⟨rfl,aq,ap⟩;have Ur:=Ja aq;have Qq:=Ja (below_grown Uq.o ap (by rw[q.o];exact Aa _));clear aq ap))
   go_loopw [6,7,8] (λmv pv _ wr=>∃(b:Bool) (I f m:Nat) (S:List Rat) (a:Option Addr) (la ca:Nat),mv=.bool b/\pv=C a la ca/\I<=s.size/\Hid (DZ wr R s (I:Int) 0 0)/\Hid (RowK false wr (C a la ca) (Jd S))/\Hid (YJ S m)/\Hid (m<=I/\s.size-I<f/\ES (Je s) f b I S=Xt (Je s))/\Hid (Bl w wr)) (λ_ _ _ wr=>s.size-E1 wr R)
   case atStart=>
    have Uw:DV (Je s) 0<=s.size:=by rw[<-Ji];exact Ys om
    refine⟨b0,DV (Je s) 0+(if b0 then 1 else 0),s.size+1,0,List.replicate 9 0,none,0,0,rfl,rfl,?_,Ja Ur.o,Ja ?_,Ja YJ.start,Ja ⟨om,om,?_⟩,Ja Qq.o⟩
    . cases hb:b0
      . simpa using Uw
      . have h1:=HB.o;rw[hb]at h1;have h2:=JS h1;rw[Ji]at h2;simp;omega
    . rw[LR (λi=>JN 9 i)];exact RowK.nil _ _
    . unfold Xt;rw[HB.o,Ji];cases b0<;>rfl
   case round=>
    clear Ur Qq HB Uq Us;obtain⟨b,I,f,m,S,a,la,ca,rfl,rfl,hI,an,bm,P,HT,HG⟩:=hrel;have Ut:=Ja (bC R s I 0 0 wr an.o hI hs);go_upto_if 19 with(first
     |(go_at_call 62;refine Ut.o.mono ?_;clear Ut;rintro e w1 ⟨u,c,n,M,rfl,hu,bh,hF,ak,aq,bi,ap⟩;have Ql:=Ja (bm.o.rd an.o ap);have Qn:=Ja aq;have HU:=Ja hu;have HF:=Ja hF;have Uu:=Ja (bi rfl);have Qq:=Ja (below_grown HG.o ap (by rw[q.o];exact Aa _));obtain⟨a2,l2,c2,rfl⟩:=hu.form;clear aq hu hF bi ap))
    obtain⟨d,aw⟩:=ex (DV (Je s) M);have Qr:=Ja aw;have Z:d<=s.size:=by rw[<-aw,<-Ji];exact Ys (by rw[Ji];exact ak)
    have K:=Ja (show DV (Je s) d=d by rw[<-aw];exact Iu _ _);clear aw;obtain⟨f,rfl⟩:∃g,f=g+1:=⟨f-1,by have:=HT.o.2.1;omega⟩;cases b with
    |false=>
     have Uk:=Ja (show YJ (S.set n (if false then cf S n-c else cf S n+c)) (m+1)from P.o.next HF.o bh false);by_cases ae:EM (JU (Je s) I) 0=0
     . obtain⟨_,⟨c0,n0⟩,k,hk⟩:=MS (Rr _ _) ae;obtain⟨rfl,rfl,rfl⟩:=Uu.o c0 n0 k hk;rw[ae,(F0 hk 0 0).2]at Qn;have Ua:=Ja (show m<=I/\I<M/\M<=d/\d<=s.size/\s.size-I<f+1 from⟨HT.o.1,(I0 (by rw[Ji];exact hI) hk).1,by rw[<-Qr.o];exact GH _ _,Z,HT.o.2.1⟩);have Uc:=Ja (KM (f:=f) (b:=false) (S:=S) hk);rw[Qr.o,HT.o.2.2]at Uc;clear ae hk;cases ah:JO (Je s) d 43 with
       |true=>
        obtain⟨Qt,Qk,Uj⟩:=Dm ah (show JO (Je s) d 45=false from Bool.eq_false_iff.2 (λh=>absurd (Rq ah h) DS)) (show ES (Je s) f false (d+1) (S.set n (if false then cf S n-c else cf S n+c))=Xt (Je s)by rw[Uc.o,BG ah]);have Qz:d+1<=s.size:=by have:=JS ah;rw[Ji]at this;omega
        clear ah;have X:=Ja (λ(V:B) (h1:RowK false V (C a la ca) (Jd S)) (h2:RowK false V (C a2 l2 c2) (Jd (Dn n [c])))=>IG _ _ _ _ V h1 h2 (P.o.sqs (by have:=HT.o.1;omega)) (Y4 HF.o) ⟨(by have:=JB S;have:=P.o.1;omega),(by have:=YX n c;omega)⟩);have J:=Ja (λ(V:B) (j:DZ V R s (M:Int) 0 0)=>YE R s M 0 0 45 V j ak hs);rw[show(decide ((0:Int)=0)&&JO (Je s) (DV (Je s) M) 45)=false from by rw[Qr.o];simp[Qk.o],Qr.o]at J;have y:=Ja (λ(V:B) (j:DZ V R s (d:Int) 0 0)=>J8 R s d 0 0 43 V j Z hs true (by rw[K.o];simp[Qt.o]));rw[K.o]at y;go_wp2_with(first
         |(go_at_call 64;refine(X.o _ Ql.o HU.o).mono ?_;clear X;rintro e w2 ⟨u2,rfl,o,z⟩;rw[KJ c (by rw[P.o.1];omega)]at o;obtain⟨a3,l3,c3,rfl⟩:=o.form;have Qg:=Ja o;have Q:=Ja (Qn.o.below z);have Qv:=Ja (Bt Qq.o z);clear o z)
         |(go_at_call 65;refine(J.o _ Q.o).mono ?_;clear J;rintro e w3 ⟨rfl,T,A⟩;have Qf:=Ja (Qg.o.rd Q.o A);have U:=Ja T;have Qw:=Ja (below_grown Qv.o A (by rw[q.o];exact Aa _));clear T A)
         |(go_at_call 61;refine(y.o _ U.o).mono ?_;clear y;rintro e w4 ⟨rfl,W,D⟩;have Qe:=Ja (Qf.o.rd U.o D);have Y:=Ja W;have Qx:=Ja (below_grown Qw.o D (by rw[q.o];exact Aa _));clear W D))
        go_roundw
        case rel=>exact⟨_,d+1,f,m+1,_,_,_,_,rfl,rfl,Qz,Ja Y.o,Ja Qe.o,Ja Uk.o,Ja ⟨by have:=Ua.o;omega,by have:=Ua.o;omega,Uj.o⟩,Ja Qx.o⟩
        case measure=>
         have e1:=GO (I:=d+1) Y.o;have e2:=GO an.o;rw[e1,e2];have:=Ua.o;omega
       |false=>
        have Qt:=Ja ah;cases ai:JO (Je s) d 45 with
        |true=>
         have Qk:=Ja ai;have Uj:=Ja (show ES (Je s) f true (d+1) (S.set n (if false then cf S n-c else cf S n+c))=Xt (Je s)by rw[Uc.o,BC (show ¬JO (Je s) d 43=true by rw[ah];decide),BG ai]);have Qz:d+1<=s.size:=by have:=JS ai;rw[Ji]at this;omega
         clear ah ai;have X:=Ja (λ(V:B) (h1:RowK false V (C a la ca) (Jd S)) (h2:RowK false V (C a2 l2 c2) (Jd (Dn n [c])))=>IG _ _ _ _ V h1 h2 (P.o.sqs (by have:=HT.o.1;omega)) (Y4 HF.o) ⟨(by have:=JB S;have:=P.o.1;omega),(by have:=YX n c;omega)⟩);have J:=Ja (λ(V:B) (j:DZ V R s (M:Int) 0 0)=>YE R s M 0 0 45 V j ak hs);rw[show(decide ((0:Int)=0)&&JO (Je s) (DV (Je s) M) 45)=true from by rw[Qr.o];simp[Qk.o],Qr.o]at J;have y:=Ja (λ(V:B) (j:DZ V R s (d:Int) 0 0)=>J8 R s d 0 0 43 V j Z hs false (by rw[K.o];simp[Qt.o]));rw[K.o]at y;have O:=Ja (λ(V:B) (j:DZ V R s (d:Int) 0 0)=>J8 R s d 0 0 45 V j Z hs true (by rw[K.o];simp[Qk.o]));rw[K.o]at O;go_wp2_with(first
          |(go_at_call 64;refine(X.o _ Ql.o HU.o).mono ?_;clear X;rintro e w2 ⟨u2,rfl,o,z⟩;rw[KJ c (by rw[P.o.1];omega)]at o;obtain⟨a3,l3,c3,rfl⟩:=o.form;have Qg:=Ja o;have Q:=Ja (Qn.o.below z);have Qv:=Ja (Bt Qq.o z);clear o z)
          |(go_at_call 65;refine(J.o _ Q.o).mono ?_;clear J;rintro e w3 ⟨rfl,T,A⟩;have Qf:=Ja (Qg.o.rd Q.o A);have U:=Ja T;have Qw:=Ja (below_grown Qv.o A (by rw[q.o];exact Aa _));clear T A)
          |(go_at_call 61;refine(y.o _ U.o).mono ?_;clear y;rintro e w4 ⟨rfl,W,D⟩;have Qe:=Ja (Qf.o.rd U.o D);have Y:=Ja W;have Qx:=Ja (below_grown Qw.o D (by rw[q.o];exact Aa _));clear W D)
          |(go_at_call 61;refine(O.o _ Y.o).mono ?_;clear O;rintro e w5 ⟨rfl,af,N⟩;have Qj:=Ja (Qe.o.rd Y.o N);have Qi:=Ja af;have Qy:=Ja (below_grown Qx.o N (by rw[q.o];exact Aa _));clear af N))
         go_roundw
         case rel=>exact⟨_,d+1,f,m+1,_,_,_,_,rfl,rfl,Qz,Ja Qi.o,Ja Qj.o,Ja Uk.o,Ja ⟨by have:=Ua.o;omega,by have:=Ua.o;omega,Uj.o⟩,Ja Qy.o⟩
         case measure=>
          have e1:=GO (I:=d+1) Qi.o;have e2:=GO an.o;rw[e1,e2];have:=Ua.o;omega
        |false=>
         have Qk:=Ja ai;by_cases az:d<s.size
         . have Qp:=Ja (show JQ (Je s)=([],2,d)by rw[HP.o,Uc.o,BC (show ¬JO (Je s) d 43=true by rw[ah];decide),BC (show ¬JO (Je s) d 45=true by rw[ai];decide),BC (by rw[Ji];omega)];rfl);clear ah ai;have X:=Ja (λ(V:B) (h1:RowK false V (C a la ca) (Jd S)) (h2:RowK false V (C a2 l2 c2) (Jd (Dn n [c])))=>IG _ _ _ _ V h1 h2 (P.o.sqs (by have:=HT.o.1;omega)) (Y4 HF.o) ⟨(by have:=JB S;have:=P.o.1;omega),(by have:=YX n c;omega)⟩);have J:=Ja (λ(V:B) (j:DZ V R s (M:Int) 0 0)=>YE R s M 0 0 45 V j ak hs);rw[show(decide ((0:Int)=0)&&JO (Je s) (DV (Je s) M) 45)=false from by rw[Qr.o];simp[Qk.o],Qr.o]at J;have y:=Ja (λ(V:B) (j:DZ V R s (d:Int) 0 0)=>J8 R s d 0 0 43 V j Z hs false (by rw[K.o];simp[Qt.o]));rw[K.o]at y;have O:=Ja (λ(V:B) (j:DZ V R s (d:Int) 0 0)=>J8 R s d 0 0 45 V j Z hs false (by rw[K.o];simp[Qk.o]));rw[K.o]at O;have H8:=Ja (λ(V:B) (j:DZ V R s (d:Int) 0 0)=>YE R s d 0 0 32 V j Z hs);rw[K.o]at H8;have Ug:=Ja (λ(V:B) (j:DZ V R s (d:Int) 0 0)=>It R s (d:Int) 0 0 2 (d:Int) V j);have bg:(d:Int)<(s.size:Int):=om
           go_wp2_with(first
            |(go_at_call 64;refine(X.o _ Ql.o HU.o).mono ?_;clear X;rintro e w2 ⟨u2,rfl,o,z⟩;rw[KJ c (by rw[P.o.1];omega)]at o;obtain⟨a3,l3,c3,rfl⟩:=o.form;have Qg:=Ja o;have Q:=Ja (Qn.o.below z);have Qv:=Ja (Bt Qq.o z);clear o z)
            |(go_at_call 65;refine(J.o _ Q.o).mono ?_;clear J;rintro e w3 ⟨rfl,T,A⟩;have Qf:=Ja (Qg.o.rd Q.o A);have U:=Ja T;have Qw:=Ja (below_grown Qv.o A (by rw[q.o];exact Aa _));clear T A)
            |(go_at_call 61;refine(y.o _ U.o).mono ?_;clear y;rintro e w4 ⟨rfl,W,D⟩;have Qe:=Ja (Qf.o.rd U.o D);have Y:=Ja W;have Qx:=Ja (below_grown Qw.o D (by rw[q.o];exact Aa _));clear W D)
            |(go_at_call 61;refine(O.o _ Y.o).mono ?_;clear O;rintro e w5 ⟨rfl,af,N⟩;have Qj:=Ja (Qe.o.rd Y.o N);have Qi:=Ja af;have Qy:=Ja (below_grown Qx.o N (by rw[q.o];exact Aa _));clear af N)
            |(go_at_call 65;refine(H8.o _ Qi.o).mono ?_;clear H8;rintro e w6 ⟨rfl,x,ad⟩;have Qo:=Ja (Qj.o.rd Qi.o ad);have Qs:=Ja x;have Ue:=x.c1;have Ud:=x.c2;have Uf:=x.c3;have Ub:=Ja (below_grown Qy.o ad (by rw[q.o];exact Aa _));clear x ad)
            |(go_at_call 66;refine(Ug.o _ Qs.o).mono ?_;clear Ug;rintro e w7 ⟨rfl,aj,am⟩;clear Ue Ud Uf;have Um:w7.cell? ⟨R,2,none⟩=some (E F 2):=aj.c2;have Ul:w7.cell? ⟨R,3,none⟩=some (E F (d:Int)):=aj.c3;have Ui:=Ja (below_grown Ub.o am (by rw[q.o];exact Aa _));clear aj am))
           go_quiet (fail)
           go_wp2_with fail
           exact BA (v:=.tuple #[C none 0 0,E F 2,E F (d:Int)]) (by simp[results,Tryz.results29,go_sem]) rfl ⟨_,_,_,rfl,F1.bad (e:=2) Qp.o,below_drewN Ui.o _⟩
         . have Qp:=Ja (show JQ (Je s)=(Jd (S.set n (if false then cf S n-c else cf S n+c)),0,0)by rw[HP.o,Uc.o,BC (show ¬JO (Je s) d 43=true by rw[ah];decide),BC (show ¬JO (Je s) d 45=true by rw[ai];decide),BG (by rw[Ji];omega)];rfl);clear ah ai;have X:=Ja (λ(V:B) (h1:RowK false V (C a la ca) (Jd S)) (h2:RowK false V (C a2 l2 c2) (Jd (Dn n [c])))=>IG _ _ _ _ V h1 h2 (P.o.sqs (by have:=HT.o.1;omega)) (Y4 HF.o) ⟨(by have:=JB S;have:=P.o.1;omega),(by have:=YX n c;omega)⟩);have J:=Ja (λ(V:B) (j:DZ V R s (M:Int) 0 0)=>YE R s M 0 0 45 V j ak hs);rw[show(decide ((0:Int)=0)&&JO (Je s) (DV (Je s) M) 45)=false from by rw[Qr.o];simp[Qk.o],Qr.o]at J;have y:=Ja (λ(V:B) (j:DZ V R s (d:Int) 0 0)=>J8 R s d 0 0 43 V j Z hs false (by rw[K.o];simp[Qt.o]));rw[K.o]at y;have O:=Ja (λ(V:B) (j:DZ V R s (d:Int) 0 0)=>J8 R s d 0 0 45 V j Z hs false (by rw[K.o];simp[Qk.o]));rw[K.o]at O;have H8:=Ja (λ(V:B) (j:DZ V R s (d:Int) 0 0)=>YE R s d 0 0 32 V j Z hs);rw[K.o]at H8;go_wp2_with(first
            |(go_at_call 64;refine(X.o _ Ql.o HU.o).mono ?_;clear X;rintro e w2 ⟨u2,rfl,o,z⟩;rw[KJ c (by rw[P.o.1];omega)]at o;obtain⟨a3,l3,c3,rfl⟩:=o.form;have Qg:=Ja o;have Q:=Ja (Qn.o.below z);have Qv:=Ja (Bt Qq.o z);clear o z)
            |(go_at_call 65;refine(J.o _ Q.o).mono ?_;clear J;rintro e w3 ⟨rfl,T,A⟩;have Qf:=Ja (Qg.o.rd Q.o A);have U:=Ja T;have Qw:=Ja (below_grown Qv.o A (by rw[q.o];exact Aa _));clear T A)
            |(go_at_call 61;refine(y.o _ U.o).mono ?_;clear y;rintro e w4 ⟨rfl,W,D⟩;have Qe:=Ja (Qf.o.rd U.o D);have Y:=Ja W;have Qx:=Ja (below_grown Qw.o D (by rw[q.o];exact Aa _));clear W D)
            |(go_at_call 61;refine(O.o _ Y.o).mono ?_;clear O;rintro e w5 ⟨rfl,af,N⟩;have Qj:=Ja (Qe.o.rd Y.o N);have Qi:=Ja af;have Qy:=Ja (below_grown Qx.o N (by rw[q.o];exact Aa _));clear af N)
            |(go_at_call 65;refine(H8.o _ Qi.o).mono ?_;clear H8;rintro e w6 ⟨rfl,x,ad⟩;have Qo:=Ja (Qj.o.rd Qi.o ad);have Qs:=Ja x;have Ue:=x.c1;have Ud:=x.c2;have Uf:=x.c3;have Ub:=Ja (below_grown Qy.o ad (by rw[q.o];exact Aa _));clear x ad))
           exact BA (v:=.tuple #[C a3 l3 c3,E F 0,E F 0]) (by simp[results,Tryz.results29,go_sem]) rfl ⟨_,_,_,rfl,F1.ok Qp.o Uk.o (by have:=Ua.o;omega) Qo.o,Ub.o⟩
     . obtain⟨t,hE⟩:=ex (EM (JU (Je s) I) 0);obtain⟨L,hA⟩:=ex (Eh (JU (Je s) I) 0 0);have Qu:∃e p:Nat,JU (Je s) I=.bad e p:=by
        cases hk:JU (Je s) I with
        |bad e p=>exact⟨e,p,rfl⟩
        |ok a k=>exact absurd (F0 hk 0 0).1 ae
       obtain⟨e0,p0,Qu⟩:=Qu;have Uh:=Ja (show t=(e0:Int)/\L=(p0:Int)by rw[<-hE,<-hA,Qu];exact⟨rfl,rfl⟩);have Qp:=Ja (show JQ (Je s)=([],e0,p0)by rw[HP.o,<-HT.o.2.2,KL Qu];rfl);rw[hE,hA]at Qn;rw[hE]at ae;have Up:(t==0)=false:=by rw[BH];exact ae
       clear hE hA Qu;by_cases az:d<s.size
       . skip
         have X:=Ja (λ(V:B) (h1:RowK false V (C a la ca) (Jd S)) (h2:RowK false V (C a2 l2 c2) (Jd (Dn n [c])))=>IG _ _ _ _ V h1 h2 (P.o.sqs (by have:=HT.o.1;omega)) (Y4 HF.o) ⟨(by have:=JB S;have:=P.o.1;omega),(by have:=YX n c;omega)⟩);have J:=Ja (λ(V:B) (j:DZ V R s (M:Int) t L)=>YE R s M t L 45 V j ak hs);rw[show(decide ((t:Int)=0)&&JO (Je s) (DV (Je s) M) 45)=false from by simp[ae],Qr.o]at J;have y:=Ja (λ(V:B) (j:DZ V R s (d:Int) t L)=>J8 R s d t L 43 V j Z hs false (by simp[ae]));rw[K.o]at y;have O:=Ja (λ(V:B) (j:DZ V R s (d:Int) t L)=>J8 R s d t L 45 V j Z hs false (by simp[ae]));rw[K.o]at O;have H8:=Ja (λ(V:B) (j:DZ V R s (d:Int) t L)=>YE R s d t L 32 V j Z hs);rw[K.o]at H8;have Ug:=Ja (λ(V:B) (j:DZ V R s (d:Int) t L)=>It R s (d:Int) t L 2 (d:Int) V j);have bg:(d:Int)<(s.size:Int):=om
         go_wp2_with(first
          |(go_at_call 64;refine(X.o _ Ql.o HU.o).mono ?_;clear X;rintro e w2 ⟨u2,rfl,o,z⟩;rw[KJ c (by rw[P.o.1];omega)]at o;obtain⟨a3,l3,c3,rfl⟩:=o.form;have Qg:=Ja o;have Q:=Ja (Qn.o.below z);have Qv:=Ja (Bt Qq.o z);clear o z)
          |(go_at_call 65;refine(J.o _ Q.o).mono ?_;clear J;rintro e w3 ⟨rfl,T,A⟩;have Qf:=Ja (Qg.o.rd Q.o A);have U:=Ja T;have Qw:=Ja (below_grown Qv.o A (by rw[q.o];exact Aa _));clear T A)
          |(go_at_call 61;refine(y.o _ U.o).mono ?_;clear y;rintro e w4 ⟨rfl,W,D⟩;have Qe:=Ja (Qf.o.rd U.o D);have Y:=Ja W;have Qx:=Ja (below_grown Qw.o D (by rw[q.o];exact Aa _));clear W D)
          |(go_at_call 61;refine(O.o _ Y.o).mono ?_;clear O;rintro e w5 ⟨rfl,af,N⟩;have Qj:=Ja (Qe.o.rd Y.o N);have Qi:=Ja af;have Qy:=Ja (below_grown Qx.o N (by rw[q.o];exact Aa _));clear af N)
          |(go_at_call 65;refine(H8.o _ Qi.o).mono ?_;clear H8;rintro e w6 ⟨rfl,x,ad⟩;have Qo:=Ja (Qj.o.rd Qi.o ad);have Qs:=Ja x;have Ue:=x.c1;have Ud:=x.c2;have Uf:=x.c3;have Ub:=Ja (below_grown Qy.o ad (by rw[q.o];exact Aa _));clear x ad)
          |(go_at_call 66;refine(Ug.o _ Qs.o).mono ?_;clear Ug;rintro e w7 ⟨rfl,aj,am⟩;clear Ue Ud Uf;have Um:=aj.c2;have Ul:=aj.c3;rw[BC ae]at Um;rw[BC ae]at Ul;have Ui:=Ja (below_grown Ub.o am (by rw[q.o];exact Aa _));clear aj am))
         go_quiet (fail)
         go_wp2_with fail
         exact BA (v:=.tuple #[C none 0 0,E F t,E F L]) (by simp[results,Tryz.results29,go_sem]) rfl ⟨_,_,_,rfl,by rw[Uh.o.1,Uh.o.2];exact F1.bad Qp.o,below_drewN Ui.o _⟩
       . skip
         have X:=Ja (λ(V:B) (h1:RowK false V (C a la ca) (Jd S)) (h2:RowK false V (C a2 l2 c2) (Jd (Dn n [c])))=>IG _ _ _ _ V h1 h2 (P.o.sqs (by have:=HT.o.1;omega)) (Y4 HF.o) ⟨(by have:=JB S;have:=P.o.1;omega),(by have:=YX n c;omega)⟩);have J:=Ja (λ(V:B) (j:DZ V R s (M:Int) t L)=>YE R s M t L 45 V j ak hs);rw[show(decide ((t:Int)=0)&&JO (Je s) (DV (Je s) M) 45)=false from by simp[ae],Qr.o]at J;have y:=Ja (λ(V:B) (j:DZ V R s (d:Int) t L)=>J8 R s d t L 43 V j Z hs false (by simp[ae]));rw[K.o]at y;have O:=Ja (λ(V:B) (j:DZ V R s (d:Int) t L)=>J8 R s d t L 45 V j Z hs false (by simp[ae]));rw[K.o]at O;have H8:=Ja (λ(V:B) (j:DZ V R s (d:Int) t L)=>YE R s d t L 32 V j Z hs);rw[K.o]at H8;go_wp2_with(first
          |(go_at_call 64;refine(X.o _ Ql.o HU.o).mono ?_;clear X;rintro e w2 ⟨u2,rfl,o,z⟩;rw[KJ c (by rw[P.o.1];omega)]at o;obtain⟨a3,l3,c3,rfl⟩:=o.form;have Qg:=Ja o;have Q:=Ja (Qn.o.below z);have Qv:=Ja (Bt Qq.o z);clear o z)
          |(go_at_call 65;refine(J.o _ Q.o).mono ?_;clear J;rintro e w3 ⟨rfl,T,A⟩;have Qf:=Ja (Qg.o.rd Q.o A);have U:=Ja T;have Qw:=Ja (below_grown Qv.o A (by rw[q.o];exact Aa _));clear T A)
          |(go_at_call 61;refine(y.o _ U.o).mono ?_;clear y;rintro e w4 ⟨rfl,W,D⟩;have Qe:=Ja (Qf.o.rd U.o D);have Y:=Ja W;have Qx:=Ja (below_grown Qw.o D (by rw[q.o];exact Aa _));clear W D)
          |(go_at_call 61;refine(O.o _ Y.o).mono ?_;clear O;rintro e w5 ⟨rfl,af,N⟩;have Qj:=Ja (Qe.o.rd Y.o N);have Qi:=Ja af;have Qy:=Ja (below_grown Qx.o N (by rw[q.o];exact Aa _));clear af N)
          |(go_at_call 65;refine(H8.o _ Qi.o).mono ?_;clear H8;rintro e w6 ⟨rfl,x,ad⟩;have Qo:=Ja (Qj.o.rd Qi.o ad);have Qs:=Ja x;have Ue:=x.c1;have Ud:=x.c2;have Uf:=x.c3;have Ub:=Ja (below_grown Qy.o ad (by rw[q.o];exact Aa _));clear x ad))
         go_quiet (fail)
         go_wp2_with fail
         exact BA (v:=.tuple #[C none 0 0,E F t,E F L]) (by simp[results,Tryz.results29,go_sem]) rfl ⟨_,_,_,rfl,by rw[Uh.o.1,Uh.o.2];exact F1.bad Qp.o,below_drewN Ub.o _⟩
    |true=>
     have Uk:=Ja (show YJ (S.set n (if true then cf S n-c else cf S n+c)) (m+1)from P.o.next HF.o bh true);by_cases ae:EM (JU (Je s) I) 0=0
     . obtain⟨_,⟨c0,n0⟩,k,hk⟩:=MS (Rr _ _) ae;obtain⟨rfl,rfl,rfl⟩:=Uu.o c0 n0 k hk;rw[ae,(F0 hk 0 0).2]at Qn;have Ua:=Ja (show m<=I/\I<M/\M<=d/\d<=s.size/\s.size-I<f+1 from⟨HT.o.1,(I0 (by rw[Ji];exact hI) hk).1,by rw[<-Qr.o];exact GH _ _,Z,HT.o.2.1⟩);have Uc:=Ja (KM (f:=f) (b:=true) (S:=S) hk);rw[Qr.o,HT.o.2.2]at Uc;clear ae hk;cases ah:JO (Je s) d 43 with
       |true=>
        obtain⟨Qt,Qk,Uj⟩:=Dm ah (show JO (Je s) d 45=false from Bool.eq_false_iff.2 (λh=>absurd (Rq ah h) DS)) (show ES (Je s) f false (d+1) (S.set n (if true then cf S n-c else cf S n+c))=Xt (Je s)by rw[Uc.o,BG ah]);have Qz:d+1<=s.size:=by have:=JS ah;rw[Ji]at this;omega
        clear ah;have X:=Ja (λ(V:B) (h1:RowK false V (C a la ca) (Jd S)) (h2:RowK false V (C a2 l2 c2) (Jd (Dn n [c])))=>Is _ _ _ _ V h1 h2 (P.o.sqs (by have:=HT.o.1;omega)) (Y4 HF.o) ⟨(by have:=JB S;have:=P.o.1;omega),(by have:=YX n c;omega)⟩);have J:=Ja (λ(V:B) (j:DZ V R s (M:Int) 0 0)=>YE R s M 0 0 45 V j ak hs);rw[show(decide ((0:Int)=0)&&JO (Je s) (DV (Je s) M) 45)=false from by rw[Qr.o];simp[Qk.o],Qr.o]at J;have y:=Ja (λ(V:B) (j:DZ V R s (d:Int) 0 0)=>J8 R s d 0 0 43 V j Z hs true (by rw[K.o];simp[Qt.o]));rw[K.o]at y;go_wp2_with(first
         |(go_at_call 63;refine(X.o _ Ql.o HU.o).mono ?_;clear X;rintro e w2 ⟨u2,rfl,o,z⟩;rw[KK c (by rw[P.o.1];omega)]at o;obtain⟨a3,l3,c3,rfl⟩:=o.form;have Qg:=Ja o;have Q:=Ja (Qn.o.below z);have Qv:=Ja (Bt Qq.o z);clear o z)
         |(go_at_call 65;refine(J.o _ Q.o).mono ?_;clear J;rintro e w3 ⟨rfl,T,A⟩;have Qf:=Ja (Qg.o.rd Q.o A);have U:=Ja T;have Qw:=Ja (below_grown Qv.o A (by rw[q.o];exact Aa _));clear T A)
         |(go_at_call 61;refine(y.o _ U.o).mono ?_;clear y;rintro e w4 ⟨rfl,W,D⟩;have Qe:=Ja (Qf.o.rd U.o D);have Y:=Ja W;have Qx:=Ja (below_grown Qw.o D (by rw[q.o];exact Aa _));clear W D))
        go_roundw
        case rel=>exact⟨_,d+1,f,m+1,_,_,_,_,rfl,rfl,Qz,Ja Y.o,Ja Qe.o,Ja Uk.o,Ja ⟨by have:=Ua.o;omega,by have:=Ua.o;omega,Uj.o⟩,Ja Qx.o⟩
        case measure=>
         have e1:=GO (I:=d+1) Y.o;have e2:=GO an.o;rw[e1,e2];have:=Ua.o;omega
       |false=>
        have Qt:=Ja ah;cases ai:JO (Je s) d 45 with
        |true=>
         have Qk:=Ja ai;have Uj:=Ja (show ES (Je s) f true (d+1) (S.set n (if true then cf S n-c else cf S n+c))=Xt (Je s)by rw[Uc.o,BC (show ¬JO (Je s) d 43=true by rw[ah];decide),BG ai]);have Qz:d+1<=s.size:=by have:=JS ai;rw[Ji]at this;omega
         clear ah ai;have X:=Ja (λ(V:B) (h1:RowK false V (C a la ca) (Jd S)) (h2:RowK false V (C a2 l2 c2) (Jd (Dn n [c])))=>Is _ _ _ _ V h1 h2 (P.o.sqs (by have:=HT.o.1;omega)) (Y4 HF.o) ⟨(by have:=JB S;have:=P.o.1;omega),(by have:=YX n c;omega)⟩);have J:=Ja (λ(V:B) (j:DZ V R s (M:Int) 0 0)=>YE R s M 0 0 45 V j ak hs);rw[show(decide ((0:Int)=0)&&JO (Je s) (DV (Je s) M) 45)=true from by rw[Qr.o];simp[Qk.o],Qr.o]at J;have y:=Ja (λ(V:B) (j:DZ V R s (d:Int) 0 0)=>J8 R s d 0 0 43 V j Z hs false (by rw[K.o];simp[Qt.o]));rw[K.o]at y;have O:=Ja (λ(V:B) (j:DZ V R s (d:Int) 0 0)=>J8 R s d 0 0 45 V j Z hs true (by rw[K.o];simp[Qk.o]));rw[K.o]at O;go_wp2_with(first
          |(go_at_call 63;refine(X.o _ Ql.o HU.o).mono ?_;clear X;rintro e w2 ⟨u2,rfl,o,z⟩;rw[KK c (by rw[P.o.1];omega)]at o;obtain⟨a3,l3,c3,rfl⟩:=o.form;have Qg:=Ja o;have Q:=Ja (Qn.o.below z);have Qv:=Ja (Bt Qq.o z);clear o z)
          |(go_at_call 65;refine(J.o _ Q.o).mono ?_;clear J;rintro e w3 ⟨rfl,T,A⟩;have Qf:=Ja (Qg.o.rd Q.o A);have U:=Ja T;have Qw:=Ja (below_grown Qv.o A (by rw[q.o];exact Aa _));clear T A)
          |(go_at_call 61;refine(y.o _ U.o).mono ?_;clear y;rintro e w4 ⟨rfl,W,D⟩;have Qe:=Ja (Qf.o.rd U.o D);have Y:=Ja W;have Qx:=Ja (below_grown Qw.o D (by rw[q.o];exact Aa _));clear W D)
          |(go_at_call 61;refine(O.o _ Y.o).mono ?_;clear O;rintro e w5 ⟨rfl,af,N⟩;have Qj:=Ja (Qe.o.rd Y.o N);have Qi:=Ja af;have Qy:=Ja (below_grown Qx.o N (by rw[q.o];exact Aa _));clear af N))
         go_roundw
         case rel=>exact⟨_,d+1,f,m+1,_,_,_,_,rfl,rfl,Qz,Ja Qi.o,Ja Qj.o,Ja Uk.o,Ja ⟨by have:=Ua.o;omega,by have:=Ua.o;omega,Uj.o⟩,Ja Qy.o⟩
         case measure=>
          have e1:=GO (I:=d+1) Qi.o;have e2:=GO an.o;rw[e1,e2];have:=Ua.o;omega
        |false=>
         have Qk:=Ja ai;by_cases az:d<s.size
         . have Qp:=Ja (show JQ (Je s)=([],2,d)by rw[HP.o,Uc.o,BC (show ¬JO (Je s) d 43=true by rw[ah];decide),BC (show ¬JO (Je s) d 45=true by rw[ai];decide),BC (by rw[Ji];omega)];rfl);clear ah ai;have X:=Ja (λ(V:B) (h1:RowK false V (C a la ca) (Jd S)) (h2:RowK false V (C a2 l2 c2) (Jd (Dn n [c])))=>Is _ _ _ _ V h1 h2 (P.o.sqs (by have:=HT.o.1;omega)) (Y4 HF.o) ⟨(by have:=JB S;have:=P.o.1;omega),(by have:=YX n c;omega)⟩);have J:=Ja (λ(V:B) (j:DZ V R s (M:Int) 0 0)=>YE R s M 0 0 45 V j ak hs);rw[show(decide ((0:Int)=0)&&JO (Je s) (DV (Je s) M) 45)=false from by rw[Qr.o];simp[Qk.o],Qr.o]at J;have y:=Ja (λ(V:B) (j:DZ V R s (d:Int) 0 0)=>J8 R s d 0 0 43 V j Z hs false (by rw[K.o];simp[Qt.o]));rw[K.o]at y;have O:=Ja (λ(V:B) (j:DZ V R s (d:Int) 0 0)=>J8 R s d 0 0 45 V j Z hs false (by rw[K.o];simp[Qk.o]));rw[K.o]at O;have H8:=Ja (λ(V:B) (j:DZ V R s (d:Int) 0 0)=>YE R s d 0 0 32 V j Z hs);rw[K.o]at H8;have Ug:=Ja (λ(V:B) (j:DZ V R s (d:Int) 0 0)=>It R s (d:Int) 0 0 2 (d:Int) V j);have bg:(d:Int)<(s.size:Int):=om
           go_wp2_with(first
            |(go_at_call 63;refine(X.o _ Ql.o HU.o).mono ?_;clear X;rintro e w2 ⟨u2,rfl,o,z⟩;rw[KK c (by rw[P.o.1];omega)]at o;obtain⟨a3,l3,c3,rfl⟩:=o.form;have Qg:=Ja o;have Q:=Ja (Qn.o.below z);have Qv:=Ja (Bt Qq.o z);clear o z)
            |(go_at_call 65;refine(J.o _ Q.o).mono ?_;clear J;rintro e w3 ⟨rfl,T,A⟩;have Qf:=Ja (Qg.o.rd Q.o A);have U:=Ja T;have Qw:=Ja (below_grown Qv.o A (by rw[q.o];exact Aa _));clear T A)
            |(go_at_call 61;refine(y.o _ U.o).mono ?_;clear y;rintro e w4 ⟨rfl,W,D⟩;have Qe:=Ja (Qf.o.rd U.o D);have Y:=Ja W;have Qx:=Ja (below_grown Qw.o D (by rw[q.o];exact Aa _));clear W D)
            |(go_at_call 61;refine(O.o _ Y.o).mono ?_;clear O;rintro e w5 ⟨rfl,af,N⟩;have Qj:=Ja (Qe.o.rd Y.o N);have Qi:=Ja af;have Qy:=Ja (below_grown Qx.o N (by rw[q.o];exact Aa _));clear af N)
            |(go_at_call 65;refine(H8.o _ Qi.o).mono ?_;clear H8;rintro e w6 ⟨rfl,x,ad⟩;have Qo:=Ja (Qj.o.rd Qi.o ad);have Qs:=Ja x;have Ue:=x.c1;have Ud:=x.c2;have Uf:=x.c3;have Ub:=Ja (below_grown Qy.o ad (by rw[q.o];exact Aa _));clear x ad)
            |(go_at_call 66;refine(Ug.o _ Qs.o).mono ?_;clear Ug;rintro e w7 ⟨rfl,aj,am⟩;clear Ue Ud Uf;have Um:w7.cell? ⟨R,2,none⟩=some (E F 2):=aj.c2;have Ul:w7.cell? ⟨R,3,none⟩=some (E F (d:Int)):=aj.c3;have Ui:=Ja (below_grown Ub.o am (by rw[q.o];exact Aa _));clear aj am))
           go_quiet (fail)
           go_wp2_with fail
           exact BA (v:=.tuple #[C none 0 0,E F 2,E F (d:Int)]) (by simp[results,Tryz.results29,go_sem]) rfl ⟨_,_,_,rfl,F1.bad (e:=2) Qp.o,below_drewN Ui.o _⟩
         . have Qp:=Ja (show JQ (Je s)=(Jd (S.set n (if true then cf S n-c else cf S n+c)),0,0)by rw[HP.o,Uc.o,BC (show ¬JO (Je s) d 43=true by rw[ah];decide),BC (show ¬JO (Je s) d 45=true by rw[ai];decide),BG (by rw[Ji];omega)];rfl);clear ah ai;have X:=Ja (λ(V:B) (h1:RowK false V (C a la ca) (Jd S)) (h2:RowK false V (C a2 l2 c2) (Jd (Dn n [c])))=>Is _ _ _ _ V h1 h2 (P.o.sqs (by have:=HT.o.1;omega)) (Y4 HF.o) ⟨(by have:=JB S;have:=P.o.1;omega),(by have:=YX n c;omega)⟩);have J:=Ja (λ(V:B) (j:DZ V R s (M:Int) 0 0)=>YE R s M 0 0 45 V j ak hs);rw[show(decide ((0:Int)=0)&&JO (Je s) (DV (Je s) M) 45)=false from by rw[Qr.o];simp[Qk.o],Qr.o]at J;have y:=Ja (λ(V:B) (j:DZ V R s (d:Int) 0 0)=>J8 R s d 0 0 43 V j Z hs false (by rw[K.o];simp[Qt.o]));rw[K.o]at y;have O:=Ja (λ(V:B) (j:DZ V R s (d:Int) 0 0)=>J8 R s d 0 0 45 V j Z hs false (by rw[K.o];simp[Qk.o]));rw[K.o]at O;have H8:=Ja (λ(V:B) (j:DZ V R s (d:Int) 0 0)=>YE R s d 0 0 32 V j Z hs);rw[K.o]at H8;go_wp2_with(first
            |(go_at_call 63;refine(X.o _ Ql.o HU.o).mono ?_;clear X;rintro e w2 ⟨u2,rfl,o,z⟩;rw[KK c (by rw[P.o.1];omega)]at o;obtain⟨a3,l3,c3,rfl⟩:=o.form;have Qg:=Ja o;have Q:=Ja (Qn.o.below z);have Qv:=Ja (Bt Qq.o z);clear o z)
            |(go_at_call 65;refine(J.o _ Q.o).mono ?_;clear J;rintro e w3 ⟨rfl,T,A⟩;have Qf:=Ja (Qg.o.rd Q.o A);have U:=Ja T;have Qw:=Ja (below_grown Qv.o A (by rw[q.o];exact Aa _));clear T A)
            |(go_at_call 61;refine(y.o _ U.o).mono ?_;clear y;rintro e w4 ⟨rfl,W,D⟩;have Qe:=Ja (Qf.o.rd U.o D);have Y:=Ja W;have Qx:=Ja (below_grown Qw.o D (by rw[q.o];exact Aa _));clear W D)
            |(go_at_call 61;refine(O.o _ Y.o).mono ?_;clear O;rintro e w5 ⟨rfl,af,N⟩;have Qj:=Ja (Qe.o.rd Y.o N);have Qi:=Ja af;have Qy:=Ja (below_grown Qx.o N (by rw[q.o];exact Aa _));clear af N)
            |(go_at_call 65;refine(H8.o _ Qi.o).mono ?_;clear H8;rintro e w6 ⟨rfl,x,ad⟩;have Qo:=Ja (Qj.o.rd Qi.o ad);have Qs:=Ja x;have Ue:=x.c1;have Ud:=x.c2;have Uf:=x.c3;have Ub:=Ja (below_grown Qy.o ad (by rw[q.o];exact Aa _));clear x ad))
           exact BA (v:=.tuple #[C a3 l3 c3,E F 0,E F 0]) (by simp[results,Tryz.results29,go_sem]) rfl ⟨_,_,_,rfl,F1.ok Qp.o Uk.o (by have:=Ua.o;omega) Qo.o,Ub.o⟩
     . obtain⟨t,hE⟩:=ex (EM (JU (Je s) I) 0);obtain⟨L,hA⟩:=ex (Eh (JU (Je s) I) 0 0);have Qu:∃e p:Nat,JU (Je s) I=.bad e p:=by
        cases hk:JU (Je s) I with
        |bad e p=>exact⟨e,p,rfl⟩
        |ok a k=>exact absurd (F0 hk 0 0).1 ae
       obtain⟨e0,p0,Qu⟩:=Qu;have Uh:=Ja (show t=(e0:Int)/\L=(p0:Int)by rw[<-hE,<-hA,Qu];exact⟨rfl,rfl⟩);have Qp:=Ja (show JQ (Je s)=([],e0,p0)by rw[HP.o,<-HT.o.2.2,KL Qu];rfl);rw[hE,hA]at Qn;rw[hE]at ae;have Up:(t==0)=false:=by rw[BH];exact ae
       clear hE hA Qu;by_cases az:d<s.size
       . skip
         have X:=Ja (λ(V:B) (h1:RowK false V (C a la ca) (Jd S)) (h2:RowK false V (C a2 l2 c2) (Jd (Dn n [c])))=>Is _ _ _ _ V h1 h2 (P.o.sqs (by have:=HT.o.1;omega)) (Y4 HF.o) ⟨(by have:=JB S;have:=P.o.1;omega),(by have:=YX n c;omega)⟩);have J:=Ja (λ(V:B) (j:DZ V R s (M:Int) t L)=>YE R s M t L 45 V j ak hs);rw[show(decide ((t:Int)=0)&&JO (Je s) (DV (Je s) M) 45)=false from by simp[ae],Qr.o]at J;have y:=Ja (λ(V:B) (j:DZ V R s (d:Int) t L)=>J8 R s d t L 43 V j Z hs false (by simp[ae]));rw[K.o]at y;have O:=Ja (λ(V:B) (j:DZ V R s (d:Int) t L)=>J8 R s d t L 45 V j Z hs false (by simp[ae]));rw[K.o]at O;have H8:=Ja (λ(V:B) (j:DZ V R s (d:Int) t L)=>YE R s d t L 32 V j Z hs);rw[K.o]at H8;have Ug:=Ja (λ(V:B) (j:DZ V R s (d:Int) t L)=>It R s (d:Int) t L 2 (d:Int) V j);have bg:(d:Int)<(s.size:Int):=om
         go_wp2_with(first
          |(go_at_call 63;refine(X.o _ Ql.o HU.o).mono ?_;clear X;rintro e w2 ⟨u2,rfl,o,z⟩;rw[KK c (by rw[P.o.1];omega)]at o;obtain⟨a3,l3,c3,rfl⟩:=o.form;have Qg:=Ja o;have Q:=Ja (Qn.o.below z);have Qv:=Ja (Bt Qq.o z);clear o z)
          |(go_at_call 65;refine(J.o _ Q.o).mono ?_;clear J;rintro e w3 ⟨rfl,T,A⟩;have Qf:=Ja (Qg.o.rd Q.o A);have U:=Ja T;have Qw:=Ja (below_grown Qv.o A (by rw[q.o];exact Aa _));clear T A)
          |(go_at_call 61;refine(y.o _ U.o).mono ?_;clear y;rintro e w4 ⟨rfl,W,D⟩;have Qe:=Ja (Qf.o.rd U.o D);have Y:=Ja W;have Qx:=Ja (below_grown Qw.o D (by rw[q.o];exact Aa _));clear W D)
          |(go_at_call 61;refine(O.o _ Y.o).mono ?_;clear O;rintro e w5 ⟨rfl,af,N⟩;have Qj:=Ja (Qe.o.rd Y.o N);have Qi:=Ja af;have Qy:=Ja (below_grown Qx.o N (by rw[q.o];exact Aa _));clear af N)
          |(go_at_call 65;refine(H8.o _ Qi.o).mono ?_;clear H8;rintro e w6 ⟨rfl,x,ad⟩;have Qo:=Ja (Qj.o.rd Qi.o ad);have Qs:=Ja x;have Ue:=x.c1;have Ud:=x.c2;have Uf:=x.c3;have Ub:=Ja (below_grown Qy.o ad (by rw[q.o];exact Aa _));clear x ad)
          |(go_at_call 66;refine(Ug.o _ Qs.o).mono ?_;clear Ug;rintro e w7 ⟨rfl,aj,am⟩;clear Ue Ud Uf;have Um:=aj.c2;have Ul:=aj.c3;rw[BC ae]at Um;rw[BC ae]at Ul;have Ui:=Ja (below_grown Ub.o am (by rw[q.o];exact Aa _));clear aj am))
         go_quiet (fail)
         go_wp2_with fail
         exact BA (v:=.tuple #[C none 0 0,E F t,E F L]) (by simp[results,Tryz.results29,go_sem]) rfl ⟨_,_,_,rfl,by rw[Uh.o.1,Uh.o.2];exact F1.bad Qp.o,below_drewN Ui.o _⟩
       . skip
         have X:=Ja (λ(V:B) (h1:RowK false V (C a la ca) (Jd S)) (h2:RowK false V (C a2 l2 c2) (Jd (Dn n [c])))=>Is _ _ _ _ V h1 h2 (P.o.sqs (by have:=HT.o.1;omega)) (Y4 HF.o) ⟨(by have:=JB S;have:=P.o.1;omega),(by have:=YX n c;omega)⟩);have J:=Ja (λ(V:B) (j:DZ V R s (M:Int) t L)=>YE R s M t L 45 V j ak hs);rw[show(decide ((t:Int)=0)&&JO (Je s) (DV (Je s) M) 45)=false from by simp[ae],Qr.o]at J;have y:=Ja (λ(V:B) (j:DZ V R s (d:Int) t L)=>J8 R s d t L 43 V j Z hs false (by simp[ae]));rw[K.o]at y;have O:=Ja (λ(V:B) (j:DZ V R s (d:Int) t L)=>J8 R s d t L 45 V j Z hs false (by simp[ae]));rw[K.o]at O;have H8:=Ja (λ(V:B) (j:DZ V R s (d:Int) t L)=>YE R s d t L 32 V j Z hs);rw[K.o]at H8;go_wp2_with(first
          |(go_at_call 63;refine(X.o _ Ql.o HU.o).mono ?_;clear X;rintro e w2 ⟨u2,rfl,o,z⟩;rw[KK c (by rw[P.o.1];omega)]at o;obtain⟨a3,l3,c3,rfl⟩:=o.form;have Qg:=Ja o;have Q:=Ja (Qn.o.below z);have Qv:=Ja (Bt Qq.o z);clear o z)
          |(go_at_call 65;refine(J.o _ Q.o).mono ?_;clear J;rintro e w3 ⟨rfl,T,A⟩;have Qf:=Ja (Qg.o.rd Q.o A);have U:=Ja T;have Qw:=Ja (below_grown Qv.o A (by rw[q.o];exact Aa _));clear T A)
          |(go_at_call 61;refine(y.o _ U.o).mono ?_;clear y;rintro e w4 ⟨rfl,W,D⟩;have Qe:=Ja (Qf.o.rd U.o D);have Y:=Ja W;have Qx:=Ja (below_grown Qw.o D (by rw[q.o];exact Aa _));clear W D)
          |(go_at_call 61;refine(O.o _ Y.o).mono ?_;clear O;rintro e w5 ⟨rfl,af,N⟩;have Qj:=Ja (Qe.o.rd Y.o N);have Qi:=Ja af;have Qy:=Ja (below_grown Qx.o N (by rw[q.o];exact Aa _));clear af N)
          |(go_at_call 65;refine(H8.o _ Qi.o).mono ?_;clear H8;rintro e w6 ⟨rfl,x,ad⟩;have Qo:=Ja (Qj.o.rd Qi.o ad);have Qs:=Ja x;have Ue:=x.c1;have Ud:=x.c2;have Uf:=x.c3;have Ub:=Ja (below_grown Qy.o ad (by rw[q.o];exact Aa _));clear x ad))
         go_quiet (fail)
         go_wp2_with fail
         exact BA (v:=.tuple #[C none 0 0,E F t,E F L]) (by simp[results,Tryz.results29,go_sem]) rfl ⟨_,_,_,rfl,by rw[Uh.o.1,Uh.o.2];exact F1.bad Qp.o,below_drewN Ub.o _⟩
def De(W:B)(R:Nat)(s:ByteArray)(I:Int):Prop:=W.heap[R]?=some (.cells #[.string s,E F I] 130 (0,0))
end
section
variable {W W':World} {R:Nat} {s:ByteArray} {I:Int}
theorem De.lt(h:De W R s I):R<W.heap.size:=(Ab.1 h).1
theorem De.c0(h:De W R s I):W.cell? ⟨R,0,none⟩=some (.string s):=by simp[World.cell?,show W.heap[R]?=_ from h]
theorem De.c1(h:De W R s I):W.cell? ⟨R,1,none⟩=some (E F I):=by simp[World.cell?,show W.heap[R]?=_ from h]
theorem De.cp(h:De W R s I):type_of% (And.intro h.c0 h.c1):=⟨h.c0,h.c1⟩
theorem De.f(h:De W R s I)(o:Nat):W.frozen? ⟨R,o,none⟩=false:=by simp[World.frozen?,show W.heap[R]?=_ from h]
theorem De.below(h:De W R s I)(a:Bl W W'):De W' R s I:=(a.block R h.lt).trans h
theorem De.set1(h:De W R s I)(x:Int):De (W.setCell ⟨R,1,none⟩ (E F x)) R s x:=by
 have:=JZ (o:=1) h (E F x);exact this
theorem De.drewN(h:De W R s I)(n:Nat):De (W.drewN n) R s I:=h
theorem II(h:De W R s I){cs:Array Value}{t:TypeId}{m:Nat × Nat}{b:Nat}(c:W.heap[b]?=some (.cells cs t m))(a:t≠130):b≠R:=by
 intro e;subst e;have:=c.symm.trans h;simp only[Ag,Bu]at this;exact a this.2.1
theorem OO(h:De W R s I)(g:W.grownBy W' (some R)):∀k v ds,Row k W v ds->Row k W' v ds:=by
 intro k v ds c;obtain⟨a,cap,e,_⟩:=id c;subst e;refine c.grown g (λp d hl=>?_);obtain⟨b,off,i,cs,m,f⟩:=c.typ hl;rw[i]at d;cases d;exact II h f (by cases k<;>(show _≠_;decide))
end
theorem Hd{W:B}{R:Nat}{s:ByteArray}{I:Nat}(h:De W R s I):E1 W R=I:=by
 unfold E1;rw[h.c1];simp[intOf]
theorem Rs(c:UInt8)(w:B):Calls Tryz.prog 171 #[E .u8 (c.toNat:Int)] w λr e=>r=.returned (.bool (Dc c))/\e=w:=by
 by_cases b:48<=c.toNat
 . have f:decide ((48:Int)<=(c.toNat:Int))=true:=BK om;by_cases d:c.toNat<=57
   . have a:=Ja (show Dc c=true by simp[Dc,b,d]);go_enter Tryz.func171,Tryz.ntmps171
     go_wp2;go_ret;exact⟨by rw[a.o];simp;omega,rfl⟩
   . have a:=Ja (show Dc c=false by simp[Dc,d]);go_enter Tryz.func171,Tryz.ntmps171
     go_wp2;go_ret;exact⟨by rw[a.o];simp;omega,rfl⟩
 . have a:=Ja (show Dc c=false by simp[Dc,b]);go_enter Tryz.func171,Tryz.ntmps171
   go_wp2;go_ret;exact⟨by rw[a.o];rfl,rfl⟩
theorem MV(R:Nat)(s:ByteArray)(I:Nat)(w:B)(h:De w R s I)(A:I<=s.size)(hs:s.size<=300):
 Calls Tryz.prog 126 #[G (some ⟨R,0,none⟩)] w λr q=>r=.returned (.bool (decide (DV (Je s) I=s.size)))/\De q R s (DV (Je s) I:Nat)/\w.grownBy q (some R):=by
 have t:=Ja h;clear h;go_enter Tryz.func126,Tryz.ntmps126
 go_wp2;go_loopw [] (λwr=>∃j:Nat,I<=j/\j<=s.size/\Hid (De wr R s j/\w.grownBy wr (some R)/\∀k (c:k<s.size),I<=k->k<j->s[k]=32)) (λwr=>s.size-E1 wr R)
 case atStart=>exact⟨I,Aa _,A,Ja ⟨t.o,YD _ _,λk _ o p=>by omega⟩⟩
 case round=>
  obtain⟨j,o,p,a⟩:=hrel;obtain⟨c0,c1⟩:=a.o.1.cp;have f1:=a.o.1.f 1;by_cases y:j<s.size
  . have N:(j:Int)<(s.size:Int):=om
    have M:(0:Int)<=(j:Int):=om
    by_cases b:s[j]=32
    . have v:((s[j].toNat:Int)==32)=true:=by rw[b];rfl
      have x:=Ja b;clear b;go_wp2_with fail
      go_quiet (fail)
      go_wp2;go_roundw
      case rel=>
       refine⟨j+1,om,om,Ja ⟨?_,Jh (Jh a.o.2.1 (JI _ _ _)) (JC _ R 1 _),λk c f i=>?_⟩⟩
       . have:=(a.o.1.drewN nq).set1 ((j:Int)+1);rw[show((j:Int)+1)=((j+1:Nat):Int)from by omega]at this;exact this
       . by_cases e:k=j
         . subst e;exact x.o
         . exact a.o.2.2 k c f om
      case measure=>
       have z:=Hd a.o.1;have K:E1 ((wr.drewN nq).setCell ⟨R,1,none⟩ (E F ((j:Int)+1))) R=j+1:=by
        have:=(a.o.1.drewN nq).set1 ((j:Int)+1);rw[show((j:Int)+1)=((j+1:Nat):Int)from by omega]at this ⊢;exact Hd this
       show s.size-E1 ((wr.drewN nq).setCell ⟨R,1,none⟩ (E F ((j:Int)+1))) R<s.size-E1 wr R;rw[z,K];omega
    . have v:((s[j].toNat:Int)==32)=false:=MQ (d:=32) b;have g:=Ja (show DV (Je s) I=j from MR o p (λk c f i=>by rw[a.o.2.2 k c f i];rfl) (λ_=>BH.2 b));have D:¬j=s.size:=om
      have u:((j:Int)==(s.size:Int))=false:=by rw[BH];omega
      clear b;go_wp2_with fail
      go_quiet (fail)
      go_wp2;have n:=Ja (show w.grownBy (wr.drewN nq) (some R)from Jh a.o.2.1 (JI _ _ _));have l:=Ja (a.o.1.drewN nq);go_quiet (fail)
      go_wp2;go_ret;exact⟨by rw[g.o];simp[D],by rw[g.o];exact l.o.drewN _,Jh n.o (JI _ _ _)⟩
  . have m:j=s.size:=om
    have L:decide (j<s.size)=false:=BI om;have g:=Ja (show DV (Je s) I=j from MR o p (λk c f i=>by rw[a.o.2.2 k c f i];rfl) (λh=>by omega));have u:((j:Int)==(s.size:Int))=true:=by rw[m];exact beq_self_eq_true _
    have J:=Ja m;clear y m;go_wp2_with fail
    go_quiet (fail)
    go_wp2;have n:=Ja (show w.grownBy (wr.drewN nq) (some R)from Jh a.o.2.1 (JI _ _ _));have l:=Ja (a.o.1.drewN nq);go_quiet (fail)
    go_wp2;go_ret;exact⟨by rw[g.o];simp[J.o],by rw[g.o];exact l.o.drewN _,Jh n.o (JI _ _ _)⟩
end
attribute [local go_sem] Oper.semAt_some
def Gb(e p:Int):Value:=.iface 97 (.agg #[E F e,E F p])
theorem K6(v:Value)(e p:Int)(w:B):Calls Tryz.prog 127 #[v,E F e,E F p] w λr a=>r=.panicked [{ v:=Gb e p,recovered:=false }]/\a=w:=by
 go_enter Tryz.func127,Tryz.ntmps127
 go_wp2;exact⟨rfl,rfl,rfl⟩
def F5(w V:B)(R:Nat)(s:ByteArray)(I:Int):Prop:=De V R s I/\w.grownBy V (some R)
theorem F5.below{w V V':B}{R:Nat}{s:ByteArray}{I:Int}(h:F5 w V R s I)(a:Bl V V'):F5 w V' R s I:=⟨h.1.below a,Jh h.2 (J1 a _)⟩
theorem Xp(R:Nat)(s:ByteArray)(I:Nat)(c:UInt8)(w:B)(h:De w R s I)(Z:I<=s.size)(hs:s.size<=300)(b:Bool)(J:b=JO (Je s) (DV (Je s) I) c):
 Calls Tryz.prog 124 #[G (some ⟨R,0,none⟩),E .u8 (c.toNat:Int)] w λr w'=>r=.returned (.bool b)/\De w' R s ((DV (Je s) I+(if b then 1 else 0):Nat):Int)/\w.grownBy w' (some R):=by
 have Qg:Tryz.prog.follows .mixedOrders=true:=by kernel_rfl
 have M:=Ja (λ(V:B) (hh:De V R s I)=>MV R s I V hh Z hs);obtain⟨j,T⟩:=ex (DV (Je s) I);have af:j<=s.size:=by rw[<-T,<-Ji];exact Ys (by rw[Ji];exact Z)
 rw[T]at M J ⊢;have HH:=Ja h;clear h T;by_cases N:j=s.size
 . obtain rfl:b=false:=by rw[J];exact Rh om
   rw[show decide (j=s.size)=true from BK N]at M;clear J N;go_enter Tryz.func124,Tryz.ntmps124
   go_wp2_with fail
   have X:F5 w w.drew R s I:=⟨HH.o,rfl,rfl,rfl,Aa _,λ_ _ _=>rfl⟩;refine Jk Qg [[],[0],[1,1],[2],[3,2],[4,2],[5,2],[2],[7,2],[8,2],[9,2],[6,10,2],[2],[11,12,2],[2,13]] (by kernel_rfl) DS
    (λD A V=>∃(g k n tp tq ta tb o x q p t u v m:Value),A={ tmps:=#[G (some ⟨R,0,none⟩),E .u8 ↑c.toNat,H,H,.bool false,g,k,n,tp,tq,ta,tb,o,x,q,p,t,u,v,m,H,H,H,H,H,H,H],defers:=[] }/\Hid ((D 0=true->g=G (some ⟨R,0,none⟩))/\(D 1=true->k=.bool true)/\(D 2=true->n=.bool true)/\(D 3=true->True)/\(D 4=true->True)/\(D 5=true->True)/\(D 6=true->True)/\(D 7=true->True)/\(D 8=true->True)/\(D 9=true->True)/\(D 10=true->True)/\(D 11=true->True)/\(D 12=true->True)/\(D 13=true->True)/\(D 14=true->m=.bool true))/\Hid ((D 1=false->F5 w V R s I)/\(D 1=true->F5 w V R s (j:Int))))
    (E8 ⟨_,_,_,_,_,_,_,rfl,Ja DQ,Ja ⟨λ_=>X,DQ⟩⟩) ?step1 ?fin1
   case step1=>
    rintro D A V i ds U z d P ⟨g,k,n,tp,tq,ta,tb,o,x,q,p,t,u,v,m,rfl,a,f⟩;have Qi:i<15:=(Ac.1 z).1;obtain rfl|rfl|rfl|rfl|rfl|rfl|rfl|rfl|rfl|rfl|rfl|rfl|rfl|rfl|rfl:=IQ i om
    all_goals
     simp only[Af,Ae,Ag]at z;subst z
    . clear d;refine DW ?_;exact⟨(Dh a),f⟩
    . have L:=f.o.1 P;obtain rfl:=a.o.1 (d 0 DQ);clear d;have S:=Ja (M.o V L.1);refine Jb rfl rfl λK hK=>?_;go_simp;go_wp2_with(go_at_call 126;refine S.o.mono ?_;rintro e w5 ⟨rfl,W,O⟩)
      exact E8 ⟨_,_,_,_,_,_,_,rfl,(Dp (Dh a)),Ja ⟨λh=>by simp at h,λ_=>⟨W,Jh L.2 O⟩⟩⟩
    . obtain rfl:=a.o.2.1 (d 1 DQ);clear d;refine DW ?_;exact⟨(Dg (Dp a)),f⟩
    . obtain rfl:=a.o.2.2.1 (d 2 DQ);clear d;refine Ym rfl rfl ?_;exact E8 ⟨_,_,_,_,_,_,_,rfl,(Di (Dg a) λ_=>trivial),f⟩
    . obtain rfl:=a.o.2.2.1 (d 2 DQ);clear d;refine Ym rfl rfl ?_;exact E8 ⟨_,_,_,_,_,_,_,rfl,(Dx (Dg a) λ_=>trivial),f⟩
    . obtain rfl:=a.o.2.2.1 (d 2 DQ);clear d;refine Ym rfl rfl ?_;exact E8 ⟨_,_,_,_,_,_,_,rfl,(D0 (Dg a) λ_=>trivial),f⟩
    . obtain rfl:=a.o.2.2.1 (d 2 DQ);clear d;refine Ym rfl rfl ?_;exact E8 ⟨_,_,_,_,_,_,_,rfl,(Dw (Dg a) λ_=>trivial),f⟩
    . obtain rfl:=a.o.2.2.1 (d 2 DQ);clear d;refine Ym rfl rfl ?_;exact E8 ⟨_,_,_,_,_,_,_,rfl,(EB (Dg a) λ_=>trivial),f⟩
    . obtain rfl:=a.o.2.2.1 (d 2 DQ);clear d;refine Ym rfl rfl ?_;exact E8 ⟨_,_,_,_,_,_,_,rfl,(EI (Dg a) λ_=>trivial),f⟩
    . obtain rfl:=a.o.2.2.1 (d 2 DQ);clear d;refine Ym rfl rfl ?_;exact E8 ⟨_,_,_,_,_,_,_,rfl,(Es (Dg a) λ_=>trivial),f⟩
    . obtain rfl:=a.o.2.2.1 (d 2 DQ);clear d;refine Ym rfl rfl ?_;exact E8 ⟨_,_,_,_,_,_,_,rfl,(D6 (Dg a) λ_=>trivial),f⟩
    . obtain rfl:=a.o.2.2.1 (d 2 DQ);clear d;refine Ym rfl rfl ?_;exact E8 ⟨_,_,_,_,_,_,_,rfl,(D7 (Dg a) λ_=>trivial),f⟩
    . obtain rfl:=a.o.2.2.1 (d 2 DQ);clear d;refine Ym rfl rfl ?_;exact E8 ⟨_,_,_,_,_,_,_,rfl,(EE (Dg a) λ_=>trivial),f⟩
    . obtain rfl:=a.o.2.2.1 (d 2 DQ);clear d;refine Ym rfl rfl ?_;exact E8 ⟨_,_,_,_,_,_,_,rfl,(EO (Dg a) λ_=>trivial),f⟩
    . obtain rfl:=a.o.2.2.1 (d 2 DQ);clear d;refine DW ?_;exact⟨(Gh (Dg a)),f⟩
   case fin1=>
    rintro D A V y ⟨g,k,n,tp,tq,ta,tb,o,x,q,p,t,u,v,m,rfl,a,f⟩;have l:=Ja (f.o.2 (y 1 DS));obtain rfl:=a.o.2.2.2.2.2.2.2.2.2.2.2.2.2.2 (y 14 DS);clear a f y;go_wp2_with fail
    go_ret;exact⟨rfl,l.o.1,l.o.2⟩
 . have Qj:j<s.size:=om
   have ae:(j:Int)<(s.size:Int):=om
   rw[show decide (j=s.size)=false from BI N]at M;rw[Rg Qj]at J;obtain⟨nb,Y⟩:=ex (((s[j].toNat:Int) != (c.toNat:Int)));have Qf:=Ja (show nb=!b by
    rw[<-Y,J];by_cases e:s[j]=c
    . rw[e];simp
    . rw[show(s[j]==c)=false from BH.2 e,bne,MQ e])
   have Qh:=Ja Y;clear J N Y;go_enter Tryz.func124,Tryz.ntmps124
   go_wp2_with fail
   have X:F5 w w.drew R s I:=⟨HH.o,rfl,rfl,rfl,Aa _,λ_ _ _=>rfl⟩;refine Jk Qg [[],[0],[1,1],[2],[3,2],[4,2],[5,2],[2],[7,2],[8,2],[9,2],[6,10,2],[2],[11,12,2],[2,13]] (by kernel_rfl) DS
    (λD A V=>∃(g k n tp tq ta tb o x q p t u v m:Value),A={ tmps:=#[G (some ⟨R,0,none⟩),E .u8 ↑c.toNat,H,H,.bool false,g,k,n,tp,tq,ta,tb,o,x,q,p,t,u,v,m,H,H,H,H,H,H,H],defers:=[] }/\Hid ((D 0=true->g=G (some ⟨R,0,none⟩))/\(D 1=true->k=.bool false)/\(D 2=true->n=.bool false)/\(D 3=true->tp=G (some ⟨R,0,none⟩))/\(D 4=true->tq=G (some ⟨R,0,none⟩))/\(D 5=true->ta=G (some ⟨R,0,none⟩))/\(D 6=true->tb=.string s)/\(D 7=true->o=G (some ⟨R,0,none⟩))/\(D 8=true->x=G (some ⟨R,0,none⟩))/\(D 9=true->q=G (some ⟨R,1,none⟩))/\(D 10=true->p=E F (j:Int))/\(D 11=true->t=E .u8 (s[j].toNat:Int))/\(D 12=true->u=E .u8 (c.toNat:Int))/\(D 13=true->v=.bool nb)/\(D 14=true->m=.bool nb))/\Hid ((D 1=false->F5 w V R s I)/\(D 1=true->F5 w V R s (j:Int))))
    (E8 ⟨_,_,_,_,_,_,_,rfl,Ja DQ,Ja ⟨λ_=>X,DQ⟩⟩) ?step2 ?fin2
   case step2=>
    rintro D A V i ds U z d P ⟨g,k,n,tp,tq,ta,tb,o,x,q,p,t,u,v,m,rfl,a,f⟩;have Qi:i<15:=(Ac.1 z).1;obtain rfl|rfl|rfl|rfl|rfl|rfl|rfl|rfl|rfl|rfl|rfl|rfl|rfl|rfl|rfl:=IQ i om
    all_goals
     simp only[Af,Ae,Ag]at z;subst z
    . clear d;refine DW ?_;exact⟨(Dh a),f⟩
    . have L:=f.o.1 P;obtain rfl:=a.o.1 (d 0 DQ);clear d;have S:=Ja (M.o V L.1);refine Jb rfl rfl λK hK=>?_;go_simp;go_wp2_with(go_at_call 126;refine S.o.mono ?_;rintro e w5 ⟨rfl,W,O⟩)
      exact E8 ⟨_,_,_,_,_,_,_,rfl,(Dp (Dh a)),Ja ⟨λh=>by simp at h,λ_=>⟨W,Jh L.2 O⟩⟩⟩
    . obtain rfl:=a.o.2.1 (d 1 DQ);clear d;refine DW ?_;exact⟨(Dg (Dp a)),f⟩
    . obtain rfl:=a.o.2.2.1 (d 2 DQ);clear d;refine Et ?_;exact⟨(Di (Dg a)),f⟩
    . obtain rfl:=a.o.2.2.2.1 (d 3 DQ);obtain rfl:=a.o.2.2.1 (d 2 DQ);clear d;refine Et ?_;exact⟨(Dx (Di (Dg a))),f⟩
    . obtain rfl:=a.o.2.2.2.2.1 (d 4 DQ);obtain rfl:=a.o.2.2.1 (d 2 DQ);clear d;refine Et ?_;exact⟨(D0 (Dx (Dg a))),f⟩
    . obtain rfl:=Ds a (d 5 DQ);obtain rfl:=a.o.2.2.1 (d 2 DQ);have Q:D 1=true:=U 2 _ rfl (d 2 DQ) 1 DQ;have c0:=(f.o.2 Q).1.c0;clear d;refine Et ?_;exact⟨(Dw (D0 (Dg a))),f⟩
    . obtain rfl:=a.o.2.2.1 (d 2 DQ);clear d;refine Et ?_;exact⟨(EB (Dg a)),f⟩
    . obtain rfl:=D9 a (d 7 DQ);obtain rfl:=a.o.2.2.1 (d 2 DQ);clear d;refine Et ?_;exact⟨(EI (EB (Dg a))),f⟩
    . obtain rfl:=EF a (d 8 DQ);obtain rfl:=a.o.2.2.1 (d 2 DQ);clear d;refine Et ?_;exact⟨(Es (EI (Dg a))),f⟩
    . obtain rfl:=EU a (d 9 DQ);obtain rfl:=a.o.2.2.1 (d 2 DQ);have Q:D 1=true:=U 2 _ rfl (d 2 DQ) 1 DQ;have c1:=(f.o.2 Q).1.c1;clear d;refine Et ?_;exact⟨(D6 (Es (Dg a))),f⟩
    . obtain rfl:=Dy a (d 6 DQ);obtain rfl:=EJ a (d 10 DQ);obtain rfl:=a.o.2.2.1 (d 2 DQ);clear d;refine Et ?_;exact⟨(D7 (D6 (Dw (Dg a)))),f⟩
    . obtain rfl:=a.o.2.2.1 (d 2 DQ);clear d;refine Et ?_;exact⟨(EE (Dg a)),f⟩
    . obtain rfl:=Ee a (d 11 DQ);obtain rfl:=Ej a (d 12 DQ);obtain rfl:=a.o.2.2.1 (d 2 DQ);have ad:=Qh.o;clear d;refine Et ?_;exact⟨(EO (EE (D7 (Dg a)))),f⟩
    . obtain rfl:=a.o.2.2.1 (d 2 DQ);obtain rfl:=GK a (d 13 DQ);clear d;refine DW ?_;exact⟨(Gh (EO (Dg a))),f⟩
   case fin2=>
    rintro D A V y ⟨g,k,n,tp,tq,ta,tb,o,x,q,p,t,u,v,m,rfl,a,f⟩;have l:=Ja (f.o.2 (y 1 DS));obtain rfl:=a.o.2.2.2.2.2.2.2.2.2.2.2.2.2.2 (y 14 DS);clear a f y;have c1:=l.o.1.c1;have f1:=l.o.1.f 1;cases b with
    |true=>
     obtain rfl:nb=false:=Qf.o;go_wp2_with fail
     go_ret;exact⟨rfl,l.o.1.set1 _,Jh l.o.2 (JC _ R 1 _)⟩
    |false=>
     obtain rfl:nb=true:=Qf.o;go_wp2_with fail
     go_ret;exact⟨rfl,l.o.1,l.o.2⟩

