import Derived.Test.YtcahejkcdcjjgaaGreatDoorU29
set_option linter.all false
open Go renaming World->B
open Go.Value renaming pointer->C,int->D,bool->F,string->G,slice->H
open Go.IntKind renaming i64->E
set_option maxRecDepth 99999
set_option maxHeartbeats 0
namespace Go.Proofs.YtcahejkcdcjjgaaGreatDoor
open List renaming replicate->Td
open Proofs.Tryz
open Go.RowKit Go.Shelf
attribute [local go_sem] Oper.semAt_some
section
variable{b:Bool}{S:Z}{l:List UInt8}{e k m n p:Nat}{c:Rat}{a:B}
def DI.add2{p q:Rat}(hp:DI k p)(a:DI m q):DI (k+m+1) (p+q):=by
 rw[<-Hz];refine DI.divInt ?_ ((hp.1.mul a.2).add (by have:=a.1.mul hp.2;rwa[CP]at this)) ((hp.2.mul a.2).mono Y);exact CR (by have:=p.den_nz;omega) (by have:=q.den_nz;omega)
def Du.sm(h:Du c):DI 1 c:=by
 obtain⟨x,y,rfl,a,b,d⟩:=h;exact DI.divInt Y (by unfold Sm O;omega) (by unfold Sm O;omega)
theorem DI.zero(k:Nat)(a:1<=k):DI k 0:=⟨Sm.zero k,Sm.one k a⟩
def KN(n:Nat)(c:Rat)(i:Nat):cf (Dq n [c]) i=if i=n then c else 0:=by
 rw[GJ];by_cases h:n<=i
 . rw[BH h];by_cases a:i=n
   . rw[BH a,a,AZ,Et]
   . rw[BE a,Xv si]
 . rw[BE h,BE Y]
def Ms(h:Du c):Sqs (Jv (Dq n [c])):=Sqs.of λi=>by
 rw[YK,KN];split
 . exact Sq.of h.sm Y
 . exact Sq.of (DI.zero 1 Y) Y
def Mt(n:Nat)(c:Rat):(Jv (Dq n [c])).length<=n+1:=AB (J7 _) (by simp[Dq])
theorem SL(c:Rat)(h:n<S.length):Fj (Jv S) (Jv (Dq n [c]))=Jv (S.set n (cf S n+c)):=by
 unfold Fj;refine Yr λi=>?_;rw[FP,YK,YK,KN,EM _ _ _ _ h];split
 . rename_i h;rw[h]
 . grind
theorem SM(c:Rat)(h:n<S.length):GK (Jv S) (Jv (Dq n [c]))=Jv (S.set n (cf S n-c)):=by
 unfold GK;refine Yr λi=>?_;rw[FP,GI,YK,YK,KN,EM _ _ _ _ h];split
 . rename_i h;rw[h];grind
 . grind
def Yv(S:Z)(m:Nat):Prop:=S.length=9/\∀i,DI (2*m+1) (cf S i)
def Yv.start:Yv (Td 9 0) 0:=⟨J,λi=>by rw[Yo];exact DI.zero 1 Y⟩
def Yv.sqs(h:Yv S m)(a:m<=300):Sqs (Jv S):=Sqs.of λi=>by rw[YK];exact Sq.of (h.2 i) Y
def Yv.next(h:Yv S m)(a:Du c)(d:n<=8)(b:Bool):Yv (S.set n (if b then cf S n-c else cf S n+c)) (m+1):=by
 refine⟨by rw[CT];exact h.1,λi=>?_⟩;rw[EM _ _ _ _ (by rw[h.1];omega)];split
 . cases b
   . exact((h.2 n).add2 a.sm).mono Y
   . rw[BH J,Rat.sub_eq_add_neg];exact((h.2 n).add2 a.sm.neg).mono Y
 . exact(h.2 i).mono Y
def SN{j:Nat}{c d:UInt8}(a:JP l j c=true)(b:JP l j d=true):c=d:=by
 unfold JP at a b;rw[Bo]at a b;exact AU (a.symm.trans b)
def Fe{f:Nat}{I:Nat}(h:JR l I=.error e p):XX l (f+1) b I S=.error e p:=by
 rw[XX,h]
def GB{f:Nat}{I:Nat}(h:JR l I=.ok (c,n) k):XX l (f+1) b I S =
 if JP l (C7 l k) 43 then XX l f false (C7 l k+1) (S.set n (if b then cf S n-c else cf S n+c))else if JP l (C7 l k) 45 then XX l f true (C7 l k+1) (S.set n (if b then cf S n-c else cf S n+c))else if C7 l k=l.length then .ok (S.set n (if b then cf S n-c else cf S n+c)) (C7 l k)else .error 2 (C7 l k):=by
 rw[XX,h]
def KO(l:List UInt8)(i:Nat):(JR l i).pos:=by
 intro e p h;rw[Y3]at h;split at h
 . rename_i b c a;cases h;exact Mo l i _ _ a
 . split at h
   . split at h
     . rename_i b c a;cases h;exact R9 _ _ _ _ a
     . cases h
   . cases h
def XG(l:List UInt8):Rd Z:=if JP l (C7 l 0) 45 then XX l (l.length+1) true (C7 l 0+1) (Td 9 0)else XX l (l.length+1) false (C7 l 0) (Td 9 0)
def G0(r:Rd Z):Z × Nat × Nat:=match r with|.error e p=>([],e,p)|.ok s _=>(Jv s,0,0)
def GC(h:¬300<l.length):Jp l=G0 (XG l):=by
 unfold Jp XG G0;rw[BE h];split<;>(rename_i a;rw[a])
def XU(l:List UInt8)(a:B)(u:Value)(e p:Int):Prop:=e=((Jp l).2.1:Int)/\p=((Jp l).2.2:Int)/\RowK false a u (Jp l).1/\(Jp l).1.length<=9/\∀i,DI 601 (cf (Jp l).1 i)
def XU.bad(h:Jp l=([],e,p)):XU l a (H none 0 0) e p:=by
 rw[XU,h];exact⟨J,J,RowK.nil _ _,B5,λi=>by rw[Ed];exact DI.zero _ Y⟩
def XU.ok{u:Value}(h:Jp l=(Jv S,0,0))(hs:Yv S m)(c:m<=300)(b:RowK false a u (Jv S)):XU l a u 0 0:=by
 rw[XU,h];exact⟨J,J,b,AB (J7 _) (by rw[hs.1];exact Aa _),λi=>by rw[YK];exact(hs.2 i).mono Y⟩
def below_drewN{w W:B}(h:Bl w W)(k:Nat):Bl w (W.drewN k):=h.grown (Js W k none) h.size (λk e=>by cases e)
def DE.new(w:B)(s:ByteArray):DE (w.alloc (.cells #[G s,D E 0,D E 0,D E 0] 82)) w.heap.size s 0 0 0:=BC w _
def Mu(s:ByteArray)(bz:s.size<=140737488351232)(w:B):
 Calls Tryz.prog 10 #[G s] w λr w'=>∃(u:Value) (e p:Int),r=.returned (.tuple #[u,D E e,D E p])/\XU (Jc s) w' u e p/\Bl w w':=by
 by_cases bi:300<s.size
 . have bn:(300:Int)<(s.size:Int):=Y
   have HP:=Ja (show Jp (Jc s)=([],1,0)by unfold Jp;rw[BH (by rw[Jf];exact bi)]);go_enter func10,ntmps10
   go_wp2;exact BA (v:=.tuple #[H none 0 0,D E 1,D E 0]) (by simp[results,results10,go_sem]) J ⟨_,_,_,J,XU.bad HP.o,BB _ _⟩
 . have bn:¬(300:Int)<(s.size:Int):=Y
   have hs:s.size<=300:=Y
   have HP:=Ja (GC (l:=Jc s) (by rw[Jf];exact bi));clear bi bz;have Um:Bl w (w.alloc (.cells #[G s,D E 0,D E 0,D E 0] 82)):=Ba w _;have Uc:=DE.new w s;obtain⟨W0,bg⟩:=ex (w.alloc (.cells #[G s,D E 0,D E 0,D E 0] 82));rw[bg]at Um Uc;obtain⟨R,hR⟩:=ex (w.heap.size);rw[hR]at Uc;obtain⟨o,Up,Uo,Ux⟩:=Df hR bg Um Uc;obtain⟨b0,bh⟩:∃b,b=(decide ((0:Int)=0)&&JP (Jc s) (C7 (Jc s) 0) 45):=⟨_,J⟩;have Ut:=Ja (Yq R s 0 0 0 45 W0 Uc Y hs b0 bh);have HB:=Ja (show JP (Jc s) (C7 (Jc s) 0) 45=b0 by rw[bh];simp);clear Um Uc bh hR bg;go_enter func10,ntmps10
   go_upto_region 4 with fail
   rw[Up.o,o.o];go_wp2_with(first
    |(go_at_call 45;refine Ut.o.mono ?_;clear Ut;rintro e w1 ⟨rfl,az,aq⟩;have Uq:=Ja az;have Qw:=Ja (below_grown Uo.o aq (by rw[o.o];exact Aa _));clear az aq))
   go_loopw [6,7,8] (λmv pv _ wr=>∃(b:Bool) (I f m:Nat) (S:Z) (a:Tb) (la ca:Nat),mv=F b/\pv=H a la ca/\I<=s.size/\Hid (DE wr R s (I:Int) 0 0)/\Hid (RowK false wr (H a la ca) (Jv S))/\Hid (Yv S m)/\Hid (m<=I/\s.size-I<f/\XX (Jc s) f b I S=XG (Jc s))/\Hid (Bl w wr)) λ_ _ _ wr=>s.size-Ds wr R
   case atStart=>
    have Uv:C7 (Jc s) 0<=s.size:=by rw[<-Jf];exact J9 Y
    refine⟨b0,C7 (Jc s) 0+(if b0 then 1 else 0),s.size+1,0,Td 9 0,none,0,0,J,J,?_,Ja Uq.o,Ja ?_,Ja Yv.start,Ja ⟨Y,Y,?_⟩,Ja Qw.o⟩
    . cases hb:b0
      . simpa using Uv
      . have h1:=HB.o;rw[hb]at h1;have h2:=JU h1;rw[Jf]at h2;simp;omega
    . rw[GH λi=>Yo 9 i];exact RowK.nil _ _
    . unfold XG;rw[HB.o,Jf];cases b0<;>rfl
   case round=>
    clear Uq Qw HB Uo Ux Up;obtain⟨b,I,f,m,S,a,la,ca,rfl,rfl,hI,bc,bm,HS,HT,HG⟩:=hrel;have Ur:=Ja (SK R s I 0 0 wr bc.o hI hs);go_upto_if 19 with(first
     |(go_at_call 46;refine Ur.o.mono ?_;clear Ur;rintro e w1 ⟨u,c,n,K,rfl,hu,bu,hF,am,az,bk,aq⟩;have Qo:=Ja (bm.o.rd bc.o aq);have Qy:=Ja az;have HU:=Ja hu;have HF:=Ja hF;have Uw:=Ja (bk J);have Qw:=Ja (below_grown HG.o aq (by rw[o.o];exact Aa _));obtain⟨a2,l2,c2,rfl⟩:=hu.form;clear az hu hF bk aq))
    obtain⟨d,bd⟩:=ex (C7 (Jc s) K);have Qn:=Ja bd;have Qg:d<=s.size:=by rw[<-bd,<-Jf];exact J9 (by rw[Jf];exact am)
    have L:=Ja (show C7 (Jc s) d=d by rw[<-bd];exact Fd _ _);clear bd;obtain⟨f,rfl⟩:∃g,f=g+1:=⟨f-1,by have:=HT.o.2.1;omega⟩;have Ui:=Ja (HS.o.next HF.o bu b);obtain⟨S2,bf⟩:=ex (S.set n (if b then cf S n-c else cf S n+c));rw[bf]at Ui;have Ul:=Ja bf;clear bf;go_cut [7] λpv wx=>∃a3 l3 c3,pv=H a3 l3 c3/\Hid (RowK false wx (H a3 l3 c3) (Jv S2))/\Hid (DE wx R s (K:Int) (DW (JR (Jc s) I) 0) (Db (JR (Jc s) I) 0 0))/\Hid (Bl w wx)
    case first=>
     cases b with
     |false=>
      have Ub:=Ja λ(V:B) (h1:RowK false V (H a la ca) (Jv S)) (h2:RowK false V (H a2 l2 c2) (Jv (Dq n [c])))=>Mi _ _ _ _ V h1 h2 (HS.o.sqs (by have:=HT.o.1;omega)) (Ms HF.o) ⟨(by have:=J7 S;have:=HS.o.1;omega),(by have:=Mt n c;omega)⟩;obtain rfl:S.set n (cf S n+c)=S2:=Ul.o;go_wp2_with(go_at_call 30;refine(Ub.o _ Qo.o HU.o).mono ?_;clear Ub;rintro e w2 ⟨u2,rfl,ak,an⟩;rw[SL c (by rw[HS.o.1];omega)]at ak;obtain⟨a3,l3,c3,rfl⟩:=ak.form;have Qh:=Ja ak;have Q:=Ja (Qy.o.below an);have Qu:=Ja (Bt Qw.o an);clear ak an)
      go_meet
      case rel=>exact⟨_,_,_,J,Qh,Q,Qu⟩
     |true=>
      have Ub:=Ja λ(V:B) (h1:RowK false V (H a la ca) (Jv S)) (h2:RowK false V (H a2 l2 c2) (Jv (Dq n [c])))=>R6 _ _ _ _ V h1 h2 (HS.o.sqs (by have:=HT.o.1;omega)) (Ms HF.o) ⟨(by have:=J7 S;have:=HS.o.1;omega),(by have:=Mt n c;omega)⟩;obtain rfl:S.set n (cf S n-c)=S2:=Ul.o;go_wp2_with(go_at_call 31;refine(Ub.o _ Qo.o HU.o).mono ?_;clear Ub;rintro e w2 ⟨u2,rfl,ak,an⟩;rw[SM c (by rw[HS.o.1];omega)]at ak;obtain⟨a3,l3,c3,rfl⟩:=ak.form;have Qh:=Ja ak;have Q:=Ja (Qy.o.below an);have Qu:=Ja (Bt Qw.o an);clear ak an)
      go_meet
      case rel=>exact⟨_,_,_,J,Qh,Q,Qu⟩
    obtain⟨a3,l3,c3,rfl,Qh,Q,Qu⟩:=hcut;clear Qo Qy Qw HU;by_cases ae:DW (JR (Jc s) I) 0=0
    . obtain⟨_,⟨c0,n0⟩,k,hk⟩:=KL (KO _ _) ae;obtain⟨rfl,rfl,rfl⟩:=Uw.o c0 n0 k hk;rw[ae,(XT hk 0 0).2]at Q;have Qz:=Ja (show m<=I/\I<K/\K<=d/\d<=s.size/\s.size-I<f+1 from⟨HT.o.1,(X1 (by rw[Jf];exact hI) hk).1,by rw[<-Qn.o];exact Ef _ _,Qg,HT.o.2.1⟩);have Uf:=Ja (GB (f:=f) (b:=b) (S:=S) hk);rw[Qn.o,HT.o.2.2,Ul.o]at Uf;clear ae hk;cases ai:JP (Jc s) d 43 with
      |true=>
       obtain⟨Qr,Qk,Un⟩:=DO ai (show JP (Jc s) d 45=false from Bool.eq_false_iff.2 λh=>absurd (SN ai h) DB) (show XX (Jc s) f false (d+1) S2=XG (Jc s)by rw[Uf.o,BH ai]);have Ua:d+1<=s.size:=by have:=JU ai;rw[Jf]at this;omega
       clear ai;have t:=Ja λ(V:B) (j:DE V R s (K:Int) 0 0)=>Xd R s K 0 0 45 V j am hs;rw[show(decide ((0:Int)=0)&&JP (Jc s) (C7 (Jc s) K) 45)=false from by rw[Qn.o];simp[Qk.o],Qn.o]at t;have x:=Ja λ(V:B) (j:DE V R s (d:Int) 0 0)=>Yq R s d 0 0 43 V j Qg hs true (by rw[L.o];simp[Qr.o]);rw[L.o]at x;go_wp2_with(first
        |(go_at_call 47;refine(t.o _ Q.o).mono ?_;clear t;rintro e w3 ⟨rfl,W,y⟩;have Qe:=Ja (Qh.o.rd Q.o y);have U:=Ja W;have Qq:=Ja (below_grown Qu.o y (by rw[o.o];exact Aa _));clear W y)
        |(go_at_call 45;refine(x.o _ U.o).mono ?_;clear x;rintro e w4 ⟨rfl,X,z⟩;have Qf:=Ja (Qe.o.rd U.o z);have T:=Ja X;have Qt:=Ja (below_grown Qq.o z (by rw[o.o];exact Aa _));clear X z))
       go_roundw
       case rel=>exact⟨_,d+1,f,m+1,_,_,_,_,J,J,Ua,Ja T.o,Ja Qf.o,Ja Ui.o,Ja ⟨by have:=Qz.o;omega,by have:=Qz.o;omega,Un.o⟩,Ja Qt.o⟩
       case measure=>
        have e1:=Ea (I:=d+1) T.o;have e2:=Ea bc.o;rw[e1,e2];have:=Qz.o;omega
      |false=>
       have Qr:=Ja ai;cases aj:JP (Jc s) d 45 with
       |true=>
        have Qk:=Ja aj;have Un:=Ja (show XX (Jc s) f true (d+1) S2=XG (Jc s)by rw[Uf.o,BE (show ¬JP (Jc s) d 43=true by rw[ai];decide),BH aj]);have Ua:d+1<=s.size:=by have:=JU aj;rw[Jf]at this;omega
        clear ai aj;have t:=Ja λ(V:B) (j:DE V R s (K:Int) 0 0)=>Xd R s K 0 0 45 V j am hs;rw[show(decide ((0:Int)=0)&&JP (Jc s) (C7 (Jc s) K) 45)=true from by rw[Qn.o];simp[Qk.o],Qn.o]at t;have x:=Ja λ(V:B) (j:DE V R s (d:Int) 0 0)=>Yq R s d 0 0 43 V j Qg hs false (by rw[L.o];simp[Qr.o]);rw[L.o]at x;have N:=Ja λ(V:B) (j:DE V R s (d:Int) 0 0)=>Yq R s d 0 0 45 V j Qg hs true (by rw[L.o];simp[Qk.o]);rw[L.o]at N;go_wp2_with(first
         |(go_at_call 47;refine(t.o _ Q.o).mono ?_;clear t;rintro e w3 ⟨rfl,W,y⟩;have Qe:=Ja (Qh.o.rd Q.o y);have U:=Ja W;have Qq:=Ja (below_grown Qu.o y (by rw[o.o];exact Aa _));clear W y)
         |(go_at_call 45;refine(x.o _ U.o).mono ?_;clear x;rintro e w4 ⟨rfl,X,z⟩;have Qf:=Ja (Qe.o.rd U.o z);have T:=Ja X;have Qt:=Ja (below_grown Qq.o z (by rw[o.o];exact Aa _));clear X z)
         |(go_at_call 45;refine(N.o _ T.o).mono ?_;clear N;rintro e w5 ⟨rfl,ah,P⟩;have Qj:=Ja (Qf.o.rd T.o P);have Qi:=Ja ah;have Qv:=Ja (below_grown Qt.o P (by rw[o.o];exact Aa _));clear ah P))
        go_roundw
        case rel=>exact⟨_,d+1,f,m+1,_,_,_,_,J,J,Ua,Ja Qi.o,Ja Qj.o,Ja Ui.o,Ja ⟨by have:=Qz.o;omega,by have:=Qz.o;omega,Un.o⟩,Ja Qv.o⟩
        case measure=>
         have e1:=Ea (I:=d+1) Qi.o;have e2:=Ea bc.o;rw[e1,e2];have:=Qz.o;omega
       |false=>
        have Qk:=Ja aj;by_cases bj:d<s.size
        . have Qm:=Ja (show Jp (Jc s)=([],2,d)by rw[HP.o,Uf.o,BE (show ¬JP (Jc s) d 43=true by rw[ai];decide),BE (show ¬JP (Jc s) d 45=true by rw[aj];decide),BE (by rw[Jf];omega)];rfl);clear ai aj;have t:=Ja λ(V:B) (j:DE V R s (K:Int) 0 0)=>Xd R s K 0 0 45 V j am hs;rw[show(decide ((0:Int)=0)&&JP (Jc s) (C7 (Jc s) K) 45)=false from by rw[Qn.o];simp[Qk.o],Qn.o]at t;have x:=Ja λ(V:B) (j:DE V R s (d:Int) 0 0)=>Yq R s d 0 0 43 V j Qg hs false (by rw[L.o];simp[Qr.o]);rw[L.o]at x;have N:=Ja λ(V:B) (j:DE V R s (d:Int) 0 0)=>Yq R s d 0 0 45 V j Qg hs false (by rw[L.o];simp[Qk.o]);rw[L.o]at N;have H8:=Ja λ(V:B) (j:DE V R s (d:Int) 0 0)=>Xd R s d 0 0 32 V j Qg hs;rw[L.o]at H8;have Ug:=Ja λ(V:B) (j:DE V R s (d:Int) 0 0)=>GA R s (d:Int) 0 0 2 (d:Int) V j;have bt:(d:Int)<(s.size:Int):=Y
          go_wp2_with(first
           |(go_at_call 47;refine(t.o _ Q.o).mono ?_;clear t;rintro e w3 ⟨rfl,W,y⟩;have Qe:=Ja (Qh.o.rd Q.o y);have U:=Ja W;have Qq:=Ja (below_grown Qu.o y (by rw[o.o];exact Aa _));clear W y)
           |(go_at_call 45;refine(x.o _ U.o).mono ?_;clear x;rintro e w4 ⟨rfl,X,z⟩;have Qf:=Ja (Qe.o.rd U.o z);have T:=Ja X;have Qt:=Ja (below_grown Qq.o z (by rw[o.o];exact Aa _));clear X z)
           |(go_at_call 45;refine(N.o _ T.o).mono ?_;clear N;rintro e w5 ⟨rfl,ah,P⟩;have Qj:=Ja (Qf.o.rd T.o P);have Qi:=Ja ah;have Qv:=Ja (below_grown Qt.o P (by rw[o.o];exact Aa _));clear ah P)
           |(go_at_call 47;refine(H8.o _ Qi.o).mono ?_;clear H8;rintro e w6 ⟨rfl,A,ad⟩;have Ql:=Ja (Qj.o.rd Qi.o ad);have Qp:=Ja A;have Ud:=A.c1;have Uh:=A.c2;have Ue:=A.c3;have Qx:=Ja (below_grown Qv.o ad (by rw[o.o];exact Aa _));clear A ad)
           |(go_at_call 48;refine(Ug.o _ Qp.o).mono ?_;clear Ug;rintro e w7 ⟨rfl,ap,ay⟩;clear Ud Uh Ue;have Us:w7.cell? ⟨R,2,none⟩=some (D E 2):=ap.c2;have Uu:w7.cell? ⟨R,3,none⟩=some (D E (d:Int)):=ap.c3;have Uk:=Ja (below_grown Qx.o ay (by rw[o.o];exact Aa _));clear ap ay))
          go_quiet (fail)
          go_wp2_with fail
          exact BA (v:=.tuple #[H none 0 0,D E 2,D E (d:Int)]) (by simp[results,results10,go_sem]) J ⟨_,_,_,J,XU.bad (e:=2) Qm.o,below_drewN Uk.o _⟩
        . have Qm:=Ja (show Jp (Jc s)=(Jv S2,0,0)by rw[HP.o,Uf.o,BE (show ¬JP (Jc s) d 43=true by rw[ai];decide),BE (show ¬JP (Jc s) d 45=true by rw[aj];decide),BH (by rw[Jf];omega)];rfl);clear ai aj;have t:=Ja λ(V:B) (j:DE V R s (K:Int) 0 0)=>Xd R s K 0 0 45 V j am hs;rw[show(decide ((0:Int)=0)&&JP (Jc s) (C7 (Jc s) K) 45)=false from by rw[Qn.o];simp[Qk.o],Qn.o]at t;have x:=Ja λ(V:B) (j:DE V R s (d:Int) 0 0)=>Yq R s d 0 0 43 V j Qg hs false (by rw[L.o];simp[Qr.o]);rw[L.o]at x;have N:=Ja λ(V:B) (j:DE V R s (d:Int) 0 0)=>Yq R s d 0 0 45 V j Qg hs false (by rw[L.o];simp[Qk.o]);rw[L.o]at N;have H8:=Ja λ(V:B) (j:DE V R s (d:Int) 0 0)=>Xd R s d 0 0 32 V j Qg hs;rw[L.o]at H8;have Uy:decide (d<s.size)=false:=BD bj;go_wp2_with(first
           |(go_at_call 47;refine(t.o _ Q.o).mono ?_;clear t;rintro e w3 ⟨rfl,W,y⟩;have Qe:=Ja (Qh.o.rd Q.o y);have U:=Ja W;have Qq:=Ja (below_grown Qu.o y (by rw[o.o];exact Aa _));clear W y)
           |(go_at_call 45;refine(x.o _ U.o).mono ?_;clear x;rintro e w4 ⟨rfl,X,z⟩;have Qf:=Ja (Qe.o.rd U.o z);have T:=Ja X;have Qt:=Ja (below_grown Qq.o z (by rw[o.o];exact Aa _));clear X z)
           |(go_at_call 45;refine(N.o _ T.o).mono ?_;clear N;rintro e w5 ⟨rfl,ah,P⟩;have Qj:=Ja (Qf.o.rd T.o P);have Qi:=Ja ah;have Qv:=Ja (below_grown Qt.o P (by rw[o.o];exact Aa _));clear ah P)
           |(go_at_call 47;refine(H8.o _ Qi.o).mono ?_;clear H8;rintro e w6 ⟨rfl,A,ad⟩;have Ql:=Ja (Qj.o.rd Qi.o ad);have Qp:=Ja A;have Ud:=A.c1;have Uh:=A.c2;have Ue:=A.c3;have Qx:=Ja (below_grown Qv.o ad (by rw[o.o];exact Aa _));clear A ad))
          exact BA (v:=.tuple #[H a3 l3 c3,D E 0,D E 0]) (by simp[results,results10,go_sem]) J ⟨_,_,_,J,XU.ok Qm.o Ui.o (by have:=Qz.o;omega) Ql.o,Qx.o⟩
    . obtain⟨q,hE⟩:=ex (DW (JR (Jc s) I) 0);obtain⟨M,hA⟩:=ex (Db (JR (Jc s) I) 0 0);have Qs:∃e p:Nat,JR (Jc s) I=.error e p:=by
       cases hk:JR (Jc s) I with
       |error e p=>exact⟨e,p,J⟩
       |ok a k=>exact absurd (XT hk 0 0).1 ae
      obtain⟨e0,p0,Qs⟩:=Qs;have Uj:=Ja (show q=(e0:Int)/\M=(p0:Int)by rw[<-hE,<-hA,Qs];exact⟨J,J⟩);have Qm:=Ja (show Jp (Jc s)=([],e0,p0)by rw[HP.o,<-HT.o.2.2,Fe Qs];rfl);rw[hE,hA]at Q;rw[hE]at ae;have ce:(q==0)=false:=by rw[BI];exact ae
      clear hE hA Qs;by_cases bj:d<s.size
      . skip
        have t:=Ja λ(V:B) (j:DE V R s (K:Int) q M)=>Xd R s K q M 45 V j am hs;rw[show(decide ((q:Int)=0)&&JP (Jc s) (C7 (Jc s) K) 45)=false from by simp[ae],Qn.o]at t;have x:=Ja λ(V:B) (j:DE V R s (d:Int) q M)=>Yq R s d q M 43 V j Qg hs false (by simp[ae]);rw[L.o]at x;have N:=Ja λ(V:B) (j:DE V R s (d:Int) q M)=>Yq R s d q M 45 V j Qg hs false (by simp[ae]);rw[L.o]at N;have H8:=Ja λ(V:B) (j:DE V R s (d:Int) q M)=>Xd R s d q M 32 V j Qg hs;rw[L.o]at H8;have Ug:=Ja λ(V:B) (j:DE V R s (d:Int) q M)=>GA R s (d:Int) q M 2 (d:Int) V j;have bt:(d:Int)<(s.size:Int):=Y
        go_wp2_with(first
         |(go_at_call 47;refine(t.o _ Q.o).mono ?_;clear t;rintro e w3 ⟨rfl,W,y⟩;have Qe:=Ja (Qh.o.rd Q.o y);have U:=Ja W;have Qq:=Ja (below_grown Qu.o y (by rw[o.o];exact Aa _));clear W y)
         |(go_at_call 45;refine(x.o _ U.o).mono ?_;clear x;rintro e w4 ⟨rfl,X,z⟩;have Qf:=Ja (Qe.o.rd U.o z);have T:=Ja X;have Qt:=Ja (below_grown Qq.o z (by rw[o.o];exact Aa _));clear X z)
         |(go_at_call 45;refine(N.o _ T.o).mono ?_;clear N;rintro e w5 ⟨rfl,ah,P⟩;have Qj:=Ja (Qf.o.rd T.o P);have Qi:=Ja ah;have Qv:=Ja (below_grown Qt.o P (by rw[o.o];exact Aa _));clear ah P)
         |(go_at_call 47;refine(H8.o _ Qi.o).mono ?_;clear H8;rintro e w6 ⟨rfl,A,ad⟩;have Ql:=Ja (Qj.o.rd Qi.o ad);have Qp:=Ja A;have Ud:=A.c1;have Uh:=A.c2;have Ue:=A.c3;have Qx:=Ja (below_grown Qv.o ad (by rw[o.o];exact Aa _));clear A ad)
         |(go_at_call 48;refine(Ug.o _ Qp.o).mono ?_;clear Ug;rintro e w7 ⟨rfl,ap,ay⟩;clear Ud Uh Ue;have Us:=ap.c2;have Uu:=ap.c3;rw[BE ae]at Us;rw[BE ae]at Uu;have Uk:=Ja (below_grown Qx.o ay (by rw[o.o];exact Aa _));clear ap ay))
        go_quiet (fail)
        go_wp2_with fail
        exact BA (v:=.tuple #[H none 0 0,D E q,D E M]) (by simp[results,results10,go_sem]) J ⟨_,_,_,J,by rw[Uj.o.1,Uj.o.2];exact XU.bad Qm.o,below_drewN Uk.o _⟩
      . skip
        have t:=Ja λ(V:B) (j:DE V R s (K:Int) q M)=>Xd R s K q M 45 V j am hs;rw[show(decide ((q:Int)=0)&&JP (Jc s) (C7 (Jc s) K) 45)=false from by simp[ae],Qn.o]at t;have x:=Ja λ(V:B) (j:DE V R s (d:Int) q M)=>Yq R s d q M 43 V j Qg hs false (by simp[ae]);rw[L.o]at x;have N:=Ja λ(V:B) (j:DE V R s (d:Int) q M)=>Yq R s d q M 45 V j Qg hs false (by simp[ae]);rw[L.o]at N;have H8:=Ja λ(V:B) (j:DE V R s (d:Int) q M)=>Xd R s d q M 32 V j Qg hs;rw[L.o]at H8;have Uy:decide (d<s.size)=false:=BD bj;go_wp2_with(first
         |(go_at_call 47;refine(t.o _ Q.o).mono ?_;clear t;rintro e w3 ⟨rfl,W,y⟩;have Qe:=Ja (Qh.o.rd Q.o y);have U:=Ja W;have Qq:=Ja (below_grown Qu.o y (by rw[o.o];exact Aa _));clear W y)
         |(go_at_call 45;refine(x.o _ U.o).mono ?_;clear x;rintro e w4 ⟨rfl,X,z⟩;have Qf:=Ja (Qe.o.rd U.o z);have T:=Ja X;have Qt:=Ja (below_grown Qq.o z (by rw[o.o];exact Aa _));clear X z)
         |(go_at_call 45;refine(N.o _ T.o).mono ?_;clear N;rintro e w5 ⟨rfl,ah,P⟩;have Qj:=Ja (Qf.o.rd T.o P);have Qi:=Ja ah;have Qv:=Ja (below_grown Qt.o P (by rw[o.o];exact Aa _));clear ah P)
         |(go_at_call 47;refine(H8.o _ Qi.o).mono ?_;clear H8;rintro e w6 ⟨rfl,A,ad⟩;have Ql:=Ja (Qj.o.rd Qi.o ad);have Qp:=Ja A;have Ud:=A.c1;have Uh:=A.c2;have Ue:=A.c3;have Qx:=Ja (below_grown Qv.o ad (by rw[o.o];exact Aa _));clear A ad))
        go_quiet (fail)
        go_wp2_with fail
        exact BA (v:=.tuple #[H none 0 0,D E q,D E M]) (by simp[results,results10,go_sem]) J ⟨_,_,_,J,by rw[Uj.o.1,Uj.o.2];exact XU.bad Qm.o,below_drewN Qx.o _⟩
def DH(W:B)(R:Nat)(s:ByteArray)(I:Int):Prop:=W.heap[R]?=some (.cells #[G s,.int E I] 124 (0,0))
section
variable {W W':World} {R:Nat} {s:ByteArray} {I:Int}
def DH.lt(h:DH W R s I):R<W.heap.size:=(Ab.1 h).1
def DH.c0(h:DH W R s I):W.cell? ⟨R,0,none⟩=some (G s):=by simp[World.cell?,show W.heap[R]?=_ from h]
def DH.c1(h:DH W R s I):W.cell? ⟨R,1,none⟩=some (D E I):=by simp[World.cell?,show W.heap[R]?=_ from h]
def DH.cp(h:DH W R s I):type_of% (And.intro h.c0 h.c1):=⟨h.c0,h.c1⟩
def DH.f(h:DH W R s I)(o:Nat):W.frozen? ⟨R,o,none⟩=false:=by simp[World.frozen?,show W.heap[R]?=_ from h]
def DH.below(h:DH W R s I)(a:Bl W W'):DH W' R s I:=(a.block R h.lt).trans h
def DH.set1(h:DH W R s I)(x:Int):DH (W.setCell ⟨R,1,none⟩ (D E x)) R s x:=by
 have:=JJ (o:=1) h (D E x);exact this
def DH.drewN(h:DH W R s I)(n:Nat):DH (W.drewN n) R s I:=h
theorem Er(h:DH W R s I){cs:Array Value}{t:TypeId}{m:Nat × Nat}{b:Nat}(a:W.heap[b]?=some (.cells cs t m))(c:t≠124):b≠R:=by
 intro e;subst e;have:=a.symm.trans h;grind
theorem KP(h:DH W R s I)(hg:W.grownBy W' (some R)):∀k v ds,Row k W v ds->Row k W' v ds:=by
 intro k v ds c;obtain⟨a,cap,e,_⟩:=id c;subst e;refine c.grown hg λp f hl=>?_;obtain⟨b,i,d,cs,m,g⟩:=c.typ hl;grind[Er]
end
def FL{W:B}{R:Nat}{s:ByteArray}{I:Nat}(h:DH W R s I):Ds W R=I:=by
 unfold Ds;rw[h.c1];simp[intOf]
def Mv(c:UInt8)(w:B):Calls Tryz.prog 181 #[D .u8 (c.toNat:Int)] w λr e=>r=.returned (F (DC c))/\e=w:=by
 by_cases b:48<=c.toNat
 . have f:decide ((48:Int)<=(c.toNat:Int))=true:=BG Y;by_cases d:c.toNat<=57
   . have a:=Ja (show DC c=true by simp[DC,b,d]);go_enter func181,ntmps181
     go_wp2;go_ret;exact⟨by rw[a.o];simp;omega,J⟩
   . have a:=Ja (show DC c=false by simp[DC,d]);go_enter func181,ntmps181
     go_wp2;go_ret;exact⟨by rw[a.o];simp;omega,J⟩
 . have a:=Ja (show DC c=false by simp[DC,b]);go_enter func181,ntmps181
   go_wp2;go_ret;exact⟨by rw[a.o];rfl,J⟩
def KQ(R:Nat)(s:ByteArray)(I:Nat)(w:B)(h:DH w R s I)(z:I<=s.size)(hs:s.size<=300):
 Calls Tryz.prog 122 #[C (some ⟨R,0,none⟩)] w λr q=>r=.returned (F (decide (C7 (Jc s) I=s.size)))/\DH q R s (C7 (Jc s) I:Nat)/\w.grownBy q (some R):=by
 have t:=Ja h;clear h;go_enter func122,ntmps122
 go_wp2;go_loopw [] (λwr=>∃j:Nat,I<=j/\j<=s.size/\Hid (DH wr R s j/\w.grownBy wr (some R)/\∀k (c:k<s.size),I<=k->k<j->s[k]=32)) λwr=>s.size-Ds wr R
 case atStart=>exact⟨I,Aa _,z,Ja ⟨t.o,Ya _ _,λk _ n o=>by omega⟩⟩
 case round=>
  obtain⟨j,n,o,a⟩:=hrel;obtain⟨c0,c1⟩:=a.o.1.cp;have f1:=a.o.1.f 1;by_cases K:j<s.size
  . have Q:(j:Int)<(s.size:Int):=Y
    have P:(0:Int)<=(j:Int):=Y
    by_cases b:s[j]=32
    . have A:((s[j].toNat:Int)==32)=true:=by rw[b];rfl
      have y:=Ja b;clear b;go_wp2_with fail
      go_quiet (fail)
      go_wp2;go_roundw
      case rel=>
       refine⟨j+1,Y,Y,Ja ⟨?_,Je (Je a.o.2.1 (Js _ _ _)) (Jt _ R 1 _),λk c g i=>?_⟩⟩
       . have:=(a.o.1.drewN nq).set1 ((j:Int)+1);rw[show((j:Int)+1)=((j+1:Nat):Int)from by omega]at this;exact this
       . by_cases e:k=j
         . subst e;exact y.o
         . exact a.o.2.2 k c g Y
      case measure=>
       have L:=FL a.o.1;have M:Ds ((wr.drewN nq).setCell ⟨R,1,none⟩ (D E ((j:Int)+1))) R=j+1:=by
        have:=(a.o.1.drewN nq).set1 ((j:Int)+1);rw[show((j:Int)+1)=((j+1:Nat):Int)from by omega]at this ⊢;exact FL this
       omega
    . have A:((s[j].toNat:Int)==32)=false:=Gx (d:=32) b;have f:=Ja (show C7 (Jc s) I=j from Gy n o (λk c g i=>by rw[a.o.2.2 k c g i];rfl) λ_=>BI.2 b);have u:¬j=s.size:=Y
      have x:((j:Int)==(s.size:Int))=false:=DJ
      clear b;go_wp2_with fail
      go_quiet (fail)
      go_wp2;have m:=Ja (show w.grownBy (wr.drewN nq) (some R)from Je a.o.2.1 (Js _ _ _));have l:=Ja (a.o.1.drewN nq);go_quiet (fail)
      go_wp2;go_ret;exact⟨by rw[f.o];simp[u],by rw[f.o];exact l.o.drewN _,Je m.o (Js _ _ _)⟩
  . have p:j=s.size:=Y
    have N:=BD Y;have f:=Ja (show C7 (Jc s) I=j from Gy n o (λk c g i=>by rw[a.o.2.2 k c g i];rfl) λh=>by omega);have x:((j:Int)==(s.size:Int))=true:=DJ
    have v:=Ja p;clear K p;go_wp2_with fail
    go_quiet (fail)
    go_wp2;have m:=Ja (show w.grownBy (wr.drewN nq) (some R)from Je a.o.2.1 (Js _ _ _));have l:=Ja (a.o.1.drewN nq);go_quiet (fail)
    go_wp2;go_ret;exact⟨by rw[f.o];simp[v.o],by rw[f.o];exact l.o.drewN _,Je m.o (Js _ _ _)⟩
end
def XH(e p:Int):Value:=.iface 77 (.agg #[.int E e,.int E p])
def GD(v:Value)(e p:Int)(w:B):Calls Tryz.prog 123 #[v,D E e,D E p] w λr a=>r=.panicked [{ v:=XH e p,recovered:=false }]/\a=w:=by
 go_enter func123,ntmps123
 go_wp2;exact⟨J,J,J⟩
section
open M3
def Do(w V:B)(R:Nat)(s:ByteArray)(I:Int):Prop:=DH V R s I/\w.grownBy V (some R)
def Do.below{w V V':B}{R:Nat}{s:ByteArray}{I:Int}(h:Do w V R s I)(a:Bl V V'):Do w V' R s I:=⟨h.1.below a,Je h.2 (JK a _)⟩
variable{j:Nat}
theorem XV(R:Nat)(s:ByteArray)(I:Nat)(c:UInt8)(w:B)(h:DH w R s I)(y:I<=s.size)(hs:s.size<=300)(b:Bool)(i:b=JP (Jc s) (C7 (Jc s) I) c):
 Calls Tryz.prog 120 #[C (some ⟨R,0,none⟩),D .u8 (c.toNat:Int)] w λr u=>r=.returned (F b)/\DH u R s ((C7 (Jc s) I+(if b then 1 else 0):Nat):Int)/\w.grownBy u (some R):=by
 have d:=Ja λ(V:B) (z:DH V R s I)=>KQ R s I V z y hs;obtain⟨j,q⟩:=ex (C7 (Jc s) I);have A:j<=s.size:=by grind[Jf,J9]
 rw[q]at d i ⊢;have n:=Ja h;clear h q;by_cases l:j=s.size
 . obtain rfl:b=false:=by rw[i];exact Mk Y
   rw[show decide (j=s.size)=true from BG l]at d;clear i l;go_enter func120,ntmps120
   go_wp2_with fail
   have m:Do w w.drew R s I:=⟨n.o,J,J,J,Aa _,λ_ _ _=>rfl⟩;refine EA Dc [[],[0],[1],[1,2],[1,2,3],[1,2,4],[1,2,5],[1,2],[1,2,7],[1,2,8],[1,2,9],[1,2,6,10],[1,2],[1,2,11,12],[1,2,13]] [.eq (C (some ⟨R,0,none⟩)),.eq (F true),.eq (F true),.any,.any,.any,.any,.any,.any,.any,.any,.any,.any,.any,.eq (F true)] [1] (λb _ V=>Do w V R s (if b.getD 0 false then(j:Int)else I)) m (WB (.vl J λ_ _=>mv)<|WB (.cw λh k=>c1 (h.e 0) ((d.o _ k.1).mono λ_ _ ⟨e,r,g⟩=>⟨_,e,J,Gh,r,Je k.2 g⟩))<|WB (.vl J λh _=>mw (h.g 1))<|WB (.no J λh=>Yk 2 false h)<|WB (.no J λh=>Yk 2 false h)<|WB (.no J λh=>Yk 2 false h)<|WB (.no J λh=>Yk 2 false h)<|WB (.no J λh=>Yk 2 false h)<|WB (.no J λh=>Yk 2 false h)<|WB (.no J λh=>Yk 2 false h)<|WB (.no J λh=>Yk 2 false h)<|WB (.no J λh=>Yk 2 false h)<|WB (.no J λh=>Yk 2 false h)<|WB (.no J λh=>Yk 2 false h)<|WB (.vl J λh _=>⟨_,by refine DK ?_;rw[h.e 2];go_simp,J⟩) Stp.end_)
    λf V hF a=>?_
   refine DK ?_;have a:Do w V R s (j:Int):=a;rw[hF.e 0,hF.e 1,hF.e 2,hF.e 14];replace a:=Ja a;clear hF;go_wp2_with fail
   go_ret;exact⟨J,a.o.1,a.o.2⟩
 . have v:j<s.size:=Y
   have K:(j:Int)<(s.size:Int):=Y
   rw[show decide (j=s.size)=false from BD l]at d;rw[Mj v]at i;obtain⟨nb,t⟩:=ex (((s[j].toNat:Int) != (c.toNat:Int)));have o:=Ja (show nb=!b by
    grind[Gx])
   have x:=Ja t;clear i l t;go_enter func120,ntmps120
   go_wp2_with fail
   have m:Do w w.drew R s I:=⟨n.o,J,J,J,Aa _,λ_ _ _=>rfl⟩;refine EA Dc [[],[0],[1],[1,2],[1,2,3],[1,2,4],[1,2,5],[1,2],[1,2,7],[1,2,8],[1,2,9],[1,2,6,10],[1,2],[1,2,11,12],[1,2,13]] [.eq (C (some ⟨R,0,none⟩)),.eq (F false),.eq (F false),.eq (C (some ⟨R,0,none⟩)),.eq (C (some ⟨R,0,none⟩)),.eq (C (some ⟨R,0,none⟩)),.eq (G s),.eq (C (some ⟨R,0,none⟩)),.eq (C (some ⟨R,0,none⟩)),.eq (C (some ⟨R,1,none⟩)),.eq (D E (j:Int)),.eq (D .u8 (s[j].toNat:Int)),.eq (D .u8 (c.toNat:Int)),.eq (F nb),.eq (F nb)] [1] (λb _ V=>Do w V R s (if b.getD 0 false then(j:Int)else I)) m (WB (.vl J λ_ _=>mv)<|WB (.cw λh k=>c1 (h.e 0) ((d.o _ k.1).mono λ_ _ ⟨e,r,g⟩=>⟨_,e,J,Gh,r,Je k.2 g⟩))<|WB (.vl J λh _=>mw (h.g 1))<|WB (.vl J (λ_ _=>mv) (hg:=λh=>Yk 2 false h))<|WB (.vl J (λh _=>⟨_,by refine DK ?_;rw[h.e 3];go_simp,J⟩) (hg:=λh=>Yk 2 false h))<|WB (.vl J (λh _=>⟨_,by refine DK ?_;rw[h.e 4];go_simp,J⟩) (hg:=λh=>Yk 2 false h))<|WB (.vl J (λh k=>⟨_,by have p:=k.1.c0;refine DK ?_;rw[h.e 5];go_simp,J⟩) (hg:=λh=>Yk 2 false h))<|WB (.vl J (λ_ _=>mv) (hg:=λh=>Yk 2 false h))<|WB (.vl J (λh _=>⟨_,by refine DK ?_;rw[h.e 7];go_simp,J⟩) (hg:=λh=>Yk 2 false h))<|WB (.vl J (λh _=>⟨_,by refine DK ?_;rw[h.e 8];go_simp,J⟩) (hg:=λh=>Yk 2 false h))<|WB (.vl J (λh k=>⟨_,by have p:=DH.c1 (I:=(j:Int)) k.1;refine DK ?_;rw[h.e 9];go_simp,J⟩) (hg:=λh=>Yk 2 false h))<|WB (.vl J (λh _=>⟨_,by refine DK ?_;rw[h.e 6,h.e 10];go_simp,J⟩) (hg:=λh=>Yk 2 false h))<|WB (.vl J (λ_ _=>mv) (hg:=λh=>Yk 2 false h))<|WB (.vl J (λh _=>⟨_,by have p:=x.o;refine DK ?_;rw[h.e 11,h.e 12];go_simp,J⟩) (hg:=λh=>Yk 2 false h))<|WB (.vl J λh _=>⟨_,by refine DK ?_;rw[h.e 2,h.e 13];go_simp,J⟩) Stp.end_)
    λf V hF a=>?_
   refine DK ?_;have a:Do w V R s (j:Int):=a;rw[hF.e 0,hF.e 1,hF.e 2,hF.e 3,hF.e 4,hF.e 5,hF.e 6,hF.e 7,hF.e 8,hF.e 9,hF.e 10,hF.e 11,hF.e 12,hF.e 13,hF.e 14];replace a:=Ja a;clear hF;have c1:=a.o.1.c1;have f1:=a.o.1.f 1;cases b with
   |true=>
    obtain rfl:nb=false:=o.o;go_wp2_with fail
    go_ret;exact⟨J,a.o.1.set1 _,Je a.o.2 (Jt _ R 1 _)⟩
   |false=>
    obtain rfl:nb=true:=o.o;go_wp2_with fail
    go_ret;exact⟨J,a.o.1,a.o.2⟩
def SO(c:UInt8)(w:B):Calls Tryz.prog 181 #[D .u8 (c.toNat:Int)] w λr a=>r=.returned (F (DC c))/\Bl w a:=by
 refine(Mv c w).mono ?_;rintro e a ⟨rfl,rfl⟩;exact⟨J,BB _ _⟩
def Mw{s:ByteArray}(a:j<s.size):D0 (Jc s) j=DC s[j]:=by
 unfold D0;rw[Aj (by rw[Jf];exact a)];rfl
theorem Mx{s:ByteArray}(a:s.size<=j):D0 (Jc s) j=false:=by
 grind[D0,Jf]
theorem My(R:Nat)(s:ByteArray)(I:Nat)(w:B)(h:DH w R s I)(u:I<=s.size)(hs:s.size<=300):
 Calls Tryz.prog 154 #[C (some ⟨R,0,none⟩)] w λr p=>r=.returned (F (D0 (Jc s) (C7 (Jc s) I)))/\DH p R s (C7 (Jc s) I:Nat)/\w.grownBy p (some R):=by
 have c:=Ja λ(V:B) (v:DH V R s I)=>KQ R s I V v u hs;obtain⟨j,o⟩:=ex (C7 (Jc s) I);have x:j<=s.size:=by grind[Jf,J9]
 rw[o]at c ⊢;have l:=Ja h;clear h o;by_cases d:j=s.size
 . rw[Mx (by omega:s.size<=j)];rw[show decide (j=s.size)=true from BG d]at c;clear d;go_enter func154,ntmps154
   go_wp2_with fail
   have i:Do w w.drew R s I:=⟨l.o,J,J,J,Aa _,λ_ _ _=>rfl⟩;refine EA Dc [[],[0],[1],[1,2],[1,3],[1,3,4],[1,3,5],[1,3,6],[1,3],[1,3,8],[1,3,9],[1,3,10],[1,3,7,11],[1,3,12],[1,3,13],[1,14]] [.eq (C (some ⟨R,0,none⟩)),.eq (F true),.eq (F false),.eq (F false),.any,.any,.any,.any,.any,.any,.any,.any,.any,.any,.eq (F false),.eq (F false)] [1] (λb _ V=>Do w V R s (if b.getD 0 false then(j:Int)else I)) i (WB (.vl J λ_ _=>mv)<|WB (.cw λh k=>c1 (h.e 0) ((c.o _ k.1).mono λ_ _ ⟨e,r,g⟩=>⟨_,e,J,Gh,r,Je k.2 g⟩))<|WB (.vl J λh _=>⟨_,by refine DK ?_;rw[h.e 1];go_simp,J⟩)<|WB (.vl J λh _=>mw (h.g 2))<|WB (.no J λh=>Yk 3 true h)<|WB (.no J λh=>Yk 3 true h)<|WB (.no J λh=>Yk 3 true h)<|WB (.no J λh=>Yk 3 true h)<|WB (.no J λh=>Yk 3 true h)<|WB (.no J λh=>Yk 3 true h)<|WB (.no J λh=>Yk 3 true h)<|WB (.no J λh=>Yk 3 true h)<|WB (.no J λh=>Yk 3 true h)<|WB (.no J λh=>Yk 3 true h)<|WB (.vl J λh _=>⟨_,by refine DK ?_;rw[h.e 3];go_simp,J⟩)<|WB (.vl J λh _=>aw (h.g 14)) Stp.end_)
    λf V hF a=>?_
   refine DK ?_;have a:Do w V R s (j:Int):=a;rw[hF.e 0,hF.e 1,hF.e 2,hF.e 3,hF.e 14,hF.e 15];replace a:=Ja a;clear hF;go_wp2_with fail
   go_ret;exact⟨J,a.o.1,a.o.2⟩
 . have q:j<s.size:=Y
   have y:(j:Int)<(s.size:Int):=Y
   rw[show decide (j=s.size)=false from BD d]at c;rw[Mw q];have m:=Ja λ(V:B)=>SO s[j] V;obtain⟨dg,n⟩:=ex (DC s[j]);rw[n]at m ⊢;clear d n;go_enter func154,ntmps154
   go_wp2_with fail
   have i:Do w w.drew R s I:=⟨l.o,J,J,J,Aa _,λ_ _ _=>rfl⟩;refine EA Dc [[],[0],[1],[1,2],[1,3],[1,3,4],[1,3,5],[1,3,6],[1,3],[1,3,8],[1,3,9],[1,3,10],[1,3,7,11],[1,3,12],[1,3,13],[1,14]] [.eq (C (some ⟨R,0,none⟩)),.eq (F false),.eq (F true),.eq (F true),.eq (C (some ⟨R,0,none⟩)),.eq (C (some ⟨R,0,none⟩)),.eq (C (some ⟨R,0,none⟩)),.eq (G s),.eq (C (some ⟨R,0,none⟩)),.eq (C (some ⟨R,0,none⟩)),.eq (C (some ⟨R,1,none⟩)),.eq (D E (j:Int)),.eq (D .u8 (s[j].toNat:Int)),.eq (F dg),.eq (F dg),.eq (F dg)] [1] (λb _ V=>Do w V R s (if b.getD 0 false then(j:Int)else I)) i (WB (.vl J λ_ _=>mv)<|WB (.cw λh k=>c1 (h.e 0) ((c.o _ k.1).mono λ_ _ ⟨e,r,g⟩=>⟨_,e,J,Gh,r,Je k.2 g⟩))<|WB (.vl J λh _=>⟨_,by refine DK ?_;rw[h.e 1];go_simp,J⟩)<|WB (.vl J λh _=>mw (h.g 2))<|WB (.vl J (λ_ _=>mv) (hg:=λh=>Yk 3 true h))<|WB (.vl J (λh _=>⟨_,by refine DK ?_;rw[h.e 4];go_simp,J⟩) (hg:=λh=>Yk 3 true h))<|WB (.vl J (λh _=>⟨_,by refine DK ?_;rw[h.e 5];go_simp,J⟩) (hg:=λh=>Yk 3 true h))<|WB (.vl J (λh k=>⟨_,by have t:=k.1.c0;refine DK ?_;rw[h.e 6];go_simp,J⟩) (hg:=λh=>Yk 3 true h))<|WB (.vl J (λ_ _=>mv) (hg:=λh=>Yk 3 true h))<|WB (.vl J (λh _=>⟨_,by refine DK ?_;rw[h.e 8];go_simp,J⟩) (hg:=λh=>Yk 3 true h))<|WB (.vl J (λh _=>⟨_,by refine DK ?_;rw[h.e 9];go_simp,J⟩) (hg:=λh=>Yk 3 true h))<|WB (.vl J (λh k=>⟨_,by have t:=DH.c1 (I:=(j:Int)) k.1;refine DK ?_;rw[h.e 10];go_simp,J⟩) (hg:=λh=>Yk 3 true h))<|WB (.vl J (λh _=>⟨_,by refine DK ?_;rw[h.e 7,h.e 11];go_simp,J⟩) (hg:=λh=>Yk 3 true h))<|WB (.cl (λh _=>c1 (h.e 12) (rv (m.o _))) (hg:=λh=>Yk 3 true h))<|WB (.vl J λh _=>⟨_,by refine DK ?_;rw[h.e 3,h.e 13];go_simp,J⟩)<|WB (.vl J λh _=>aw (h.g 14)) Stp.end_)
    λf V hF a=>?_
   refine DK ?_;have a:Do w V R s (j:Int):=a;rw[hF.e 0,hF.e 1,hF.e 2,hF.e 3,hF.e 4,hF.e 5,hF.e 6,hF.e 7,hF.e 8,hF.e 9,hF.e 10,hF.e 11,hF.e 12,hF.e 13,hF.e 14,hF.e 15];replace a:=Ja a;clear hF;go_wp2_with fail
   go_ret;exact⟨J,a.o.1,a.o.2⟩
end
def DL(ds:List UInt8):List UInt8:=if Lib.trimLeftB ds 48=[]then [48]else Lib.trimLeftB ds 48
def SP(w:B)(R:Nat)(s:ByteArray)(I:Nat)(r:Ending)(a:B):Prop:=
 w.grownBy a (some R)/\(∀e q,JI (Jc s) I=.error e q->r=.panicked [{ v:=XH e q,recovered:=false }])/\(∀ds q k,JI (Jc s) I=.ok (ds,q) k->r=.returned (.tuple #[G ⟨(DL ds).toArray⟩,.int E (q:Int)])/\DH a R s (k:Int))
variable{ds:List UInt8}
theorem Mz(s:ByteArray)(p d:Nat):(s.extract p (p+d)).data.toList=((Jc s).drop p).take d:=by
 grind[Jc,ByteArray.data_extract,Array.toList_extract]
theorem KR(R:Nat)(s:ByteArray)(I:Nat)(w:B)(h:DH w R s I)(hI:I<=s.size)(hs:s.size<=300):
 Calls Tryz.prog 182 #[C (some ⟨R,0,none⟩)] w λr w'=>SP w R s I r w':=by
 obtain⟨p,hp⟩:=ex (C7 (Jc s) I);have A:=Ja (My R s I w h hI hs);rw[hp]at A;have Qv:p<=s.size:=by grind[Jf,J9]
 have X:=Ja hp;have Q:=Ja λ(e q:Int) (V:B)=>GD (C (some ⟨R,0,none⟩)) e q V;clear h hI hp;cases T:D0 (Jc s) p with
 |false=>
  have m:=Ja (show JI (Jc s) I=.error 2 p by unfold JI;rw[X.o,BH (Mp T)]);rw[T]at A;clear T;go_enter func182,ntmps182
  go_wp2_with first
   |(go_at_call 154;refine A.o.mono ?_;clear A;rintro e w1 ⟨rfl,U,ad⟩;have c1:=U.c1;have Qn:=Ja ad;clear U ad)
   |(go_at_call 123;refine(Q.o _ _ _).mono ?_;clear Q;rintro e W ⟨rfl,rfl⟩)
  refine⟨J,Qn.o,λe q a=>?_,λds q k a=>?_⟩
  . rw[m.o]at a;cases a;rfl
  . rw[m.o]at a;cases a
 |true=>
  rw[T]at A;have Qi:=Ja T;clear T;go_enter func182,ntmps182
  go_upto_region 4 with first
   |(go_at_call 154;refine A.o.mono ?_;clear A;rintro e w1 ⟨rfl,U,ad⟩;have Qu:=Ja U;have c1:=U.c1;have Qn:=Ja ad;clear U ad)
  go_loopw [] (λwr=>∃d:Nat,p+d<=s.size/\Hid (DH wr R s ((p+d:Nat):Int)/\w.grownBy wr (some R)/\∃n,Yb (Jc s) p d n)) λwr=>s.size-Ds wr R
  case atStart=>exact⟨0,Y,Ja ⟨Qu.o,Qn.o,0,Yb.zero (by rw[Jf];exact Qv)⟩⟩
  case round=>
   clear c1;obtain⟨d,ak,g⟩:=hrel;obtain⟨j,hj⟩:∃j,j=p+d:=⟨_,J⟩;have c:=Ja hj;rw[<-hj]at ak g;clear hj;obtain⟨c0,c1⟩:=g.o.1.cp;have f1:=g.o.1.f 1;by_cases ap:j<s.size
   . have aq:(j:Int)<(s.size:Int):=Y
     have an:(0:Int)<=(j:Int):=Y
     have HX:=Ja (Mv s[j]);by_cases z:DC s[j]=true
     . rw[z]at HX;have Qq:=Ja z;clear z;go_wp2_with fail
       go_quiet ((go_at_call 181;exact Calls.quiet_of_same (HX.o _)))
       have Qr:=Ja (FL g.o.1);go_wp2_with fail
       go_roundw
       case rel=>
        refine⟨d+1,?_,Ja ⟨?_,?_,?_⟩⟩
        . have:=c.o;omega
        . have:=(g.o.1.drewN nq).set1 ((j:Int)+1);rw[show((j:Int)+1)=((p+(d+1):Nat):Int)from by have:=c.o;omega]at this ⊢;exact this
        . exact Je (Je g.o.2.1 (Js _ _ _)) (Jt _ R 1 _)
        . obtain⟨n,hn⟩:=g.o.2.2;by_cases ai:d<12
          . exact⟨_,hn.next1 (by rw[Jf];have:=c.o;omega) (by simp only[<-c.o];exact Qq.o) ai⟩
          . exact⟨_,hn.next2 (by rw[Jf];have:=c.o;omega) (by simp only[<-c.o];exact Qq.o) Y⟩
       case measure=>
        have e2:=FL ((g.o.1.drewN nq).set1 ((j+1:Nat):Int));rw[show((j+1:Nat):Int)=(j:Int)+1 from by omega]at e2;rw[e2,Qr.o];omega
     . have z:=Bool.eq_false_iff.2 z;rw[z]at HX;have M:=Ja (show DX (Jc s) p=j by rw[c.o];exact g.o.2.2.choose_spec.dg λhl=>by simp only[<-c.o];exact z);clear z;go_wp2_with fail
       go_quiet ((go_at_call 181;exact Calls.quiet_of_same (HX.o _)))
       obtain⟨Qh,HG,Qw⟩:=DO (g.o.1.drewN nq) (show w.grownBy (wr.drewN nq) (some R)from Je g.o.2.1 (Js _ _ _)) g.o.2.2;have Qx:d≠0:=λe=>by
        have b:=M.o;have h6:=c.o;rw[e,AV]at h6;have N:=Qi.o;have h8:=Hk (f:=DC) (l:=Jc s) (i:=p);rw[show Yw DC (Jc s) p=j from b]at h8;rw[<-h6]at N;by_cases h9:j<s.size
        . have:=h8 (by rw[Jf];exact h9);rw[Mw h9]at N;exact absurd (this.symm.trans N) DB
        omega
       have Qt:(p:Int)<=(j:Int):=by have:=c.o;omega
       have Qp:p<=j:=by have:=c.o;omega
       obtain⟨o,P⟩:=ex (s.extract p j);have Qs:o.size=d:=by rw[<-P,A6];have:=c.o;omega
       have Ql:=Ja P;obtain⟨ae,ah⟩:=Qh.o.cp;go_wp2_with fail
       go_quiet (fail)
       have K:=Ja (show ∀u,w.grownBy (wr.drewN u) (some R)from λu=>Je g.o.2.1 (Js _ _ _));have Qg:=Ja (show ∀u,DH (wr.drewN u) R s (j:Int)from λu=>g.o.1.drewN u);clear P ae ah c0 c1;have Qj:¬j=p:=by have:=c.o;omega
       have Qm:=Ja (show o.data.toList=((Jc s).drop p).take (j-p)by rw[<-Ql.o,c.o,Mz,show p+d-p=d from by omega]);by_cases ai:12<d
       . have aj:(12:Int)<(d:Int):=Y
         have m:=Ja (show JI (Jc s) I=.error 3 p by unfold JI;rw[X.o,M.o,BE Qj,BH (by have:=c.o;omega)]);go_wp2_with(go_at_call 123;refine(Q.o _ _ _).mono ?_;clear Q;rintro e W ⟨rfl,rfl⟩)
         refine⟨J,K.o _,λe q a=>?_,λds q k a=>?_⟩
         . rw[m.o]at a;cases a;rfl
         . rw[m.o]at a;cases a
       . have aj:¬(12:Int)<(d:Int):=Y
         have m:=Ja (show JI (Jc s) I=.ok (o.data.toList,p) j by unfold JI;rw[X.o,M.o,BE Qj,BE (by have:=c.o;omega),Qm.o]);have x:=Ja λ(V:B)=>Tryz.strings_TrimLeft_one o 48 DB V;obtain⟨y,t⟩:∃S:ByteArray,⟨(Lib.trimLeftB o.data.toList 48).toArray⟩=S:=⟨_,J⟩;rw[t]at x;have Qo:=Ja t;by_cases a:Lib.trimLeftB o.data.toList 48=[]
         . have Qk:y=⟨#[]⟩:=by rw[<-t,a]
           have L:=Ja (show DL o.data.toList=[48]by unfold DL;rw[BH a]);clear t a Qo;subst Qk;go_wp2_with(go_at_call 200;refine(x.o _).mono ?_;clear x;rintro e W ⟨rfl,rfl⟩)
           refine BA (v:=.tuple #[G ⟨#[48]⟩,D E (p:Int)]) (by simp[results,results182,go_sem]) J ⟨K.o _,λe q b=>?_,λds q k b=>?_⟩
           . rw[m.o]at b;cases b
           . rw[m.o]at b;cases b;exact⟨by rw[L.o],Qg.o _⟩
         . have Qk:y.toList.isEmpty=false:=by
            rw[<-t,Gr];simpa using a
           have L:=Ja (show(⟨(DL o.data.toList).toArray⟩:ByteArray)=y by unfold DL;rw[BE a];exact t);clear t a;go_wp2_with(go_at_call 200;refine(x.o _).mono ?_;clear x;rintro e W ⟨rfl,rfl⟩)
           refine BA (v:=.tuple #[G y,D E (p:Int)]) (by simp[results,results182,go_sem]) J ⟨K.o _,λe q b=>?_,λds q k b=>?_⟩
           . rw[m.o]at b;cases b
           . rw[m.o]at b;cases b;exact⟨by rw[L.o],Qg.o _⟩
   . have M:=Ja (show DX (Jc s) p=j by rw[c.o];exact g.o.2.2.choose_spec.dg λhl=>absurd hl (by rw[Jf];have:=c.o;omega));have am:=BD Y;go_wp2_with fail
     go_quiet (fail)
     obtain⟨Qh,HG,Qw⟩:=DO (g.o.1.drewN nq) (show w.grownBy (wr.drewN nq) (some R)from Je g.o.2.1 (Js _ _ _)) g.o.2.2;have Qx:d≠0:=λe=>by
      have b:=M.o;have h6:=c.o;rw[e,AV]at h6;have N:=Qi.o;have h8:=Hk (f:=DC) (l:=Jc s) (i:=p);rw[show Yw DC (Jc s) p=j from b]at h8;rw[<-h6]at N;by_cases h9:j<s.size
      . omega
      . rw[Mx Y]at N;cases N
     have Qt:(p:Int)<=(j:Int):=by have:=c.o;omega
     have Qp:p<=j:=by have:=c.o;omega
     obtain⟨o,P⟩:=ex (s.extract p j);have Qs:o.size=d:=by rw[<-P,A6];have:=c.o;omega
     have Ql:=Ja P;obtain⟨ae,ah⟩:=Qh.o.cp;go_wp2_with fail
     go_quiet (fail)
     have K:=Ja (show ∀u,w.grownBy (wr.drewN u) (some R)from λu=>Je g.o.2.1 (Js _ _ _));have Qg:=Ja (show ∀u,DH (wr.drewN u) R s (j:Int)from λu=>g.o.1.drewN u);clear P ae ah c0 c1;have Qj:¬j=p:=by have:=c.o;omega
     have Qm:=Ja (show o.data.toList=((Jc s).drop p).take (j-p)by rw[<-Ql.o,c.o,Mz,show p+d-p=d from by omega]);by_cases ai:12<d
     . have aj:(12:Int)<(d:Int):=Y
       have m:=Ja (show JI (Jc s) I=.error 3 p by unfold JI;rw[X.o,M.o,BE Qj,BH (by have:=c.o;omega)]);go_wp2_with(go_at_call 123;refine(Q.o _ _ _).mono ?_;clear Q;rintro e W ⟨rfl,rfl⟩)
       refine⟨J,K.o _,λe q a=>?_,λds q k a=>?_⟩
       . rw[m.o]at a;cases a;rfl
       . rw[m.o]at a;cases a
     . have aj:¬(12:Int)<(d:Int):=Y
       have m:=Ja (show JI (Jc s) I=.ok (o.data.toList,p) j by unfold JI;rw[X.o,M.o,BE Qj,BE (by have:=c.o;omega),Qm.o]);have x:=Ja λ(V:B)=>Tryz.strings_TrimLeft_one o 48 DB V;obtain⟨y,t⟩:∃S:ByteArray,⟨(Lib.trimLeftB o.data.toList 48).toArray⟩=S:=⟨_,J⟩;rw[t]at x;have Qo:=Ja t;by_cases a:Lib.trimLeftB o.data.toList 48=[]
       . have Qk:y=⟨#[]⟩:=by rw[<-t,a]
         have L:=Ja (show DL o.data.toList=[48]by unfold DL;rw[BH a]);clear t a Qo;subst Qk;go_wp2_with(go_at_call 200;refine(x.o _).mono ?_;clear x;rintro e W ⟨rfl,rfl⟩)
         refine BA (v:=.tuple #[G ⟨#[48]⟩,D E (p:Int)]) (by simp[results,results182,go_sem]) J ⟨K.o _,λe q b=>?_,λds q k b=>?_⟩
         . rw[m.o]at b;cases b
         . rw[m.o]at b;cases b;exact⟨by rw[L.o],Qg.o _⟩
       . have Qk:y.toList.isEmpty=false:=by
          rw[<-t,Gr];simpa using a
         have L:=Ja (show(⟨(DL o.data.toList).toArray⟩:ByteArray)=y by unfold DL;rw[BE a];exact t);clear t a;go_wp2_with(go_at_call 200;refine(x.o _).mono ?_;clear x;rintro e W ⟨rfl,rfl⟩)
         refine BA (v:=.tuple #[G y,D E (p:Int)]) (by simp[results,results182,go_sem]) J ⟨K.o _,λe q b=>?_,λds q k b=>?_⟩
         . rw[m.o]at b;cases b
         . rw[m.o]at b;cases b;exact⟨by rw[L.o],Qg.o _⟩
theorem M6(c:UInt8)(t:List UInt8):num (c::t)=num t+10^t.length*(c.toNat-48):=by
 have h:=Xb [c] t;grind[num,DR,val]
theorem SQ(ds:List UInt8):num (ds.dropWhile (·==48))=num ds:=by
 induction ds with
 |nil=>rfl
 |cons c t a=>
  by_cases h:c=48
  . subst h;grind[List.dropWhile_cons_of_pos,M6]
  . rw[List.dropWhile_cons_of_neg (by simpa using h)]
theorem SR(h:ds.all DC=true):(ds.dropWhile (·==48)).all DC=true:=by
 grind[List.dropWhile_sublist]
theorem Y5(h:ds.all DC=true):num (DL ds)=num ds/\(DL ds).all DC=true/\DL ds≠[]/\(1<(DL ds).length->10<=num ds)/\(DL ds).length<=ds.length+1:=by
 unfold DL Lib.trimLeftB;have a:=SQ ds;have d:=SR h;have i:=(List.dropWhile_sublist (l:=ds) (·==48)).length_le;split
 . rename_i b;rw[b]at a;refine⟨?_,DB,B5,B5,B5⟩;rw[<-a];decide
 . rename_i b;refine⟨a,d,b,λhl=>?_,Y⟩;cases f:ds.dropWhile (·==48)with
   |nil=>exact absurd f b
   |cons c t=>
    rw[f]at a d hl;have g:c≠48:=by
     grind[List.head?_dropWhile_not]
    have m:=Yh (Am.1 d c (A7 ..));have n:c.toNat≠48:=λe=>g (CU.1 e);rw[<-a,M6];have j:10^1<=10^t.length:=Al Y (by simp at hl;omega);have k:10^t.length*1<=10^t.length*(c.toNat-48):=Aq _ Y;omega
def KS(w:B)(R:Nat)(s:ByteArray)(I:Nat)(r:Ending)(a:B):Prop:=
 w.grownBy a (some R)/\(∀e q,Xs (Jc s) I=.error e q->r=.panicked [{ v:=XH e q,recovered:=false }])/\(∀n k,Xs (Jc s) I=.ok n k->r=.returned (.int E (n:Int))/\DH a R s (k:Int))
theorem M7(R:Nat)(s:ByteArray)(I:Nat)(w:B)(h:DH w R s I)(hI:I<=s.size)(hs:s.size<=300):
 Calls Tryz.prog 156 #[C (some ⟨R,0,none⟩)] w λr w'=>KS w R s I r w':=by
 obtain⟨b,A⟩:∃b,b=JP (Jc s) (C7 (Jc s) I) 94:=⟨_,J⟩;have f:=Ja (XV R s I 94 w h hI hs b A);obtain⟨j,hj⟩:=ex (C7 (Jc s) I);rw[hj]at f A;have L:=Ja λ(e q:Int) (V:B)=>GD (C (some ⟨R,0,none⟩)) e q V;have HJ:=Ja hj;clear h hj;cases b with
 |false=>
  have HN:=Ja (show Xs (Jc s) I=.ok 1 j by unfold Xs;rw[HJ.o,<-A];simp);clear A;go_enter func156,ntmps156
  go_wp2_with(go_at_call 120;refine f.o.mono ?_;clear f;rintro e W ⟨rfl,d,c⟩;have m:=Ja d;have o:=Ja c;clear d c)
  go_ret;refine⟨o.o,λe q a=>?_,λn k a=>?_⟩
  . rw[HN.o]at a;cases a
  . rw[HN.o]at a;cases a;exact⟨J,m.o⟩
 |true=>
  have Qm:j+1<=s.size:=by have:=JU A.symm;rw[Jf]at this;omega
  have v:=Ja λ(V:B) (hh:DH V R s ((j+1:Nat):Int))=>KR R s (j+1) V hh Qm hs;have l:=Ja (show Xs (Jc s) I=(match JI (Jc s) (j+1)with|.error e p=>.error e p|.ok (ds,p) k=>if 8<num ds then .error 3 p else .ok (num ds) k)by
   unfold Xs;rw[HJ.o,BH A.symm];grind)
  clear A;cases K:JI (Jc s) (j+1)with
  |error e0 q0=>
   rw[K]at l;have z:=Ja K;clear K;go_enter func156,ntmps156
   go_wp2_with(first
    |(go_at_call 120;refine f.o.mono ?_;clear f;rintro e W ⟨rfl,d,c⟩;have m:=Ja d;have o:=Ja c;clear d c)
    |(go_at_call 182;refine(v.o _ m.o).mono ?_;clear v;rintro e w2 ⟨i,g,_⟩;obtain rfl:=g _ _ z.o;have y:=Ja (Je o.o i);clear i g))
   refine⟨J,y.o,λe q a=>?_,λn k a=>?_⟩
   . rw[l.o]at a;cases a;rfl
   . rw[l.o]at a;cases a
  |ok a0 k0=>
   obtain⟨ds,p0⟩:=a0;rw[K]at l;have z:=Ja K;obtain⟨Q,T,g3,U,g5⟩:=Y5 (Eu (by rw[Jf];omega) K).2.2.2.2.2.2.2.2;clear K;cases M:DL ds with
   |nil=>exact absurd M g3
   |cons c0 t0=>
    rw[M]at Q T U g5;have ae:=Yh (Am.1 T c0 (A7 ..));have Qj:=(Eu (by rw[Jf];omega) z.o).2.2.2.2.2.2.2.1;have Qe:=(Eu (by rw[Jf];omega) z.o).2.2.2.2.2.1;cases t0 with
    |cons c1 t1=>
     have h8:8<num ds:=by have:=U B5;omega
     obtain⟨t,u⟩:∃S:ByteArray,⟨(c0::c1::t1).toArray⟩=S:=⟨_,J⟩;have P:=Ja (show(⟨(DL ds).toArray⟩:ByteArray)=t by rw[M];exact u);have Qn:1<t.size:=by rw[<-u];show 1<(c0::c1::t1).toArray.size;simp
     have ak:t.size<=13:=by rw[<-u];show(c0::c1::t1).toArray.size<=13;grind
     have aj:(1:Int)<(t.size:Int):=Y
     have Ql:=Ja h8;clear u M Q T g3 U g5 h8 Qj Qe;go_enter func156,ntmps156
     go_wp2_with(first
      |(go_at_call 120;refine f.o.mono ?_;clear f;rintro e W ⟨rfl,d,c⟩;have m:=Ja d;have o:=Ja c;clear d c)
      |(go_at_call 182;refine(v.o _ m.o).mono ?_;clear v;rintro e w2 ⟨i,_,g⟩;obtain⟨rfl,x⟩:=g _ _ _ z.o;rw[P.o];have X:=Ja x;have y:=Ja (Je o.o i);clear i g x)
      |(go_at_call 123;refine(L.o _ _ _).mono ?_;clear L;rintro e w3 ⟨rfl,rfl⟩))
     refine⟨J,y.o,λe q a=>?_,λn k a=>?_⟩
     . rw[l.o,BH Ql.o]at a;cases a;rfl
     . rw[l.o,BH Ql.o]at a;cases a
    |nil=>
     have Qi:num ds=c0.toNat-48:=by rw[<-Q];simp[num,DR,val]
     obtain⟨t,u⟩:=ex ((⟨#[c0]⟩:ByteArray):ByteArray);have P:=Ja (show(⟨(DL ds).toArray⟩:ByteArray)=t by rw[M];exact u);have Qn:t.size=1:=by rw[<-u];rfl
     have ah:∀h:0<t.size,t[0]'h=c0:=by subst u;intro _;rfl
     have ai:((c0.toNat:Int)-48)%256=(c0.toNat:Int)-48:=Y
     clear u;have N:=Ja Qi;clear M Q T g3 U g5 Qj Qe Qi;by_cases h8:8<c0.toNat-48
     . have ad:(8:Int)<(c0.toNat:Int)-48:=Y
       go_enter func156,ntmps156
       go_wp2_with(first
        |(go_at_call 120;refine f.o.mono ?_;clear f;rintro e W ⟨rfl,d,c⟩;have m:=Ja d;have o:=Ja c;clear d c)
        |(go_at_call 182;refine(v.o _ m.o).mono ?_;clear v;rintro e w2 ⟨i,_,g⟩;obtain⟨rfl,x⟩:=g _ _ _ z.o;rw[P.o];have X:=Ja x;have y:=Ja (Je o.o i);clear i g x)
        |(go_at_call 123;refine(L.o _ _ _).mono ?_;clear L;rintro e w3 ⟨rfl,rfl⟩))
       refine⟨J,y.o,λe q a=>?_,λn k a=>?_⟩
       . rw[l.o,BH (by rw[N.o];omega)]at a;cases a;rfl
       . rw[l.o,BH (by rw[N.o];omega)]at a;cases a
     . have ad:¬(8:Int)<(c0.toNat:Int)-48:=Y
       go_enter func156,ntmps156
       go_wp2_with(first
        |(go_at_call 120;refine f.o.mono ?_;clear f;rintro e W ⟨rfl,d,c⟩;have m:=Ja d;have o:=Ja c;clear d c)
        |(go_at_call 182;refine(v.o _ m.o).mono ?_;clear v;rintro e w2 ⟨i,_,g⟩;obtain⟨rfl,x⟩:=g _ _ _ z.o;rw[P.o];have X:=Ja x;have y:=Ja (Je o.o i);clear i g x)
        |(go_at_call 123;refine(L.o _ _ _).mono ?_;clear L;rintro e w3 ⟨rfl,rfl⟩))
       go_ret;refine⟨y.o,λe q a=>?_,λn k a=>?_⟩
       . rw[l.o,BE (by rw[N.o];omega)]at a;cases a
       . rw[l.o,BE (by rw[N.o];omega)]at a;cases a;refine⟨?_,X.o⟩;rw[N.o];show Ending.returned (D E ((c0.toNat:Int)-48))=_;grind

