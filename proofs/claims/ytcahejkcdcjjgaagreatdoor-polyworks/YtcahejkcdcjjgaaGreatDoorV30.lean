import Derived.Test.YtcahejkcdcjjgaaGreatDoorV29
import Derived.Test.YtcahejkcdcjjgaaGreatDoorV26
set_option linter.all false
open Go.Value renaming slice->B,bool->F,int->G,pointer->L,string->C
open Go renaming World->E
open Go.IntKind renaming i64->H
set_option maxRecDepth 99999
set_option maxHeartbeats 0
namespace Go.Proofs.YtcahejkcdcjjgaaGreatDoor
open List renaming replicate->WC
open Proofs.Tryz
open Go.RowKit Go.Shelf
attribute [local go_sem] Oper.semAt_some
section
variable{b:Bool}{S:U}{l:List UInt8}{e k m n p:Nat}{c:Rat}{a:E}
def DO.add2{p q:Rat}(hp:DO k p)(a:DO m q):DO (k+m+1) (p+q):=by
 rw[<-KX];refine DO.divInt ?_ ((hp.1.mul a.2).add (by have:=a.1.mul hp.2;rwa[CP]at this)) ((hp.2.mul a.2).mono O);exact CD (by have:=p.den_nz;omega) (by have:=q.den_nz;omega)
def EJ.sm(h:EJ c):DO 1 c:=by
 obtain⟨x,y,rfl,a,b,d⟩:=h;exact DO.divInt O (by unfold Sm Y;omega) (by unfold Sm Y;omega)
theorem DO.zero(k:Nat)(a:1<=k):DO k 0:=⟨Sm.zero k,Sm.one k a⟩
def Iq(n:Nat)(c:Rat)(i:Nat):cf (DZ n [c]) i=if i=n then c else 0:=by
 rw[FX];by_cases h:n<=i
 . rw[BR h];by_cases a:i=n
   . rw[BR a,a,AY,YV]
   . rw[BL a,JW si]
 . rw[BL h,BL O]
def OD(h:EJ c):Sqs (Jf (DZ n [c])):=Sqs.of λi=>by
 rw[J2,Iq];split
 . exact Sq.of h.sm O
 . exact Sq.of (DO.zero 1 O) O
def LQ(n:Nat)(c:Rat):(Jf (DZ n [c])).length<=n+1:=As (JY _) (by simp[DZ])
theorem UF(c:Rat)(h:n<S.length):Xb (Jf S) (Jf (DZ n [c]))=Jf (S.set n (cf S n+c)):=by
 unfold Xb;refine Yo λi=>?_;rw[YW,J2,J2,Iq,Xs _ _ _ _ h];split
 . rename_i h;rw[h]
 . grind
theorem UG(c:Rat)(h:n<S.length):Y9 (Jf S) (Jf (DZ n [c]))=Jf (S.set n (cf S n-c)):=by
 unfold Y9;refine Yo λi=>?_;rw[YW,YL,J2,J2,Iq,Xs _ _ _ _ h];split
 . rename_i h;rw[h];grind
 . grind
def YA(S:U)(m:Nat):Prop:=S.length=9/\∀i,DO (2*m+1) (cf S i)
def YA.start:YA (WC 9 0) 0:=⟨J,λi=>by rw[JX];exact DO.zero 1 O⟩
def YA.sqs(h:YA S m)(a:m<=300):Sqs (Jf S):=Sqs.of λi=>by rw[J2];exact Sq.of (h.2 i) O
def YA.next(h:YA S m)(a:EJ c)(d:n<=8)(b:Bool):YA (S.set n (if b then cf S n-c else cf S n+c)) (m+1):=by
 refine⟨by rw[CI];exact h.1,λi=>?_⟩;rw[Xs _ _ _ _ (by rw[h.1];omega)];split
 . cases b
   . exact((h.2 n).add2 a.sm).mono O
   . rw[BR J,CS];exact((h.2 n).add2 a.sm.neg).mono O
 . exact(h.2 i).mono O
def UH{j:Nat}{c d:UInt8}(a:JT l j c=true)(b:JT l j d=true):c=d:=by
 unfold JT at a b;rw[beq_iff_eq]at a b;exact A3 (a.symm.trans b)
def LR{f:Nat}{I:Nat}(h:JZ l I=.error e p):Dx l (f+1) b I S=.error e p:=by
 rw[Dx,h]
def LS{f:Nat}{I:Nat}(h:JZ l I=.ok (c,n) k):Dx l (f+1) b I S =
 if JT l (DL l k) 43 then Dx l f false (DL l k+1) (S.set n (if b then cf S n-c else cf S n+c))else if JT l (DL l k) 45 then Dx l f true (DL l k+1) (S.set n (if b then cf S n-c else cf S n+c))else if DL l k=l.length then .ok (S.set n (if b then cf S n-c else cf S n+c)) (DL l k)else .error 2 (DL l k):=by
 rw[Dx,h]
def UI(l:List UInt8)(i:Nat):(JZ l i).pos:=by
 intro e p h;rw[XN]at h;split at h
 . rename_i b c a;cases h;exact N8 l i _ _ a
 . split at h
   . split at h
     . rename_i b c a;cases h;exact Tw _ _ _ _ a
     . cases h
   . cases h
def Dw(l:List UInt8):Rd U:=if JT l (DL l 0) 45 then Dx l (l.length+1) true (DL l 0+1) (WC 9 0)else Dx l (l.length+1) false (DL l 0) (WC 9 0)
def Ir(r:Rd U):U × Nat × Nat:=match r with|.error e p=>([],e,p)|.ok s _=>(Jf s,0,0)
def Is(h:¬300<l.length):JU l=Ir (Dw l):=by
 unfold JU Dw Ir;rw[BL h];split<;>(rename_i a;rw[a])
def Ea(l:List UInt8)(a:E)(u:Value)(e p:Int):Prop:=e=((JU l).2.1:Int)/\p=((JU l).2.2:Int)/\RowK false a u (JU l).1/\(JU l).1.length<=9/\∀i,DO 601 (cf (JU l).1 i)
def Ea.bad(h:JU l=([],e,p)):Ea l a (B none 0 0) e p:=by
 rw[Ea,h];exact⟨J,J,RowK.nil _ _,DJ,λi=>by rw[YO];exact DO.zero _ O⟩
def Ea.ok{u:Value}(h:JU l=(Jf S,0,0))(hs:YA S m)(c:m<=300)(b:RowK false a u (Jf S)):Ea l a u 0 0:=by
 rw[Ea,h];exact⟨J,J,b,As (JY _) (by rw[hs.1];exact Aa _),λi=>by rw[J2];exact(hs.2 i).mono O⟩
def below_drewN{w W:E}(h:Bl w W)(k:Nat):Bl w (W.drewN k):=h.grown (Jv W k none) h.size (λk e=>by cases e)
def DR.new(w:E)(s:ByteArray):DR (w.alloc (.cells #[C s,G H 0,G H 0,G H 0] 82)) w.heap.size s 0 0 0:=BG w _
def UJ(s:ByteArray)(ce:s.size<=140737488351232)(w:E):
 Calls Tryz.prog 10 #[C s] w λr w'=>∃(u:Value) (e p:Int),r=.returned (.tuple #[u,G H e,G H p])/\Ea (Je s) w' u e p/\Bl w w':=by
 by_cases bj:300<s.size
 . have bt:(300:Int)<(s.size:Int):=O
   have HP:=Z (show JU (Je s)=([],1,0)by unfold JU;rw[BR (by rw[Jg];exact bj)]);go_enter func10,ntmps10
   go_wp2;exact BE (v:=.tuple #[B none 0 0,G H 1,G H 0]) (by simp[results,results10,go_sem]) J ⟨_,_,_,J,Ea.bad HP.o,BF _ _⟩
 . have bt:¬(300:Int)<(s.size:Int):=O
   have hs:s.size<=300:=O
   have HP:=Z (Is (l:=Je s) (by rw[Jg];exact bj));clear bj ce;have Um:Bl w (w.alloc (.cells #[C s,G H 0,G H 0,G H 0] 82)):=Ba w _;have Uc:=DR.new w s;obtain⟨W0,bh⟩:=ex (w.alloc (.cells #[C s,G H 0,G H 0,G H 0] 82));rw[bh]at Um Uc;obtain⟨R,hR⟩:=ex (w.heap.size);rw[hR]at Uc;obtain⟨o,Up,Uo,Ux⟩:=Dr hR bh Um Uc;obtain⟨b0,bi⟩:∃b,b=(decide ((0:Int)=0)&&JT (Je s) (DL (Je s) 0) 45):=⟨_,J⟩;have Ut:=Z (Yu R s 0 0 0 45 W0 Uc O hs b0 bi);have HB:=Z (show JT (Je s) (DL (Je s) 0) 45=b0 by rw[bi];simp);clear Um Uc bi hR bh;go_enter func10,ntmps10
   go_upto_region 4 with fail
   rw[Up.o,o.o];go_wp2_with(first
    |(go_at_call 45;refine Ut.o.mono ?_;clear Ut;rintro e w1 ⟨rfl,bc,aq⟩;have Uq:=Z bc;have Qw:=Z (below_grown Uo.o aq (by rw[o.o];exact Aa _));clear bc aq))
   go_loopw [6,7,8] (λmv pv _ wr=>∃(b:Bool) (I f m:Nat) (S:List Rat) (a:V8) (la ca:Nat),mv=F b/\pv=B a la ca/\I<=s.size/\Hid (DR wr R s (I:Int) 0 0)/\Hid (RowK false wr (B a la ca) (Jf S))/\Hid (YA S m)/\Hid (m<=I/\s.size-I<f/\Dx (Je s) f b I S=Dw (Je s))/\Hid (Bl w wr)) λ_ _ _ wr=>s.size-EF wr R
   case atStart=>
    have Uv:DL (Je s) 0<=s.size:=by rw[<-Jg];exact Yh O
    refine⟨b0,DL (Je s) 0+(if b0 then 1 else 0),s.size+1,0,WC 9 0,none,0,0,J,J,?_,Z Uq.o,Z ?_,Z YA.start,Z ⟨O,O,?_⟩,Z Qw.o⟩
    . cases hb:b0
      . simpa using Uv
      . have h1:=HB.o;rw[hb]at h1;have h2:=J6 h1;rw[Jg]at h2;simp;omega
    . rw[Hc λi=>JX 9 i];exact RowK.nil _ _
    . unfold Dw;rw[HB.o,Jg];cases b0<;>rfl
   case round=>
    clear Uq Qw HB Uo Ux Up;obtain⟨b,I,f,m,S,a,la,ca,rfl,rfl,hI,bd,bn,HS,HT,HG⟩:=hrel;have Ur:=Z (UE R s I 0 0 wr bd.o hI hs);go_upto_if 19 with(first
     |(go_at_call 46;refine Ur.o.mono ?_;clear Ur;rintro e w1 ⟨u,c,n,D,rfl,hu,bz,hF,am,bc,bm,aq⟩;have Qo:=Z (bn.o.rd bd.o aq);have Qy:=Z bc;have HU:=Z hu;have HF:=Z hF;have Uw:=Z (bm J);have Qw:=Z (below_grown HG.o aq (by rw[o.o];exact Aa _));obtain⟨a2,l2,c2,rfl⟩:=hu.form;clear bc hu hF bm aq))
    obtain⟨d,bf⟩:=ex (DL (Je s) D);have Qn:=Z bf;have Qg:d<=s.size:=by rw[<-bf,<-Jg];exact Yh (by rw[Jg];exact am)
    have K:=Z (show DL (Je s) d=d by rw[<-bf];exact GA _ _);clear bf;obtain⟨f,rfl⟩:∃g,f=g+1:=⟨f-1,by have:=HT.o.2.1;omega⟩;have Ui:=Z (HS.o.next HF.o bz b);obtain⟨S2,bg⟩:=ex (S.set n (if b then cf S n-c else cf S n+c));rw[bg]at Ui;have Ul:=Z bg;clear bg;go_cut [7] λpv wx=>∃a3 l3 c3,pv=B a3 l3 c3/\Hid (RowK false wx (B a3 l3 c3) (Jf S2))/\Hid (DR wx R s (D:Int) (Dk (JZ (Je s) I) 0) (Ds (JZ (Je s) I) 0 0))/\Hid (Bl w wx)
    case first=>
     cases b with
     |false=>
      have Ub:=Z λ(V:E) (h1:RowK false V (B a la ca) (Jf S)) (h2:RowK false V (B a2 l2 c2) (Jf (DZ n [c])))=>Gr _ _ _ _ V h1 h2 (HS.o.sqs (by have:=HT.o.1;omega)) (OD HF.o) ⟨(by have:=JY S;have:=HS.o.1;omega),(by have:=LQ n c;omega)⟩;obtain rfl:S.set n (cf S n+c)=S2:=Ul.o;go_wp2_with(go_at_call 30;refine(Ub.o _ Qo.o HU.o).mono ?_;clear Ub;rintro e w2 ⟨u2,rfl,ak,an⟩;rw[UF c (by rw[HS.o.1];omega)]at ak;obtain⟨a3,l3,c3,rfl⟩:=ak.form;have Qh:=Z ak;have Q:=Z (Qy.o.below an);have Qu:=Z (Bt Qw.o an);clear ak an)
      go_meet
      case rel=>exact⟨_,_,_,J,Qh,Q,Qu⟩
     |true=>
      have Ub:=Z λ(V:E) (h1:RowK false V (B a la ca) (Jf S)) (h2:RowK false V (B a2 l2 c2) (Jf (DZ n [c])))=>Il _ _ _ _ V h1 h2 (HS.o.sqs (by have:=HT.o.1;omega)) (OD HF.o) ⟨(by have:=JY S;have:=HS.o.1;omega),(by have:=LQ n c;omega)⟩;obtain rfl:S.set n (cf S n-c)=S2:=Ul.o;go_wp2_with(go_at_call 31;refine(Ub.o _ Qo.o HU.o).mono ?_;clear Ub;rintro e w2 ⟨u2,rfl,ak,an⟩;rw[UG c (by rw[HS.o.1];omega)]at ak;obtain⟨a3,l3,c3,rfl⟩:=ak.form;have Qh:=Z ak;have Q:=Z (Qy.o.below an);have Qu:=Z (Bt Qw.o an);clear ak an)
      go_meet
      case rel=>exact⟨_,_,_,J,Qh,Q,Qu⟩
    obtain⟨a3,l3,c3,rfl,Qh,Q,Qu⟩:=hcut;clear Qo Qy Qw HU;by_cases ae:Dk (JZ (Je s) I) 0=0
    . obtain⟨_,⟨c0,n0⟩,k,hk⟩:=LP (UI _ _) ae;obtain⟨rfl,rfl,rfl⟩:=Uw.o c0 n0 k hk;rw[ae,(EG hk 0 0).2]at Q;have Qz:=Z (show m<=I/\I<D/\D<=d/\d<=s.size/\s.size-I<f+1 from⟨HT.o.1,(KI (by rw[Jg];exact hI) hk).1,by rw[<-Qn.o];exact Fa _ _,Qg,HT.o.2.1⟩);have Uf:=Z (LS (f:=f) (b:=b) (S:=S) hk);rw[Qn.o,HT.o.2.2,Ul.o]at Uf;clear ae hk;cases ai:JT (Je s) d 43 with
      |true=>
       obtain⟨Qr,Qk,Un⟩:=DY ai (show JT (Je s) d 45=false from Bool.eq_false_iff.2 λh=>absurd (UH ai h) DQ) (show Dx (Je s) f false (d+1) S2=Dw (Je s)by rw[Uf.o,BR ai]);have Ua:d+1<=s.size:=by have:=J6 ai;rw[Jg]at this;omega
       clear ai;have t:=Z λ(V:E) (j:DR V R s (D:Int) 0 0)=>XD R s D 0 0 45 V j am hs;rw[show(decide ((0:Int)=0)&&JT (Je s) (DL (Je s) D) 45)=false from by rw[Qn.o];simp[Qk.o],Qn.o]at t;have x:=Z λ(V:E) (j:DR V R s (d:Int) 0 0)=>Yu R s d 0 0 43 V j Qg hs true (by rw[K.o];simp[Qr.o]);rw[K.o]at x;go_wp2_with(first
        |(go_at_call 47;refine(t.o _ Q.o).mono ?_;clear t;rintro e w3 ⟨rfl,W,y⟩;have Qe:=Z (Qh.o.rd Q.o y);have U:=Z W;have Qq:=Z (below_grown Qu.o y (by rw[o.o];exact Aa _));clear W y)
        |(go_at_call 45;refine(x.o _ U.o).mono ?_;clear x;rintro e w4 ⟨rfl,X,z⟩;have Qf:=Z (Qe.o.rd U.o z);have T:=Z X;have Qt:=Z (below_grown Qq.o z (by rw[o.o];exact Aa _));clear X z))
       go_roundw
       case rel=>exact⟨_,d+1,f,m+1,_,_,_,_,J,J,Ua,Z T.o,Z Qf.o,Z Ui.o,Z ⟨by have:=Qz.o;omega,by have:=Qz.o;omega,Un.o⟩,Z Qt.o⟩
       case measure=>
        have e1:=FF (I:=d+1) T.o;have e2:=FF bd.o;rw[e1,e2];have:=Qz.o;omega
      |false=>
       have Qr:=Z ai;cases aj:JT (Je s) d 45 with
       |true=>
        have Qk:=Z aj;have Un:=Z (show Dx (Je s) f true (d+1) S2=Dw (Je s)by rw[Uf.o,BL (show ¬JT (Je s) d 43=true by rw[ai];decide),BR aj]);have Ua:d+1<=s.size:=by have:=J6 aj;rw[Jg]at this;omega
        clear ai aj;have t:=Z λ(V:E) (j:DR V R s (D:Int) 0 0)=>XD R s D 0 0 45 V j am hs;rw[show(decide ((0:Int)=0)&&JT (Je s) (DL (Je s) D) 45)=true from by rw[Qn.o];simp[Qk.o],Qn.o]at t;have x:=Z λ(V:E) (j:DR V R s (d:Int) 0 0)=>Yu R s d 0 0 43 V j Qg hs false (by rw[K.o];simp[Qr.o]);rw[K.o]at x;have N:=Z λ(V:E) (j:DR V R s (d:Int) 0 0)=>Yu R s d 0 0 45 V j Qg hs true (by rw[K.o];simp[Qk.o]);rw[K.o]at N;go_wp2_with(first
         |(go_at_call 47;refine(t.o _ Q.o).mono ?_;clear t;rintro e w3 ⟨rfl,W,y⟩;have Qe:=Z (Qh.o.rd Q.o y);have U:=Z W;have Qq:=Z (below_grown Qu.o y (by rw[o.o];exact Aa _));clear W y)
         |(go_at_call 45;refine(x.o _ U.o).mono ?_;clear x;rintro e w4 ⟨rfl,X,z⟩;have Qf:=Z (Qe.o.rd U.o z);have T:=Z X;have Qt:=Z (below_grown Qq.o z (by rw[o.o];exact Aa _));clear X z)
         |(go_at_call 45;refine(N.o _ T.o).mono ?_;clear N;rintro e w5 ⟨rfl,ah,P⟩;have Qj:=Z (Qf.o.rd T.o P);have Qi:=Z ah;have Qv:=Z (below_grown Qt.o P (by rw[o.o];exact Aa _));clear ah P))
        go_roundw
        case rel=>exact⟨_,d+1,f,m+1,_,_,_,_,J,J,Ua,Z Qi.o,Z Qj.o,Z Ui.o,Z ⟨by have:=Qz.o;omega,by have:=Qz.o;omega,Un.o⟩,Z Qv.o⟩
        case measure=>
         have e1:=FF (I:=d+1) Qi.o;have e2:=FF bd.o;rw[e1,e2];have:=Qz.o;omega
       |false=>
        have Qk:=Z aj;by_cases bk:d<s.size
        . have Qm:=Z (show JU (Je s)=([],2,d)by rw[HP.o,Uf.o,BL (show ¬JT (Je s) d 43=true by rw[ai];decide),BL (show ¬JT (Je s) d 45=true by rw[aj];decide),BL (by rw[Jg];omega)];rfl);clear ai aj;have t:=Z λ(V:E) (j:DR V R s (D:Int) 0 0)=>XD R s D 0 0 45 V j am hs;rw[show(decide ((0:Int)=0)&&JT (Je s) (DL (Je s) D) 45)=false from by rw[Qn.o];simp[Qk.o],Qn.o]at t;have x:=Z λ(V:E) (j:DR V R s (d:Int) 0 0)=>Yu R s d 0 0 43 V j Qg hs false (by rw[K.o];simp[Qr.o]);rw[K.o]at x;have N:=Z λ(V:E) (j:DR V R s (d:Int) 0 0)=>Yu R s d 0 0 45 V j Qg hs false (by rw[K.o];simp[Qk.o]);rw[K.o]at N;have H8:=Z λ(V:E) (j:DR V R s (d:Int) 0 0)=>XD R s d 0 0 32 V j Qg hs;rw[K.o]at H8;have Ug:=Z λ(V:E) (j:DR V R s (d:Int) 0 0)=>Gt R s (d:Int) 0 0 2 (d:Int) V j;have bu:(d:Int)<(s.size:Int):=O
          go_wp2_with(first
           |(go_at_call 47;refine(t.o _ Q.o).mono ?_;clear t;rintro e w3 ⟨rfl,W,y⟩;have Qe:=Z (Qh.o.rd Q.o y);have U:=Z W;have Qq:=Z (below_grown Qu.o y (by rw[o.o];exact Aa _));clear W y)
           |(go_at_call 45;refine(x.o _ U.o).mono ?_;clear x;rintro e w4 ⟨rfl,X,z⟩;have Qf:=Z (Qe.o.rd U.o z);have T:=Z X;have Qt:=Z (below_grown Qq.o z (by rw[o.o];exact Aa _));clear X z)
           |(go_at_call 45;refine(N.o _ T.o).mono ?_;clear N;rintro e w5 ⟨rfl,ah,P⟩;have Qj:=Z (Qf.o.rd T.o P);have Qi:=Z ah;have Qv:=Z (below_grown Qt.o P (by rw[o.o];exact Aa _));clear ah P)
           |(go_at_call 47;refine(H8.o _ Qi.o).mono ?_;clear H8;rintro e w6 ⟨rfl,A,ad⟩;have Ql:=Z (Qj.o.rd Qi.o ad);have Qp:=Z A;have Ud:=A.c1;have Uh:=A.c2;have Ue:=A.c3;have Qx:=Z (below_grown Qv.o ad (by rw[o.o];exact Aa _));clear A ad)
           |(go_at_call 48;refine(Ug.o _ Qp.o).mono ?_;clear Ug;rintro e w7 ⟨rfl,ap,az⟩;clear Ud Uh Ue;have Us:w7.cell? ⟨R,2,none⟩=some (G H 2):=ap.c2;have Uu:w7.cell? ⟨R,3,none⟩=some (G H (d:Int)):=ap.c3;have Uk:=Z (below_grown Qx.o az (by rw[o.o];exact Aa _));clear ap az))
          go_quiet (fail)
          go_wp2_with fail
          exact BE (v:=.tuple #[B none 0 0,G H 2,G H (d:Int)]) (by simp[results,results10,go_sem]) J ⟨_,_,_,J,Ea.bad (e:=2) Qm.o,below_drewN Uk.o _⟩
        . have Qm:=Z (show JU (Je s)=(Jf S2,0,0)by rw[HP.o,Uf.o,BL (show ¬JT (Je s) d 43=true by rw[ai];decide),BL (show ¬JT (Je s) d 45=true by rw[aj];decide),BR (by rw[Jg];omega)];rfl);clear ai aj;have t:=Z λ(V:E) (j:DR V R s (D:Int) 0 0)=>XD R s D 0 0 45 V j am hs;rw[show(decide ((0:Int)=0)&&JT (Je s) (DL (Je s) D) 45)=false from by rw[Qn.o];simp[Qk.o],Qn.o]at t;have x:=Z λ(V:E) (j:DR V R s (d:Int) 0 0)=>Yu R s d 0 0 43 V j Qg hs false (by rw[K.o];simp[Qr.o]);rw[K.o]at x;have N:=Z λ(V:E) (j:DR V R s (d:Int) 0 0)=>Yu R s d 0 0 45 V j Qg hs false (by rw[K.o];simp[Qk.o]);rw[K.o]at N;have H8:=Z λ(V:E) (j:DR V R s (d:Int) 0 0)=>XD R s d 0 0 32 V j Qg hs;rw[K.o]at H8;have Uy:decide (d<s.size)=false:=BI bk;go_wp2_with(first
           |(go_at_call 47;refine(t.o _ Q.o).mono ?_;clear t;rintro e w3 ⟨rfl,W,y⟩;have Qe:=Z (Qh.o.rd Q.o y);have U:=Z W;have Qq:=Z (below_grown Qu.o y (by rw[o.o];exact Aa _));clear W y)
           |(go_at_call 45;refine(x.o _ U.o).mono ?_;clear x;rintro e w4 ⟨rfl,X,z⟩;have Qf:=Z (Qe.o.rd U.o z);have T:=Z X;have Qt:=Z (below_grown Qq.o z (by rw[o.o];exact Aa _));clear X z)
           |(go_at_call 45;refine(N.o _ T.o).mono ?_;clear N;rintro e w5 ⟨rfl,ah,P⟩;have Qj:=Z (Qf.o.rd T.o P);have Qi:=Z ah;have Qv:=Z (below_grown Qt.o P (by rw[o.o];exact Aa _));clear ah P)
           |(go_at_call 47;refine(H8.o _ Qi.o).mono ?_;clear H8;rintro e w6 ⟨rfl,A,ad⟩;have Ql:=Z (Qj.o.rd Qi.o ad);have Qp:=Z A;have Ud:=A.c1;have Uh:=A.c2;have Ue:=A.c3;have Qx:=Z (below_grown Qv.o ad (by rw[o.o];exact Aa _));clear A ad))
          exact BE (v:=.tuple #[B a3 l3 c3,G H 0,G H 0]) (by simp[results,results10,go_sem]) J ⟨_,_,_,J,Ea.ok Qm.o Ui.o (by have:=Qz.o;omega) Ql.o,Qx.o⟩
    . obtain⟨q,hE⟩:=ex (Dk (JZ (Je s) I) 0);obtain⟨M,hA⟩:=ex (Ds (JZ (Je s) I) 0 0);have Qs:∃e p:Nat,JZ (Je s) I=.error e p:=by
       cases hk:JZ (Je s) I with
       |error e p=>exact⟨e,p,J⟩
       |ok a k=>exact absurd (EG hk 0 0).1 ae
      obtain⟨e0,p0,Qs⟩:=Qs;have Uj:=Z (show q=(e0:Int)/\M=(p0:Int)by rw[<-hE,<-hA,Qs];exact⟨J,J⟩);have Qm:=Z (show JU (Je s)=([],e0,p0)by rw[HP.o,<-HT.o.2.2,LR Qs];rfl);rw[hE,hA]at Q;rw[hE]at ae;have cg:(q==0)=false:=by rw[BJ];exact ae
      clear hE hA Qs;by_cases bk:d<s.size
      . skip
        have t:=Z λ(V:E) (j:DR V R s (D:Int) q M)=>XD R s D q M 45 V j am hs;rw[show(decide ((q:Int)=0)&&JT (Je s) (DL (Je s) D) 45)=false from by simp[ae],Qn.o]at t;have x:=Z λ(V:E) (j:DR V R s (d:Int) q M)=>Yu R s d q M 43 V j Qg hs false (by simp[ae]);rw[K.o]at x;have N:=Z λ(V:E) (j:DR V R s (d:Int) q M)=>Yu R s d q M 45 V j Qg hs false (by simp[ae]);rw[K.o]at N;have H8:=Z λ(V:E) (j:DR V R s (d:Int) q M)=>XD R s d q M 32 V j Qg hs;rw[K.o]at H8;have Ug:=Z λ(V:E) (j:DR V R s (d:Int) q M)=>Gt R s (d:Int) q M 2 (d:Int) V j;have bu:(d:Int)<(s.size:Int):=O
        go_wp2_with(first
         |(go_at_call 47;refine(t.o _ Q.o).mono ?_;clear t;rintro e w3 ⟨rfl,W,y⟩;have Qe:=Z (Qh.o.rd Q.o y);have U:=Z W;have Qq:=Z (below_grown Qu.o y (by rw[o.o];exact Aa _));clear W y)
         |(go_at_call 45;refine(x.o _ U.o).mono ?_;clear x;rintro e w4 ⟨rfl,X,z⟩;have Qf:=Z (Qe.o.rd U.o z);have T:=Z X;have Qt:=Z (below_grown Qq.o z (by rw[o.o];exact Aa _));clear X z)
         |(go_at_call 45;refine(N.o _ T.o).mono ?_;clear N;rintro e w5 ⟨rfl,ah,P⟩;have Qj:=Z (Qf.o.rd T.o P);have Qi:=Z ah;have Qv:=Z (below_grown Qt.o P (by rw[o.o];exact Aa _));clear ah P)
         |(go_at_call 47;refine(H8.o _ Qi.o).mono ?_;clear H8;rintro e w6 ⟨rfl,A,ad⟩;have Ql:=Z (Qj.o.rd Qi.o ad);have Qp:=Z A;have Ud:=A.c1;have Uh:=A.c2;have Ue:=A.c3;have Qx:=Z (below_grown Qv.o ad (by rw[o.o];exact Aa _));clear A ad)
         |(go_at_call 48;refine(Ug.o _ Qp.o).mono ?_;clear Ug;rintro e w7 ⟨rfl,ap,az⟩;clear Ud Uh Ue;have Us:=ap.c2;have Uu:=ap.c3;rw[BL ae]at Us;rw[BL ae]at Uu;have Uk:=Z (below_grown Qx.o az (by rw[o.o];exact Aa _));clear ap az))
        go_quiet (fail)
        go_wp2_with fail
        exact BE (v:=.tuple #[B none 0 0,G H q,G H M]) (by simp[results,results10,go_sem]) J ⟨_,_,_,J,by rw[Uj.o.1,Uj.o.2];exact Ea.bad Qm.o,below_drewN Uk.o _⟩
      . skip
        have t:=Z λ(V:E) (j:DR V R s (D:Int) q M)=>XD R s D q M 45 V j am hs;rw[show(decide ((q:Int)=0)&&JT (Je s) (DL (Je s) D) 45)=false from by simp[ae],Qn.o]at t;have x:=Z λ(V:E) (j:DR V R s (d:Int) q M)=>Yu R s d q M 43 V j Qg hs false (by simp[ae]);rw[K.o]at x;have N:=Z λ(V:E) (j:DR V R s (d:Int) q M)=>Yu R s d q M 45 V j Qg hs false (by simp[ae]);rw[K.o]at N;have H8:=Z λ(V:E) (j:DR V R s (d:Int) q M)=>XD R s d q M 32 V j Qg hs;rw[K.o]at H8;have Uy:decide (d<s.size)=false:=BI bk;go_wp2_with(first
         |(go_at_call 47;refine(t.o _ Q.o).mono ?_;clear t;rintro e w3 ⟨rfl,W,y⟩;have Qe:=Z (Qh.o.rd Q.o y);have U:=Z W;have Qq:=Z (below_grown Qu.o y (by rw[o.o];exact Aa _));clear W y)
         |(go_at_call 45;refine(x.o _ U.o).mono ?_;clear x;rintro e w4 ⟨rfl,X,z⟩;have Qf:=Z (Qe.o.rd U.o z);have T:=Z X;have Qt:=Z (below_grown Qq.o z (by rw[o.o];exact Aa _));clear X z)
         |(go_at_call 45;refine(N.o _ T.o).mono ?_;clear N;rintro e w5 ⟨rfl,ah,P⟩;have Qj:=Z (Qf.o.rd T.o P);have Qi:=Z ah;have Qv:=Z (below_grown Qt.o P (by rw[o.o];exact Aa _));clear ah P)
         |(go_at_call 47;refine(H8.o _ Qi.o).mono ?_;clear H8;rintro e w6 ⟨rfl,A,ad⟩;have Ql:=Z (Qj.o.rd Qi.o ad);have Qp:=Z A;have Ud:=A.c1;have Uh:=A.c2;have Ue:=A.c3;have Qx:=Z (below_grown Qv.o ad (by rw[o.o];exact Aa _));clear A ad))
        go_quiet (fail)
        go_wp2_with fail
        exact BE (v:=.tuple #[B none 0 0,G H q,G H M]) (by simp[results,results10,go_sem]) J ⟨_,_,_,J,by rw[Uj.o.1,Uj.o.2];exact Ea.bad Qm.o,below_drewN Qx.o _⟩
def DV(W:E)(R:Nat)(s:ByteArray)(I:Int):Prop:=W.heap[R]?=some (.cells #[C s,.int H I] 124 (0,0))
section
variable {W W':World} {R:Nat} {s:ByteArray} {I:Int}
def DV.lt(h:DV W R s I):R<W.heap.size:=(Ab.1 h).1
def DV.c0(h:DV W R s I):W.cell? ⟨R,0,none⟩=some (C s):=by simp[World.cell?,show W.heap[R]?=_ from h]
def DV.c1(h:DV W R s I):W.cell? ⟨R,1,none⟩=some (G H I):=by simp[World.cell?,show W.heap[R]?=_ from h]
def DV.cp(h:DV W R s I):type_of% (And.intro h.c0 h.c1):=⟨h.c0,h.c1⟩
def DV.f(h:DV W R s I)(o:Nat):W.frozen? ⟨R,o,none⟩=false:=by simp[World.frozen?,show W.heap[R]?=_ from h]
def DV.below(h:DV W R s I)(a:Bl W W'):DV W' R s I:=(a.block R h.lt).trans h
def DV.set1(h:DV W R s I)(x:Int):DV (W.setCell ⟨R,1,none⟩ (G H x)) R s x:=by
 have:=JK (o:=1) h (G H x);exact this
def DV.drewN(h:DV W R s I)(n:Nat):DV (W.drewN n) R s I:=h
theorem FT(h:DV W R s I){cs:Array Value}{t:TypeId}{m:Nat × Nat}{b:Nat}(a:W.heap[b]?=some (.cells cs t m))(c:t≠124):b≠R:=by
 intro e;subst e;have:=a.symm.trans h;grind
theorem LT(h:DV W R s I)(hg:W.grownBy W' (some R)):∀k v ds,Row k W v ds->Row k W' v ds:=by
 intro k v ds c;obtain⟨a,cap,e,_⟩:=id c;subst e;refine c.grown hg λp f hl=>?_;obtain⟨b,i,d,cs,m,g⟩:=c.typ hl;grind[FT]
end
def Fp{W:E}{R:Nat}{s:ByteArray}{I:Nat}(h:DV W R s I):EF W R=I:=by
 unfold EF;rw[h.c1];simp[intOf]
def OE(c:UInt8)(w:E):Calls Tryz.prog 181 #[G .u8 (c.toNat:Int)] w λr e=>r=.returned (F (DS c))/\e=w:=by
 by_cases b:48<=c.toNat
 . have f:decide ((48:Int)<=(c.toNat:Int))=true:=BM O;by_cases d:c.toNat<=57
   . have a:=Z (show DS c=true by simp[DS,b,d]);go_enter func181,ntmps181
     go_wp2;go_ret;exact⟨by rw[a.o];simp;omega,J⟩
   . have a:=Z (show DS c=false by simp[DS,d]);go_enter func181,ntmps181
     go_wp2;go_ret;exact⟨by rw[a.o];simp;omega,J⟩
 . have a:=Z (show DS c=false by simp[DS,b]);go_enter func181,ntmps181
   go_wp2;go_ret;exact⟨by rw[a.o];rfl,J⟩
def LU(R:Nat)(s:ByteArray)(I:Nat)(w:E)(h:DV w R s I)(z:I<=s.size)(hs:s.size<=300):
 Calls Tryz.prog 122 #[L (some ⟨R,0,none⟩)] w λr q=>r=.returned (F (decide (DL (Je s) I=s.size)))/\DV q R s (DL (Je s) I:Nat)/\w.grownBy q (some R):=by
 have t:=Z h;clear h;go_enter func122,ntmps122
 go_wp2;go_loopw [] (λwr=>∃j:Nat,I<=j/\j<=s.size/\Hid (DV wr R s j/\w.grownBy wr (some R)/\∀k (c:k<s.size),I<=k->k<j->s[k]=32)) λwr=>s.size-EF wr R
 case atStart=>exact⟨I,Aa _,z,Z ⟨t.o,Yd _ _,λk _ n o=>by omega⟩⟩
 case round=>
  obtain⟨j,n,o,a⟩:=hrel;obtain⟨c0,c1⟩:=a.o.1.cp;have f1:=a.o.1.f 1;by_cases D:j<s.size
  . have Q:(j:Int)<(s.size:Int):=O
    have P:(0:Int)<=(j:Int):=O
    by_cases b:s[j]=32
    . have A:((s[j].toNat:Int)==32)=true:=by rw[b];rfl
      have y:=Z b;clear b;go_wp2_with fail
      go_quiet (fail)
      go_wp2;go_roundw
      case rel=>
       refine⟨j+1,O,O,Z ⟨?_,Jd (Jd a.o.2.1 (Jv _ _ _)) (Jy _ R 1 _),λk c g i=>?_⟩⟩
       . have:=(a.o.1.drewN nq).set1 ((j:Int)+1);rw[show((j:Int)+1)=((j+1:Nat):Int)from by omega]at this;exact this
       . by_cases e:k=j
         . subst e;exact y.o
         . exact a.o.2.2 k c g O
      case measure=>
       have K:=Fp a.o.1;have M:EF ((wr.drewN nq).setCell ⟨R,1,none⟩ (G H ((j:Int)+1))) R=j+1:=by
        have:=(a.o.1.drewN nq).set1 ((j:Int)+1);rw[show((j:Int)+1)=((j+1:Nat):Int)from by omega]at this ⊢;exact Fp this
       omega
    . have A:((s[j].toNat:Int)==32)=false:=Im (d:=32) b;have f:=Z (show DL (Je s) I=j from Io n o (λk c g i=>by rw[a.o.2.2 k c g i];rfl) λ_=>BJ.2 b);have u:¬j=s.size:=O
      have x:((j:Int)==(s.size:Int))=false:=DX
      clear b;go_wp2_with fail
      go_quiet (fail)
      go_wp2;have m:=Z (show w.grownBy (wr.drewN nq) (some R)from Jd a.o.2.1 (Jv _ _ _));have l:=Z (a.o.1.drewN nq);go_quiet (fail)
      go_wp2;go_ret;exact⟨by rw[f.o];simp[u],by rw[f.o];exact l.o.drewN _,Jd m.o (Jv _ _ _)⟩
  . have p:j=s.size:=O
    have N:=BI O;have f:=Z (show DL (Je s) I=j from Io n o (λk c g i=>by rw[a.o.2.2 k c g i];rfl) λh=>by omega);have x:((j:Int)==(s.size:Int))=true:=DX
    have v:=Z p;clear D p;go_wp2_with fail
    go_quiet (fail)
    go_wp2;have m:=Z (show w.grownBy (wr.drewN nq) (some R)from Jd a.o.2.1 (Jv _ _ _));have l:=Z (a.o.1.drewN nq);go_quiet (fail)
    go_wp2;go_ret;exact⟨by rw[f.o];simp[v.o],by rw[f.o];exact l.o.drewN _,Jd m.o (Jv _ _ _)⟩
end
def X7(e p:Int):Value:=.iface 77 (.agg #[.int H e,.int H p])
def Gu(v:Value)(e p:Int)(w:E):Calls Tryz.prog 123 #[v,G H e,G H p] w λr a=>r=.panicked [{ v:=X7 e p,recovered:=false }]/\a=w:=by
 go_enter func123,ntmps123
 go_wp2;exact⟨J,J,J⟩
section
open M3
def D9(w V:E)(R:Nat)(s:ByteArray)(I:Int):Prop:=DV V R s I/\w.grownBy V (some R)
def D9.below{w V V':E}{R:Nat}{s:ByteArray}{I:Int}(h:D9 w V R s I)(a:Bl V V'):D9 w V' R s I:=⟨h.1.below a,Jd h.2 (JM a _)⟩
variable{j:Nat}
theorem FU(R:Nat)(s:ByteArray)(I:Nat)(c:UInt8)(w:E)(h:DV w R s I)(y:I<=s.size)(hs:s.size<=300)(b:Bool)(i:b=JT (Je s) (DL (Je s) I) c):
 Calls Tryz.prog 120 #[L (some ⟨R,0,none⟩),G .u8 (c.toNat:Int)] w λr u=>r=.returned (F b)/\DV u R s ((DL (Je s) I+(if b then 1 else 0):Nat):Int)/\w.grownBy u (some R):=by
 have d:=Z λ(V:E) (z:DV V R s I)=>LU R s I V z y hs;obtain⟨j,q⟩:=ex (DL (Je s) I);have A:j<=s.size:=by grind[Jg,Yh]
 rw[q]at d i ⊢;have n:=Z h;clear h q;by_cases l:j=s.size
 . obtain rfl:b=false:=by rw[i];exact N4 O
   rw[show decide (j=s.size)=true from BM l]at d;clear i l;go_enter func120,ntmps120
   go_wp2_with fail
   have m:D9 w w.drew R s I:=⟨n.o,J,J,J,Aa _,λ_ _ _=>rfl⟩;refine Eg Dm [[],[0],[1],[1,2],[1,2,3],[1,2,4],[1,2,5],[1,2],[1,2,7],[1,2,8],[1,2,9],[1,2,6,10],[1,2],[1,2,11,12],[1,2,13]] [.eq (L (some ⟨R,0,none⟩)),.eq (F true),.eq (F true),.any,.any,.any,.any,.any,.any,.any,.any,.any,.any,.any,.eq (F true)] [1] (λb _ V=>D9 w V R s (if b.getD 0 false then(j:Int)else I)) m (WB (.vl J λ_ _=>mv)<|WB (.cw λh k=>c1 (h.e 0) ((d.o _ k.1).mono λ_ _ ⟨e,r,g⟩=>⟨_,e,J,IP,r,Jd k.2 g⟩))<|WB (.vl J λh _=>mw (h.g 1))<|WB (.no J λh=>Yn 2 false h)<|WB (.no J λh=>Yn 2 false h)<|WB (.no J λh=>Yn 2 false h)<|WB (.no J λh=>Yn 2 false h)<|WB (.no J λh=>Yn 2 false h)<|WB (.no J λh=>Yn 2 false h)<|WB (.no J λh=>Yn 2 false h)<|WB (.no J λh=>Yn 2 false h)<|WB (.no J λh=>Yn 2 false h)<|WB (.no J λh=>Yn 2 false h)<|WB (.no J λh=>Yn 2 false h)<|WB (.vl J λh _=>⟨_,by refine DW ?_;rw[h.e 2];go_simp,J⟩) Stp.end_)
    λf V hF a=>?_
   refine DW ?_;have a:D9 w V R s (j:Int):=a;rw[hF.e 0,hF.e 1,hF.e 2,hF.e 14];replace a:=Z a;clear hF;go_wp2_with fail
   go_ret;exact⟨J,a.o.1,a.o.2⟩
 . have v:j<s.size:=O
   have D:(j:Int)<(s.size:Int):=O
   rw[show decide (j=s.size)=false from BI l]at d;rw[N3 v]at i;obtain⟨nb,t⟩:=ex (((s[j].toNat:Int) != (c.toNat:Int)));have o:=Z (show nb=!b by
    grind[Im])
   have x:=Z t;clear i l t;go_enter func120,ntmps120
   go_wp2_with fail
   have m:D9 w w.drew R s I:=⟨n.o,J,J,J,Aa _,λ_ _ _=>rfl⟩;refine Eg Dm [[],[0],[1],[1,2],[1,2,3],[1,2,4],[1,2,5],[1,2],[1,2,7],[1,2,8],[1,2,9],[1,2,6,10],[1,2],[1,2,11,12],[1,2,13]] [.eq (L (some ⟨R,0,none⟩)),.eq (F false),.eq (F false),.eq (L (some ⟨R,0,none⟩)),.eq (L (some ⟨R,0,none⟩)),.eq (L (some ⟨R,0,none⟩)),.eq (C s),.eq (L (some ⟨R,0,none⟩)),.eq (L (some ⟨R,0,none⟩)),.eq (L (some ⟨R,1,none⟩)),.eq (G H (j:Int)),.eq (G .u8 (s[j].toNat:Int)),.eq (G .u8 (c.toNat:Int)),.eq (F nb),.eq (F nb)] [1] (λb _ V=>D9 w V R s (if b.getD 0 false then(j:Int)else I)) m (WB (.vl J λ_ _=>mv)<|WB (.cw λh k=>c1 (h.e 0) ((d.o _ k.1).mono λ_ _ ⟨e,r,g⟩=>⟨_,e,J,IP,r,Jd k.2 g⟩))<|WB (.vl J λh _=>mw (h.g 1))<|WB (.vl J (λ_ _=>mv) (hg:=λh=>Yn 2 false h))<|WB (.vl J (λh _=>⟨_,by refine DW ?_;rw[h.e 3];go_simp,J⟩) (hg:=λh=>Yn 2 false h))<|WB (.vl J (λh _=>⟨_,by refine DW ?_;rw[h.e 4];go_simp,J⟩) (hg:=λh=>Yn 2 false h))<|WB (.vl J (λh k=>⟨_,by have p:=k.1.c0;refine DW ?_;rw[h.e 5];go_simp,J⟩) (hg:=λh=>Yn 2 false h))<|WB (.vl J (λ_ _=>mv) (hg:=λh=>Yn 2 false h))<|WB (.vl J (λh _=>⟨_,by refine DW ?_;rw[h.e 7];go_simp,J⟩) (hg:=λh=>Yn 2 false h))<|WB (.vl J (λh _=>⟨_,by refine DW ?_;rw[h.e 8];go_simp,J⟩) (hg:=λh=>Yn 2 false h))<|WB (.vl J (λh k=>⟨_,by have p:=DV.c1 (I:=(j:Int)) k.1;refine DW ?_;rw[h.e 9];go_simp,J⟩) (hg:=λh=>Yn 2 false h))<|WB (.vl J (λh _=>⟨_,by refine DW ?_;rw[h.e 6,h.e 10];go_simp,J⟩) (hg:=λh=>Yn 2 false h))<|WB (.vl J (λ_ _=>mv) (hg:=λh=>Yn 2 false h))<|WB (.vl J (λh _=>⟨_,by have p:=x.o;refine DW ?_;rw[h.e 11,h.e 12];go_simp,J⟩) (hg:=λh=>Yn 2 false h))<|WB (.vl J λh _=>⟨_,by refine DW ?_;rw[h.e 2,h.e 13];go_simp,J⟩) Stp.end_)
    λf V hF a=>?_
   refine DW ?_;have a:D9 w V R s (j:Int):=a;rw[hF.e 0,hF.e 1,hF.e 2,hF.e 3,hF.e 4,hF.e 5,hF.e 6,hF.e 7,hF.e 8,hF.e 9,hF.e 10,hF.e 11,hF.e 12,hF.e 13,hF.e 14];replace a:=Z a;clear hF;have c1:=a.o.1.c1;have f1:=a.o.1.f 1;cases b with
   |true=>
    obtain rfl:nb=false:=o.o;go_wp2_with fail
    go_ret;exact⟨J,a.o.1.set1 _,Jd a.o.2 (Jy _ R 1 _)⟩
   |false=>
    obtain rfl:nb=true:=o.o;go_wp2_with fail
    go_ret;exact⟨J,a.o.1,a.o.2⟩
def UK(c:UInt8)(w:E):Calls Tryz.prog 181 #[G .u8 (c.toNat:Int)] w λr a=>r=.returned (F (DS c))/\Bl w a:=by
 refine(OE c w).mono ?_;rintro e a ⟨rfl,rfl⟩;exact⟨J,BF _ _⟩
def OG{s:ByteArray}(a:j<s.size):EU (Je s) j=DS s[j]:=by
 unfold EU;rw[Am (by rw[Jg];exact a)];rfl
theorem OH{s:ByteArray}(a:s.size<=j):EU (Je s) j=false:=by
 grind[EU,Jg]
theorem OI(R:Nat)(s:ByteArray)(I:Nat)(w:E)(h:DV w R s I)(u:I<=s.size)(hs:s.size<=300):
 Calls Tryz.prog 154 #[L (some ⟨R,0,none⟩)] w λr p=>r=.returned (F (EU (Je s) (DL (Je s) I)))/\DV p R s (DL (Je s) I:Nat)/\w.grownBy p (some R):=by
 have c:=Z λ(V:E) (v:DV V R s I)=>LU R s I V v u hs;obtain⟨j,o⟩:=ex (DL (Je s) I);have x:j<=s.size:=by grind[Jg,Yh]
 rw[o]at c ⊢;have l:=Z h;clear h o;by_cases d:j=s.size
 . rw[OH (by omega:s.size<=j)];rw[show decide (j=s.size)=true from BM d]at c;clear d;go_enter func154,ntmps154
   go_wp2_with fail
   have i:D9 w w.drew R s I:=⟨l.o,J,J,J,Aa _,λ_ _ _=>rfl⟩;refine Eg Dm [[],[0],[1],[1,2],[1,3],[1,3,4],[1,3,5],[1,3,6],[1,3],[1,3,8],[1,3,9],[1,3,10],[1,3,7,11],[1,3,12],[1,3,13],[1,14]] [.eq (L (some ⟨R,0,none⟩)),.eq (F true),.eq (F false),.eq (F false),.any,.any,.any,.any,.any,.any,.any,.any,.any,.any,.eq (F false),.eq (F false)] [1] (λb _ V=>D9 w V R s (if b.getD 0 false then(j:Int)else I)) i (WB (.vl J λ_ _=>mv)<|WB (.cw λh k=>c1 (h.e 0) ((c.o _ k.1).mono λ_ _ ⟨e,r,g⟩=>⟨_,e,J,IP,r,Jd k.2 g⟩))<|WB (.vl J λh _=>⟨_,by refine DW ?_;rw[h.e 1];go_simp,J⟩)<|WB (.vl J λh _=>mw (h.g 2))<|WB (.no J λh=>Yn 3 true h)<|WB (.no J λh=>Yn 3 true h)<|WB (.no J λh=>Yn 3 true h)<|WB (.no J λh=>Yn 3 true h)<|WB (.no J λh=>Yn 3 true h)<|WB (.no J λh=>Yn 3 true h)<|WB (.no J λh=>Yn 3 true h)<|WB (.no J λh=>Yn 3 true h)<|WB (.no J λh=>Yn 3 true h)<|WB (.no J λh=>Yn 3 true h)<|WB (.vl J λh _=>⟨_,by refine DW ?_;rw[h.e 3];go_simp,J⟩)<|WB (.vl J λh _=>aw (h.g 14)) Stp.end_)
    λf V hF a=>?_
   refine DW ?_;have a:D9 w V R s (j:Int):=a;rw[hF.e 0,hF.e 1,hF.e 2,hF.e 3,hF.e 14,hF.e 15];replace a:=Z a;clear hF;go_wp2_with fail
   go_ret;exact⟨J,a.o.1,a.o.2⟩
 . have q:j<s.size:=O
   have y:(j:Int)<(s.size:Int):=O
   rw[show decide (j=s.size)=false from BI d]at c;rw[OG q];have m:=Z λ(V:E)=>UK s[j] V;obtain⟨dg,n⟩:=ex (DS s[j]);rw[n]at m ⊢;clear d n;go_enter func154,ntmps154
   go_wp2_with fail
   have i:D9 w w.drew R s I:=⟨l.o,J,J,J,Aa _,λ_ _ _=>rfl⟩;refine Eg Dm [[],[0],[1],[1,2],[1,3],[1,3,4],[1,3,5],[1,3,6],[1,3],[1,3,8],[1,3,9],[1,3,10],[1,3,7,11],[1,3,12],[1,3,13],[1,14]] [.eq (L (some ⟨R,0,none⟩)),.eq (F false),.eq (F true),.eq (F true),.eq (L (some ⟨R,0,none⟩)),.eq (L (some ⟨R,0,none⟩)),.eq (L (some ⟨R,0,none⟩)),.eq (C s),.eq (L (some ⟨R,0,none⟩)),.eq (L (some ⟨R,0,none⟩)),.eq (L (some ⟨R,1,none⟩)),.eq (G H (j:Int)),.eq (G .u8 (s[j].toNat:Int)),.eq (F dg),.eq (F dg),.eq (F dg)] [1] (λb _ V=>D9 w V R s (if b.getD 0 false then(j:Int)else I)) i (WB (.vl J λ_ _=>mv)<|WB (.cw λh k=>c1 (h.e 0) ((c.o _ k.1).mono λ_ _ ⟨e,r,g⟩=>⟨_,e,J,IP,r,Jd k.2 g⟩))<|WB (.vl J λh _=>⟨_,by refine DW ?_;rw[h.e 1];go_simp,J⟩)<|WB (.vl J λh _=>mw (h.g 2))<|WB (.vl J (λ_ _=>mv) (hg:=λh=>Yn 3 true h))<|WB (.vl J (λh _=>⟨_,by refine DW ?_;rw[h.e 4];go_simp,J⟩) (hg:=λh=>Yn 3 true h))<|WB (.vl J (λh _=>⟨_,by refine DW ?_;rw[h.e 5];go_simp,J⟩) (hg:=λh=>Yn 3 true h))<|WB (.vl J (λh k=>⟨_,by have t:=k.1.c0;refine DW ?_;rw[h.e 6];go_simp,J⟩) (hg:=λh=>Yn 3 true h))<|WB (.vl J (λ_ _=>mv) (hg:=λh=>Yn 3 true h))<|WB (.vl J (λh _=>⟨_,by refine DW ?_;rw[h.e 8];go_simp,J⟩) (hg:=λh=>Yn 3 true h))<|WB (.vl J (λh _=>⟨_,by refine DW ?_;rw[h.e 9];go_simp,J⟩) (hg:=λh=>Yn 3 true h))<|WB (.vl J (λh k=>⟨_,by have t:=DV.c1 (I:=(j:Int)) k.1;refine DW ?_;rw[h.e 10];go_simp,J⟩) (hg:=λh=>Yn 3 true h))<|WB (.vl J (λh _=>⟨_,by refine DW ?_;rw[h.e 7,h.e 11];go_simp,J⟩) (hg:=λh=>Yn 3 true h))<|WB (.cl (λh _=>c1 (h.e 12) (rv (m.o _))) (hg:=λh=>Yn 3 true h))<|WB (.vl J λh _=>⟨_,by refine DW ?_;rw[h.e 3,h.e 13];go_simp,J⟩)<|WB (.vl J λh _=>aw (h.g 14)) Stp.end_)
    λf V hF a=>?_
   refine DW ?_;have a:D9 w V R s (j:Int):=a;rw[hF.e 0,hF.e 1,hF.e 2,hF.e 3,hF.e 4,hF.e 5,hF.e 6,hF.e 7,hF.e 8,hF.e 9,hF.e 10,hF.e 11,hF.e 12,hF.e 13,hF.e 14,hF.e 15];replace a:=Z a;clear hF;go_wp2_with fail
   go_ret;exact⟨J,a.o.1,a.o.2⟩
end
def Da(ds:List UInt8):List UInt8:=if Lib.trimLeftB ds 48=[]then [48]else Lib.trimLeftB ds 48
def UL(w:E)(R:Nat)(s:ByteArray)(I:Nat)(r:Ending)(a:E):Prop:=
 w.grownBy a (some R)/\(∀e q,JL (Je s) I=.error e q->r=.panicked [{ v:=X7 e q,recovered:=false }])/\(∀ds q k,JL (Je s) I=.ok (ds,q) k->r=.returned (.tuple #[C ⟨(Da ds).toArray⟩,.int H (q:Int)])/\DV a R s (k:Int))
variable{ds:List UInt8}{k:Nat}
theorem OJ(s:ByteArray)(p d:Nat):(s.extract p (p+d)).data.toList=((Je s).drop p).take d:=by
 grind[Je,ByteArray.data_extract,Array.toList_extract]
theorem LV(R:Nat)(s:ByteArray)(I:Nat)(w:E)(h:DV w R s I)(hI:I<=s.size)(hs:s.size<=300):
 Calls Tryz.prog 182 #[L (some ⟨R,0,none⟩)] w λr w'=>UL w R s I r w':=by
 obtain⟨p,hp⟩:=ex (DL (Je s) I);have A:=Z (OI R s I w h hI hs);rw[hp]at A;have Qv:p<=s.size:=by grind[Jg,Yh]
 have X:=Z hp;have Q:=Z λ(e q:Int) (V:E)=>Gu (L (some ⟨R,0,none⟩)) e q V;clear h hI hp;cases T:EU (Je s) p with
 |false=>
  have m:=Z (show JL (Je s) I=.error 2 p by unfold JL;rw[X.o,BR (N9 T)]);rw[T]at A;clear T;go_enter func182,ntmps182
  go_wp2_with first
   |(go_at_call 154;refine A.o.mono ?_;clear A;rintro e w1 ⟨rfl,U,ad⟩;have c1:=U.c1;have Qn:=Z ad;clear U ad)
   |(go_at_call 123;refine(Q.o _ _ _).mono ?_;clear Q;rintro e W ⟨rfl,rfl⟩)
  refine⟨J,Qn.o,λe q a=>?_,λds q k a=>?_⟩
  . rw[m.o]at a;cases a;rfl
  . rw[m.o]at a;cases a
 |true=>
  rw[T]at A;have Qi:=Z T;clear T;go_enter func182,ntmps182
  go_upto_region 4 with first
   |(go_at_call 154;refine A.o.mono ?_;clear A;rintro e w1 ⟨rfl,U,ad⟩;have Qu:=Z U;have c1:=U.c1;have Qn:=Z ad;clear U ad)
  go_loopw [] (λwr=>∃d:Nat,p+d<=s.size/\Hid (DV wr R s ((p+d:Nat):Int)/\w.grownBy wr (some R)/\∃n,Ye (Je s) p d n)) λwr=>s.size-EF wr R
  case atStart=>exact⟨0,O,Z ⟨Qu.o,Qn.o,0,Ye.zero (by rw[Jg];exact Qv)⟩⟩
  case round=>
   clear c1;obtain⟨d,ak,g⟩:=hrel;obtain⟨j,hj⟩:∃j,j=p+d:=⟨_,J⟩;have c:=Z hj;rw[<-hj]at ak g;clear hj;obtain⟨c0,c1⟩:=g.o.1.cp;have f1:=g.o.1.f 1;by_cases ap:j<s.size
   . have aq:(j:Int)<(s.size:Int):=O
     have an:(0:Int)<=(j:Int):=O
     have HX:=Z (OE s[j]);by_cases z:DS s[j]=true
     . rw[z]at HX;have Qq:=Z z;clear z;go_wp2_with fail
       go_quiet ((go_at_call 181;exact Calls.quiet_of_same (HX.o _)))
       have Qr:=Z (Fp g.o.1);go_wp2_with fail
       go_roundw
       case rel=>
        refine⟨d+1,?_,Z ⟨?_,?_,?_⟩⟩
        . have:=c.o;omega
        . have:=(g.o.1.drewN nq).set1 ((j:Int)+1);rw[show((j:Int)+1)=((p+(d+1):Nat):Int)from by have:=c.o;omega]at this ⊢;exact this
        . exact Jd (Jd g.o.2.1 (Jv _ _ _)) (Jy _ R 1 _)
        . obtain⟨n,hn⟩:=g.o.2.2;by_cases ai:d<12
          . exact⟨_,hn.next1 (by rw[Jg];have:=c.o;omega) (by simp only[<-c.o];exact Qq.o) ai⟩
          . exact⟨_,hn.next2 (by rw[Jg];have:=c.o;omega) (by simp only[<-c.o];exact Qq.o) O⟩
       case measure=>
        have e2:=Fp ((g.o.1.drewN nq).set1 ((j+1:Nat):Int));rw[show((j+1:Nat):Int)=(j:Int)+1 from by omega]at e2;rw[e2,Qr.o];omega
     . have z:=Bool.eq_false_iff.2 z;rw[z]at HX;have M:=Z (show Dq (Je s) p=j by rw[c.o];exact g.o.2.2.choose_spec.dg λhl=>by simp only[<-c.o];exact z);clear z;go_wp2_with fail
       go_quiet ((go_at_call 181;exact Calls.quiet_of_same (HX.o _)))
       obtain⟨Qh,HG,Qw⟩:=DY (g.o.1.drewN nq) (show w.grownBy (wr.drewN nq) (some R)from Jd g.o.2.1 (Jv _ _ _)) g.o.2.2;have Qx:d≠0:=λe=>by
        have b:=M.o;have h6:=c.o;rw[e,AX]at h6;have N:=Qi.o;have h8:=KG (f:=DS) (l:=Je s) (i:=p);rw[show YN DS (Je s) p=j from b]at h8;rw[<-h6]at N;by_cases h9:j<s.size
        . have:=h8 (by rw[Jg];exact h9);rw[OG h9]at N;exact absurd (this.symm.trans N) DQ
        omega
       have Qt:(p:Int)<=(j:Int):=by have:=c.o;omega
       have Qp:p<=j:=by have:=c.o;omega
       obtain⟨o,P⟩:=ex (s.extract p j);have Qs:o.size=d:=by rw[<-P,A9];have:=c.o;omega
       have Ql:=Z P;obtain⟨ae,ah⟩:=Qh.o.cp;go_wp2_with fail
       go_quiet (fail)
       have D:=Z (show ∀u,w.grownBy (wr.drewN u) (some R)from λu=>Jd g.o.2.1 (Jv _ _ _));have Qg:=Z (show ∀u,DV (wr.drewN u) R s (j:Int)from λu=>g.o.1.drewN u);clear P ae ah c0 c1;have Qj:¬j=p:=by have:=c.o;omega
       have Qm:=Z (show o.data.toList=((Je s).drop p).take (j-p)by rw[<-Ql.o,c.o,OJ,show p+d-p=d from by omega]);by_cases ai:12<d
       . have aj:(12:Int)<(d:Int):=O
         have m:=Z (show JL (Je s) I=.error 3 p by unfold JL;rw[X.o,M.o,BL Qj,BR (by have:=c.o;omega)]);go_wp2_with(go_at_call 123;refine(Q.o _ _ _).mono ?_;clear Q;rintro e W ⟨rfl,rfl⟩)
         refine⟨J,D.o _,λe q a=>?_,λds q k a=>?_⟩
         . rw[m.o]at a;cases a;rfl
         . rw[m.o]at a;cases a
       . have aj:¬(12:Int)<(d:Int):=O
         have m:=Z (show JL (Je s) I=.ok (o.data.toList,p) j by unfold JL;rw[X.o,M.o,BL Qj,BL (by have:=c.o;omega),Qm.o]);have x:=Z λ(V:E)=>Tryz.strings_TrimLeft_one o 48 DQ V;obtain⟨y,t⟩:∃S:ByteArray,⟨(Lib.trimLeftB o.data.toList 48).toArray⟩=S:=⟨_,J⟩;rw[t]at x;have Qo:=Z t;by_cases a:Lib.trimLeftB o.data.toList 48=[]
         . have Qk:y=⟨#[]⟩:=by rw[<-t,a]
           have K:=Z (show Da o.data.toList=[48]by unfold Da;rw[BR a]);clear t a Qo;subst Qk;go_wp2_with(go_at_call 200;refine(x.o _).mono ?_;clear x;rintro e W ⟨rfl,rfl⟩)
           refine BE (v:=.tuple #[C ⟨#[48]⟩,G H (p:Int)]) (by simp[results,results182,go_sem]) J ⟨D.o _,λe q b=>?_,λds q k b=>?_⟩
           . rw[m.o]at b;cases b
           . rw[m.o]at b;cases b;exact⟨by rw[K.o],Qg.o _⟩
         . have Qk:y.toList.isEmpty=false:=by
            rw[<-t,Y7];simpa using a
           have K:=Z (show(⟨(Da o.data.toList).toArray⟩:ByteArray)=y by unfold Da;rw[BL a];exact t);clear t a;go_wp2_with(go_at_call 200;refine(x.o _).mono ?_;clear x;rintro e W ⟨rfl,rfl⟩)
           refine BE (v:=.tuple #[C y,G H (p:Int)]) (by simp[results,results182,go_sem]) J ⟨D.o _,λe q b=>?_,λds q k b=>?_⟩
           . rw[m.o]at b;cases b
           . rw[m.o]at b;cases b;exact⟨by rw[K.o],Qg.o _⟩
   . have M:=Z (show Dq (Je s) p=j by rw[c.o];exact g.o.2.2.choose_spec.dg λhl=>absurd hl (by rw[Jg];have:=c.o;omega));have am:=BI O;go_wp2_with fail
     go_quiet (fail)
     obtain⟨Qh,HG,Qw⟩:=DY (g.o.1.drewN nq) (show w.grownBy (wr.drewN nq) (some R)from Jd g.o.2.1 (Jv _ _ _)) g.o.2.2;have Qx:d≠0:=λe=>by
      have b:=M.o;have h6:=c.o;rw[e,AX]at h6;have N:=Qi.o;have h8:=KG (f:=DS) (l:=Je s) (i:=p);rw[show YN DS (Je s) p=j from b]at h8;rw[<-h6]at N;by_cases h9:j<s.size
      . omega
      . rw[OH O]at N;cases N
     have Qt:(p:Int)<=(j:Int):=by have:=c.o;omega
     have Qp:p<=j:=by have:=c.o;omega
     obtain⟨o,P⟩:=ex (s.extract p j);have Qs:o.size=d:=by rw[<-P,A9];have:=c.o;omega
     have Ql:=Z P;obtain⟨ae,ah⟩:=Qh.o.cp;go_wp2_with fail
     go_quiet (fail)
     have D:=Z (show ∀u,w.grownBy (wr.drewN u) (some R)from λu=>Jd g.o.2.1 (Jv _ _ _));have Qg:=Z (show ∀u,DV (wr.drewN u) R s (j:Int)from λu=>g.o.1.drewN u);clear P ae ah c0 c1;have Qj:¬j=p:=by have:=c.o;omega
     have Qm:=Z (show o.data.toList=((Je s).drop p).take (j-p)by rw[<-Ql.o,c.o,OJ,show p+d-p=d from by omega]);by_cases ai:12<d
     . have aj:(12:Int)<(d:Int):=O
       have m:=Z (show JL (Je s) I=.error 3 p by unfold JL;rw[X.o,M.o,BL Qj,BR (by have:=c.o;omega)]);go_wp2_with(go_at_call 123;refine(Q.o _ _ _).mono ?_;clear Q;rintro e W ⟨rfl,rfl⟩)
       refine⟨J,D.o _,λe q a=>?_,λds q k a=>?_⟩
       . rw[m.o]at a;cases a;rfl
       . rw[m.o]at a;cases a
     . have aj:¬(12:Int)<(d:Int):=O
       have m:=Z (show JL (Je s) I=.ok (o.data.toList,p) j by unfold JL;rw[X.o,M.o,BL Qj,BL (by have:=c.o;omega),Qm.o]);have x:=Z λ(V:E)=>Tryz.strings_TrimLeft_one o 48 DQ V;obtain⟨y,t⟩:∃S:ByteArray,⟨(Lib.trimLeftB o.data.toList 48).toArray⟩=S:=⟨_,J⟩;rw[t]at x;have Qo:=Z t;by_cases a:Lib.trimLeftB o.data.toList 48=[]
       . have Qk:y=⟨#[]⟩:=by rw[<-t,a]
         have K:=Z (show Da o.data.toList=[48]by unfold Da;rw[BR a]);clear t a Qo;subst Qk;go_wp2_with(go_at_call 200;refine(x.o _).mono ?_;clear x;rintro e W ⟨rfl,rfl⟩)
         refine BE (v:=.tuple #[C ⟨#[48]⟩,G H (p:Int)]) (by simp[results,results182,go_sem]) J ⟨D.o _,λe q b=>?_,λds q k b=>?_⟩
         . rw[m.o]at b;cases b
         . rw[m.o]at b;cases b;exact⟨by rw[K.o],Qg.o _⟩
       . have Qk:y.toList.isEmpty=false:=by
          rw[<-t,Y7];simpa using a
         have K:=Z (show(⟨(Da o.data.toList).toArray⟩:ByteArray)=y by unfold Da;rw[BL a];exact t);clear t a;go_wp2_with(go_at_call 200;refine(x.o _).mono ?_;clear x;rintro e W ⟨rfl,rfl⟩)
         refine BE (v:=.tuple #[C y,G H (p:Int)]) (by simp[results,results182,go_sem]) J ⟨D.o _,λe q b=>?_,λds q k b=>?_⟩
         . rw[m.o]at b;cases b
         . rw[m.o]at b;cases b;exact⟨by rw[K.o],Qg.o _⟩
theorem OK(c:UInt8)(t:List UInt8):num (c::t)=num t+10^t.length*(c.toNat-48):=by
 have h:=Xx [c] t;grind[num,Dg,val]
theorem UM(ds:List UInt8):num (ds.dropWhile (·==48))=num ds:=by
 induction ds with
 |nil=>rfl
 |cons c t a=>
  by_cases h:c=48
  . subst h;grind[List.dropWhile_cons_of_pos,OK]
  . rw[List.dropWhile_cons_of_neg (by simpa using h)]
theorem UO(h:ds.all DS=true):(ds.dropWhile (·==48)).all DS=true:=by
 grind[List.dropWhile_sublist]
theorem Xo(h:ds.all DS=true):num (Da ds)=num ds/\(Da ds).all DS=true/\Da ds≠[]/\(1<(Da ds).length->10<=num ds)/\(Da ds).length<=ds.length+1:=by
 unfold Da Lib.trimLeftB;have a:=UM ds;have d:=UO h;have i:=(List.dropWhile_sublist (l:=ds) (·==48)).length_le;split
 . rename_i b;rw[b]at a;refine⟨?_,DQ,DJ,DJ,DJ⟩;rw[<-a];decide
 . rename_i b;refine⟨a,d,b,λhl=>?_,O⟩;cases f:ds.dropWhile (·==48)with
   |nil=>exact absurd f b
   |cons c t=>
    rw[f]at a d hl;have g:c≠48:=by
     grind[List.head?_dropWhile_not]
    have m:=Yl (Az.1 d c (Cs ..));have n:c.toNat≠48:=λe=>g (CV.1 e);rw[<-a,OK];have j:10^1<=10^t.length:=Ag O (by simp at hl;omega);have k:10^t.length*1<=10^t.length*(c.toNat-48):=Aq _ O;omega
def LW(w:E)(R:Nat)(s:ByteArray)(I:Nat)(r:Ending)(a:E):Prop:=
 w.grownBy a (some R)/\(∀e q,Dv (Je s) I=.error e q->r=.panicked [{ v:=X7 e q,recovered:=false }])/\(∀n k,Dv (Je s) I=.ok n k->r=.returned (.int H (n:Int))/\DV a R s (k:Int))
theorem OL(R:Nat)(s:ByteArray)(I:Nat)(w:E)(h:DV w R s I)(hI:I<=s.size)(hs:s.size<=300):
 Calls Tryz.prog 156 #[L (some ⟨R,0,none⟩)] w λr w'=>LW w R s I r w':=by
 obtain⟨b,A⟩:∃b,b=JT (Je s) (DL (Je s) I) 94:=⟨_,J⟩;have f:=Z (FU R s I 94 w h hI hs b A);obtain⟨j,hj⟩:=ex (DL (Je s) I);rw[hj]at f A;have K:=Z λ(e q:Int) (V:E)=>Gu (L (some ⟨R,0,none⟩)) e q V;have HJ:=Z hj;clear h hj;cases b with
 |false=>
  have HN:=Z (show Dv (Je s) I=.ok 1 j by unfold Dv;rw[HJ.o,<-A];simp);clear A;go_enter func156,ntmps156
  go_wp2_with(go_at_call 120;refine f.o.mono ?_;clear f;rintro e U ⟨rfl,d,c⟩;have m:=Z d;have o:=Z c;clear d c)
  go_ret;refine⟨o.o,λe q a=>?_,λn k a=>?_⟩
  . rw[HN.o]at a;cases a
  . rw[HN.o]at a;cases a;exact⟨J,m.o⟩
 |true=>
  have Qm:j+1<=s.size:=by have:=J6 A.symm;rw[Jg]at this;omega
  have v:=Z λ(V:E) (hh:DV V R s ((j+1:Nat):Int))=>LV R s (j+1) V hh Qm hs;have l:=Z (show Dv (Je s) I=(match JL (Je s) (j+1)with|.error e p=>.error e p|.ok (ds,p) k=>if 8<num ds then .error 3 p else .ok (num ds) k)by
   unfold Dv;rw[HJ.o,BR A.symm];grind)
  clear A;cases D:JL (Je s) (j+1)with
  |error e0 q0=>
   rw[D]at l;have z:=Z D;clear D;go_enter func156,ntmps156
   go_wp2_with(first
    |(go_at_call 120;refine f.o.mono ?_;clear f;rintro e U ⟨rfl,d,c⟩;have m:=Z d;have o:=Z c;clear d c)
    |(go_at_call 182;refine(v.o _ m.o).mono ?_;clear v;rintro e w2 ⟨i,g,_⟩;obtain rfl:=g _ _ z.o;have y:=Z (Jd o.o i);clear i g))
   refine⟨J,y.o,λe q a=>?_,λn k a=>?_⟩
   . rw[l.o]at a;cases a;rfl
   . rw[l.o]at a;cases a
  |ok a0 k0=>
   obtain⟨ds,p0⟩:=a0;rw[D]at l;have z:=Z D;obtain⟨Q,T,X,g4,g5⟩:=Xo (FZ (by rw[Jg];omega) D).2.2.2.2.2.2.2.2;clear D;cases M:Da ds with
   |nil=>exact absurd M X
   |cons c0 t0=>
    rw[M]at Q T g4 g5;have ae:=Yl (Az.1 T c0 (Cs ..));have Qj:=(FZ (by rw[Jg];omega) z.o).2.2.2.2.2.2.2.1;have Qe:=(FZ (by rw[Jg];omega) z.o).2.2.2.2.2.1;cases t0 with
    |cons c1 t1=>
     have h8:8<num ds:=by have:=g4 DJ;omega
     obtain⟨t,u⟩:∃S:ByteArray,⟨(c0::c1::t1).toArray⟩=S:=⟨_,J⟩;have P:=Z (show(⟨(Da ds).toArray⟩:ByteArray)=t by rw[M];exact u);have Qn:1<t.size:=by rw[<-u];show 1<(c0::c1::t1).toArray.size;simp
     have ak:t.size<=13:=by rw[<-u];show(c0::c1::t1).toArray.size<=13;grind
     have aj:(1:Int)<(t.size:Int):=O
     have Ql:=Z h8;clear u M Q T X g4 g5 h8 Qj Qe;go_enter func156,ntmps156
     go_wp2_with(first
      |(go_at_call 120;refine f.o.mono ?_;clear f;rintro e U ⟨rfl,d,c⟩;have m:=Z d;have o:=Z c;clear d c)
      |(go_at_call 182;refine(v.o _ m.o).mono ?_;clear v;rintro e w2 ⟨i,_,g⟩;obtain⟨rfl,x⟩:=g _ _ _ z.o;rw[P.o];have W:=Z x;have y:=Z (Jd o.o i);clear i g x)
      |(go_at_call 123;refine(K.o _ _ _).mono ?_;clear K;rintro e w3 ⟨rfl,rfl⟩))
     refine⟨J,y.o,λe q a=>?_,λn k a=>?_⟩
     . rw[l.o,BR Ql.o]at a;cases a;rfl
     . rw[l.o,BR Ql.o]at a;cases a
    |nil=>
     have Qi:num ds=c0.toNat-48:=by rw[<-Q];simp[num,Dg,val]
     obtain⟨t,u⟩:=ex ((⟨#[c0]⟩:ByteArray):ByteArray);have P:=Z (show(⟨(Da ds).toArray⟩:ByteArray)=t by rw[M];exact u);have Qn:t.size=1:=by rw[<-u];rfl
     have ah:∀h:0<t.size,t[0]'h=c0:=by subst u;intro _;rfl
     have ai:((c0.toNat:Int)-48)%256=(c0.toNat:Int)-48:=O
     clear u;have N:=Z Qi;clear M Q T X g4 g5 Qj Qe Qi;by_cases h8:8<c0.toNat-48
     . have ad:(8:Int)<(c0.toNat:Int)-48:=O
       go_enter func156,ntmps156
       go_wp2_with(first
        |(go_at_call 120;refine f.o.mono ?_;clear f;rintro e U ⟨rfl,d,c⟩;have m:=Z d;have o:=Z c;clear d c)
        |(go_at_call 182;refine(v.o _ m.o).mono ?_;clear v;rintro e w2 ⟨i,_,g⟩;obtain⟨rfl,x⟩:=g _ _ _ z.o;rw[P.o];have W:=Z x;have y:=Z (Jd o.o i);clear i g x)
        |(go_at_call 123;refine(K.o _ _ _).mono ?_;clear K;rintro e w3 ⟨rfl,rfl⟩))
       refine⟨J,y.o,λe q a=>?_,λn k a=>?_⟩
       . rw[l.o,BR (by rw[N.o];omega)]at a;cases a;rfl
       . rw[l.o,BR (by rw[N.o];omega)]at a;cases a
     . have ad:¬(8:Int)<(c0.toNat:Int)-48:=O
       go_enter func156,ntmps156
       go_wp2_with(first
        |(go_at_call 120;refine f.o.mono ?_;clear f;rintro e U ⟨rfl,d,c⟩;have m:=Z d;have o:=Z c;clear d c)
        |(go_at_call 182;refine(v.o _ m.o).mono ?_;clear v;rintro e w2 ⟨i,_,g⟩;obtain⟨rfl,x⟩:=g _ _ _ z.o;rw[P.o];have W:=Z x;have y:=Z (Jd o.o i);clear i g x)
        |(go_at_call 123;refine(K.o _ _ _).mono ?_;clear K;rintro e w3 ⟨rfl,rfl⟩))
       go_ret;refine⟨y.o,λe q a=>?_,λn k a=>?_⟩
       . rw[l.o,BL (by rw[N.o];omega)]at a;cases a
       . rw[l.o,BL (by rw[N.o];omega)]at a;cases a;refine⟨?_,W.o⟩;rw[N.o];show Ending.returned (G H ((c0.toNat:Int)-48))=_;grind
def ES(w V:E)(o:Value)(C:Nat)(qs:U)(c:Rat):Prop:=
 Ej false w V o qs/\w.heap.size<=C/\(∀g l c,o=B (some ⟨g,0,none⟩) l c->g≠C)/\∃a l c' s b k d t,JF V C 49 (B a l c') (F s) (B b k d) (F t)/\Jo V (.agg #[B a l c',F s,B b k d,F t]) c
def ES.below{w V V':E}{o:Value}{C:Nat}{qs:U}{c:Rat}(h:ES w V o C qs c)(e:Bl V V'):ES w V' o C qs c:=by
 obtain⟨f,g,i,a,l,c',s,b,k,d,t,j,m⟩:=h;exact⟨f.below e,g,i,a,l,c',s,b,k,d,t,j.below e,m.below e⟩
def Du.put4{r:Bool}{a:Nat}{V:E}{o:Value}{qs:U}(h:Du r a V o qs){C:Nat}{ty:TypeId}{x y z u:Value}(q:JF V C ty x y z u)(M:JA x=true)(N:JA y=true)(P:JA z=true)(Q:JA u=true)(I:∀g l c,o=B (some ⟨g,0,none⟩) l c->g≠C)(e f i d:Value):Du r a (put4 V C e f i d) o qs:=by
 rcases h with h|⟨g,cap,j,b,p,s,t,v,w,A,D⟩
 . exact An h
 . have hg:=I g _ _ b;refine Ar ⟨g,cap,j,b,p,?_,t,v,w,A,D.keep λ_ _ _ K=>Row.put4 K q M N P Q _ _ _ _⟩;have k:=(BH V ⟨C,0,none⟩ e g hg).trans s;have m:=(BH _ ⟨C,1,none⟩ f g hg).trans k;have n:=(BH _ ⟨C,2,none⟩ i g hg).trans m;exact(BH _ ⟨C,3,none⟩ d g hg).trans n
def ES.put{w V:E}{o:Value}{C:Nat}{qs:U}{c c2:Rat}(h:ES w V o C qs c){a:V8}{l c':Nat}{s:Bool}{b:V8}{k d:Nat}{t:Bool}(j:Jo V (.agg #[B a l c',F s,B b k d,F t]) c2):
 ES w (put4 V C (B a l c') (F s) (B b k d) (F t)) o C qs c2:=by
 obtain⟨f,g,i,m,q,c0,r,b0,p,d0,u,e,n⟩:=h;exact⟨⟨f.1.put4 e J J J J i _ _ _ _,Jq f.2 g _ _ _ _⟩,g,i,_,_,_,_,_,_,_,_,e.put _ _ _ _,j.put4 e J J J J _ _ _ _⟩
def ES.new{w V:E}{o:Value}{qs:U}{c:Rat}(h:Ej false w V o qs){a:V8}{l c':Nat}{s:Bool}{b:V8}{k d:Nat}{t:Bool}(m:Jo V (.agg #[B a l c',F s,B b k d,F t]) c):
 ES w (V.alloc (.cells #[B a l c',F s,B b k d,F t] 49)) o V.heap.size qs c:=by
 have i:Bl V (V.alloc (.cells #[B a l c',F s,B b k d,F t] 49)):=Ba V _;refine⟨h.below i,h.2.size,λg l c e=>?_,_,_,_,_,_,_,_,_,JF.new _ _ _ _ _ _,m.below i⟩;rcases h.1 with⟨f,_⟩|⟨p,cap,n,f,q,j,_⟩
 . rw[f]at e;cases e
 . rw[f]at e;cases e;have:=(Ab.1 j).1;omega
def UP(ps qs:U){i:Nat}(h:k<=i):conv ps qs (k+1) i=conv ps qs k i+cf ps k*cf qs (i-k):=by
 show sumN (k+1) _=_;rw[sumN,BR h];rfl
def OM(p q:U)(h:p.length+q.length<=k):∀n,conv p q n k=0:=by
 intro n;induction n with
 |zero=>rfl
 |succ n a=>
  show conv p q n k+(if n<=k then cf p n*cf q (k-n)else 0)=0
  rw[a,Rat.zero_add];split
  . by_cases b:n<p.length
    . rw[JW (p:=q) O,Rat.mul_zero]
    . rw[JW (p:=p) O,Rat.zero_mul]
  . rfl
def UQ{ps qs:U}(h:M3.Fqq ps qs)(n k:Nat):Sq (conv ps qs n k):=by
 have a:=h.2 (n+qs.length) n 0 k;rw[show Yg (YC ps qs (n+qs.length) n) n (cf ps n) qs 0=YC ps qs (n+qs.length) n from J,I5 _ _ _ _ _ (Ar O)]at a;exact a
def UR(ps qs:U)(n:Nat)(h:ps.length+qs.length<=n):Jf (Xr (λi=>conv ps qs (i+1) i) n)=YM ps qs:=Yo λj=>by
 rw[Ik,Ft];split
 . by_cases a:j+1<=ps.length
   . rw[Oz ps qs a]
   . rw[Oy ps qs O]
 . rw[OM ps qs O]
def LX(va vb:Value)(ps qs:List Rat)(w:E)(ha:RowK false w va ps)(hb:RowK false w vb qs)(co:Sqs ps)(cz:Sqs qs)(aj:M3.Fqq ps qs)(ck:ps.length+qs.length<1099511627776):
 Calls Tryz.prog 32 #[va,vb] w λe w'=>∃u,e=.returned u/\RowK false w' u (YM ps qs)/\Bl w w':=by
 obtain⟨a,la,ca,rfl⟩:=ha.form;obtain⟨b,lb,cb,rfl⟩:=hb.form;obtain⟨cg,dt,dw,ef,s,t,aa,bb,ll,cc,kk,dd,hc⟩:=ha.formsF;obtain⟨cj,du,dx,eh,s',t',an,ap,dh,bj,de,bk,bu⟩:=hb.formsF;obtain⟨HA,HB,HP,HQ,Qk,Ql,Qn,en⟩:=Ep hc bu co cz cg cj aj ck;have Qq:=Z λn k=>UQ aj n k;obtain⟨n,hn⟩:=ex (la+lb);have f8:(la:Int)+(lb:Int)=(n:Int):=O
 have f7:n<1099511627776:=O
 have fc:H.wrap (n:Int)=(n:Int):=by rw[Bi];omega
 have HN:=Z hn;have Qr:=Z λ(V:E)=>Gp 0 O O V;clear ha hb co cz aj cg cj hc bu ck hn dt dw du dx ef eh;go_enter func32,ntmps32
 go_wp2;go_loopw [5,6] (λo iv wr=>∃i:Nat,i<=n/\iv=G H (i:Int)/\(∃N P,o=B N i P)/\Hid (Ej false w wr o (Xr (λi=>conv ps qs (i+1) i) i))) λ_ iv _=>n-(intOf iv).toNat
 case atStart=>exact⟨0,AB _,J,⟨_,_,J⟩,Z ⟨Du.nil _ _ _,BF _ _⟩⟩
 case round=>
  obtain⟨i,hi,rfl,⟨N,P,rfl⟩,R⟩:=hrel;by_cases et:i<n
  . have ew:(i:Int)<(n:Int):=O
    obtain⟨ad,ak⟩:=ex (Xr (λi=>conv ps qs (i+1) i) i);rw[ak]at R;have Qg:=Z ak;clear ak;go_upto_region 6 with(go_at_call 62;refine(Qr.o _).mono ?_;rintro e w1 ⟨u1,rfl,Q,v⟩;obtain⟨a0,l0,c0,s0,b0,k0,d0,t0,rfl⟩:=Jo.form Q)
    have hX:=ES.new (R.o.below v) Q;obtain⟨W1,ai⟩:=ex (w1.alloc (.cells #[B a0 l0 c0,F s0,B b0 k0 d0,F t0] 49));obtain⟨C,hC⟩:=ex (w1.heap.size);rw[ai,hC]at hX;rw[ai,hC];have HX:=Z (show ES w W1 (B N i P) C ad 0 from hX);clear hX Q v ai hC R;go_wp2;go_loopw [8] (λkv wr=>∃k:Nat,k<=i+1/\kv=G H (k:Int)/\Hid (ES w wr (B N i P) C ad (conv ps qs k i))) λkv _=>i+1-(intOf kv).toNat
    case atStart=>exact⟨0,AB _,J,HX⟩
    case round=>
     obtain⟨k,hk,rfl,x⟩:=hrel;clear HX;by_cases ed:k<=i
     . have Qe:(k:Int)<=(i:Int):=O
       obtain⟨m,hm⟩:=ex (i-k:Nat);have f6:(i:Int)-(k:Int)=(m:Int):=O
       have f9:H.wrap (m:Int)=(m:Int):=by rw[Bi];omega
       have Qc:=Z (show conv ps qs k i+cf ps k*cf qs m=conv ps qs (k+1) i by rw[UP ps qs ed,hm]);have Qm:=Z (Qq.o k i);clear hm;by_cases eb:k<la
       . have Qi:(k:Int)<(la:Int):=O
         by_cases ei:m<lb
         . have Qd:(m:Int)<(lb:Int):=O
           obtain⟨bz,j,rfl,v,aq,az,bc,bd⟩:=HA.o k eb;obtain⟨ce,l,rfl,U,bf,bg,bh,bi⟩:=HB.o m ei;have Qf:=Z (show ∀V,Bl w V->(V.cell? ⟨j,k*4,none⟩=some (B (aa k) (ll k) (cc k))/\V.cell? ⟨j,k*4+1,none⟩=some (F (s k))/\V.cell? ⟨j,k*4+2,none⟩=some (B (bb k) (kk k) (dd k))/\V.cell? ⟨j,k*4+3,none⟩=some (F (t k)))/\Jo V (.agg #[B (aa k) (ll k) (cc k),F (s k),B (bb k) (kk k) (dd k),F (t k)]) (cf ps k)from λV r=>by
            exact⟨⟨(r.cell (p:=⟨j,_,none⟩) v).trans aq,(r.cell (p:=⟨j,_,none⟩) v).trans az,(r.cell (p:=⟨j,_,none⟩) v).trans bc,(r.cell (p:=⟨j,_,none⟩) v).trans bd⟩,bz.below r⟩)
           have Qh:=Z (show ∀V,Bl w V->(V.cell? ⟨l,m*4,none⟩=some (B (an m) (dh m) (bj m))/\V.cell? ⟨l,m*4+1,none⟩=some (F (s' m))/\V.cell? ⟨l,m*4+2,none⟩=some (B (ap m) (de m) (bk m))/\V.cell? ⟨l,m*4+3,none⟩=some (F (t' m)))/\Jo V (.agg #[B (an m) (dh m) (bj m),F (s' m),B (ap m) (de m) (bk m),F (t' m)]) (cf qs m)from λV r=>by
            exact⟨⟨(r.cell (p:=⟨l,_,none⟩) U).trans bf,(r.cell (p:=⟨l,_,none⟩) U).trans bg,(r.cell (p:=⟨l,_,none⟩) U).trans bh,(r.cell (p:=⟨l,_,none⟩) U).trans bi⟩,ce.below r⟩)
           obtain⟨y,hy⟩:=ex (conv ps qs k i)
           rw[hy]at x Qc Qm;clear bz v aq az bc bd ce U bf bg bh bi hy;go_wp2_with fail
           have Qo:=x.o.below ((BF _ wr).drew);refine Yb Dm [[],[],[],[1,2],[3],[],[],[],[6,7],[5,8],[9],[4,10],[0,11,11],[12,12,0,1,2,3,4,5,6,7,8,9,10,11,12]] V9 DQ
            (λD ah V=>∃(ta tb tc td te tf tg ti tj tk tl tm tn:Value),ah={ tmps:=#[B (some ⟨j,0,none⟩) la ca,B (some ⟨l,0,none⟩) lb cb,undef,undef,B none 0 0,B N i P,G H ↑i,L (some ⟨C,0,none⟩),G H ↑k,G H ↑i,B (some ⟨j,0,none⟩) la ca,G H ↑la,B (some ⟨l,0,none⟩) lb cb,G H ↑lb,G H ↑n,F true,u16,u17,.agg #[B a0 l0 c0,F s0,B b0 k0 d0,F t0],G H ↑k,G H ↑i,F true,u22,u23,G H ↑k,B (some ⟨j,0,none⟩) la ca,G H ↑la,F true,F true,G H ↑i,G H ↑k,G H ↑m,B (some ⟨l,0,none⟩) lb cb,G H ↑lb,F true,F true,ta,tb,tc,td,te,tf,tg,ti,tj,tk,tl,tm,tn,u49,u50,u51,u52,undef,undef],defers:=[] }/\Hid ((D 0=true->D 13=false->Jo V ta y)/\(D 1=true->tb=B (some ⟨j,0,none⟩) la ca)/\(D 2=true->tc=G H (k:Int))/\(D 3=true->td=L (some ⟨j,k*4,none⟩))/\(D 4=true->D 13=false->Jo V te (cf ps k))/\(D 5=true->tf=B (some ⟨l,0,none⟩) lb cb)/\(D 6=true->tg=G H (i:Int))/\(D 7=true->ti=G H (k:Int))/\(D 8=true->tj=G H (m:Int))/\(D 9=true->tk=L (some ⟨l,m*4,none⟩))/\(D 10=true->D 13=false->Jo V tl (cf qs m))/\(D 11=true->D 13=false->Jo V tm (cf ps k*cf qs m))/\(D 12=true->D 13=false->Jo V tn (conv ps qs (k+1) i)))/\Hid ((D 13=false->ES w V (B N i P) C ad y)/\(D 13=true->ES w V (B N i P) C ad (conv ps qs (k+1) i))))
            (E8 ⟨_,_,_,_,_,J,Z DJ,Z ⟨λ_=>Qo,DJ⟩⟩) ?step1 ?fin1
           case step1=>
            rintro D ah V i ds W hi d I ⟨ta,tb,tc,td,te,tf,tg,ti,tj,tk,tl,tm,tn,rfl,c,f⟩;have er:i<14:=(Ax.1 hi).1;obtain rfl|rfl|rfl|rfl|rfl|rfl|rfl|rfl|rfl|rfl|rfl|rfl|rfl|rfl:=FV i O
            all_goals
             simp only[AZ,AR,A0]at hi;subst hi
            . have z:=f.o.1 (DU W I);obtain⟨_,_,_,a5,l5,c5,s5,b5,k5,d5,t5,M,X⟩:=id z;obtain⟨e0,e1,e2,e3⟩:=M.cq;clear d;refine De ?_;exact⟨(Fc c λ_ _=>X),f⟩
            . clear d;refine De ?_;exact⟨(Fw c),f⟩
            . clear d;refine De ?_;exact⟨(GN c),f⟩
            . obtain rfl:=c.o.2.1 (d 1 DJ);obtain rfl:=c.o.2.2.1 (d 2 DJ);clear d;refine De ?_;exact⟨(GO (GN (Fw c))),f⟩
            . have z:=f.o.1 (DU W I);obtain rfl:=c.o.2.2.2.1 (d 3 DJ);obtain⟨⟨e0,e1,e2,e3⟩,hr⟩:=Qf.o V z.1.2;clear d;refine De ?_;exact⟨(IA (GO c) λ_ _=>hr),f⟩
            . clear d;refine De ?_;exact⟨(Ka c),f⟩
            . clear d;refine De ?_;exact⟨(GP c),f⟩
            . clear d;refine De ?_;exact⟨(GQ c),f⟩
            . obtain rfl:=E1 c (d 6 DJ);obtain rfl:=E9 c (d 7 DJ);clear d;refine De ?_;exact⟨(GR (GQ (GP c))),f⟩
            . obtain rfl:=E0 c (d 5 DJ);obtain rfl:=FA c (d 8 DJ);clear d;refine De ?_;exact⟨(GS (GR (Ka c))),f⟩
            . have z:=f.o.1 (DU W I);obtain rfl:=Ee c (d 9 DJ);obtain⟨⟨e0,e1,e2,e3⟩,hr⟩:=Qh.o V z.1.2;clear d;refine De ?_;exact⟨(Ey (GS c) λ_ _=>hr),f⟩
            . have S:D 13=false:=DU W I;have A:=c.o.2.2.2.2.1 (d 4 DJ) S;have T:=GV c (d 10 DJ) S;clear d;have HC:=Z (Nz _ _ (cf ps k) (cf qs m) V A T (HP.o.at k) (HQ.o.at m));clear A T;refine Ju J J λK hK=>?_;go_simp;go_wp2_with(go_at_call 73;refine HC.o.mono ?_;rintro e w5 ⟨v5,rfl,am,q⟩)
              obtain⟨G0,G1,G2,G3,G4,G5,G6,G7,G8,G9,ae,_,dj⟩:=c.o;exact E8 ⟨_,_,_,_,_,J,Z ⟨λh g=>(G0 h g).below q,G1,G2,G3,λh g=>(G4 h g).below q,G5,G6,G7,G8,G9,λh g=>(ae h g).below q,λ_ _=>am,λh g=>(dj h g).below q⟩,Z ⟨λh=>(f.o.1 h).below q,λh=>(f.o.2 h).below q⟩⟩
            . have S:D 13=false:=DU W I;have A:=c.o.1 (d 0 DJ) S;have T:=GW c (d 11 DJ) S;clear d;have HC:=Z (Ny _ _ y (cf ps k*cf qs m) V A T Qm.o (Qn.o.1 k m));rw[Qc.o]at HC;clear A T;refine Ju J J λK hK=>?_;go_simp;go_wp2_with(go_at_call 71;refine HC.o.mono ?_;rintro e w5 ⟨v5,rfl,am,q⟩)
              obtain⟨G0,G1,G2,G3,G4,G5,G6,G7,G8,G9,ae,di,_⟩:=c.o;exact E8 ⟨_,_,_,_,_,J,Z ⟨λh g=>(G0 h g).below q,G1,G2,G3,λh g=>(G4 h g).below q,G5,G6,G7,G8,G9,λh g=>(ae h g).below q,λh g=>(di h g).below q,λ_ _=>am⟩,Z ⟨λh=>(f.o.1 h).below q,λh=>(f.o.2 h).below q⟩⟩
            . have z:=f.o.1 I;have A:=c.o.2.2.2.2.2.2.2.2.2.2.2.2 (d 12 DJ) I;obtain⟨a9,l9,c9,s9,b9,k9,d9,t9,rfl⟩:=Jo.form A;obtain⟨_,_,_,a5,l5,c5,s5,b5,k5,d5,t5,M,X⟩:=id z;obtain⟨e0,e1,e2,e3⟩:=M.cq;obtain⟨f0,f1,f2,f3⟩:=M.fq;clear d;refine De ?_;exact⟨(GT (Fd (Ey (IA (Fc c λ_ h=>by simp at h) λ_ h=>by simp at h) λ_ h=>by simp at h) λ_ h=>by simp at h) λ_ h=>by simp at h),Z ⟨λh=>by simp at h,λ_=>z.put A⟩⟩
           case fin1=>
            rintro D ah V bm ⟨ta,tb,tc,td,te,tf,tg,ti,tj,tk,tl,tm,tn,rfl,c,f⟩;have HO:=Z (f.o.2 (bm 13 DQ));clear c f bm;go_wp2_with fail
            go_roundw
            case rel=>exact⟨k+1,O,by go_num,HO⟩
            case measure=>simp[intOf];omega
         . have Qd:¬(m:Int)<(lb:Int):=O
           have HZ:=Z (show conv ps qs (k+1) i=conv ps qs k i by rw[<-Qc.o,JW (p:=qs) (by have:=Ql.o;omega),Rat.mul_zero,Rat.add_zero]);go_wp2_with fail
           go_roundw
           case rel=>exact⟨k+1,O,by go_num,Z (by rw[HZ.o];exact x.o)⟩
           case measure=>simp[intOf];omega
       . have Qi:¬(k:Int)<(la:Int):=O
         have HZ:=Z (show conv ps qs (k+1) i=conv ps qs k i by rw[<-Qc.o,JW (p:=ps) (by have:=Qk.o;omega),Rat.zero_mul,Rat.add_zero]);go_wp2_with fail
         go_roundw
         case rel=>exact⟨k+1,O,by go_num,Z (by rw[HZ.o];exact x.o)⟩
         case measure=>simp[intOf];omega
     . obtain rfl:k=i+1:=O
       have Qe:¬((i+1:Nat):Int)<=(i:Int):=O
       obtain⟨_,_,_,a5,l5,c5,s5,b5,k5,d5,t5,M,X⟩:=id x.o;obtain⟨e0,e1,e2,e3⟩:=M.cq;obtain⟨v9,w9,bn,cn,dz,bt⟩:=XB false w.heap.size wr _ _ x.o.1.1 X (by rw[<-Qg.o,JG];omega) x.o.1.2.size;dsimp only[ER,Di]at bn;have Qj:=Z cn;have Qp:=Z (bt w.heap.size w (Aa _) x.o.1.2);clear cn dz bt M X;go_wp2_with(at_builtin;refine Bo _ J _ _ 30 30 J _ _ J J _ _ bn ?_)
       obtain⟨a9,c9,e9,_⟩:=Qj.o.form;rw[<-Qg.o,Ay,JG]at e9;go_roundw
       case rel=>exact⟨i+1,O,by go_num,⟨a9,c9,e9⟩,Z ⟨by rw[YJ,Qg.o];exact Qj.o,Qp.o⟩⟩
       case measure=>simp[intOf];omega
  . obtain rfl:i=n:=O
    have HT:=Z (Gq _ _ wr (R.o.1.row (by rw[JG];omega)));rw[UR ps qs i (by have:=HN.o;have:=Qk.o;have:=Ql.o;omega)]at HT;go_wp2_with(go_at_call 23;refine HT.o.mono ?_;clear HT;rintro e w1 ⟨u1,rfl,Q,v⟩;obtain⟨a7,l7,c7,rfl⟩:=Q.form)
    go_ret;exact⟨_,J,Q,Bt R.o.2 v⟩

