import Derived.Test.YtcahejkcdcjjgaaGreatDoorW29
import Derived.Test.YtcahejkcdcjjgaaGreatDoorW26
set_option linter.all false
open Go.Value renaming slice->E,bool->F,int->H,pointer->M,string->B
open Go renaming World->G,Value->N
open Go.IntKind renaming i64->L
set_option maxRecDepth 99999
set_option maxHeartbeats 0
namespace Go.Proofs.YtcahejkcdcjjgaaGreatDoor
open List renaming replicate->Zw
open Proofs.Tryz
open Go.RowKit Go.Shelf
attribute [local go_sem] Oper.semAt_some
section
variable{b:Bool}{S:K}{l:List UInt8}{e k m n p:Nat}{c:Rat}{a:G}
def DR.add2{p q:Rat}(hp:DR k p)(a:DR m q):DR (k+m+1) (p+q):=by
 rw[<-LC];refine DR.divInt ?_ ((hp.1.mul a.2).add (by have:=a.1.mul hp.2;rwa[CW]at this)) ((hp.2.mul a.2).mono O);exact Cd (by have:=p.den_nz;omega) (by have:=q.den_nz;omega)
def Eb.sm(h:Eb c):DR 1 c:=by
 obtain⟨x,y,rfl,a,b,d⟩:=h;exact DR.divInt O (by unfold Sm Y;omega) (by unfold Sm Y;omega)
theorem DR.zero(k:Nat)(a:1<=k):DR k 0:=⟨Sm.zero k,Sm.one k a⟩
def KN(n:Nat)(c:Rat)(i:Nat):cf (Da n [c]) i=if i=n then c else 0:=by
 rw[Ft];by_cases h:n<=i
 . rw[BL h];by_cases a:i=n
   . rw[BL a,a,AX,Yg]
   . rw[BH a,JV si]
 . rw[BH h,BH O]
def PB(h:Eb c):Sqs (Jg (Da n [c])):=Sqs.of λi=>by
 rw[J0,KN];split
 . exact Sq.of h.sm O
 . exact Sq.of (DR.zero 1 O) O
def MC(n:Nat)(c:Rat):(Jg (Da n [c])).length<=n+1:=AK (J3 _) (by simp[Da])
theorem VY(c:Rat)(h:n<S.length):XY (Jg S) (Jg (Da n [c]))=Jg (S.set n (cf S n+c)):=by
 unfold XY;refine Yt λi=>?_;rw[Y5,J0,J0,KN,XS _ _ _ _ h];split
 . rename_i h;rw[h]
 . grind
theorem VZ(c:Rat)(h:n<S.length):EF (Jg S) (Jg (Da n [c]))=Jg (S.set n (cf S n-c)):=by
 unfold EF;refine Yt λi=>?_;rw[Y5,YU,J0,J0,KN,XS _ _ _ _ h];split
 . rename_i h;rw[h];grind
 . grind
def YJ(S:K)(m:Nat):Prop:=S.length=9/\∀i,DR (2*m+1) (cf S i)
def YJ.start:YJ (Zw 9 0) 0:=⟨J,λi=>by rw[J2];exact DR.zero 1 O⟩
def YJ.sqs(h:YJ S m)(a:m<=300):Sqs (Jg S):=Sqs.of λi=>by rw[J0];exact Sq.of (h.2 i) O
def YJ.next(h:YJ S m)(a:Eb c)(d:n<=8)(b:Bool):YJ (S.set n (if b then cf S n-c else cf S n+c)) (m+1):=by
 refine⟨by rw[CM];exact h.1,λi=>?_⟩;rw[XS _ _ _ _ (by rw[h.1];omega)];split
 . cases b
   . exact((h.2 n).add2 a.sm).mono O
   . rw[BL J,Rat.sub_eq_add_neg];exact((h.2 n).add2 a.sm.neg).mono O
 . exact(h.2 i).mono O
def Va{j:Nat}{c d:UInt8}(a:JU l j c=true)(b:JU l j d=true):c=d:=by
 unfold JU at a b;rw[beq_iff_eq]at a b;exact AW (a.symm.trans b)
def MD{f:Nat}{I:Nat}(h:J5 l I=.error e p):EC l (f+1) b I S=.error e p:=by
 rw[EC,h]
def ME{f:Nat}{I:Nat}(h:J5 l I=.ok (c,n) k):EC l (f+1) b I S =
 if JU l (DM l k) 43 then EC l f false (DM l k+1) (S.set n (if b then cf S n-c else cf S n+c))else if JU l (DM l k) 45 then EC l f true (DM l k+1) (S.set n (if b then cf S n-c else cf S n+c))else if DM l k=l.length then .ok (S.set n (if b then cf S n-c else cf S n+c)) (DM l k)else .error 2 (DM l k):=by
 rw[EC,h]
def Vb(l:List UInt8)(i:Nat):(J5 l i).pos:=by
 intro e p h;rw[XR]at h;split at h
 . rename_i b c a;cases h;exact O6 l i _ _ a
 . split at h
   . split at h
     . rename_i b c a;cases h;exact VN _ _ _ _ a
     . cases h
   . cases h
def EA(l:List UInt8):Rd K:=if JU l (DM l 0) 45 then EC l (l.length+1) true (DM l 0+1) (Zw 9 0)else EC l (l.length+1) false (DM l 0) (Zw 9 0)
def KO(r:Rd K):K × Nat × Nat:=match r with|.error e p=>([],e,p)|.ok s _=>(Jg s,0,0)
def KP(h:¬300<l.length):J1 l=KO (EA l):=by
 unfold J1 EA KO;rw[BH h];split<;>(rename_i a;rw[a])
def Et(l:List UInt8)(a:G)(u:N)(e p:Int):Prop:=e=((J1 l).2.1:Int)/\p=((J1 l).2.2:Int)/\RowK false a u (J1 l).1/\(J1 l).1.length<=9/\∀i,DR 601 (cf (J1 l).1 i)
def Et.bad(h:J1 l=([],e,p)):Et l a (E none 0 0) e p:=by
 rw[Et,h];exact⟨J,J,RowK.nil _ _,DJ,λi=>by rw[YZ];exact DR.zero _ O⟩
def Et.ok{u:N}(h:J1 l=(Jg S,0,0))(hs:YJ S m)(c:m<=300)(b:RowK false a u (Jg S)):Et l a u 0 0:=by
 rw[Et,h];exact⟨J,J,b,AK (J3 _) (by rw[hs.1];exact Aa _),λi=>by rw[J0];exact(hs.2 i).mono O⟩
def below_drewN{w W:G}(h:Bl w W)(k:Nat):Bl w (W.drewN k):=h.grown (Ju W k none) h.size (λk e=>by cases e)
def DT.new(w:G)(s:ByteArray):DT (w.alloc (.cells #[B s,H L 0,H L 0,H L 0] 82)) w.heap.size s 0 0 0:=BC w _
def Vc(s:ByteArray)(cg:s.size<=140737488351232)(w:G):
 Calls Tryz.prog 10 #[B s] w λr w'=>∃(u:N) (e p:Int),r=.returned (.tuple #[u,H L e,H L p])/\Et (Jc s) w' u e p/\Bl w w':=by
 by_cases bk:300<s.size
 . have bu:(300:Int)<(s.size:Int):=O
   have HP:=Z (show J1 (Jc s)=([],1,0)by unfold J1;rw[BL (by rw[Jh];exact bk)]);go_enter func10,ntmps10
   go_wp2;exact BA (v:=.tuple #[E none 0 0,H L 1,H L 0]) (by simp[results,results10,go_sem]) J ⟨_,_,_,J,Et.bad HP.o,BB _ _⟩
 . have bu:¬(300:Int)<(s.size:Int):=O
   have hs:s.size<=300:=O
   have HP:=Z (KP (l:=Jc s) (by rw[Jh];exact bk));clear bk cg;have Um:Bl w (w.alloc (.cells #[B s,H L 0,H L 0,H L 0] 82)):=Ba w _;have Uc:=DT.new w s;obtain⟨W0,bi⟩:=ex (w.alloc (.cells #[B s,H L 0,H L 0,H L 0] 82));rw[bi]at Um Uc;obtain⟨R,hR⟩:=ex (w.heap.size);rw[hR]at Uc;obtain⟨o,Up,Uo,Ux⟩:=Dn hR bi Um Uc;obtain⟨b0,bj⟩:∃b,b=(decide ((0:Int)=0)&&JU (Jc s) (DM (Jc s) 0) 45):=⟨_,J⟩;have Ut:=Z (YB R s 0 0 0 45 W0 Uc O hs b0 bj);have HB:=Z (show JU (Jc s) (DM (Jc s) 0) 45=b0 by rw[bj];simp);clear Um Uc bj hR bi;go_enter func10,ntmps10
   go_upto_region 4 with fail
   rw[Up.o,o.o];go_wp2_with(first
    |(go_at_call 45;refine Ut.o.mono ?_;clear Ut;rintro e w1 ⟨rfl,bd,az⟩;have Uq:=Z bd;have Qw:=Z (below_grown Uo.o az (by rw[o.o];exact Aa _));clear bd az))
   go_loopw [6,7,8] (λmv pv _ wr=>∃(b:Bool) (I f m:Nat) (S:List Rat) (a:Zu) (la ca:Nat),mv=F b/\pv=E a la ca/\I<=s.size/\Hid (DT wr R s (I:Int) 0 0)/\Hid (RowK false wr (E a la ca) (Jg S))/\Hid (YJ S m)/\Hid (m<=I/\s.size-I<f/\EC (Jc s) f b I S=EA (Jc s))/\Hid (Bl w wr)) λ_ _ _ wr=>s.size-EX wr R
   case atStart=>
    have Uv:DM (Jc s) 0<=s.size:=by rw[<-Jh];exact Yq O
    refine⟨b0,DM (Jc s) 0+(if b0 then 1 else 0),s.size+1,0,Zw 9 0,none,0,0,J,J,?_,Z Uq.o,Z ?_,Z YJ.start,Z ⟨O,O,?_⟩,Z Qw.o⟩
    . cases hb:b0
      . simpa using Uv
      . have h1:=HB.o;rw[hb]at h1;have h2:=Yc h1;rw[Jh]at h2;simp;omega
    . rw[IM λi=>J2 9 i];exact RowK.nil _ _
    . unfold EA;rw[HB.o,Jh];cases b0<;>rfl
   case round=>
    clear Uq Qw HB Uo Ux Up;obtain⟨b,I,f,m,S,a,la,ca,rfl,rfl,hI,bf,bt,HS,HT,HG⟩:=hrel;have Ur:=Z (VX R s I 0 0 wr bf.o hI hs);go_upto_if 19 with(first
     |(go_at_call 46;refine Ur.o.mono ?_;clear Ur;rintro e w1 ⟨u,c,n,C,rfl,hu,ce,hF,ap,bd,bn,az⟩;have Qo:=Z (bt.o.rd bf.o az);have Qy:=Z bd;have HU:=Z hu;have HF:=Z hF;have Uw:=Z (bn J);have Qw:=Z (below_grown HG.o az (by rw[o.o];exact Aa _));obtain⟨a2,l2,c2,rfl⟩:=hu.form;clear bd hu hF bn az))
    obtain⟨d,bg⟩:=ex (DM (Jc s) C);have Qn:=Z bg;have Qg:d<=s.size:=by rw[<-bg,<-Jh];exact Yq (by rw[Jh];exact ap)
    have D:=Z (show DM (Jc s) d=d by rw[<-bg];exact Gn _ _);clear bg;obtain⟨f,rfl⟩:∃g,f=g+1:=⟨f-1,by have:=HT.o.2.1;omega⟩;have Ui:=Z (HS.o.next HF.o ce b);obtain⟨S2,bh⟩:=ex (S.set n (if b then cf S n-c else cf S n+c));rw[bh]at Ui;have Ul:=Z bh;clear bh;go_cut [7] λpv wx=>∃a3 l3 c3,pv=E a3 l3 c3/\Hid (RowK false wx (E a3 l3 c3) (Jg S2))/\Hid (DT wx R s (C:Int) (Dp (J5 (Jc s) I) 0) (D5 (J5 (Jc s) I) 0 0))/\Hid (Bl w wx)
    case first=>
     cases b with
     |false=>
      have Ub:=Z λ(V:G) (h1:RowK false V (E a la ca) (Jg S)) (h2:RowK false V (E a2 l2 c2) (Jg (Da n [c])))=>L9 _ _ _ _ V h1 h2 (HS.o.sqs (by have:=HT.o.1;omega)) (PB HF.o) ⟨(by have:=J3 S;have:=HS.o.1;omega),(by have:=MC n c;omega)⟩;obtain rfl:S.set n (cf S n+c)=S2:=Ul.o;go_wp2_with(go_at_call 30;refine(Ub.o _ Qo.o HU.o).mono ?_;clear Ub;rintro e w2 ⟨u2,rfl,an,aq⟩;rw[VY c (by rw[HS.o.1];omega)]at an;obtain⟨a3,l3,c3,rfl⟩:=an.form;have Qh:=Z an;have T:=Z (Qy.o.below aq);have Qu:=Z (Bt Qw.o aq);clear an aq)
      go_meet
      case rel=>exact⟨_,_,_,J,Qh,T,Qu⟩
     |true=>
      have Ub:=Z λ(V:G) (h1:RowK false V (E a la ca) (Jg S)) (h2:RowK false V (E a2 l2 c2) (Jg (Da n [c])))=>VK _ _ _ _ V h1 h2 (HS.o.sqs (by have:=HT.o.1;omega)) (PB HF.o) ⟨(by have:=J3 S;have:=HS.o.1;omega),(by have:=MC n c;omega)⟩;obtain rfl:S.set n (cf S n-c)=S2:=Ul.o;go_wp2_with(go_at_call 31;refine(Ub.o _ Qo.o HU.o).mono ?_;clear Ub;rintro e w2 ⟨u2,rfl,an,aq⟩;rw[VZ c (by rw[HS.o.1];omega)]at an;obtain⟨a3,l3,c3,rfl⟩:=an.form;have Qh:=Z an;have T:=Z (Qy.o.below aq);have Qu:=Z (Bt Qw.o aq);clear an aq)
      go_meet
      case rel=>exact⟨_,_,_,J,Qh,T,Qu⟩
    obtain⟨a3,l3,c3,rfl,Qh,T,Qu⟩:=hcut;clear Qo Qy Qw HU;by_cases ah:Dp (J5 (Jc s) I) 0=0
    . obtain⟨_,⟨c0,n0⟩,k,hk⟩:=MB (Vb _ _) ah;obtain⟨rfl,rfl,rfl⟩:=Uw.o c0 n0 k hk;rw[ah,(EY hk 0 0).2]at T;have Qz:=Z (show m<=I/\I<C/\C<=d/\d<=s.size/\s.size-I<f+1 from⟨HT.o.1,(K0 (by rw[Jh];exact hI) hk).1,by rw[<-Qn.o];exact Fv _ _,Qg,HT.o.2.1⟩);have Uf:=Z (ME (f:=f) (b:=b) (S:=S) hk);rw[Qn.o,HT.o.2.2,Ul.o]at Uf;clear ah hk;cases aj:JU (Jc s) d 43 with
      |true=>
       obtain⟨Qr,Qk,Un⟩:=Db aj (show JU (Jc s) d 45=false from Bool.eq_false_iff.2 λh=>absurd (Va aj h) DP) (show EC (Jc s) f false (d+1) S2=EA (Jc s)by rw[Uf.o,BL aj]);have Ua:d+1<=s.size:=by have:=Yc aj;rw[Jh]at this;omega
       clear aj;have t:=Z λ(V:G) (j:DT V R s (C:Int) 0 0)=>XD R s C 0 0 45 V j ap hs;rw[show(decide ((0:Int)=0)&&JU (Jc s) (DM (Jc s) C) 45)=false from by rw[Qn.o];simp[Qk.o],Qn.o]at t;have x:=Z λ(V:G) (j:DT V R s (d:Int) 0 0)=>YB R s d 0 0 43 V j Qg hs true (by rw[D.o];simp[Qr.o]);rw[D.o]at x;go_wp2_with(first
        |(go_at_call 47;refine(t.o _ T.o).mono ?_;clear t;rintro e w3 ⟨rfl,X,y⟩;have Qe:=Z (Qh.o.rd T.o y);have W:=Z X;have Qq:=Z (below_grown Qu.o y (by rw[o.o];exact Aa _));clear X y)
        |(go_at_call 45;refine(x.o _ W.o).mono ?_;clear x;rintro e w4 ⟨rfl,ad,z⟩;have Qf:=Z (Qe.o.rd W.o z);have U:=Z ad;have Qt:=Z (below_grown Qq.o z (by rw[o.o];exact Aa _));clear ad z))
       go_roundw
       case rel=>exact⟨_,d+1,f,m+1,_,_,_,_,J,J,Ua,Z U.o,Z Qf.o,Z Ui.o,Z ⟨by have:=Qz.o;omega,by have:=Qz.o;omega,Un.o⟩,Z Qt.o⟩
       case measure=>
        have e1:=FQ (I:=d+1) U.o;have e2:=FQ bf.o;rw[e1,e2];have:=Qz.o;omega
      |false=>
       have Qr:=Z aj;cases ak:JU (Jc s) d 45 with
       |true=>
        have Qk:=Z ak;have Un:=Z (show EC (Jc s) f true (d+1) S2=EA (Jc s)by rw[Uf.o,BH (show ¬JU (Jc s) d 43=true by rw[aj];decide),BL ak]);have Ua:d+1<=s.size:=by have:=Yc ak;rw[Jh]at this;omega
        clear aj ak;have t:=Z λ(V:G) (j:DT V R s (C:Int) 0 0)=>XD R s C 0 0 45 V j ap hs;rw[show(decide ((0:Int)=0)&&JU (Jc s) (DM (Jc s) C) 45)=true from by rw[Qn.o];simp[Qk.o],Qn.o]at t;have x:=Z λ(V:G) (j:DT V R s (d:Int) 0 0)=>YB R s d 0 0 43 V j Qg hs false (by rw[D.o];simp[Qr.o]);rw[D.o]at x;have P:=Z λ(V:G) (j:DT V R s (d:Int) 0 0)=>YB R s d 0 0 45 V j Qg hs true (by rw[D.o];simp[Qk.o]);rw[D.o]at P;go_wp2_with(first
         |(go_at_call 47;refine(t.o _ T.o).mono ?_;clear t;rintro e w3 ⟨rfl,X,y⟩;have Qe:=Z (Qh.o.rd T.o y);have W:=Z X;have Qq:=Z (below_grown Qu.o y (by rw[o.o];exact Aa _));clear X y)
         |(go_at_call 45;refine(x.o _ W.o).mono ?_;clear x;rintro e w4 ⟨rfl,ad,z⟩;have Qf:=Z (Qe.o.rd W.o z);have U:=Z ad;have Qt:=Z (below_grown Qq.o z (by rw[o.o];exact Aa _));clear ad z)
         |(go_at_call 45;refine(P.o _ U.o).mono ?_;clear P;rintro e w5 ⟨rfl,ai,Q⟩;have Qj:=Z (Qf.o.rd U.o Q);have Qi:=Z ai;have Qv:=Z (below_grown Qt.o Q (by rw[o.o];exact Aa _));clear ai Q))
        go_roundw
        case rel=>exact⟨_,d+1,f,m+1,_,_,_,_,J,J,Ua,Z Qi.o,Z Qj.o,Z Ui.o,Z ⟨by have:=Qz.o;omega,by have:=Qz.o;omega,Un.o⟩,Z Qv.o⟩
        case measure=>
         have e1:=FQ (I:=d+1) Qi.o;have e2:=FQ bf.o;rw[e1,e2];have:=Qz.o;omega
       |false=>
        have Qk:=Z ak;by_cases bm:d<s.size
        . have Qm:=Z (show J1 (Jc s)=([],2,d)by rw[HP.o,Uf.o,BH (show ¬JU (Jc s) d 43=true by rw[aj];decide),BH (show ¬JU (Jc s) d 45=true by rw[ak];decide),BH (by rw[Jh];omega)];rfl);clear aj ak;have t:=Z λ(V:G) (j:DT V R s (C:Int) 0 0)=>XD R s C 0 0 45 V j ap hs;rw[show(decide ((0:Int)=0)&&JU (Jc s) (DM (Jc s) C) 45)=false from by rw[Qn.o];simp[Qk.o],Qn.o]at t;have x:=Z λ(V:G) (j:DT V R s (d:Int) 0 0)=>YB R s d 0 0 43 V j Qg hs false (by rw[D.o];simp[Qr.o]);rw[D.o]at x;have P:=Z λ(V:G) (j:DT V R s (d:Int) 0 0)=>YB R s d 0 0 45 V j Qg hs false (by rw[D.o];simp[Qk.o]);rw[D.o]at P;have H8:=Z λ(V:G) (j:DT V R s (d:Int) 0 0)=>XD R s d 0 0 32 V j Qg hs;rw[D.o]at H8;have Ug:=Z λ(V:G) (j:DT V R s (d:Int) 0 0)=>IC R s (d:Int) 0 0 2 (d:Int) V j;have bz:(d:Int)<(s.size:Int):=O
          go_wp2_with(first
           |(go_at_call 47;refine(t.o _ T.o).mono ?_;clear t;rintro e w3 ⟨rfl,X,y⟩;have Qe:=Z (Qh.o.rd T.o y);have W:=Z X;have Qq:=Z (below_grown Qu.o y (by rw[o.o];exact Aa _));clear X y)
           |(go_at_call 45;refine(x.o _ W.o).mono ?_;clear x;rintro e w4 ⟨rfl,ad,z⟩;have Qf:=Z (Qe.o.rd W.o z);have U:=Z ad;have Qt:=Z (below_grown Qq.o z (by rw[o.o];exact Aa _));clear ad z)
           |(go_at_call 45;refine(P.o _ U.o).mono ?_;clear P;rintro e w5 ⟨rfl,ai,Q⟩;have Qj:=Z (Qf.o.rd U.o Q);have Qi:=Z ai;have Qv:=Z (below_grown Qt.o Q (by rw[o.o];exact Aa _));clear ai Q)
           |(go_at_call 47;refine(H8.o _ Qi.o).mono ?_;clear H8;rintro e w6 ⟨rfl,A,ae⟩;have Ql:=Z (Qj.o.rd Qi.o ae);have Qp:=Z A;have Ud:=A.c1;have Uh:=A.c2;have Ue:=A.c3;have Qx:=Z (below_grown Qv.o ae (by rw[o.o];exact Aa _));clear A ae)
           |(go_at_call 48;refine(Ug.o _ Qp.o).mono ?_;clear Ug;rintro e w7 ⟨rfl,ay,bc⟩;clear Ud Uh Ue;have Us:w7.cell? ⟨R,2,none⟩=some (H L 2):=ay.c2;have Uu:w7.cell? ⟨R,3,none⟩=some (H L (d:Int)):=ay.c3;have Uk:=Z (below_grown Qx.o bc (by rw[o.o];exact Aa _));clear ay bc))
          go_quiet (fail)
          go_wp2_with fail
          exact BA (v:=.tuple #[E none 0 0,H L 2,H L (d:Int)]) (by simp[results,results10,go_sem]) J ⟨_,_,_,J,Et.bad (e:=2) Qm.o,below_drewN Uk.o _⟩
        . have Qm:=Z (show J1 (Jc s)=(Jg S2,0,0)by rw[HP.o,Uf.o,BH (show ¬JU (Jc s) d 43=true by rw[aj];decide),BH (show ¬JU (Jc s) d 45=true by rw[ak];decide),BL (by rw[Jh];omega)];rfl);clear aj ak;have t:=Z λ(V:G) (j:DT V R s (C:Int) 0 0)=>XD R s C 0 0 45 V j ap hs;rw[show(decide ((0:Int)=0)&&JU (Jc s) (DM (Jc s) C) 45)=false from by rw[Qn.o];simp[Qk.o],Qn.o]at t;have x:=Z λ(V:G) (j:DT V R s (d:Int) 0 0)=>YB R s d 0 0 43 V j Qg hs false (by rw[D.o];simp[Qr.o]);rw[D.o]at x;have P:=Z λ(V:G) (j:DT V R s (d:Int) 0 0)=>YB R s d 0 0 45 V j Qg hs false (by rw[D.o];simp[Qk.o]);rw[D.o]at P;have H8:=Z λ(V:G) (j:DT V R s (d:Int) 0 0)=>XD R s d 0 0 32 V j Qg hs;rw[D.o]at H8;have Uy:decide (d<s.size)=false:=BF bm;go_wp2_with(first
           |(go_at_call 47;refine(t.o _ T.o).mono ?_;clear t;rintro e w3 ⟨rfl,X,y⟩;have Qe:=Z (Qh.o.rd T.o y);have W:=Z X;have Qq:=Z (below_grown Qu.o y (by rw[o.o];exact Aa _));clear X y)
           |(go_at_call 45;refine(x.o _ W.o).mono ?_;clear x;rintro e w4 ⟨rfl,ad,z⟩;have Qf:=Z (Qe.o.rd W.o z);have U:=Z ad;have Qt:=Z (below_grown Qq.o z (by rw[o.o];exact Aa _));clear ad z)
           |(go_at_call 45;refine(P.o _ U.o).mono ?_;clear P;rintro e w5 ⟨rfl,ai,Q⟩;have Qj:=Z (Qf.o.rd U.o Q);have Qi:=Z ai;have Qv:=Z (below_grown Qt.o Q (by rw[o.o];exact Aa _));clear ai Q)
           |(go_at_call 47;refine(H8.o _ Qi.o).mono ?_;clear H8;rintro e w6 ⟨rfl,A,ae⟩;have Ql:=Z (Qj.o.rd Qi.o ae);have Qp:=Z A;have Ud:=A.c1;have Uh:=A.c2;have Ue:=A.c3;have Qx:=Z (below_grown Qv.o ae (by rw[o.o];exact Aa _));clear A ae))
          exact BA (v:=.tuple #[E a3 l3 c3,H L 0,H L 0]) (by simp[results,results10,go_sem]) J ⟨_,_,_,J,Et.ok Qm.o Ui.o (by have:=Qz.o;omega) Ql.o,Qx.o⟩
    . obtain⟨q,hE⟩:=ex (Dp (J5 (Jc s) I) 0);obtain⟨K,hA⟩:=ex (D5 (J5 (Jc s) I) 0 0);have Qs:∃e p:Nat,J5 (Jc s) I=.error e p:=by
       cases hk:J5 (Jc s) I with
       |error e p=>exact⟨e,p,J⟩
       |ok a k=>exact absurd (EY hk 0 0).1 ah
      obtain⟨e0,p0,Qs⟩:=Qs;have Uj:=Z (show q=(e0:Int)/\K=(p0:Int)by rw[<-hE,<-hA,Qs];exact⟨J,J⟩);have Qm:=Z (show J1 (Jc s)=([],e0,p0)by rw[HP.o,<-HT.o.2.2,MD Qs];rfl);rw[hE,hA]at T;rw[hE]at ah;have cj:(q==0)=false:=by rw[BG];exact ah
      clear hE hA Qs;by_cases bm:d<s.size
      . skip
        have t:=Z λ(V:G) (j:DT V R s (C:Int) q K)=>XD R s C q K 45 V j ap hs;rw[show(decide ((q:Int)=0)&&JU (Jc s) (DM (Jc s) C) 45)=false from by simp[ah],Qn.o]at t;have x:=Z λ(V:G) (j:DT V R s (d:Int) q K)=>YB R s d q K 43 V j Qg hs false (by simp[ah]);rw[D.o]at x;have P:=Z λ(V:G) (j:DT V R s (d:Int) q K)=>YB R s d q K 45 V j Qg hs false (by simp[ah]);rw[D.o]at P;have H8:=Z λ(V:G) (j:DT V R s (d:Int) q K)=>XD R s d q K 32 V j Qg hs;rw[D.o]at H8;have Ug:=Z λ(V:G) (j:DT V R s (d:Int) q K)=>IC R s (d:Int) q K 2 (d:Int) V j;have bz:(d:Int)<(s.size:Int):=O
        go_wp2_with(first
         |(go_at_call 47;refine(t.o _ T.o).mono ?_;clear t;rintro e w3 ⟨rfl,X,y⟩;have Qe:=Z (Qh.o.rd T.o y);have W:=Z X;have Qq:=Z (below_grown Qu.o y (by rw[o.o];exact Aa _));clear X y)
         |(go_at_call 45;refine(x.o _ W.o).mono ?_;clear x;rintro e w4 ⟨rfl,ad,z⟩;have Qf:=Z (Qe.o.rd W.o z);have U:=Z ad;have Qt:=Z (below_grown Qq.o z (by rw[o.o];exact Aa _));clear ad z)
         |(go_at_call 45;refine(P.o _ U.o).mono ?_;clear P;rintro e w5 ⟨rfl,ai,Q⟩;have Qj:=Z (Qf.o.rd U.o Q);have Qi:=Z ai;have Qv:=Z (below_grown Qt.o Q (by rw[o.o];exact Aa _));clear ai Q)
         |(go_at_call 47;refine(H8.o _ Qi.o).mono ?_;clear H8;rintro e w6 ⟨rfl,A,ae⟩;have Ql:=Z (Qj.o.rd Qi.o ae);have Qp:=Z A;have Ud:=A.c1;have Uh:=A.c2;have Ue:=A.c3;have Qx:=Z (below_grown Qv.o ae (by rw[o.o];exact Aa _));clear A ae)
         |(go_at_call 48;refine(Ug.o _ Qp.o).mono ?_;clear Ug;rintro e w7 ⟨rfl,ay,bc⟩;clear Ud Uh Ue;have Us:=ay.c2;have Uu:=ay.c3;rw[BH ah]at Us;rw[BH ah]at Uu;have Uk:=Z (below_grown Qx.o bc (by rw[o.o];exact Aa _));clear ay bc))
        go_quiet (fail)
        go_wp2_with fail
        exact BA (v:=.tuple #[E none 0 0,H L q,H L K]) (by simp[results,results10,go_sem]) J ⟨_,_,_,J,by rw[Uj.o.1,Uj.o.2];exact Et.bad Qm.o,below_drewN Uk.o _⟩
      . skip
        have t:=Z λ(V:G) (j:DT V R s (C:Int) q K)=>XD R s C q K 45 V j ap hs;rw[show(decide ((q:Int)=0)&&JU (Jc s) (DM (Jc s) C) 45)=false from by simp[ah],Qn.o]at t;have x:=Z λ(V:G) (j:DT V R s (d:Int) q K)=>YB R s d q K 43 V j Qg hs false (by simp[ah]);rw[D.o]at x;have P:=Z λ(V:G) (j:DT V R s (d:Int) q K)=>YB R s d q K 45 V j Qg hs false (by simp[ah]);rw[D.o]at P;have H8:=Z λ(V:G) (j:DT V R s (d:Int) q K)=>XD R s d q K 32 V j Qg hs;rw[D.o]at H8;have Uy:decide (d<s.size)=false:=BF bm;go_wp2_with(first
         |(go_at_call 47;refine(t.o _ T.o).mono ?_;clear t;rintro e w3 ⟨rfl,X,y⟩;have Qe:=Z (Qh.o.rd T.o y);have W:=Z X;have Qq:=Z (below_grown Qu.o y (by rw[o.o];exact Aa _));clear X y)
         |(go_at_call 45;refine(x.o _ W.o).mono ?_;clear x;rintro e w4 ⟨rfl,ad,z⟩;have Qf:=Z (Qe.o.rd W.o z);have U:=Z ad;have Qt:=Z (below_grown Qq.o z (by rw[o.o];exact Aa _));clear ad z)
         |(go_at_call 45;refine(P.o _ U.o).mono ?_;clear P;rintro e w5 ⟨rfl,ai,Q⟩;have Qj:=Z (Qf.o.rd U.o Q);have Qi:=Z ai;have Qv:=Z (below_grown Qt.o Q (by rw[o.o];exact Aa _));clear ai Q)
         |(go_at_call 47;refine(H8.o _ Qi.o).mono ?_;clear H8;rintro e w6 ⟨rfl,A,ae⟩;have Ql:=Z (Qj.o.rd Qi.o ae);have Qp:=Z A;have Ud:=A.c1;have Uh:=A.c2;have Ue:=A.c3;have Qx:=Z (below_grown Qv.o ae (by rw[o.o];exact Aa _));clear A ae))
        go_quiet (fail)
        go_wp2_with fail
        exact BA (v:=.tuple #[E none 0 0,H L q,H L K]) (by simp[results,results10,go_sem]) J ⟨_,_,_,J,by rw[Uj.o.1,Uj.o.2];exact Et.bad Qm.o,below_drewN Qx.o _⟩
def DW(W:G)(R:Nat)(s:ByteArray)(I:Int):Prop:=W.heap[R]?=some (.cells #[B s,.int L I] 124 (0,0))
section
variable {W W':World} {R:Nat} {s:ByteArray} {I:Int}
def DW.lt(h:DW W R s I):R<W.heap.size:=(Ab.1 h).1
def DW.c0(h:DW W R s I):W.cell? ⟨R,0,none⟩=some (B s):=by simp[World.cell?,show W.heap[R]?=_ from h]
def DW.c1(h:DW W R s I):W.cell? ⟨R,1,none⟩=some (H L I):=by simp[World.cell?,show W.heap[R]?=_ from h]
def DW.cp(h:DW W R s I):type_of% (And.intro h.c0 h.c1):=⟨h.c0,h.c1⟩
def DW.f(h:DW W R s I)(o:Nat):W.frozen? ⟨R,o,none⟩=false:=by simp[World.frozen?,show W.heap[R]?=_ from h]
def DW.below(h:DW W R s I)(a:Bl W W'):DW W' R s I:=(a.block R h.lt).trans h
def DW.set1(h:DW W R s I)(x:Int):DW (W.setCell ⟨R,1,none⟩ (H L x)) R s x:=by
 have:=JJ (o:=1) h (H L x);exact this
def DW.drewN(h:DW W R s I)(n:Nat):DW (W.drewN n) R s I:=h
theorem Fm(h:DW W R s I){cs:Array N}{t:TypeId}{m:Nat × Nat}{b:Nat}(a:W.heap[b]?=some (.cells cs t m))(c:t≠124):b≠R:=by
 intro e;subst e;have:=a.symm.trans h;grind
theorem MF(h:DW W R s I)(hg:W.grownBy W' (some R)):∀k v ds,Row k W v ds->Row k W' v ds:=by
 intro k v ds c;obtain⟨a,cap,e,_⟩:=id c;subst e;refine c.grown hg λp f hl=>?_;obtain⟨b,i,d,cs,m,g⟩:=c.typ hl;grind[Fm]
end
def GH{W:G}{R:Nat}{s:ByteArray}{I:Nat}(h:DW W R s I):EX W R=I:=by
 unfold EX;rw[h.c1];simp[intOf]
def PC(c:UInt8)(w:G):Calls Tryz.prog 181 #[H .u8 (c.toNat:Int)] w λr e=>r=.returned (F (DS c))/\e=w:=by
 by_cases b:48<=c.toNat
 . have f:decide ((48:Int)<=(c.toNat:Int))=true:=BI O;by_cases d:c.toNat<=57
   . have a:=Z (show DS c=true by simp[DS,b,d]);go_enter func181,ntmps181
     go_wp2;go_ret;exact⟨by rw[a.o];simp;omega,J⟩
   . have a:=Z (show DS c=false by simp[DS,d]);go_enter func181,ntmps181
     go_wp2;go_ret;exact⟨by rw[a.o];simp;omega,J⟩
 . have a:=Z (show DS c=false by simp[DS,b]);go_enter func181,ntmps181
   go_wp2;go_ret;exact⟨by rw[a.o];rfl,J⟩
def MG(R:Nat)(s:ByteArray)(I:Nat)(w:G)(h:DW w R s I)(z:I<=s.size)(hs:s.size<=300):
 Calls Tryz.prog 122 #[M (some ⟨R,0,none⟩)] w λr q=>r=.returned (F (decide (DM (Jc s) I=s.size)))/\DW q R s (DM (Jc s) I:Nat)/\w.grownBy q (some R):=by
 have t:=Z h;clear h;go_enter func122,ntmps122
 go_wp2;go_loopw [] (λwr=>∃j:Nat,I<=j/\j<=s.size/\Hid (DW wr R s j/\w.grownBy wr (some R)/\∀k (c:k<s.size),I<=k->k<j->s[k]=32)) λwr=>s.size-EX wr R
 case atStart=>exact⟨I,Aa _,z,Z ⟨t.o,Ym _ _,λk _ n o=>by omega⟩⟩
 case round=>
  obtain⟨j,n,o,a⟩:=hrel;obtain⟨c0,c1⟩:=a.o.1.cp;have f1:=a.o.1.f 1;by_cases C:j<s.size
  . have S:(j:Int)<(s.size:Int):=O
    have Q:(0:Int)<=(j:Int):=O
    by_cases b:s[j]=32
    . have A:((s[j].toNat:Int)==32)=true:=by rw[b];rfl
      have y:=Z b;clear b;go_wp2_with fail
      go_quiet (fail)
      go_wp2;go_roundw
      case rel=>
       refine⟨j+1,O,O,Z ⟨?_,Je (Je a.o.2.1 (Ju _ _ _)) (Jy _ R 1 _),λk c g i=>?_⟩⟩
       . have:=(a.o.1.drewN nq).set1 ((j:Int)+1);rw[show((j:Int)+1)=((j+1:Nat):Int)from by omega]at this;exact this
       . by_cases e:k=j
         . subst e;exact y.o
         . exact a.o.2.2 k c g O
      case measure=>
       have D:=GH a.o.1;have K:EX ((wr.drewN nq).setCell ⟨R,1,none⟩ (H L ((j:Int)+1))) R=j+1:=by
        have:=(a.o.1.drewN nq).set1 ((j:Int)+1);rw[show((j:Int)+1)=((j+1:Nat):Int)from by omega]at this ⊢;exact GH this
       omega
    . have A:((s[j].toNat:Int)==32)=false:=KK (d:=32) b;have f:=Z (show DM (Jc s) I=j from KL n o (λk c g i=>by rw[a.o.2.2 k c g i];rfl) λ_=>BG.2 b);have u:¬j=s.size:=O
      have x:((j:Int)==(s.size:Int))=false:=DY
      clear b;go_wp2_with fail
      go_quiet (fail)
      go_wp2;have m:=Z (show w.grownBy (wr.drewN nq) (some R)from Je a.o.2.1 (Ju _ _ _));have l:=Z (a.o.1.drewN nq);go_quiet (fail)
      go_wp2;go_ret;exact⟨by rw[f.o];simp[u],by rw[f.o];exact l.o.drewN _,Je m.o (Ju _ _ _)⟩
  . have p:j=s.size:=O
    have P:=BF O;have f:=Z (show DM (Jc s) I=j from KL n o (λk c g i=>by rw[a.o.2.2 k c g i];rfl) λh=>by omega);have x:((j:Int)==(s.size:Int))=true:=DY
    have v:=Z p;clear C p;go_wp2_with fail
    go_quiet (fail)
    go_wp2;have m:=Z (show w.grownBy (wr.drewN nq) (some R)from Je a.o.2.1 (Ju _ _ _));have l:=Z (a.o.1.drewN nq);go_quiet (fail)
    go_wp2;go_ret;exact⟨by rw[f.o];simp[v.o],by rw[f.o];exact l.o.drewN _,Je m.o (Ju _ _ _)⟩
end
def E0(e p:Int):N:=.iface 77 (.agg #[.int L e,.int L p])
def ID(v:N)(e p:Int)(w:G):Calls Tryz.prog 123 #[v,H L e,H L p] w λr a=>r=.panicked [{ v:=E0 e p,recovered:=false }]/\a=w:=by
 go_enter func123,ntmps123
 go_wp2;exact⟨J,J,J⟩
section
open M3
def EQ(w V:G)(R:Nat)(s:ByteArray)(I:Int):Prop:=DW V R s I/\w.grownBy V (some R)
def EQ.below{w V V':G}{R:Nat}{s:ByteArray}{I:Int}(h:EQ w V R s I)(a:Bl V V'):EQ w V' R s I:=⟨h.1.below a,Je h.2 (JN a _)⟩
variable{j:Nat}
theorem Fo(R:Nat)(s:ByteArray)(I:Nat)(c:UInt8)(w:G)(h:DW w R s I)(y:I<=s.size)(hs:s.size<=300)(b:Bool)(i:b=JU (Jc s) (DM (Jc s) I) c):
 Calls Tryz.prog 120 #[M (some ⟨R,0,none⟩),H .u8 (c.toNat:Int)] w λr u=>r=.returned (F b)/\DW u R s ((DM (Jc s) I+(if b then 1 else 0):Nat):Int)/\w.grownBy u (some R):=by
 have d:=Z λ(V:G) (z:DW V R s I)=>MG R s I V z y hs;obtain⟨j,q⟩:=ex (DM (Jc s) I);have A:j<=s.size:=by grind[Jh,Yq]
 rw[q]at d i ⊢;have n:=Z h;clear h q;by_cases l:j=s.size
 . obtain rfl:b=false:=by rw[i];exact O2 O
   rw[show decide (j=s.size)=true from BI l]at d;clear i l;go_enter func120,ntmps120
   go_wp2_with fail
   have m:EQ w w.drew R s I:=⟨n.o,J,J,J,Aa _,λ_ _ _=>rfl⟩;refine Es Di [[],[0],[1],[1,2],[1,2,3],[1,2,4],[1,2,5],[1,2],[1,2,7],[1,2,8],[1,2,9],[1,2,6,10],[1,2],[1,2,11,12],[1,2,13]] [.eq (M (some ⟨R,0,none⟩)),.eq (F true),.eq (F true),.any,.any,.any,.any,.any,.any,.any,.any,.any,.any,.any,.eq (F true)] [1] (λb _ V=>EQ w V R s (if b.getD 0 false then(j:Int)else I)) m (No (.vl J λ_ _=>mv)<|No (.cw λh k=>c1 (h.e 0) ((d.o _ k.1).mono λ_ _ ⟨e,r,g⟩=>⟨_,e,J,I8,r,Je k.2 g⟩))<|No (.vl J λh _=>mw (h.g 1))<|No (.no J λh=>Yy 2 false h)<|No (.no J λh=>Yy 2 false h)<|No (.no J λh=>Yy 2 false h)<|No (.no J λh=>Yy 2 false h)<|No (.no J λh=>Yy 2 false h)<|No (.no J λh=>Yy 2 false h)<|No (.no J λh=>Yy 2 false h)<|No (.no J λh=>Yy 2 false h)<|No (.no J λh=>Yy 2 false h)<|No (.no J λh=>Yy 2 false h)<|No (.no J λh=>Yy 2 false h)<|No (.vl J λh _=>⟨_,by refine DX ?_;rw[h.e 2];go_simp,J⟩) Stp.end_)
    λf V hF a=>?_
   refine DX ?_;have a:EQ w V R s (j:Int):=a;rw[hF.e 0,hF.e 1,hF.e 2,hF.e 14];replace a:=Z a;clear hF;go_wp2_with fail
   go_ret;exact⟨J,a.o.1,a.o.2⟩
 . have v:j<s.size:=O
   have C:(j:Int)<(s.size:Int):=O
   rw[show decide (j=s.size)=false from BF l]at d;rw[O1 v]at i;obtain⟨nb,t⟩:=ex (((s[j].toNat:Int) != (c.toNat:Int)));have o:=Z (show nb=!b by
    grind[KK])
   have x:=Z t;clear i l t;go_enter func120,ntmps120
   go_wp2_with fail
   have m:EQ w w.drew R s I:=⟨n.o,J,J,J,Aa _,λ_ _ _=>rfl⟩;refine Es Di [[],[0],[1],[1,2],[1,2,3],[1,2,4],[1,2,5],[1,2],[1,2,7],[1,2,8],[1,2,9],[1,2,6,10],[1,2],[1,2,11,12],[1,2,13]] [.eq (M (some ⟨R,0,none⟩)),.eq (F false),.eq (F false),.eq (M (some ⟨R,0,none⟩)),.eq (M (some ⟨R,0,none⟩)),.eq (M (some ⟨R,0,none⟩)),.eq (B s),.eq (M (some ⟨R,0,none⟩)),.eq (M (some ⟨R,0,none⟩)),.eq (M (some ⟨R,1,none⟩)),.eq (H L (j:Int)),.eq (H .u8 (s[j].toNat:Int)),.eq (H .u8 (c.toNat:Int)),.eq (F nb),.eq (F nb)] [1] (λb _ V=>EQ w V R s (if b.getD 0 false then(j:Int)else I)) m (No (.vl J λ_ _=>mv)<|No (.cw λh k=>c1 (h.e 0) ((d.o _ k.1).mono λ_ _ ⟨e,r,g⟩=>⟨_,e,J,I8,r,Je k.2 g⟩))<|No (.vl J λh _=>mw (h.g 1))<|No (.vl J (λ_ _=>mv) (hg:=λh=>Yy 2 false h))<|No (.vl J (λh _=>⟨_,by refine DX ?_;rw[h.e 3];go_simp,J⟩) (hg:=λh=>Yy 2 false h))<|No (.vl J (λh _=>⟨_,by refine DX ?_;rw[h.e 4];go_simp,J⟩) (hg:=λh=>Yy 2 false h))<|No (.vl J (λh k=>⟨_,by have p:=k.1.c0;refine DX ?_;rw[h.e 5];go_simp,J⟩) (hg:=λh=>Yy 2 false h))<|No (.vl J (λ_ _=>mv) (hg:=λh=>Yy 2 false h))<|No (.vl J (λh _=>⟨_,by refine DX ?_;rw[h.e 7];go_simp,J⟩) (hg:=λh=>Yy 2 false h))<|No (.vl J (λh _=>⟨_,by refine DX ?_;rw[h.e 8];go_simp,J⟩) (hg:=λh=>Yy 2 false h))<|No (.vl J (λh k=>⟨_,by have p:=DW.c1 (I:=(j:Int)) k.1;refine DX ?_;rw[h.e 9];go_simp,J⟩) (hg:=λh=>Yy 2 false h))<|No (.vl J (λh _=>⟨_,by refine DX ?_;rw[h.e 6,h.e 10];go_simp,J⟩) (hg:=λh=>Yy 2 false h))<|No (.vl J (λ_ _=>mv) (hg:=λh=>Yy 2 false h))<|No (.vl J (λh _=>⟨_,by have p:=x.o;refine DX ?_;rw[h.e 11,h.e 12];go_simp,J⟩) (hg:=λh=>Yy 2 false h))<|No (.vl J λh _=>⟨_,by refine DX ?_;rw[h.e 2,h.e 13];go_simp,J⟩) Stp.end_)
    λf V hF a=>?_
   refine DX ?_;have a:EQ w V R s (j:Int):=a;rw[hF.e 0,hF.e 1,hF.e 2,hF.e 3,hF.e 4,hF.e 5,hF.e 6,hF.e 7,hF.e 8,hF.e 9,hF.e 10,hF.e 11,hF.e 12,hF.e 13,hF.e 14];replace a:=Z a;clear hF;have c1:=a.o.1.c1;have f1:=a.o.1.f 1;cases b with
   |true=>
    obtain rfl:nb=false:=o.o;go_wp2_with fail
    go_ret;exact⟨J,a.o.1.set1 _,Je a.o.2 (Jy _ R 1 _)⟩
   |false=>
    obtain rfl:nb=true:=o.o;go_wp2_with fail
    go_ret;exact⟨J,a.o.1,a.o.2⟩
def Vd(c:UInt8)(w:G):Calls Tryz.prog 181 #[H .u8 (c.toNat:Int)] w λr a=>r=.returned (F (DS c))/\Bl w a:=by
 refine(PC c w).mono ?_;rintro e a ⟨rfl,rfl⟩;exact⟨J,BB _ _⟩
def PD{s:ByteArray}(a:j<s.size):El (Jc s) j=DS s[j]:=by
 unfold El;rw[Aq (by rw[Jh];exact a)];rfl
theorem PE{s:ByteArray}(a:s.size<=j):El (Jc s) j=false:=by
 grind[El,Jh]
theorem PF(R:Nat)(s:ByteArray)(I:Nat)(w:G)(h:DW w R s I)(u:I<=s.size)(hs:s.size<=300):
 Calls Tryz.prog 154 #[M (some ⟨R,0,none⟩)] w λr p=>r=.returned (F (El (Jc s) (DM (Jc s) I)))/\DW p R s (DM (Jc s) I:Nat)/\w.grownBy p (some R):=by
 have c:=Z λ(V:G) (v:DW V R s I)=>MG R s I V v u hs;obtain⟨j,o⟩:=ex (DM (Jc s) I);have x:j<=s.size:=by grind[Jh,Yq]
 rw[o]at c ⊢;have l:=Z h;clear h o;by_cases d:j=s.size
 . rw[PE (by omega:s.size<=j)];rw[show decide (j=s.size)=true from BI d]at c;clear d;go_enter func154,ntmps154
   go_wp2_with fail
   have i:EQ w w.drew R s I:=⟨l.o,J,J,J,Aa _,λ_ _ _=>rfl⟩;refine Es Di [[],[0],[1],[1,2],[1,3],[1,3,4],[1,3,5],[1,3,6],[1,3],[1,3,8],[1,3,9],[1,3,10],[1,3,7,11],[1,3,12],[1,3,13],[1,14]] [.eq (M (some ⟨R,0,none⟩)),.eq (F true),.eq (F false),.eq (F false),.any,.any,.any,.any,.any,.any,.any,.any,.any,.any,.eq (F false),.eq (F false)] [1] (λb _ V=>EQ w V R s (if b.getD 0 false then(j:Int)else I)) i (No (.vl J λ_ _=>mv)<|No (.cw λh k=>c1 (h.e 0) ((c.o _ k.1).mono λ_ _ ⟨e,r,g⟩=>⟨_,e,J,I8,r,Je k.2 g⟩))<|No (.vl J λh _=>⟨_,by refine DX ?_;rw[h.e 1];go_simp,J⟩)<|No (.vl J λh _=>mw (h.g 2))<|No (.no J λh=>Yy 3 true h)<|No (.no J λh=>Yy 3 true h)<|No (.no J λh=>Yy 3 true h)<|No (.no J λh=>Yy 3 true h)<|No (.no J λh=>Yy 3 true h)<|No (.no J λh=>Yy 3 true h)<|No (.no J λh=>Yy 3 true h)<|No (.no J λh=>Yy 3 true h)<|No (.no J λh=>Yy 3 true h)<|No (.no J λh=>Yy 3 true h)<|No (.vl J λh _=>⟨_,by refine DX ?_;rw[h.e 3];go_simp,J⟩)<|No (.vl J λh _=>aw (h.g 14)) Stp.end_)
    λf V hF a=>?_
   refine DX ?_;have a:EQ w V R s (j:Int):=a;rw[hF.e 0,hF.e 1,hF.e 2,hF.e 3,hF.e 14,hF.e 15];replace a:=Z a;clear hF;go_wp2_with fail
   go_ret;exact⟨J,a.o.1,a.o.2⟩
 . have q:j<s.size:=O
   have y:(j:Int)<(s.size:Int):=O
   rw[show decide (j=s.size)=false from BF d]at c;rw[PD q];have m:=Z λ(V:G)=>Vd s[j] V;obtain⟨dg,n⟩:=ex (DS s[j]);rw[n]at m ⊢;clear d n;go_enter func154,ntmps154
   go_wp2_with fail
   have i:EQ w w.drew R s I:=⟨l.o,J,J,J,Aa _,λ_ _ _=>rfl⟩;refine Es Di [[],[0],[1],[1,2],[1,3],[1,3,4],[1,3,5],[1,3,6],[1,3],[1,3,8],[1,3,9],[1,3,10],[1,3,7,11],[1,3,12],[1,3,13],[1,14]] [.eq (M (some ⟨R,0,none⟩)),.eq (F false),.eq (F true),.eq (F true),.eq (M (some ⟨R,0,none⟩)),.eq (M (some ⟨R,0,none⟩)),.eq (M (some ⟨R,0,none⟩)),.eq (B s),.eq (M (some ⟨R,0,none⟩)),.eq (M (some ⟨R,0,none⟩)),.eq (M (some ⟨R,1,none⟩)),.eq (H L (j:Int)),.eq (H .u8 (s[j].toNat:Int)),.eq (F dg),.eq (F dg),.eq (F dg)] [1] (λb _ V=>EQ w V R s (if b.getD 0 false then(j:Int)else I)) i (No (.vl J λ_ _=>mv)<|No (.cw λh k=>c1 (h.e 0) ((c.o _ k.1).mono λ_ _ ⟨e,r,g⟩=>⟨_,e,J,I8,r,Je k.2 g⟩))<|No (.vl J λh _=>⟨_,by refine DX ?_;rw[h.e 1];go_simp,J⟩)<|No (.vl J λh _=>mw (h.g 2))<|No (.vl J (λ_ _=>mv) (hg:=λh=>Yy 3 true h))<|No (.vl J (λh _=>⟨_,by refine DX ?_;rw[h.e 4];go_simp,J⟩) (hg:=λh=>Yy 3 true h))<|No (.vl J (λh _=>⟨_,by refine DX ?_;rw[h.e 5];go_simp,J⟩) (hg:=λh=>Yy 3 true h))<|No (.vl J (λh k=>⟨_,by have t:=k.1.c0;refine DX ?_;rw[h.e 6];go_simp,J⟩) (hg:=λh=>Yy 3 true h))<|No (.vl J (λ_ _=>mv) (hg:=λh=>Yy 3 true h))<|No (.vl J (λh _=>⟨_,by refine DX ?_;rw[h.e 8];go_simp,J⟩) (hg:=λh=>Yy 3 true h))<|No (.vl J (λh _=>⟨_,by refine DX ?_;rw[h.e 9];go_simp,J⟩) (hg:=λh=>Yy 3 true h))<|No (.vl J (λh k=>⟨_,by have t:=DW.c1 (I:=(j:Int)) k.1;refine DX ?_;rw[h.e 10];go_simp,J⟩) (hg:=λh=>Yy 3 true h))<|No (.vl J (λh _=>⟨_,by refine DX ?_;rw[h.e 7,h.e 11];go_simp,J⟩) (hg:=λh=>Yy 3 true h))<|No (.cl (λh _=>c1 (h.e 12) (rv (m.o _))) (hg:=λh=>Yy 3 true h))<|No (.vl J λh _=>⟨_,by refine DX ?_;rw[h.e 3,h.e 13];go_simp,J⟩)<|No (.vl J λh _=>aw (h.g 14)) Stp.end_)
    λf V hF a=>?_
   refine DX ?_;have a:EQ w V R s (j:Int):=a;rw[hF.e 0,hF.e 1,hF.e 2,hF.e 3,hF.e 4,hF.e 5,hF.e 6,hF.e 7,hF.e 8,hF.e 9,hF.e 10,hF.e 11,hF.e 12,hF.e 13,hF.e 14,hF.e 15];replace a:=Z a;clear hF;go_wp2_with fail
   go_ret;exact⟨J,a.o.1,a.o.2⟩
end
section
def DZ(ds:List UInt8):List UInt8:=if Lib.trimLeftB ds 48=[]then [48]else Lib.trimLeftB ds 48
def Ve(w:G)(R:Nat)(s:ByteArray)(I:Nat)(r:Ending)(a:G):Prop:=
 w.grownBy a (some R)/\(∀e q,JM (Jc s) I=.error e q->r=.panicked [{ v:=E0 e q,recovered:=false }])/\(∀ds q k,JM (Jc s) I=.ok (ds,q) k->r=.returned (.tuple #[B ⟨(DZ ds).toArray⟩,.int L (q:Int)])/\DW a R s (k:Int))
variable{ds:List UInt8}{k:Nat}
theorem PG(s:ByteArray)(p d:Nat):(s.extract p (p+d)).data.toList=((Jc s).drop p).take d:=by
 grind[Jc,ByteArray.data_extract,Array.toList_extract]
theorem MH(R:Nat)(s:ByteArray)(I:Nat)(w:G)(h:DW w R s I)(hI:I<=s.size)(hs:s.size<=300):
 Calls Tryz.prog 182 #[M (some ⟨R,0,none⟩)] w λr w'=>Ve w R s I r w':=by
 obtain⟨p,hp⟩:=ex (DM (Jc s) I);have A:=Z (PF R s I w h hI hs);rw[hp]at A;have Qv:p<=s.size:=by grind[Jh,Yq]
 have HP:=Z hp;have T:=Z λ(e q:Int) (V:G)=>ID (M (some ⟨R,0,none⟩)) e q V;clear h hI hp;cases U:El (Jc s) p with
 |false=>
  have m:=Z (show JM (Jc s) I=.error 2 p by unfold JM;rw[HP.o,BL (O7 U)]);rw[U]at A;clear U;go_enter func182,ntmps182
  go_wp2_with first
   |(go_at_call 154;refine A.o.mono ?_;clear A;rintro e w1 ⟨rfl,W,ad⟩;have c1:=W.c1;have Qn:=Z ad;clear W ad)
   |(go_at_call 123;refine(T.o _ _ _).mono ?_;clear T;rintro e X ⟨rfl,rfl⟩)
  refine⟨J,Qn.o,λe q a=>?_,λds q k a=>?_⟩
  . rw[m.o]at a;cases a;rfl
  . rw[m.o]at a;cases a
 |true=>
  rw[U]at A;have Qi:=Z U;clear U;go_enter func182,ntmps182
  go_upto_region 4 with first
   |(go_at_call 154;refine A.o.mono ?_;clear A;rintro e w1 ⟨rfl,W,ad⟩;have Qu:=Z W;have c1:=W.c1;have Qn:=Z ad;clear W ad)
  go_loopw [] (λwr=>∃d:Nat,p+d<=s.size/\Hid (DW wr R s ((p+d:Nat):Int)/\w.grownBy wr (some R)/\∃n,Yo (Jc s) p d n)) λwr=>s.size-EX wr R
  case atStart=>exact⟨0,O,Z ⟨Qu.o,Qn.o,0,Yo.zero (by rw[Jh];exact Qv)⟩⟩
  case round=>
   clear c1;obtain⟨d,ak,g⟩:=hrel;obtain⟨j,hj⟩:∃j,j=p+d:=⟨_,J⟩;have c:=Z hj;rw[<-hj]at ak g;clear hj;obtain⟨c0,c1⟩:=g.o.1.cp;have f1:=g.o.1.f 1;by_cases aq:j<s.size
   . have ay:(j:Int)<(s.size:Int):=O
     have ap:(0:Int)<=(j:Int):=O
     have HX:=Z (PC s[j]);by_cases z:DS s[j]=true
     . rw[z]at HX;have Qq:=Z z;clear z;go_wp2_with fail
       go_quiet ((go_at_call 181;exact Calls.quiet_of_same (HX.o _)))
       have Qr:=Z (GH g.o.1);go_wp2_with fail
       go_roundw
       case rel=>
        refine⟨d+1,?_,Z ⟨?_,?_,?_⟩⟩
        . have:=c.o;omega
        . have:=(g.o.1.drewN nq).set1 ((j:Int)+1);rw[show((j:Int)+1)=((p+(d+1):Nat):Int)from by have:=c.o;omega]at this ⊢;exact this
        . exact Je (Je g.o.2.1 (Ju _ _ _)) (Jy _ R 1 _)
        . obtain⟨n,hn⟩:=g.o.2.2;by_cases ai:d<12
          . exact⟨_,hn.next1 (by rw[Jh];have:=c.o;omega) (by simp only[<-c.o];exact Qq.o) ai⟩
          . exact⟨_,hn.next2 (by rw[Jh];have:=c.o;omega) (by simp only[<-c.o];exact Qq.o) O⟩
       case measure=>
        have e2:=GH ((g.o.1.drewN nq).set1 ((j+1:Nat):Int));rw[show((j+1:Nat):Int)=(j:Int)+1 from by omega]at e2;rw[e2,Qr.o];omega
     . have z:=Bool.eq_false_iff.2 z;rw[z]at HX;have K:=Z (show Dy (Jc s) p=j by rw[c.o];exact g.o.2.2.choose_spec.dg λhl=>by simp only[<-c.o];exact z);clear z;go_wp2_with fail
       go_quiet ((go_at_call 181;exact Calls.quiet_of_same (HX.o _)))
       obtain⟨Qh,HG,Qw⟩:=Db (g.o.1.drewN nq) (show w.grownBy (wr.drewN nq) (some R)from Je g.o.2.1 (Ju _ _ _)) g.o.2.2;have Qx:d≠0:=λe=>by
        have b:=K.o;have h6:=c.o;rw[e,A6]at h6;have P:=Qi.o;have h8:=Ky (f:=DS) (l:=Jc s) (i:=p);rw[show YX DS (Jc s) p=j from b]at h8;rw[<-h6]at P;by_cases h9:j<s.size
        . have:=h8 (by rw[Jh];exact h9);rw[PD h9]at P;exact absurd (this.symm.trans P) DP
        omega
       have Qt:(p:Int)<=(j:Int):=by have:=c.o;omega
       have Qp:p<=j:=by have:=c.o;omega
       obtain⟨o,Q⟩:=ex (s.extract p j);have Qs:o.size=d:=by rw[<-Q,Az];have:=c.o;omega
       have Ql:=Z Q;obtain⟨ae,ah⟩:=Qh.o.cp;go_wp2_with fail
       go_quiet (fail)
       have C:=Z (show ∀u,w.grownBy (wr.drewN u) (some R)from λu=>Je g.o.2.1 (Ju _ _ _));have Qg:=Z (show ∀u,DW (wr.drewN u) R s (j:Int)from λu=>g.o.1.drewN u);clear Q ae ah c0 c1;have Qj:¬j=p:=by have:=c.o;omega
       have Qm:=Z (show o.data.toList=((Jc s).drop p).take (j-p)by rw[<-Ql.o,c.o,PG,show p+d-p=d from by omega]);by_cases ai:12<d
       . have aj:(12:Int)<(d:Int):=O
         have m:=Z (show JM (Jc s) I=.error 3 p by unfold JM;rw[HP.o,K.o,BH Qj,BL (by have:=c.o;omega)]);go_wp2_with(go_at_call 123;refine(T.o _ _ _).mono ?_;clear T;rintro e X ⟨rfl,rfl⟩)
         refine⟨J,C.o _,λe q a=>?_,λds q k a=>?_⟩
         . rw[m.o]at a;cases a;rfl
         . rw[m.o]at a;cases a
       . have aj:¬(12:Int)<(d:Int):=O
         have m:=Z (show JM (Jc s) I=.ok (o.data.toList,p) j by unfold JM;rw[HP.o,K.o,BH Qj,BH (by have:=c.o;omega),Qm.o]);have x:=Z λ(V:G)=>Tryz.strings_TrimLeft_one o 48 DP V;obtain⟨y,t⟩:∃S:ByteArray,⟨(Lib.trimLeftB o.data.toList 48).toArray⟩=S:=⟨_,J⟩;rw[t]at x;have Qo:=Z t;by_cases a:Lib.trimLeftB o.data.toList 48=[]
         . have Qk:y=⟨#[]⟩:=by rw[<-t,a]
           have D:=Z (show DZ o.data.toList=[48]by unfold DZ;rw[BL a]);clear t a Qo;subst Qk;go_wp2_with(go_at_call 200;refine(x.o _).mono ?_;clear x;rintro e X ⟨rfl,rfl⟩)
           refine BA (v:=.tuple #[B ⟨#[48]⟩,H L (p:Int)]) (by simp[results,results182,go_sem]) J ⟨C.o _,λe q b=>?_,λds q k b=>?_⟩
           . rw[m.o]at b;cases b
           . rw[m.o]at b;cases b;exact⟨by rw[D.o],Qg.o _⟩
         . have Qk:y.toList.isEmpty=false:=by
            rw[<-t,Xh];simpa using a
           have D:=Z (show(⟨(DZ o.data.toList).toArray⟩:ByteArray)=y by unfold DZ;rw[BH a];exact t);clear t a;go_wp2_with(go_at_call 200;refine(x.o _).mono ?_;clear x;rintro e X ⟨rfl,rfl⟩)
           refine BA (v:=.tuple #[B y,H L (p:Int)]) (by simp[results,results182,go_sem]) J ⟨C.o _,λe q b=>?_,λds q k b=>?_⟩
           . rw[m.o]at b;cases b
           . rw[m.o]at b;cases b;exact⟨by rw[D.o],Qg.o _⟩
   . have K:=Z (show Dy (Jc s) p=j by rw[c.o];exact g.o.2.2.choose_spec.dg λhl=>absurd hl (by rw[Jh];have:=c.o;omega));have an:=BF O;go_wp2_with fail
     go_quiet (fail)
     obtain⟨Qh,HG,Qw⟩:=Db (g.o.1.drewN nq) (show w.grownBy (wr.drewN nq) (some R)from Je g.o.2.1 (Ju _ _ _)) g.o.2.2;have Qx:d≠0:=λe=>by
      have b:=K.o;have h6:=c.o;rw[e,A6]at h6;have P:=Qi.o;have h8:=Ky (f:=DS) (l:=Jc s) (i:=p);rw[show YX DS (Jc s) p=j from b]at h8;rw[<-h6]at P;by_cases h9:j<s.size
      . omega
      . rw[PE O]at P;cases P
     have Qt:(p:Int)<=(j:Int):=by have:=c.o;omega
     have Qp:p<=j:=by have:=c.o;omega
     obtain⟨o,Q⟩:=ex (s.extract p j);have Qs:o.size=d:=by rw[<-Q,Az];have:=c.o;omega
     have Ql:=Z Q;obtain⟨ae,ah⟩:=Qh.o.cp;go_wp2_with fail
     go_quiet (fail)
     have C:=Z (show ∀u,w.grownBy (wr.drewN u) (some R)from λu=>Je g.o.2.1 (Ju _ _ _));have Qg:=Z (show ∀u,DW (wr.drewN u) R s (j:Int)from λu=>g.o.1.drewN u);clear Q ae ah c0 c1;have Qj:¬j=p:=by have:=c.o;omega
     have Qm:=Z (show o.data.toList=((Jc s).drop p).take (j-p)by rw[<-Ql.o,c.o,PG,show p+d-p=d from by omega]);by_cases ai:12<d
     . have aj:(12:Int)<(d:Int):=O
       have m:=Z (show JM (Jc s) I=.error 3 p by unfold JM;rw[HP.o,K.o,BH Qj,BL (by have:=c.o;omega)]);go_wp2_with(go_at_call 123;refine(T.o _ _ _).mono ?_;clear T;rintro e X ⟨rfl,rfl⟩)
       refine⟨J,C.o _,λe q a=>?_,λds q k a=>?_⟩
       . rw[m.o]at a;cases a;rfl
       . rw[m.o]at a;cases a
     . have aj:¬(12:Int)<(d:Int):=O
       have m:=Z (show JM (Jc s) I=.ok (o.data.toList,p) j by unfold JM;rw[HP.o,K.o,BH Qj,BH (by have:=c.o;omega),Qm.o]);have x:=Z λ(V:G)=>Tryz.strings_TrimLeft_one o 48 DP V;obtain⟨y,t⟩:∃S:ByteArray,⟨(Lib.trimLeftB o.data.toList 48).toArray⟩=S:=⟨_,J⟩;rw[t]at x;have Qo:=Z t;by_cases a:Lib.trimLeftB o.data.toList 48=[]
       . have Qk:y=⟨#[]⟩:=by rw[<-t,a]
         have D:=Z (show DZ o.data.toList=[48]by unfold DZ;rw[BL a]);clear t a Qo;subst Qk;go_wp2_with(go_at_call 200;refine(x.o _).mono ?_;clear x;rintro e X ⟨rfl,rfl⟩)
         refine BA (v:=.tuple #[B ⟨#[48]⟩,H L (p:Int)]) (by simp[results,results182,go_sem]) J ⟨C.o _,λe q b=>?_,λds q k b=>?_⟩
         . rw[m.o]at b;cases b
         . rw[m.o]at b;cases b;exact⟨by rw[D.o],Qg.o _⟩
       . have Qk:y.toList.isEmpty=false:=by
          rw[<-t,Xh];simpa using a
         have D:=Z (show(⟨(DZ o.data.toList).toArray⟩:ByteArray)=y by unfold DZ;rw[BH a];exact t);clear t a;go_wp2_with(go_at_call 200;refine(x.o _).mono ?_;clear x;rintro e X ⟨rfl,rfl⟩)
         refine BA (v:=.tuple #[B y,H L (p:Int)]) (by simp[results,results182,go_sem]) J ⟨C.o _,λe q b=>?_,λds q k b=>?_⟩
         . rw[m.o]at b;cases b
         . rw[m.o]at b;cases b;exact⟨by rw[D.o],Qg.o _⟩
theorem PH(c:UInt8)(t:List UInt8):num (c::t)=num t+10^t.length*(c.toNat-48):=by
 have h:=Xx [c] t;grind[num,Dh,val]
theorem Vf(ds:List UInt8):num (ds.dropWhile (·==48))=num ds:=by
 induction ds with
 |nil=>rfl
 |cons c t a=>
  by_cases h:c=48
  . subst h;grind[List.dropWhile_cons_of_pos,PH]
  . rw[List.dropWhile_cons_of_neg (by simpa using h)]
theorem Vg(h:ds.all DS=true):(ds.dropWhile (·==48)).all DS=true:=by
 grind[List.dropWhile_sublist]
theorem Xs(h:ds.all DS=true):num (DZ ds)=num ds/\(DZ ds).all DS=true/\DZ ds≠[]/\(1<(DZ ds).length->10<=num ds)/\(DZ ds).length<=ds.length+1:=by
 unfold DZ Lib.trimLeftB;have a:=Vf ds;have d:=Vg h;have i:=(List.dropWhile_sublist (l:=ds) (·==48)).length_le;split
 . rename_i b;rw[b]at a;refine⟨?_,DP,DJ,DJ,DJ⟩;rw[<-a];decide
 . rename_i b;refine⟨a,d,b,λhl=>?_,O⟩;cases f:ds.dropWhile (·==48)with
   |nil=>exact absurd f b
   |cons c t=>
    rw[f]at a d hl;have g:c≠48:=by
     grind[List.head?_dropWhile_not]
    have m:=J4 (AH.1 d c (Ct ..));have n:c.toNat≠48:=λe=>g (CF.1 e);rw[<-a,PH];have j:10^1<=10^t.length:=Au O (by simp at hl;omega);have k:10^t.length*1<=10^t.length*(c.toNat-48):=AA _ O;omega
def MI(w:G)(R:Nat)(s:ByteArray)(I:Nat)(r:Ending)(a:G):Prop:=
 w.grownBy a (some R)/\(∀e q,D7 (Jc s) I=.error e q->r=.panicked [{ v:=E0 e q,recovered:=false }])/\(∀n k,D7 (Jc s) I=.ok n k->r=.returned (.int L (n:Int))/\DW a R s (k:Int))
theorem PI(R:Nat)(s:ByteArray)(I:Nat)(w:G)(h:DW w R s I)(hI:I<=s.size)(hs:s.size<=300):
 Calls Tryz.prog 156 #[M (some ⟨R,0,none⟩)] w λr w'=>MI w R s I r w':=by
 obtain⟨b,A⟩:∃b,b=JU (Jc s) (DM (Jc s) I) 94:=⟨_,J⟩;have f:=Z (Fo R s I 94 w h hI hs b A);obtain⟨j,hj⟩:=ex (DM (Jc s) I);rw[hj]at f A;have D:=Z λ(e q:Int) (V:G)=>ID (M (some ⟨R,0,none⟩)) e q V;have HJ:=Z hj;clear h hj;cases b with
 |false=>
  have HN:=Z (show D7 (Jc s) I=.ok 1 j by unfold D7;rw[HJ.o,<-A];simp);clear A;go_enter func156,ntmps156
  go_wp2_with(go_at_call 120;refine f.o.mono ?_;clear f;rintro e W ⟨rfl,d,c⟩;have m:=Z d;have o:=Z c;clear d c)
  go_ret;refine⟨o.o,λe q a=>?_,λn k a=>?_⟩
  . rw[HN.o]at a;cases a
  . rw[HN.o]at a;cases a;exact⟨J,m.o⟩
 |true=>
  have Qm:j+1<=s.size:=by have:=Yc A.symm;rw[Jh]at this;omega
  have v:=Z λ(V:G) (hh:DW V R s ((j+1:Nat):Int))=>MH R s (j+1) V hh Qm hs;have l:=Z (show D7 (Jc s) I=(match JM (Jc s) (j+1)with|.error e p=>.error e p|.ok (ds,p) k=>if 8<num ds then .error 3 p else .ok (num ds) k)by
   unfold D7;rw[HJ.o,BL A.symm];grind)
  clear A;cases C:JM (Jc s) (j+1)with
  |error e0 q0=>
   rw[C]at l;have z:=Z C;clear C;go_enter func156,ntmps156
   go_wp2_with(first
    |(go_at_call 120;refine f.o.mono ?_;clear f;rintro e W ⟨rfl,d,c⟩;have m:=Z d;have o:=Z c;clear d c)
    |(go_at_call 182;refine(v.o _ m.o).mono ?_;clear v;rintro e w2 ⟨i,g,_⟩;obtain rfl:=g _ _ z.o;have y:=Z (Je o.o i);clear i g))
   refine⟨J,y.o,λe q a=>?_,λn k a=>?_⟩
   . rw[l.o]at a;cases a;rfl
   . rw[l.o]at a;cases a
  |ok a0 k0=>
   obtain⟨ds,p0⟩:=a0;rw[C]at l;have z:=Z C;obtain⟨T,U,g3,g4,g5⟩:=Xs (Fu (by rw[Jh];omega) C).2.2.2.2.2.2.2.2;clear C;cases K:DZ ds with
   |nil=>exact absurd K g3
   |cons c0 t0=>
    rw[K]at T U g4 g5;have ae:=J4 (AH.1 U c0 (Ct ..));have Qj:=(Fu (by rw[Jh];omega) z.o).2.2.2.2.2.2.2.1;have Qe:=(Fu (by rw[Jh];omega) z.o).2.2.2.2.2.1;cases t0 with
    |cons c1 t1=>
     have h8:8<num ds:=by have:=g4 DJ;omega
     obtain⟨t,u⟩:∃S:ByteArray,⟨(c0::c1::t1).toArray⟩=S:=⟨_,J⟩;have Q:=Z (show(⟨(DZ ds).toArray⟩:ByteArray)=t by rw[K];exact u);have Qn:1<t.size:=by rw[<-u];show 1<(c0::c1::t1).toArray.size;simp
     have ak:t.size<=13:=by rw[<-u];show(c0::c1::t1).toArray.size<=13;grind
     have aj:(1:Int)<(t.size:Int):=O
     have Ql:=Z h8;clear u K T U g3 g4 g5 h8 Qj Qe;go_enter func156,ntmps156
     go_wp2_with(first
      |(go_at_call 120;refine f.o.mono ?_;clear f;rintro e W ⟨rfl,d,c⟩;have m:=Z d;have o:=Z c;clear d c)
      |(go_at_call 182;refine(v.o _ m.o).mono ?_;clear v;rintro e w2 ⟨i,_,g⟩;obtain⟨rfl,x⟩:=g _ _ _ z.o;rw[Q.o];have X:=Z x;have y:=Z (Je o.o i);clear i g x)
      |(go_at_call 123;refine(D.o _ _ _).mono ?_;clear D;rintro e w3 ⟨rfl,rfl⟩))
     refine⟨J,y.o,λe q a=>?_,λn k a=>?_⟩
     . rw[l.o,BL Ql.o]at a;cases a;rfl
     . rw[l.o,BL Ql.o]at a;cases a
    |nil=>
     have Qi:num ds=c0.toNat-48:=by rw[<-T];simp[num,Dh,val]
     obtain⟨t,u⟩:=ex ((⟨#[c0]⟩:ByteArray):ByteArray);have Q:=Z (show(⟨(DZ ds).toArray⟩:ByteArray)=t by rw[K];exact u);have Qn:t.size=1:=by rw[<-u];rfl
     have ah:∀h:0<t.size,t[0]'h=c0:=by subst u;intro _;rfl
     have ai:((c0.toNat:Int)-48)%256=(c0.toNat:Int)-48:=O
     clear u;have P:=Z Qi;clear K T U g3 g4 g5 Qj Qe Qi;by_cases h8:8<c0.toNat-48
     . have ad:(8:Int)<(c0.toNat:Int)-48:=O
       go_enter func156,ntmps156
       go_wp2_with(first
        |(go_at_call 120;refine f.o.mono ?_;clear f;rintro e W ⟨rfl,d,c⟩;have m:=Z d;have o:=Z c;clear d c)
        |(go_at_call 182;refine(v.o _ m.o).mono ?_;clear v;rintro e w2 ⟨i,_,g⟩;obtain⟨rfl,x⟩:=g _ _ _ z.o;rw[Q.o];have X:=Z x;have y:=Z (Je o.o i);clear i g x)
        |(go_at_call 123;refine(D.o _ _ _).mono ?_;clear D;rintro e w3 ⟨rfl,rfl⟩))
       refine⟨J,y.o,λe q a=>?_,λn k a=>?_⟩
       . rw[l.o,BL (by rw[P.o];omega)]at a;cases a;rfl
       . rw[l.o,BL (by rw[P.o];omega)]at a;cases a
     . have ad:¬(8:Int)<(c0.toNat:Int)-48:=O
       go_enter func156,ntmps156
       go_wp2_with(first
        |(go_at_call 120;refine f.o.mono ?_;clear f;rintro e W ⟨rfl,d,c⟩;have m:=Z d;have o:=Z c;clear d c)
        |(go_at_call 182;refine(v.o _ m.o).mono ?_;clear v;rintro e w2 ⟨i,_,g⟩;obtain⟨rfl,x⟩:=g _ _ _ z.o;rw[Q.o];have X:=Z x;have y:=Z (Je o.o i);clear i g x)
        |(go_at_call 123;refine(D.o _ _ _).mono ?_;clear D;rintro e w3 ⟨rfl,rfl⟩))
       go_ret;refine⟨y.o,λe q a=>?_,λn k a=>?_⟩
       . rw[l.o,BH (by rw[P.o];omega)]at a;cases a
       . rw[l.o,BH (by rw[P.o];omega)]at a;cases a;refine⟨?_,X.o⟩;rw[P.o];show Ending.returned (H L ((c0.toNat:Int)-48))=_;grind
def ED(ps:K)(i:Nat):Rat:=cf ps (i+1)*(((i+1:Nat):Int):Rat)
def PJ{K:Nat}(h:K<=1099511627776):Sq (((K:Nat):Int):Rat):=
 Sq.of (k:=1) ⟨by unfold Sm;rw[Rat.num_intCast];unfold Y;simp;omega,by unfold Sm;rw[Rat.den_intCast];unfold Y;decide⟩ O
theorem Vh(va:N)(ps:List Rat)(w:G)(ha:RowK false w va ps)(ap:Sqs ps)(ak:ps.length<1099511627776):
 Calls Tryz.prog 38 #[va] w λe w'=>∃u,e=.returned u/\RowK false w' u (Xv ps)/\Bl w w':=by
 obtain⟨a,la,ca,rfl⟩:=ha.form;obtain⟨aj,bc,bd,bj,s,t,aa,bb,ll,cc,kk,dd,hc⟩:=ha.formsF;obtain⟨HA,HP,Qf,Qh⟩:=Dn hc ap aj ak;clear ha ap aj bc bd hc ak;go_enter func38,ntmps38
 go_wp2;go_loopw [3,4] (λo i wr=>∃k K:Nat,Hid (K=k+1/\(k=0\/K<=la))/\i=H L (K:Int)/\(∃Q R,o=E Q k R)/\Hid (EP false w wr o (YQ (ED ps) k))) λ_ i _=>la+1-(intOf i).toNat
 case atStart=>exact⟨0,1,Z ⟨J,Ar J⟩,J,⟨_,_,J⟩,Z ⟨D4.nil _ _ _,BB _ _⟩⟩
 case round=>
  obtain⟨k,K,T,rfl,⟨Q,R,rfl⟩,HR⟩:=hrel;by_cases bf:K<la
  . have Qg:(K:Int)<(la:Int):=O
    obtain⟨P,b,rfl,X,c0,c1,c2,c3⟩:=HA.o K bf;have Qk:=Z (show ∀V,Bl w V->(V.cell? ⟨b,K*4,none⟩=some (E (aa K) (ll K) (cc K))/\V.cell? ⟨b,K*4+1,none⟩=some (F (s K))/\V.cell? ⟨b,K*4+2,none⟩=some (E (bb K) (kk K) (dd K))/\V.cell? ⟨b,K*4+3,none⟩=some (F (t K)))/\Jj V (.agg #[E (aa K) (ll K) (cc K),F (s K),E (bb K) (kk K) (dd K),F (t K)]) (cf ps K)from λV W=>by
     exact⟨⟨(W.cell (p:=⟨b,_,none⟩) X).trans c0,(W.cell (p:=⟨b,_,none⟩) X).trans c1,(W.cell (p:=⟨b,_,none⟩) X).trans c2,(W.cell (p:=⟨b,_,none⟩) X).trans c3⟩,P.below W⟩)
    have HK:=Z (show k+1<=1099511627776/\K<=1099511627776 by have:=Qh.o;have:=Qf.o;have:=T.o;omega);have Qi:=Z (show cf ps K*((K:Int):Rat)=ED ps k by rw[T.o.1];rfl);clear P c0 c1 c2 c3 X;go_wp2_with fail
    have Qj:=HR.o.below ((BB _ wr).drew);refine JF Di [[],[],[],[1,2],[3],[],[5],[4,6,6],[7],[0,8,7],[9,9,0,1,2,3,4,5,6,7,8,9]] Zv DP
     (λD ad V=>∃(ta tb tc td te tf tg ti tj S tl:N),ad={ tmps:=#[E (some ⟨b,0,none⟩) la ca,undef,E none 0 0,tl,H L ↑K,H L ↑K,E (some ⟨b,0,none⟩) la ca,H L ↑la,F true,u9,u10,ta,tb,tc,td,te,tf,tg,ti,tj,S,undef,undef],defers:=[] }/\Hid ((D 0=true->ta=E Q k R)/\(D 1=true->tb=E (some ⟨b,0,none⟩) la ca)/\(D 2=true->tc=H L (K:Int))/\(D 3=true->td=M (some ⟨b,K*4,none⟩))/\(D 4=true->D 9=false->Jj V te (cf ps K))/\(D 5=true->tf=H L (K:Int))/\(D 6=true->D 9=false->Jj V tg ((K:Int):Rat))/\(D 7=true->D 9=false->Jj V ti (ED ps k))/\(D 8=true->∃a l c,tj=E a l c)/\(D 9=true->∃a l c,S=E a l c)/\((D 10=false->tl=Value.slice Q k R)/\(D 10=true->tl=S)))/\Hid ((D 8=false->EP false w V (E Q k R) (YQ (ED ps) k))/\(D 8=true->D 9=false->∃(I:G) (x y z u:N),V=I.alloc (.cells #[x,y,z,u] (Dj false))/\(EP false w I (E Q k R) (YQ (ED ps) k))/\Dk false I (.agg #[x,y,z,u]) (ED ps k)/\tj=E (some ⟨I.heap.size,0,none⟩) 1 1)/\(D 9=true->EP false w V S (YQ (ED ps) k++[ED ps k]))))
     (E8 ⟨_,_,_,J,Z ⟨DJ,DJ,DJ,DJ,DJ,DJ,DJ,DJ,DJ,DJ,⟨λ_=>rfl,DJ⟩⟩,Z ⟨λ_=>Qj,DJ,DJ⟩⟩) ?step1 ?fin1
    case step1=>
     rintro D ad V i ds f P g q ⟨ta,tb,tc,td,te,tf,tg,ti,tj,S,tl,rfl,d,v⟩;have bh:i<11:=(Ag.1 P).1;obtain rfl|rfl|rfl|rfl|rfl|rfl|rfl|rfl|rfl|rfl|rfl:=Kd i O
     all_goals
      simp only[Ap,Al,Ay]at P;subst P
     . have r:D 9=false:=DN f q;have Qd:D 10=false:=DN f q;obtain rfl:=Du d Qd;clear g;refine DV ?_;exact⟨(F0 (EM d) ⟨λ_=>rfl,λh=>by simp[Qd]at h⟩),Z ⟨λh=>v.o.1 (by simpa using h),λh A=>v.o.2.1 (by simpa using h) (by simpa using A),λh=>v.o.2.2 (by simpa using h)⟩⟩
     . have r:D 9=false:=DN f (DN (a:=8) f (DN (a:=7) f (DN (a:=4) f (DN (a:=3) f q))));have n:D 8=false:=DN f (DN (a:=7) f (DN (a:=4) f (DN (a:=3) f q)));have m:=v.o.1 n;clear g;refine DV ?_;exact⟨Z ⟨d.o.1,λ_=>rfl,d.o.2.2.1,d.o.2.2.2.1,d.o.2.2.2.2.1,(Do d),(Dq d),(Ds d),(Dt d),(Dl d),⟨λh=>(Du d) (by simpa using h),λh=>d.o.2.2.2.2.2.2.2.2.2.2.2 (by simpa using h)⟩⟩,Z ⟨λ_=>m,λh=>by simp[n]at h,λh=>by simp[r]at h⟩⟩
     . have r:D 9=false:=DN f (DN (a:=8) f (DN (a:=7) f (DN (a:=4) f (DN (a:=3) f q))));have n:D 8=false:=DN f (DN (a:=7) f (DN (a:=4) f (DN (a:=3) f q)));have m:=v.o.1 n;clear g;refine DV ?_;exact⟨Z ⟨d.o.1,d.o.2.1,λ_=>rfl,d.o.2.2.2.1,d.o.2.2.2.2.1,(Do d),(Dq d),(Ds d),(Dt d),(Dl d),⟨λh=>(Du d) (by simpa using h),λh=>d.o.2.2.2.2.2.2.2.2.2.2.2 (by simpa using h)⟩⟩,Z ⟨λ_=>m,λh=>by simp[n]at h,λh=>by simp[r]at h⟩⟩
     . have r:D 9=false:=DN f (DN (a:=8) f (DN (a:=7) f (DN (a:=4) f q)));have n:D 8=false:=DN f (DN (a:=7) f (DN (a:=4) f q));have m:=v.o.1 n;obtain rfl:=d.o.2.1 (g 1 DJ);obtain rfl:=d.o.2.2.1 (g 2 DJ);clear g;refine DV ?_;exact⟨Z ⟨d.o.1,λ_=>rfl,λ_=>rfl,λ_=>rfl,d.o.2.2.2.2.1,(Do d),(Dq d),(Ds d),(Dt d),(Dl d),⟨λh=>(Du d) (by simpa using h),λh=>d.o.2.2.2.2.2.2.2.2.2.2.2 (by simpa using h)⟩⟩,Z ⟨λ_=>m,λh=>by simp[n]at h,λh=>by simp[r]at h⟩⟩
     . have r:D 9=false:=DN f (DN (a:=8) f (DN (a:=7) f q));have n:D 8=false:=DN f (DN (a:=7) f q);have m:=v.o.1 n;obtain rfl:=d.o.2.2.2.1 (g 3 DJ);obtain⟨⟨e0,e1,e2,e3⟩,hr⟩:=Qk.o V m.2;clear g;refine DV ?_;exact⟨Z ⟨d.o.1,d.o.2.1,d.o.2.2.1,λ_=>rfl,λ_ _=>hr,(Do d),(Dq d),(Ds d),(Dt d),(Dl d),⟨λh=>(Du d) (by simpa using h),λh=>d.o.2.2.2.2.2.2.2.2.2.2.2 (by simpa using h)⟩⟩,Z ⟨λ_=>m,λh=>by simp[n]at h,λh=>by simp[r]at h⟩⟩
     . have r:D 9=false:=DN f (DN (a:=8) f (DN (a:=7) f (DN (a:=6) f q)));have n:D 8=false:=DN f (DN (a:=7) f (DN (a:=6) f q));have m:=v.o.1 n;clear g;refine DV ?_;exact⟨Z ⟨d.o.1,d.o.2.1,d.o.2.2.1,d.o.2.2.2.1,d.o.2.2.2.2.1,λ_=>rfl,(Dq d),(Ds d),(Dt d),(Dl d),⟨λh=>(Du d) (by simpa using h),λh=>d.o.2.2.2.2.2.2.2.2.2.2.2 (by simpa using h)⟩⟩,Z ⟨λ_=>m,λh=>by simp[n]at h,λh=>by simp[r]at h⟩⟩
     . have r:D 9=false:=DN f (DN (a:=8) f (DN (a:=7) f q));have n:D 8=false:=DN f (DN (a:=7) f q);have m:=v.o.1 n;obtain rfl:=Do d (g 5 DJ);clear g;have HC:=Z (Yn (K:Int) O (by have:=HK.o;omega) V);refine Jf J J λK hK=>?_;go_simp;go_wp2_with(go_at_call 62;refine HC.o.mono ?_;rintro e w5 ⟨v5,rfl,ah,C⟩)
       exact E8 ⟨_,_,_,J,Z ⟨d.o.1,d.o.2.1,d.o.2.2.1,d.o.2.2.2.1,λh A=>(d.o.2.2.2.2.1 h A).below C,λ_=>rfl,λ_ _=>ah,λh A=>((Ds d) h A).below C,(Dt d),(Dl d),⟨λh=>(Du d) (by simpa using h),λh=>d.o.2.2.2.2.2.2.2.2.2.2.2 (by simpa using h)⟩⟩,Z ⟨λ_=>m.below C,λh=>by simp[n]at h,λh=>by simp[r]at h⟩⟩
     . have r:D 9=false:=DN f q;have n:D 8=false:=DN f q;have m:=v.o.1 n;have U:=d.o.2.2.2.2.1 (g 4 DJ) r;have h1:=Dq d (g 6 DJ) r;clear g;have HC:=Z (KJ _ _ (cf ps K) ((K:Int):Rat) V U h1 (HP.o.at K) (PJ HK.o.2));rw[Qi.o]at HC;clear U h1;refine Jf J J λK hK=>?_;go_simp;go_wp2_with(go_at_call 73;refine HC.o.mono ?_;rintro e w5 ⟨v5,rfl,ah,C⟩)
       exact E8 ⟨_,_,_,J,Z ⟨d.o.1,d.o.2.1,d.o.2.2.1,d.o.2.2.2.1,λh A=>(d.o.2.2.2.2.1 h A).below C,(Do d),λh A=>((Dq d) h A).below C,λ_ _=>ah,(Dt d),(Dl d),⟨λh=>(Du d) (by simpa using h),λh=>d.o.2.2.2.2.2.2.2.2.2.2.2 (by simpa using h)⟩⟩,Z ⟨λ_=>m.below C,λh=>by simp[n]at h,λh=>by simp[r]at h⟩⟩
     . have r:D 9=false:=DN f q;have m:=v.o.1 q;have U:=Ds d (g 7 DJ) r;obtain⟨a9,l9,c9,s9,b9,k9,d9,t9,rfl⟩:=Jj.form U;clear g;refine DV ?_;exact⟨Z ⟨d.o.1,d.o.2.1,d.o.2.2.1,d.o.2.2.2.1,λh A=>(d.o.2.2.2.2.1 h A).below (Ba V _),(Do d),λh A=>((Dq d) h A).below (Ba V _),λh A=>((Ds d) h A).below (Ba V _),λ_=>⟨_,_,_,J⟩,(Dl d),⟨λh=>(Du d) (by simpa using h),λh=>d.o.2.2.2.2.2.2.2.2.2.2.2 (by simpa using h)⟩⟩,Z ⟨λh=>by simp at h,λ_ _=>⟨V,_,_,_,_,J,m,U,J⟩,λh=>by simp[r]at h⟩⟩
     . obtain⟨I,x9,y9,z9,u9,rfl,m,bg,az⟩:=v.o.2.1 (g 8 DJ) q;obtain rfl:=d.o.1 (g 0 DJ);have Qd:D 10=false:=DN f q;have Qe:=g 8 DJ;obtain⟨v5,w5,ai,an,bi,C⟩:=Y9 false w.heap.size I _ _ m.1 bg (by rw[JC];exact HK.o.1) m.2.size;dsimp only[EW,Dj]at ai;subst az;obtain⟨a6,c6,e6,_⟩:=an.form;subst e6;clear g;refine Jf J J λK hK=>?_;refine Lib.wp_append_run _ _ _ 30 30 J _ _ J J _ _ ai (hK _ _ ?_);exact E8 ⟨_,_,_,J,Z ⟨λ_=>rfl,d.o.2.1,d.o.2.2.1,d.o.2.2.2.1,λ_ h=>by simp at h,(Do d),λ_ h=>by simp at h,λ_ h=>by simp at h,(Dt d),λ_=>⟨_,_,_,J⟩,⟨λh=>(Du d) (by simpa using h),λh=>by simp[Qd]at h⟩⟩,Z ⟨λh=>by simp[Qe]at h,λ_ h=>by simp at h,λ_=>⟨an,C _ _ (Aa _) m.2⟩⟩⟩
     . clear g;refine DV ?_;exact⟨(F0 d ⟨λh=>by simp at h,λ_=>rfl⟩),Z ⟨λh=>v.o.1 (by simpa using h),λh A=>v.o.2.1 (by simpa using h) (by simpa using A),λh=>v.o.2.2 (by simpa using h)⟩⟩
    case fin1=>
     rintro D ad V ae ⟨ta,tb,tc,td,te,tf,tg,ti,tj,S,tl,rfl,d,v⟩;have HO:=Z (v.o.2.2 (ae 9 DP));obtain rfl:=d.o.2.2.2.2.2.2.2.2.2.2.2 (ae 10 DP);clear d v ae;obtain⟨a9,c9,e9,_⟩:=HO.o.1.form;rw[<-Yv,JC]at e9;subst e9;go_wp2_with fail
     go_roundw
     case rel=>exact⟨k+1,K+1,Z ⟨by have:=T.o;omega,Ax O⟩,by go_num,⟨a9,c9,J⟩,Z (by rw[Yv];exact HO.o)⟩
     case measure=>simp[intOf];omega
  . have Qg:¬(K:Int)<(la:Int):=O
    have HT:=Z (Gl _ _ wr (HR.o.1.row (by rw[JC];have:=T.o;have:=Qh.o;have:=Qf.o;omega)));have HE:=Z (show Jg (YQ (ED ps) k)=Xv ps from Yt λj=>by
     rw[IA,Kl];split
     . rfl
     . rw[JV (by have:=Qf.o;have:=T.o;omega)];grind)
    rw[HE.o]at HT;go_wp2_with(go_at_call 23;refine HT.o.mono ?_;clear HT;rintro e w1 ⟨u1,rfl,aq,ay⟩;obtain⟨a7,l7,c7,rfl⟩:=aq.form)
    go_ret;exact⟨_,J,aq,Bt HR.o.2 ay⟩
def Ej(w V:G)(o:N)(C:Nat)(qs:K)(c:Rat):Prop:=
 EP false w V o qs/\w.heap.size<=C/\(∀g l c,o=E (some ⟨g,0,none⟩) l c->g≠C)/\∃a l c' s b k d t,JA V C 49 (E a l c') (F s) (E b k d) (F t)/\Jj V (.agg #[E a l c',F s,E b k d,F t]) c
def Ej.below{w V V':G}{o:N}{C:Nat}{qs:K}{c:Rat}(h:Ej w V o C qs c)(e:Bl V V'):Ej w V' o C qs c:=by
 obtain⟨f,g,i,a,l,c',s,b,k,d,t,j,m⟩:=h;exact⟨f.below e,g,i,a,l,c',s,b,k,d,t,j.below e,m.below e⟩
def D4.put4{r:Bool}{a:Nat}{V:G}{o:N}{qs:List Rat}(h:D4 r a V o qs){C:Nat}{ty:TypeId}{x y z u:N}(q:JA V C ty x y z u)(P:Jw x=true)(Q:Jw y=true)(R:Jw z=true)(S:Jw u=true)(I:∀g l c,o=E (some ⟨g,0,none⟩) l c->g≠C)(e f i d:N):D4 r a (put4 V C e f i d) o qs:=by
 rcases h with h|⟨g,cap,j,b,p,s,t,v,w,A,D⟩
 . exact Ar h
 . have hg:=I g _ _ b;refine Ax ⟨g,cap,j,b,p,?_,t,v,w,A,D.keep λ_ _ _ K=>Row.put4 K q P Q R S _ _ _ _⟩;have k:=(BE V ⟨C,0,none⟩ e g hg).trans s;have m:=(BE _ ⟨C,1,none⟩ f g hg).trans k;have n:=(BE _ ⟨C,2,none⟩ i g hg).trans m;exact(BE _ ⟨C,3,none⟩ d g hg).trans n
def Ej.put{w V:G}{o:N}{C:Nat}{qs:K}{c c2:Rat}(h:Ej w V o C qs c){a:Zu}{l c':Nat}{s:Bool}{b:Zu}{k d:Nat}{t:Bool}(j:Jj V (.agg #[E a l c',F s,E b k d,F t]) c2):
 Ej w (put4 V C (E a l c') (F s) (E b k d) (F t)) o C qs c2:=by
 obtain⟨f,g,i,m,q,c0,r,b0,p,d0,u,e,n⟩:=h;exact⟨⟨f.1.put4 e J J J J i _ _ _ _,Jo f.2 g _ _ _ _⟩,g,i,_,_,_,_,_,_,_,_,e.put _ _ _ _,j.put4 e J J J J _ _ _ _⟩
def Ej.new{w V:G}{o:N}{qs:K}{c:Rat}(h:EP false w V o qs){a:Zu}{l c':Nat}{s:Bool}{b:Zu}{k d:Nat}{t:Bool}(m:Jj V (.agg #[E a l c',F s,E b k d,F t]) c):
 Ej w (V.alloc (.cells #[E a l c',F s,E b k d,F t] 49)) o V.heap.size qs c:=by
 have i:Bl V (V.alloc (.cells #[E a l c',F s,E b k d,F t] 49)):=Ba V _;refine⟨h.below i,h.2.size,λg l c e=>?_,_,_,_,_,_,_,_,_,JA.new _ _ _ _ _ _,m.below i⟩;rcases h.1 with⟨f,_⟩|⟨p,cap,n,f,q,j,_⟩
 . rw[f]at e;cases e
 . rw[f]at e;cases e;have:=(Ab.1 j).1;omega
def Vi(ps qs:K){i:Nat}(h:k<=i):conv ps qs (k+1) i=conv ps qs k i+cf ps k*cf qs (i-k):=by
 show sumN (k+1) _=_;rw[sumN,BL h];rfl
theorem PK(p q:K)(h:p.length+q.length<=k):∀n,conv p q n k=0:=by
 intro n;induction n with
 |zero=>rfl
 |succ n a=>
  show conv p q n k+(if n<=k then cf p n*cf q (k-n)else 0)=0
  rw[a,Rat.zero_add];split
  . by_cases b:n<p.length
    . rw[JV (p:=q) O,Rat.mul_zero]
    . rw[JV (p:=p) O,Rat.zero_mul]
  . rfl
def Vj{ps qs:K}(h:M3.GF ps qs)(n k:Nat):Sq (conv ps qs n k):=by
 have a:=h.2 (n+qs.length) n 0 k;rw[show YW (YC ps qs (n+qs.length) n) n (cf ps n) qs 0=YC ps qs (n+qs.length) n from J,IU _ _ _ _ _ (Ax O)]at a;exact a
def Vk(ps qs:K)(n:Nat)(h:ps.length+qs.length<=n):Jg (YQ (λi=>conv ps qs (i+1) i) n)=YV ps qs:=Yt λj=>by
 rw[IA,Fs];split
 . by_cases a:j+1<=ps.length
   . rw[Pq ps qs a]
   . rw[Pp ps qs O]
 . rw[PK ps qs O]
def Vl(va vb:N)(ps qs:K)(w:G)(ha:RowK false w va ps)(hb:RowK false w vb qs)(cy:Sqs ps)(cz:Sqs qs)(ak:M3.GF ps qs)(cn:ps.length+qs.length<1099511627776):
 Calls Tryz.prog 32 #[va,vb] w λe w'=>∃u,e=.returned u/\RowK false w' u (YV ps qs)/\Bl w w':=by
 obtain⟨a,la,ca,rfl⟩:=ha.form;obtain⟨b,lb,cb,rfl⟩:=hb.form;obtain⟨cj,dt,dw,ef,s,t,aa,bb,ll,cc,kk,dd,hc⟩:=ha.formsF;obtain⟨ck,du,dx,eh,s',t',aq,ay,dh,bk,de,bm,bz⟩:=hb.formsF;obtain⟨HA,HB,HP,HQ,Qk,Ql,Qn,en⟩:=F1 hc bz cy cz cj ck ak cn;have Qq:=Z λn k=>Vj ak n k;obtain⟨n,hn⟩:=ex (la+lb);have fc:(la:Int)+(lb:Int)=(n:Int):=O
 have f8:n<1099511627776:=O
 have fe:L.wrap (n:Int)=(n:Int):=by rw[Bg];omega
 have HN:=Z hn;have Qr:=Z λ(V:G)=>Yn 0 O O V;clear ha hb cy cz ak cj ck hc bz cn hn dt dw du dx ef eh;go_enter func32,ntmps32
 go_wp2;go_loopw [5,6] (λo iv wr=>∃i:Nat,i<=n/\iv=H L (i:Int)/\(∃Q R,o=E Q i R)/\Hid (EP false w wr o (YQ (λi=>conv ps qs (i+1) i) i))) λ_ iv _=>n-(intOf iv).toNat
 case atStart=>exact⟨0,AJ _,J,⟨_,_,J⟩,Z ⟨D4.nil _ _ _,BB _ _⟩⟩
 case round=>
  obtain⟨i,hi,rfl,⟨Q,R,rfl⟩,T⟩:=hrel;by_cases et:i<n
  . have ew:(i:Int)<(n:Int):=O
    obtain⟨ae,an⟩:=ex (YQ (λi=>conv ps qs (i+1) i) i);rw[an]at T;have Qg:=Z an;clear an;go_upto_region 6 with(go_at_call 62;refine(Qr.o _).mono ?_;rintro e w1 ⟨u1,rfl,S,v⟩;obtain⟨a0,l0,c0,s0,b0,k0,d0,t0,rfl⟩:=Jj.form S)
    have hX:=Ej.new (T.o.below v) S;obtain⟨W1,aj⟩:=ex (w1.alloc (.cells #[E a0 l0 c0,F s0,E b0 k0 d0,F t0] 49));obtain⟨C,hC⟩:=ex (w1.heap.size);rw[aj,hC]at hX;rw[aj,hC];have HX:=Z (show Ej w W1 (E Q i R) C ae 0 from hX);clear hX S v aj hC T;go_wp2;go_loopw [8] (λkv wr=>∃k:Nat,k<=i+1/\kv=H L (k:Int)/\Hid (Ej w wr (E Q i R) C ae (conv ps qs k i))) λkv _=>i+1-(intOf kv).toNat
    case atStart=>exact⟨0,AJ _,J,HX⟩
    case round=>
     obtain⟨k,hk,rfl,x⟩:=hrel;clear HX;by_cases ed:k<=i
     . have Qe:(k:Int)<=(i:Int):=O
       obtain⟨m,hm⟩:=ex (i-k:Nat);have f7:(i:Int)-(k:Int)=(m:Int):=O
       have fd:L.wrap (m:Int)=(m:Int):=by rw[Bg];omega
       have Qc:=Z (show conv ps qs k i+cf ps k*cf qs m=conv ps qs (k+1) i by rw[Vi ps qs ed,hm]);have Qm:=Z (Qq.o k i);clear hm;by_cases eb:k<la
       . have Qi:(k:Int)<(la:Int):=O
         by_cases ei:m<lb
         . have Qd:(m:Int)<(lb:Int):=O
           obtain⟨ce,j,rfl,v,az,bc,bd,bf⟩:=HA.o k eb;obtain⟨cg,l,rfl,X,bg,bh,bi,bj⟩:=HB.o m ei;have Qf:=Z (show ∀V,Bl w V->(V.cell? ⟨j,k*4,none⟩=some (E (aa k) (ll k) (cc k))/\V.cell? ⟨j,k*4+1,none⟩=some (F (s k))/\V.cell? ⟨j,k*4+2,none⟩=some (E (bb k) (kk k) (dd k))/\V.cell? ⟨j,k*4+3,none⟩=some (F (t k)))/\Jj V (.agg #[E (aa k) (ll k) (cc k),F (s k),E (bb k) (kk k) (dd k),F (t k)]) (cf ps k)from λV r=>by
            exact⟨⟨(r.cell (p:=⟨j,_,none⟩) v).trans az,(r.cell (p:=⟨j,_,none⟩) v).trans bc,(r.cell (p:=⟨j,_,none⟩) v).trans bd,(r.cell (p:=⟨j,_,none⟩) v).trans bf⟩,ce.below r⟩)
           have Qh:=Z (show ∀V,Bl w V->(V.cell? ⟨l,m*4,none⟩=some (E (aq m) (dh m) (bk m))/\V.cell? ⟨l,m*4+1,none⟩=some (F (s' m))/\V.cell? ⟨l,m*4+2,none⟩=some (E (ay m) (de m) (bm m))/\V.cell? ⟨l,m*4+3,none⟩=some (F (t' m)))/\Jj V (.agg #[E (aq m) (dh m) (bk m),F (s' m),E (ay m) (de m) (bm m),F (t' m)]) (cf qs m)from λV r=>by
            exact⟨⟨(r.cell (p:=⟨l,_,none⟩) X).trans bg,(r.cell (p:=⟨l,_,none⟩) X).trans bh,(r.cell (p:=⟨l,_,none⟩) X).trans bi,(r.cell (p:=⟨l,_,none⟩) X).trans bj⟩,cg.below r⟩)
           obtain⟨y,hy⟩:=ex (conv ps qs k i)
           rw[hy]at x Qc Qm;clear ce v az bc bd bf cg X bg bh bi bj hy;go_wp2_with fail
           have Qo:=x.o.below ((BB _ wr).drew);refine JF Di [[],[],[],[1,2],[3],[],[],[],[6,7],[5,8],[9],[4,10],[0,11,11],[12,12,0,1,2,3,4,5,6,7,8,9,10,11,12]] Zv DP
            (λD ai V=>∃(ta tb tc td te tf tg ti tj tk tl tm tn:N),ai={ tmps:=#[E (some ⟨j,0,none⟩) la ca,E (some ⟨l,0,none⟩) lb cb,undef,undef,E none 0 0,E Q i R,H L ↑i,M (some ⟨C,0,none⟩),H L ↑k,H L ↑i,E (some ⟨j,0,none⟩) la ca,H L ↑la,E (some ⟨l,0,none⟩) lb cb,H L ↑lb,H L ↑n,F true,u16,u17,.agg #[E a0 l0 c0,F s0,E b0 k0 d0,F t0],H L ↑k,H L ↑i,F true,u22,u23,H L ↑k,E (some ⟨j,0,none⟩) la ca,H L ↑la,F true,F true,H L ↑i,H L ↑k,H L ↑m,E (some ⟨l,0,none⟩) lb cb,H L ↑lb,F true,F true,ta,tb,tc,td,te,tf,tg,ti,tj,tk,tl,tm,tn,u49,u50,u51,u52,undef,undef],defers:=[] }/\Hid ((D 0=true->D 13=false->Jj V ta y)/\(D 1=true->tb=E (some ⟨j,0,none⟩) la ca)/\(D 2=true->tc=H L (k:Int))/\(D 3=true->td=M (some ⟨j,k*4,none⟩))/\(D 4=true->D 13=false->Jj V te (cf ps k))/\(D 5=true->tf=E (some ⟨l,0,none⟩) lb cb)/\(D 6=true->tg=H L (i:Int))/\(D 7=true->ti=H L (k:Int))/\(D 8=true->tj=H L (m:Int))/\(D 9=true->tk=M (some ⟨l,m*4,none⟩))/\(D 10=true->D 13=false->Jj V tl (cf qs m))/\(D 11=true->D 13=false->Jj V tm (cf ps k*cf qs m))/\(D 12=true->D 13=false->Jj V tn (conv ps qs (k+1) i)))/\Hid ((D 13=false->Ej w V (E Q i R) C ae y)/\(D 13=true->Ej w V (E Q i R) C ae (conv ps qs (k+1) i))))
            (E8 ⟨_,_,_,_,_,J,Z DJ,Z ⟨λ_=>Qo,DJ⟩⟩) ?step1 ?fin1
           case step1=>
            rintro D ai V i ds ad hi d I ⟨ta,tb,tc,td,te,tf,tg,ti,tj,tk,tl,tm,tn,rfl,c,f⟩;have er:i<14:=(Ag.1 hi).1;obtain rfl|rfl|rfl|rfl|rfl|rfl|rfl|rfl|rfl|rfl|rfl|rfl|rfl|rfl:=Fq i O
            all_goals
             simp only[Ap,Al,Ay]at hi;subst hi
            . have z:=f.o.1 (DN ad I);obtain⟨_,_,_,a5,l5,c5,s5,b5,k5,d5,t5,P,r5⟩:=id z;obtain⟨e0,e1,e2,e3⟩:=P.cq;clear d;refine DV ?_;exact⟨(EM c λ_ _=>r5),f⟩
            . clear d;refine DV ?_;exact⟨(FC c),f⟩
            . clear d;refine DV ?_;exact⟨(GW c),f⟩
            . obtain rfl:=c.o.2.1 (d 1 DJ);obtain rfl:=c.o.2.2.1 (d 2 DJ);clear d;refine DV ?_;exact⟨(Fx (GW (FC c))),f⟩
            . have z:=f.o.1 (DN ad I);obtain rfl:=c.o.2.2.2.1 (d 3 DJ);obtain⟨⟨e0,e1,e2,e3⟩,hr⟩:=Qf.o V z.1.2;clear d;refine DV ?_;exact⟨(Fy (Fx c) λ_ _=>hr),f⟩
            . clear d;refine DV ?_;exact⟨(GX c),f⟩
            . clear d;refine DV ?_;exact⟨(GY c),f⟩
            . clear d;refine DV ?_;exact⟨(Hc c),f⟩
            . obtain rfl:=Dq c (d 6 DJ);obtain rfl:=Ds c (d 7 DJ);clear d;refine DV ?_;exact⟨(Hd (Hc (GY c))),f⟩
            . obtain rfl:=Do c (d 5 DJ);obtain rfl:=Dt c (d 8 DJ);clear d;refine DV ?_;exact⟨(He (Hd (GX c))),f⟩
            . have z:=f.o.1 (DN ad I);obtain rfl:=Dl c (d 9 DJ);obtain⟨⟨e0,e1,e2,e3⟩,hr⟩:=Qh.o V z.1.2;clear d;refine DV ?_;exact⟨(FM (He c) λ_ _=>hr),f⟩
            . have U:D 13=false:=DN ad I;have A:=c.o.2.2.2.2.1 (d 4 DJ) U;have W:=Du c (d 10 DJ) U;clear d;have HC:=Z (KJ _ _ (cf ps k) (cf qs m) V A W (HP.o.at k) (HQ.o.at m));clear A W;refine Jf J J λK hK=>?_;go_simp;go_wp2_with(go_at_call 73;refine HC.o.mono ?_;rintro e w5 ⟨v5,rfl,ap,q⟩)
              obtain⟨G0,G1,G2,G3,G4,G5,G6,G7,G8,G9,ah,_,dj⟩:=c.o;exact E8 ⟨_,_,_,_,_,J,Z ⟨λh g=>(G0 h g).below q,G1,G2,G3,λh g=>(G4 h g).below q,G5,G6,G7,G8,G9,λh g=>(ah h g).below q,λ_ _=>ap,λh g=>(dj h g).below q⟩,Z ⟨λh=>(f.o.1 h).below q,λh=>(f.o.2 h).below q⟩⟩
            . have U:D 13=false:=DN ad I;have A:=c.o.1 (d 0 DJ) U;have W:=Hh c (d 11 DJ) U;clear d;have HC:=Z (L6 _ _ y (cf ps k*cf qs m) V A W Qm.o (Qn.o.1 k m));rw[Qc.o]at HC;clear A W;refine Jf J J λK hK=>?_;go_simp;go_wp2_with(go_at_call 71;refine HC.o.mono ?_;rintro e w5 ⟨v5,rfl,ap,q⟩)
              obtain⟨G0,G1,G2,G3,G4,G5,G6,G7,G8,G9,ah,di,_⟩:=c.o;exact E8 ⟨_,_,_,_,_,J,Z ⟨λh g=>(G0 h g).below q,G1,G2,G3,λh g=>(G4 h g).below q,G5,G6,G7,G8,G9,λh g=>(ah h g).below q,λh g=>(di h g).below q,λ_ _=>ap⟩,Z ⟨λh=>(f.o.1 h).below q,λh=>(f.o.2 h).below q⟩⟩
            . have z:=f.o.1 I;have A:=c.o.2.2.2.2.2.2.2.2.2.2.2.2 (d 12 DJ) I;obtain⟨a9,l9,c9,s9,b9,k9,d9,t9,rfl⟩:=Jj.form A;obtain⟨_,_,_,a5,l5,c5,s5,b5,k5,d5,t5,P,r5⟩:=id z;obtain⟨e0,e1,e2,e3⟩:=P.cq;obtain⟨f0,f1,f2,f3⟩:=P.fq;clear d;refine DV ?_;exact⟨(Hg (Fz (FM (Fy (EM c λ_ h=>by simp at h) λ_ h=>by simp at h) λ_ h=>by simp at h) λ_ h=>by simp at h) λ_ h=>by simp at h),Z ⟨λh=>by simp at h,λ_=>z.put A⟩⟩
           case fin1=>
            rintro D ai V bn ⟨ta,tb,tc,td,te,tf,tg,ti,tj,tk,tl,tm,tn,rfl,c,f⟩;have HO:=Z (f.o.2 (bn 13 DP));clear c f bn;go_wp2_with fail
            go_roundw
            case rel=>exact⟨k+1,O,by go_num,HO⟩
            case measure=>simp[intOf];omega
         . have Qd:¬(m:Int)<(lb:Int):=O
           have HZ:=Z (show conv ps qs (k+1) i=conv ps qs k i by rw[<-Qc.o,JV (p:=qs) (by have:=Ql.o;omega),Rat.mul_zero,Rat.add_zero]);go_wp2_with fail
           go_roundw
           case rel=>exact⟨k+1,O,by go_num,Z (by rw[HZ.o];exact x.o)⟩
           case measure=>simp[intOf];omega
       . have Qi:¬(k:Int)<(la:Int):=O
         have HZ:=Z (show conv ps qs (k+1) i=conv ps qs k i by rw[<-Qc.o,JV (p:=ps) (by have:=Qk.o;omega),Rat.zero_mul,Rat.add_zero]);go_wp2_with fail
         go_roundw
         case rel=>exact⟨k+1,O,by go_num,Z (by rw[HZ.o];exact x.o)⟩
         case measure=>simp[intOf];omega
     . obtain rfl:k=i+1:=O
       have Qe:¬((i+1:Nat):Int)<=(i:Int):=O
       obtain⟨_,_,_,a5,l5,c5,s5,b5,k5,d5,t5,P,r5⟩:=id x.o;obtain⟨e0,e1,e2,e3⟩:=P.cq;obtain⟨v9,w9,bt,co,dz,bu⟩:=Y9 false w.heap.size wr _ _ x.o.1.1 r5 (by rw[<-Qg.o,JC];omega) x.o.1.2.size;dsimp only[EW,Dj]at bt;have Qj:=Z co;have Qp:=Z (bu w.heap.size w (Aa _) x.o.1.2);clear co dz bu P r5;go_wp2_with(at_builtin;refine Bk _ J _ _ 30 30 J _ _ J J _ _ bt ?_)
       obtain⟨a9,c9,e9,_⟩:=Qj.o.form;rw[<-Qg.o,AE,JC]at e9;go_roundw
       case rel=>exact⟨i+1,O,by go_num,⟨a9,c9,e9⟩,Z ⟨by rw[Yv,Qg.o];exact Qj.o,Qp.o⟩⟩
       case measure=>simp[intOf];omega
  . obtain rfl:i=n:=O
    have HT:=Z (Gl _ _ wr (T.o.1.row (by rw[JC];omega)));rw[Vk ps qs i (by have:=HN.o;have:=Qk.o;have:=Ql.o;omega)]at HT;go_wp2_with(go_at_call 23;refine HT.o.mono ?_;clear HT;rintro e w1 ⟨u1,rfl,S,v⟩;obtain⟨a7,l7,c7,rfl⟩:=S.form)
    go_ret;exact⟨_,J,S,Bt T.o.2 v⟩
end
namespace M3
def Vm(va vx:N)(ps:K)(x:Rat)(w:G)(ha:RowK false w va ps)(hx:Jj w vx x)(ay:Sqs ps)(az:Sq x)(aq:Hy ps x):
 Calls Tryz.prog 37 #[va,vx] w λe w'=>∃u,e=.returned u/\Jj w' u (ev ps x)/\Bl w w':=by
 obtain⟨a,la,ca,rfl⟩:=ha.form;obtain⟨xa,xl,xc,xs,xb,xk,xd,xt,rfl⟩:=Jj.form hx;obtain⟨ap,bf,bg,bj,s,t,aa,bb,ll,cc,kk,dd,hc⟩:=ha.formsF;obtain⟨W0,bc,ad⟩:=Lm 49 (.ref x) hx 49 (.zref) J;have M1:=ad.o;obtain⟨A,HP,HX,HK,Qi,Qh⟩:=GZ hc ay az aq ap λ(V:G)=>Yn 0 O O V;have bk:L.wrap ((la:Int)-1)=(la:Int)-1:=by rw[Bg];omega
 clear ha hx ay az aq ap hc M1;go_enter func37,ntmps37
 go_upto_region 1 with fail
 rw[bc.o];go_upto_region 2 with(go_at_call 62;refine(Qh.o _).mono ?_;clear Qh;rintro e w1 ⟨u1,rfl,ai,an⟩;obtain⟨a1,l1,c1,s1,b1,k1,d1,t1,rfl⟩:=Jj.form ai)
 have M2:DL w _ _:=(ad.o.below an).push (.ref 0) ai;obtain⟨W1,ah⟩:=ex (w1.alloc (.cells #[E a1 l1 c1,F s1,E b1 k1 d1,F t1] 49));obtain⟨B,n⟩:=ex (w1.heap.size);rw[ah];rw[n];have M3:DL w W1 [some (w.heap.size,.ref x),some (w.heap.size+1,.zref),some (B,.ref (0:Rat))]:=by rw[<-ah,<-n];exact M2
 have Qd:=Z M3;clear M2 M3 ai an ad ah n;go_wp2;go_loopw [6] (λiv wr=>∃m:Nat,m<=la/\iv=H L ((m:Int)-1)/\Hid (DL w wr [some (w.heap.size,.ref x),some (w.heap.size+1,.zref),some (B,.ref (ev (ps.drop m) x))])) λiv _=>((intOf iv)+1).toNat
 case atStart=>
  refine⟨la,Aa _,J,Z ?_⟩;rw[An (by have:=Qi.o;omega)];exact Qd.o
 case round=>
  obtain⟨m,hm,rfl,v⟩:=hrel;clear Qd;by_cases l:m=0
  . subst l;have Qc:((((0:Nat):Int)-1))=-1:=O
    rw[Qc];clear Qc;rw[AB]at v;obtain⟨S,l5,c5,s5,T,k5,U,t5,o,r,i5,j5⟩:=v.o.ref (i:=2) J;have n6:=v.o.zref (i:=1) J;obtain⟨W,X,e2,e3⟩:=o.cq;obtain⟨f0,f1,f2,f3⟩:=n6.fq;obtain⟨r0,r1,r2,r3⟩:=n6.cq;have Qk:=Z (v.o.putZref (i:=1) J r).2.2;have Qm:=Z (L8 n6 r (E S l5 c5) (F s5) (E T k5 U) (F t5));clear o r i5 j5 n6;go_wp2_with fail
    exact BA (by simp[results,results37,go_sem,r0,r1,r2,r3]) J ⟨_,J,Qm.o,Qk.o⟩
  . obtain⟨j,hj⟩:∃j:Nat,m=j+1:=⟨m-1,O⟩;have Qf:(m:Int)-1=(j:Int):=O
    rw[Qf];have bd:=Z hj;rw[hj]at v;have Qj:j<la:=O
    have bi:(j:Int)<(la:Int):=O
    obtain⟨C,b,rfl,Q,c0,c1,c2,c3⟩:=A.o j Qj;have Ql:=Z (show ∀V,Bl w V->(V.cell? ⟨b,j*4,none⟩=some (E (aa j) (ll j) (cc j))/\V.cell? ⟨b,j*4+1,none⟩=some (F (s j))/\V.cell? ⟨b,j*4+2,none⟩=some (E (bb j) (kk j) (dd j))/\V.cell? ⟨b,j*4+3,none⟩=some (F (t j)))/\Jj V (.agg #[E (aa j) (ll j) (cc j),F (s j),E (bb j) (kk j) (dd j),F (t j)]) (cf ps j)from λV n=>by
     exact⟨⟨(n.cell (p:=⟨b,_,none⟩) Q).trans c0,(n.cell (p:=⟨b,_,none⟩) Q).trans c1,(n.cell (p:=⟨b,_,none⟩) Q).trans c2,(n.cell (p:=⟨b,_,none⟩) Q).trans c3⟩,C.below n⟩)
    have Qg:=Z (Om ps x (m:=j) (by have:=Qi.o;omega));obtain⟨y,hy⟩:=ex (ev (ps.drop (j+1)) x);have Qe:=Z (show Sq y/\Sq (y*x)by rw[<-hy];exact HK.o (j+1));rw[hy]at v Qg;clear C c0 c1 c2 c3 Q hj Qf hy l hm;go_wp2_with fail
    have Qn:=v.o.drew;refine JF Di [[],[],[0,1],[],[],[3,4],[5],[2,6,2],[7,7,0,1,2,3,4,5,6,7]] Zv DP
     (λD ae V=>∃(ta tb tc td te tf tg ti:N),ae={ tmps:=#[E (some ⟨b,0,none⟩) la ca,.agg #[E xa xl xc,F xs,E xb xk xd,F xt],undef,M (some ⟨w.heap.size,0,none⟩),M (some ⟨w.heap.size+1,0,none⟩),M (some ⟨B,0,none⟩),H L ↑j,.agg #[E a1 l1 c1,F s1,E b1 k1 d1,F t1],E (some ⟨b,0,none⟩) la ca,H L ↑la,H L (↑la-1),H L ↑j,F true,u13,u14,ta,tb,tc,td,te,tf,tg,ti,undef],defers:=[] }/\Hid ((D 0=true->D 8=false->Jj V ta y)/\(D 1=true->D 8=false->Jj V tb x)/\(D 2=true->D 8=false->Jj V tc (y*x))/\(D 3=true->td=E (some ⟨b,0,none⟩) la ca)/\(D 4=true->te=H L (j:Int))/\(D 5=true->tf=M (some ⟨b,j*4,none⟩))/\(D 6=true->D 8=false->Jj V tg (cf ps j))/\(D 7=true->D 8=false->Jj V ti (ev (ps.drop j) x)))/\Hid ((D 8=false->DL w V [some (w.heap.size,.ref x),some (w.heap.size+1,.zref),some (B,.ref y)])/\(D 8=true->DL w V [some (w.heap.size,.ref x),some (w.heap.size+1,.zref),some (B,.ref (ev (ps.drop j) x))])))
     (E8 ⟨J,Z DJ,Z ⟨λ_=>Qn,DJ⟩⟩) ?step1 ?fin1
    case step1=>
     rintro D ae V i ds R C f z ⟨ta,tb,tc,td,te,tf,tg,ti,rfl,c,d⟩;have bh:i<9:=(Ag.1 C).1;obtain rfl|rfl|rfl|rfl|rfl|rfl|rfl|rfl|rfl:=Pk i O
     all_goals
      simp only[Ap,Al,Ay]at C;subst C
     . have q:=d.o.1 (DN R z);obtain⟨S,l5,c5,s5,T,k5,U,t5,o,r,i5,j5⟩:=q.ref (i:=2) J;obtain⟨W,X,e2,e3⟩:=o.cq;clear f;refine DV ?_;exact⟨(EM c λ_ _=>r),d⟩
     . have q:=d.o.1 (DN R z);obtain⟨S,l5,c5,s5,T,k5,U,t5,o,r,i5,j5⟩:=q.ref (i:=0) J;obtain⟨W,X,e2,e3⟩:=o.cq;clear f;refine DV ?_;exact⟨(FC c λ_ _=>r),d⟩
     . have I:D 8=false:=DN R z;have l:=c.o.1 (f 0 DJ) I;have P:=c.o.2.1 (f 1 DJ) I;clear f;have A:=Z (KJ _ _ y x V l P Qe.o.1 HX.o);clear l P;refine Jf J J λK hK=>?_;go_simp;go_wp2_with(go_at_call 73;refine A.o.mono ?_;rintro e w5 ⟨v5,rfl,aj,k⟩)
       obtain⟨G0,G1,_,G3,G4,G5,G6,G7⟩:=c.o;exact E8 ⟨J,Z ⟨λh g=>(G0 h g).below k,λh g=>(G1 h g).below k,λ_ _=>aj,G3,G4,G5,λh g=>(G6 h g).below k,λh g=>(G7 h g).below k⟩,Z ⟨λh=>(d.o.1 h).below k,λh=>(d.o.2 h).below k⟩⟩
     . clear f;refine DV ?_;exact⟨(Fx c),d⟩
     . clear f;refine DV ?_;exact⟨(Fy c),d⟩
     . obtain rfl:=c.o.2.2.2.1 (f 3 DJ);obtain rfl:=c.o.2.2.2.2.1 (f 4 DJ);clear f;refine DV ?_;exact⟨(GX (Fy (Fx c))),d⟩
     . have q:=d.o.1 (DN R z);obtain rfl:=Do c (f 5 DJ);obtain⟨⟨W,X,e2,e3⟩,hr⟩:=Ql.o V q.2.2;clear f;refine DV ?_;exact⟨(GY (GX c) λ_ _=>hr),d⟩
     . have I:D 8=false:=DN R z;have l:=c.o.2.2.1 (f 2 DJ) I;have P:=Dq c (f 6 DJ) I;clear f;have A:=Z (L6 _ _ (y*x) (cf ps j) V l P Qe.o.2 (HP.o.at j));rw[Qg.o]at A;clear l P;refine Jf J J λK hK=>?_;go_simp;go_wp2_with(go_at_call 71;refine A.o.mono ?_;rintro e w5 ⟨v5,rfl,aj,k⟩)
       obtain⟨G0,G1,G2,G3,G4,G5,G6,_⟩:=c.o;exact E8 ⟨J,Z ⟨λh g=>(G0 h g).below k,λh g=>(G1 h g).below k,λh g=>(G2 h g).below k,G3,G4,G5,λh g=>(G6 h g).below k,λ_ _=>aj⟩,Z ⟨λh=>(d.o.1 h).below k,λh=>(d.o.2 h).below k⟩⟩
     . have q:=d.o.1 z;have l:=c.o.2.2.2.2.2.2.2 (f 7 DJ) z;obtain⟨a9,l9,c9,s9,b9,k9,d9,t9,rfl⟩:=Jj.form l;obtain⟨S,l5,c5,s5,T,k5,U,t5,o,r,i5,j5⟩:=q.ref (i:=2) J;obtain⟨W,X,e2,e3⟩:=o.cq;obtain⟨f0,f1,f2,f3⟩:=o.fq;clear f;refine DV ?_;exact⟨Z ⟨λ_ h=>by simp at h,λ_ h=>by simp at h,λ_ h=>by simp at h,c.o.2.2.2.1,c.o.2.2.2.2.1,(Do c),λ_ h=>by simp at h,λ_ h=>by simp at h⟩,Z ⟨λh=>by simp at h,λ_=>q.putRef (i:=2) J l⟩⟩
    case fin1=>
     rintro D ae V ak ⟨ta,tb,tc,td,te,tf,tg,ti,rfl,c,d⟩;have HO:=Z (d.o.2 (ak 8 DP));clear c d ak;go_wp2_with fail
     go_roundw
     case rel=>exact⟨j,O,by go_num,HO⟩
     case measure=>simp[intOf]
