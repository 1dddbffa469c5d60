import Derived.Test.YtakpoihdghihmaaGreatDoorU29
import Derived.Test.YtakpoihdghihmaaGreatDoorU26
set_option linter.all false
open Go.Value renaming slice->E,bool->F,int->H,pointer->M,string->B
open Go renaming World->G,Value->N
open Go.IntKind renaming i64->L
set_option maxRecDepth 99999
set_option maxHeartbeats 0
namespace Go.Proofs.YtakpoihdghihmaaGreatDoor
open List renaming replicate->nL
open Proofs.Tryz
open Go.RowKit Go.Shelf
attribute [local go_sem] Oper.semAt_some
section
variable{b:Bool}{S:Ja}{l:List UInt8}{e k m n p:Nat}{c:Rat}{a:G}
def DP.add2{p q:Rat}(hp:DP k p)(hq:DP m q):DP (k+m+1) (p+q):=by
 rw[<-Og];refine DP.divInt ?_ ((hp.1.mul hq.2).add (by have:=hq.1.mul hp.2;rwa[FF]at this)) ((hp.2.mul hq.2).mono O);exact AV (by have:=p.den_nz;omega) (by have:=q.den_nz;omega)
def GA.sm(h:GA c):DP 1 c:=by
 obtain⟨x,y,rfl,a,b,d⟩:=h;exact DP.divInt O (by unfold Sm Z;omega) (by unfold Sm Z;omega)
theorem DP.zero(k:Nat)(a:1<=k):DP k 0:=⟨Sm.zero k,Sm.one k a⟩
def NU(n:Nat)(c:Rat)(i:Nat):cf (Df n [c]) i=if i=n then c else 0:=by
 rw[Ir];by_cases h:n<=i
 . rw[BG h];by_cases a:i=n
   . rw[BG a,a,Cv,YE]
   . rw[BD a,JZ si]
 . rw[BD h,BD O]
def Ti(h:GA c):Sqs (Jc (Df n [c])):=Sqs.of λi=>by
 rw[JT,NU];split
 . exact Sq.of h.sm O
 . exact Sq.of (DP.zero 1 O) O
def Pg(n:Nat)(c:Rat):(Jc (Df n [c])).length<=n+1:=Af (JV _) (by simp[Df])
theorem gE(c:Rat)(h:n<S.length):Xc (Jc S) (Jc (Df n [c]))=Jc (S.set n (cf S n+c)):=by
 unfold Xc;refine YL λi=>?_;rw[XL,JT,JT,NU,XY _ _ _ _ h];split
 . rename_i h;rw[h]
 . grind
theorem gF(c:Rat)(h:n<S.length):Ys (Jc S) (Jc (Df n [c]))=Jc (S.set n (cf S n-c)):=by
 unfold Ys;refine YL λi=>?_;rw[XL,Xq,JT,JT,NU,XY _ _ _ _ h];split
 . rename_i h;rw[h];grind
 . grind
def Xu(S:Ja)(m:Nat):Prop:=S.length=9/\∀i,DP (2*m+1) (cf S i)
def Xu.start:Xu (nL 9 0) 0:=⟨J,λi=>by rw[J1];exact DP.zero 1 O⟩
def Xu.sqs(h:Xu S m)(a:m<=300):Sqs (Jc S):=Sqs.of λi=>by rw[JT];exact Sq.of (h.2 i) O
def Xu.next(h:Xu S m)(a:GA c)(d:n<=8)(b:Bool):Xu (S.set n (if b then cf S n-c else cf S n+c)) (m+1):=by
 refine⟨by rw[Fg];exact h.1,λi=>?_⟩;rw[XY _ _ _ _ (by rw[h.1];omega)];split
 . cases b
   . exact((h.2 n).add2 a.sm).mono O
   . rw[BG J,Fq];exact((h.2 n).add2 a.sm.neg).mono O
 . exact(h.2 i).mono O
def gG{j:Nat}{c d:UInt8}(a:Ye l j c=true)(b:Ye l j d=true):c=d:=by
 unfold Ye at a b;rw[beq_iff_eq]at a b;exact Ck (a.symm.trans b)
def NW{f:Nat}{I:Nat}(h:Yh l I=.error e p):EL l (f+1) b I S=.error e p:=by
 rw[EL,h]
def NX{f:Nat}{I:Nat}(h:Yh l I=.ok (c,n) k):EL l (f+1) b I S =
 if Ye l (DL l k) 43 then EL l f false (DL l k+1) (S.set n (if b then cf S n-c else cf S n+c))else if Ye l (DL l k) 45 then EL l f true (DL l k+1) (S.set n (if b then cf S n-c else cf S n+c))else if DL l k=l.length then .ok (S.set n (if b then cf S n-c else cf S n+c)) (DL l k)else .error 2 (DL l k):=by
 rw[EL,h]
def gH(l:List UInt8)(i:Nat):(Yh l i).pos:=by
 intro e p h;rw[Ig]at h;split at h
 . rename_i b c a;cases h;exact Te l i _ _ a
 . split at h
   . split at h
     . rename_i b c a;cases h;exact fU _ _ _ _ a
     . cases h
   . cases h
def ED(l:List UInt8):Rd Ja:=if Ye l (DL l 0) 45 then EL l (l.length+1) true (DL l 0+1) (nL 9 0)else EL l (l.length+1) false (DL l 0) (nL 9 0)
def Lm(r:Rd Ja):Ja × Nat × Nat:=match r with|.error e p=>([],e,p)|.ok s _=>(Jc s,0,0)
def Lo(h:¬300<l.length):J7 l=Lm (ED l):=by
 unfold J7 ED Lm;rw[BD h];split<;>(rename_i a;rw[a])
def Ga(l:List UInt8)(a:G)(u:N)(e p:Int):Prop:=e=((J7 l).2.1:Int)/\p=((J7 l).2.2:Int)/\RowK false a u (J7 l).1/\(J7 l).1.length<=9/\∀i,DP 601 (cf (J7 l).1 i)
def Ga.bad(h:J7 l=([],e,p)):Ga l a (E none 0 0) e p:=by
 rw[Ga,h];exact⟨J,J,RowK.nil _ _,DG,λi=>by rw[YB];exact DP.zero _ O⟩
def Ga.ok{u:N}(h:J7 l=(Jc S,0,0))(b:Xu S m)(d:m<=300)(c:RowK false a u (Jc S)):Ga l a u 0 0:=by
 rw[Ga,h];exact⟨J,J,c,Af (JV _) (by rw[b.1];exact Aa _),λi=>by rw[JT];exact(b.2 i).mono O⟩
def below_drewN{w W:G}(h:Bl w W)(k:Nat):Bl w (W.drewN k):=h.grown (JD W k none) h.size (λk e=>by cases e)
def DV.new(w:G)(s:ByteArray):DV (w.alloc (.cells #[B s,H L 0,H L 0,H L 0] 134)) w.heap.size s 0 0 0:=BB w _
def gI(s:ByteArray)(ck:s.size<=140737488351232)(w:G):
 Calls Tryz.prog 45 #[B s] w λr w'=>∃(u:N) (e p:Int),r=.returned (.tuple #[u,H L e,H L p])/\Ga (Je s) w' u e p/\Bl w w':=by
 by_cases bk:300<s.size
 . have bu:(300:Int)<(s.size:Int):=O
   have HP:=Y (show J7 (Je s)=([],1,0)by unfold J7;rw[BG (by rw[Jl];exact bk)]);go_enter func45,ntmps45
   go_wp2;exact A0 (v:=.tuple #[E none 0 0,H L 1,H L 0]) (by simp[results,results45,go_sem]) J ⟨_,_,_,J,Ga.bad HP.o,BA _ _⟩
 . have bu:¬(300:Int)<(s.size:Int):=O
   have C:s.size<=300:=O
   have HP:=Y (Lo (l:=Je s) (by rw[Jl];exact bk));clear bk ck;have Um:Bl w (w.alloc (.cells #[B s,H L 0,H L 0,H L 0] 134)):=Ba w _;have Uc:=DV.new w s;obtain⟨W0,bi⟩:=ex (w.alloc (.cells #[B s,H L 0,H L 0,H L 0] 134));rw[bi]at Um Uc;obtain⟨R,hR⟩:=ex (w.heap.size);rw[hR]at Uc;obtain⟨o,Up,Uo,Ux⟩:=Di hR bi Um Uc;obtain⟨b0,bj⟩:∃b,b=(decide ((0:Int)=0)&&Ye (Je s) (DL (Je s) 0) 45):=⟨_,J⟩;have Ut:=Y (Xk R s 0 0 0 45 W0 Uc O C b0 bj);have HB:=Y (show Ye (Je s) (DL (Je s) 0) 45=b0 by rw[bj];simp);clear Um Uc bj hR bi;go_enter func45,ntmps45
   go_upto_region 4 with fail
   rw[Up.o,o.o];go_wp2_with(first
    |(go_at_call 98;refine Ut.o.mono ?_;clear Ut;rintro e w1 ⟨rfl,bc,ay⟩;have Uq:=Y bc;have Qw:=Y (below_grown Uo.o ay (by rw[o.o];exact Aa _));clear bc ay))
   go_loopw [6,7,8] (λmv pv _ wr=>∃(b:Bool) (I f m:Nat) (S:Ja) (a:nJ) (la ca:Nat),mv=F b/\pv=E a la ca/\I<=s.size/\Hid (DV wr R s (I:Int) 0 0)/\Hid (RowK false wr (E a la ca) (Jc S))/\Hid (Xu S m)/\Hid (m<=I/\s.size-I<f/\EL (Je s) f b I S=ED (Je s))/\Hid (Bl w wr)) λ_ _ _ wr=>s.size-F6 wr R
   case atStart=>
    have Uv:DL (Je s) 0<=s.size:=by rw[<-Jl];exact Yx O
    refine⟨b0,DL (Je s) 0+(if b0 then 1 else 0),s.size+1,0,nL 9 0,none,0,0,J,J,?_,Y Uq.o,Y ?_,Y Xu.start,Y ⟨O,O,?_⟩,Y Qw.o⟩
    . cases hb:b0
      . simpa using Uv
      . have h1:=HB.o;rw[hb]at h1;have h2:=Yg h1;rw[Jl]at h2;simp;omega
    . rw[MG λi=>J1 9 i];exact RowK.nil _ _
    . unfold ED;rw[HB.o,Jl];cases b0<;>rfl
   case round=>
    clear Uq Qw HB Uo Ux Up;obtain⟨b,I,f,m,S,a,la,ca,rfl,rfl,hI,bf,bt,HS,HT,HG⟩:=hrel;have Ur:=Y (gD R s I 0 0 wr bf.o hI C);go_upto_if 19 with(first
     |(go_at_call 99;refine Ur.o.mono ?_;clear Ur;rintro e w1 ⟨u,c,n,D,rfl,hu,cj,hF,an,bc,bn,ay⟩;have Qo:=Y (bt.o.rd bf.o ay);have Qy:=Y bc;have HU:=Y hu;have HF:=Y hF;have Uw:=Y (bn J);have Qw:=Y (below_grown HG.o ay (by rw[o.o];exact Aa _));obtain⟨a2,l2,c2,rfl⟩:=hu.form;clear bc hu hF bn ay))
    obtain⟨d,bg⟩:=ex (DL (Je s) D);have Qn:=Y bg;have Qg:d<=s.size:=by rw[<-bg,<-Jl];exact Yx (by rw[Jl];exact an)
    have K:=Y (show DL (Je s) d=d by rw[<-bg];exact Ku _ _);clear bg;obtain⟨f,rfl⟩:∃g,f=g+1:=⟨f-1,by have:=HT.o.2.1;omega⟩;have Ui:=Y (HS.o.next HF.o cj b);obtain⟨S2,bh⟩:=ex (S.set n (if b then cf S n-c else cf S n+c));rw[bh]at Ui;have Ul:=Y bh;clear bh;go_cut [7] λpv wx=>∃a3 l3 c3,pv=E a3 l3 c3/\Hid (RowK false wx (E a3 l3 c3) (Jc S2))/\Hid (DV wx R s (D:Int) (Dz (Yh (Je s) I) 0) (EG (Yh (Je s) I) 0 0))/\Hid (Bl w wx)
    case first=>
     cases b with
     |false=>
      have Ub:=Y λ(V:G) (h1:RowK false V (E a la ca) (Jc S)) (h2:RowK false V (E a2 l2 c2) (Jc (Df n [c])))=>Pc _ _ _ _ V h1 h2 (HS.o.sqs (by have:=HT.o.1;omega)) (Ti HF.o) ⟨(by have:=JV S;have:=HS.o.1;omega),(by have:=Pg n c;omega)⟩;obtain rfl:S.set n (cf S n+c)=S2:=Ul.o;go_wp2_with(go_at_call 101;refine(Ub.o _ Qo.o HU.o).mono ?_;clear Ub;rintro e w2 ⟨u2,rfl,am,ap⟩;rw[gE c (by rw[HS.o.1];omega)]at am;obtain⟨a3,l3,c3,rfl⟩:=am.form;have Qh:=Y am;have T:=Y (Qy.o.below ap);have Qu:=Y (Bt Qw.o ap);clear am ap)
      go_meet
      case rel=>exact⟨_,_,_,J,Qh,T,Qu⟩
     |true=>
      have Ub:=Y λ(V:G) (h1:RowK false V (E a la ca) (Jc S)) (h2:RowK false V (E a2 l2 c2) (Jc (Df n [c])))=>TZ _ _ _ _ V h1 h2 (HS.o.sqs (by have:=HT.o.1;omega)) (Ti HF.o) ⟨(by have:=JV S;have:=HS.o.1;omega),(by have:=Pg n c;omega)⟩;obtain rfl:S.set n (cf S n-c)=S2:=Ul.o;go_wp2_with(go_at_call 100;refine(Ub.o _ Qo.o HU.o).mono ?_;clear Ub;rintro e w2 ⟨u2,rfl,am,ap⟩;rw[gF c (by rw[HS.o.1];omega)]at am;obtain⟨a3,l3,c3,rfl⟩:=am.form;have Qh:=Y am;have T:=Y (Qy.o.below ap);have Qu:=Y (Bt Qw.o ap);clear am ap)
      go_meet
      case rel=>exact⟨_,_,_,J,Qh,T,Qu⟩
    obtain⟨a3,l3,c3,rfl,Qh,T,Qu⟩:=hcut;clear Qo Qy Qw HU;by_cases ah:Dz (Yh (Je s) I) 0=0
    . obtain⟨_,⟨c0,n0⟩,k,hk⟩:=Pe (gH _ _) ah;obtain⟨rfl,rfl,rfl⟩:=Uw.o c0 n0 k hk;rw[ah,(F7 hk 0 0).2]at T;have Qz:=Y (show m<=I/\I<D/\D<=d/\d<=s.size/\s.size-I<f+1 from⟨HT.o.1,(MT (by rw[Jl];exact hI) hk).1,by rw[<-Qn.o];exact Gg _ _,Qg,HT.o.2.1⟩);have Uf:=Y (NX (f:=f) (b:=b) (S:=S) hk);rw[Qn.o,HT.o.2.2,Ul.o]at Uf;clear ah hk;cases aj:Ye (Je s) d 43 with
      |true=>
       obtain⟨Qr,Qk,Un⟩:=DX aj (show Ye (Je s) d 45=false from Bool.eq_false_iff.2 λh=>absurd (gG aj h) DK) (show EL (Je s) f false (d+1) S2=ED (Je s)by rw[Uf.o,BG aj]);have Ua:d+1<=s.size:=by have:=Yg aj;rw[Jl]at this;omega
       clear aj;have t:=Y λ(V:G) (j:DV V R s (D:Int) 0 0)=>GM R s D 0 0 45 V j an C;rw[show(decide ((0:Int)=0)&&Ye (Je s) (DL (Je s) D) 45)=false from by rw[Qn.o];simp[Qk.o],Qn.o]at t;have x:=Y λ(V:G) (j:DV V R s (d:Int) 0 0)=>Xk R s d 0 0 43 V j Qg C true (by rw[K.o];simp[Qr.o]);rw[K.o]at x;go_wp2_with(first
        |(go_at_call 102;refine(t.o _ T.o).mono ?_;clear t;rintro e w3 ⟨rfl,X,y⟩;have Qe:=Y (Qh.o.rd T.o y);have W:=Y X;have Qq:=Y (below_grown Qu.o y (by rw[o.o];exact Aa _));clear X y)
        |(go_at_call 98;refine(x.o _ W.o).mono ?_;clear x;rintro e w4 ⟨rfl,ad,z⟩;have Qf:=Y (Qe.o.rd W.o z);have U:=Y ad;have Qt:=Y (below_grown Qq.o z (by rw[o.o];exact Aa _));clear ad z))
       go_roundw
       case rel=>exact⟨_,d+1,f,m+1,_,_,_,_,J,J,Ua,Y U.o,Y Qf.o,Y Ui.o,Y ⟨by have:=Qz.o;omega,by have:=Qz.o;omega,Un.o⟩,Y Qt.o⟩
       case measure=>
        have e1:=H7 (I:=d+1) U.o;have e2:=H7 bf.o;rw[e1,e2];have:=Qz.o;omega
      |false=>
       have Qr:=Y aj;cases ak:Ye (Je s) d 45 with
       |true=>
        have Qk:=Y ak;have Un:=Y (show EL (Je s) f true (d+1) S2=ED (Je s)by rw[Uf.o,BD (show ¬Ye (Je s) d 43=true by rw[aj];decide),BG ak]);have Ua:d+1<=s.size:=by have:=Yg ak;rw[Jl]at this;omega
        clear aj ak;have t:=Y λ(V:G) (j:DV V R s (D:Int) 0 0)=>GM R s D 0 0 45 V j an C;rw[show(decide ((0:Int)=0)&&Ye (Je s) (DL (Je s) D) 45)=true from by rw[Qn.o];simp[Qk.o],Qn.o]at t;have x:=Y λ(V:G) (j:DV V R s (d:Int) 0 0)=>Xk R s d 0 0 43 V j Qg C false (by rw[K.o];simp[Qr.o]);rw[K.o]at x;have P:=Y λ(V:G) (j:DV V R s (d:Int) 0 0)=>Xk R s d 0 0 45 V j Qg C true (by rw[K.o];simp[Qk.o]);rw[K.o]at P;go_wp2_with(first
         |(go_at_call 102;refine(t.o _ T.o).mono ?_;clear t;rintro e w3 ⟨rfl,X,y⟩;have Qe:=Y (Qh.o.rd T.o y);have W:=Y X;have Qq:=Y (below_grown Qu.o y (by rw[o.o];exact Aa _));clear X y)
         |(go_at_call 98;refine(x.o _ W.o).mono ?_;clear x;rintro e w4 ⟨rfl,ad,z⟩;have Qf:=Y (Qe.o.rd W.o z);have U:=Y ad;have Qt:=Y (below_grown Qq.o z (by rw[o.o];exact Aa _));clear ad z)
         |(go_at_call 98;refine(P.o _ U.o).mono ?_;clear P;rintro e w5 ⟨rfl,ai,Q⟩;have Qj:=Y (Qf.o.rd U.o Q);have Qi:=Y ai;have Qv:=Y (below_grown Qt.o Q (by rw[o.o];exact Aa _));clear ai Q))
        go_roundw
        case rel=>exact⟨_,d+1,f,m+1,_,_,_,_,J,J,Ua,Y Qi.o,Y Qj.o,Y Ui.o,Y ⟨by have:=Qz.o;omega,by have:=Qz.o;omega,Un.o⟩,Y Qv.o⟩
        case measure=>
         have e1:=H7 (I:=d+1) Qi.o;have e2:=H7 bf.o;rw[e1,e2];have:=Qz.o;omega
       |false=>
        have Qk:=Y ak;by_cases bm:d<s.size
        . have Qm:=Y (show J7 (Je s)=([],2,d)by rw[HP.o,Uf.o,BD (show ¬Ye (Je s) d 43=true by rw[aj];decide),BD (show ¬Ye (Je s) d 45=true by rw[ak];decide),BD (by rw[Jl];omega)];rfl);clear aj ak;have t:=Y λ(V:G) (j:DV V R s (D:Int) 0 0)=>GM R s D 0 0 45 V j an C;rw[show(decide ((0:Int)=0)&&Ye (Je s) (DL (Je s) D) 45)=false from by rw[Qn.o];simp[Qk.o],Qn.o]at t;have x:=Y λ(V:G) (j:DV V R s (d:Int) 0 0)=>Xk R s d 0 0 43 V j Qg C false (by rw[K.o];simp[Qr.o]);rw[K.o]at x;have P:=Y λ(V:G) (j:DV V R s (d:Int) 0 0)=>Xk R s d 0 0 45 V j Qg C false (by rw[K.o];simp[Qk.o]);rw[K.o]at P;have H8:=Y λ(V:G) (j:DV V R s (d:Int) 0 0)=>GM R s d 0 0 32 V j Qg C;rw[K.o]at H8;have Ug:=Y λ(V:G) (j:DV V R s (d:Int) 0 0)=>Ll R s (d:Int) 0 0 2 (d:Int) V j;have ce:(d:Int)<(s.size:Int):=O
          go_wp2_with(first
           |(go_at_call 102;refine(t.o _ T.o).mono ?_;clear t;rintro e w3 ⟨rfl,X,y⟩;have Qe:=Y (Qh.o.rd T.o y);have W:=Y X;have Qq:=Y (below_grown Qu.o y (by rw[o.o];exact Aa _));clear X y)
           |(go_at_call 98;refine(x.o _ W.o).mono ?_;clear x;rintro e w4 ⟨rfl,ad,z⟩;have Qf:=Y (Qe.o.rd W.o z);have U:=Y ad;have Qt:=Y (below_grown Qq.o z (by rw[o.o];exact Aa _));clear ad z)
           |(go_at_call 98;refine(P.o _ U.o).mono ?_;clear P;rintro e w5 ⟨rfl,ai,Q⟩;have Qj:=Y (Qf.o.rd U.o Q);have Qi:=Y ai;have Qv:=Y (below_grown Qt.o Q (by rw[o.o];exact Aa _));clear ai Q)
           |(go_at_call 102;refine(H8.o _ Qi.o).mono ?_;clear H8;rintro e w6 ⟨rfl,A,ae⟩;have Ql:=Y (Qj.o.rd Qi.o ae);have Qp:=Y A;have Ud:=A.c1;have Uh:=A.c2;have Ue:=A.c3;have Qx:=Y (below_grown Qv.o ae (by rw[o.o];exact Aa _));clear A ae)
           |(go_at_call 103;refine(Ug.o _ Qp.o).mono ?_;clear Ug;rintro e w7 ⟨rfl,aq,az⟩;clear Ud Uh Ue;have Us:w7.cell? ⟨R,2,none⟩=some (H L 2):=aq.c2;have Uu:w7.cell? ⟨R,3,none⟩=some (H L (d:Int)):=aq.c3;have Uk:=Y (below_grown Qx.o az (by rw[o.o];exact Aa _));clear aq az))
          go_quiet (fail)
          go_wp2_with fail
          exact A0 (v:=.tuple #[E none 0 0,H L 2,H L (d:Int)]) (by simp[results,results45,go_sem]) J ⟨_,_,_,J,Ga.bad (e:=2) Qm.o,below_drewN Uk.o _⟩
        . have Qm:=Y (show J7 (Je s)=(Jc S2,0,0)by rw[HP.o,Uf.o,BD (show ¬Ye (Je s) d 43=true by rw[aj];decide),BD (show ¬Ye (Je s) d 45=true by rw[ak];decide),BG (by rw[Jl];omega)];rfl);clear aj ak;have t:=Y λ(V:G) (j:DV V R s (D:Int) 0 0)=>GM R s D 0 0 45 V j an C;rw[show(decide ((0:Int)=0)&&Ye (Je s) (DL (Je s) D) 45)=false from by rw[Qn.o];simp[Qk.o],Qn.o]at t;have x:=Y λ(V:G) (j:DV V R s (d:Int) 0 0)=>Xk R s d 0 0 43 V j Qg C false (by rw[K.o];simp[Qr.o]);rw[K.o]at x;have P:=Y λ(V:G) (j:DV V R s (d:Int) 0 0)=>Xk R s d 0 0 45 V j Qg C false (by rw[K.o];simp[Qk.o]);rw[K.o]at P;have H8:=Y λ(V:G) (j:DV V R s (d:Int) 0 0)=>GM R s d 0 0 32 V j Qg C;rw[K.o]at H8;have Uy:decide (d<s.size)=false:=BE bm;go_wp2_with(first
           |(go_at_call 102;refine(t.o _ T.o).mono ?_;clear t;rintro e w3 ⟨rfl,X,y⟩;have Qe:=Y (Qh.o.rd T.o y);have W:=Y X;have Qq:=Y (below_grown Qu.o y (by rw[o.o];exact Aa _));clear X y)
           |(go_at_call 98;refine(x.o _ W.o).mono ?_;clear x;rintro e w4 ⟨rfl,ad,z⟩;have Qf:=Y (Qe.o.rd W.o z);have U:=Y ad;have Qt:=Y (below_grown Qq.o z (by rw[o.o];exact Aa _));clear ad z)
           |(go_at_call 98;refine(P.o _ U.o).mono ?_;clear P;rintro e w5 ⟨rfl,ai,Q⟩;have Qj:=Y (Qf.o.rd U.o Q);have Qi:=Y ai;have Qv:=Y (below_grown Qt.o Q (by rw[o.o];exact Aa _));clear ai Q)
           |(go_at_call 102;refine(H8.o _ Qi.o).mono ?_;clear H8;rintro e w6 ⟨rfl,A,ae⟩;have Ql:=Y (Qj.o.rd Qi.o ae);have Qp:=Y A;have Ud:=A.c1;have Uh:=A.c2;have Ue:=A.c3;have Qx:=Y (below_grown Qv.o ae (by rw[o.o];exact Aa _));clear A ae))
          exact A0 (v:=.tuple #[E a3 l3 c3,H L 0,H L 0]) (by simp[results,results45,go_sem]) J ⟨_,_,_,J,Ga.ok Qm.o Ui.o (by have:=Qz.o;omega) Ql.o,Qx.o⟩
    . obtain⟨q,hE⟩:=ex (Dz (Yh (Je s) I) 0);obtain⟨A1,hA⟩:=ex (EG (Yh (Je s) I) 0 0);have Qs:∃e p:Nat,Yh (Je s) I=.error e p:=by
       cases hk:Yh (Je s) I with
       |error e p=>exact⟨e,p,J⟩
       |ok a k=>exact absurd (F7 hk 0 0).1 ah
      obtain⟨e0,p0,Qs⟩:=Qs;have Uj:=Y (show q=(e0:Int)/\A1=(p0:Int)by rw[<-hE,<-hA,Qs];exact⟨J,J⟩);have Qm:=Y (show J7 (Je s)=([],e0,p0)by rw[HP.o,<-HT.o.2.2,NW Qs];rfl);rw[hE,hA]at T;rw[hE]at ah;have cn:(q==0)=false:=by rw[BI];exact ah
      clear hE hA Qs;by_cases bm:d<s.size
      . skip
        have t:=Y λ(V:G) (j:DV V R s (D:Int) q A1)=>GM R s D q A1 45 V j an C;rw[show(decide ((q:Int)=0)&&Ye (Je s) (DL (Je s) D) 45)=false from by simp[ah],Qn.o]at t;have x:=Y λ(V:G) (j:DV V R s (d:Int) q A1)=>Xk R s d q A1 43 V j Qg C false (by simp[ah]);rw[K.o]at x;have P:=Y λ(V:G) (j:DV V R s (d:Int) q A1)=>Xk R s d q A1 45 V j Qg C false (by simp[ah]);rw[K.o]at P;have H8:=Y λ(V:G) (j:DV V R s (d:Int) q A1)=>GM R s d q A1 32 V j Qg C;rw[K.o]at H8;have Ug:=Y λ(V:G) (j:DV V R s (d:Int) q A1)=>Ll R s (d:Int) q A1 2 (d:Int) V j;have ce:(d:Int)<(s.size:Int):=O
        go_wp2_with(first
         |(go_at_call 102;refine(t.o _ T.o).mono ?_;clear t;rintro e w3 ⟨rfl,X,y⟩;have Qe:=Y (Qh.o.rd T.o y);have W:=Y X;have Qq:=Y (below_grown Qu.o y (by rw[o.o];exact Aa _));clear X y)
         |(go_at_call 98;refine(x.o _ W.o).mono ?_;clear x;rintro e w4 ⟨rfl,ad,z⟩;have Qf:=Y (Qe.o.rd W.o z);have U:=Y ad;have Qt:=Y (below_grown Qq.o z (by rw[o.o];exact Aa _));clear ad z)
         |(go_at_call 98;refine(P.o _ U.o).mono ?_;clear P;rintro e w5 ⟨rfl,ai,Q⟩;have Qj:=Y (Qf.o.rd U.o Q);have Qi:=Y ai;have Qv:=Y (below_grown Qt.o Q (by rw[o.o];exact Aa _));clear ai Q)
         |(go_at_call 102;refine(H8.o _ Qi.o).mono ?_;clear H8;rintro e w6 ⟨rfl,A,ae⟩;have Ql:=Y (Qj.o.rd Qi.o ae);have Qp:=Y A;have Ud:=A.c1;have Uh:=A.c2;have Ue:=A.c3;have Qx:=Y (below_grown Qv.o ae (by rw[o.o];exact Aa _));clear A ae)
         |(go_at_call 103;refine(Ug.o _ Qp.o).mono ?_;clear Ug;rintro e w7 ⟨rfl,aq,az⟩;clear Ud Uh Ue;have Us:=aq.c2;have Uu:=aq.c3;rw[BD ah]at Us;rw[BD ah]at Uu;have Uk:=Y (below_grown Qx.o az (by rw[o.o];exact Aa _));clear aq az))
        go_quiet (fail)
        go_wp2_with fail
        exact A0 (v:=.tuple #[E none 0 0,H L q,H L A1]) (by simp[results,results45,go_sem]) J ⟨_,_,_,J,by rw[Uj.o.1,Uj.o.2];exact Ga.bad Qm.o,below_drewN Uk.o _⟩
      . skip
        have t:=Y λ(V:G) (j:DV V R s (D:Int) q A1)=>GM R s D q A1 45 V j an C;rw[show(decide ((q:Int)=0)&&Ye (Je s) (DL (Je s) D) 45)=false from by simp[ah],Qn.o]at t;have x:=Y λ(V:G) (j:DV V R s (d:Int) q A1)=>Xk R s d q A1 43 V j Qg C false (by simp[ah]);rw[K.o]at x;have P:=Y λ(V:G) (j:DV V R s (d:Int) q A1)=>Xk R s d q A1 45 V j Qg C false (by simp[ah]);rw[K.o]at P;have H8:=Y λ(V:G) (j:DV V R s (d:Int) q A1)=>GM R s d q A1 32 V j Qg C;rw[K.o]at H8;have Uy:decide (d<s.size)=false:=BE bm;go_wp2_with(first
         |(go_at_call 102;refine(t.o _ T.o).mono ?_;clear t;rintro e w3 ⟨rfl,X,y⟩;have Qe:=Y (Qh.o.rd T.o y);have W:=Y X;have Qq:=Y (below_grown Qu.o y (by rw[o.o];exact Aa _));clear X y)
         |(go_at_call 98;refine(x.o _ W.o).mono ?_;clear x;rintro e w4 ⟨rfl,ad,z⟩;have Qf:=Y (Qe.o.rd W.o z);have U:=Y ad;have Qt:=Y (below_grown Qq.o z (by rw[o.o];exact Aa _));clear ad z)
         |(go_at_call 98;refine(P.o _ U.o).mono ?_;clear P;rintro e w5 ⟨rfl,ai,Q⟩;have Qj:=Y (Qf.o.rd U.o Q);have Qi:=Y ai;have Qv:=Y (below_grown Qt.o Q (by rw[o.o];exact Aa _));clear ai Q)
         |(go_at_call 102;refine(H8.o _ Qi.o).mono ?_;clear H8;rintro e w6 ⟨rfl,A,ae⟩;have Ql:=Y (Qj.o.rd Qi.o ae);have Qp:=Y A;have Ud:=A.c1;have Uh:=A.c2;have Ue:=A.c3;have Qx:=Y (below_grown Qv.o ae (by rw[o.o];exact Aa _));clear A ae))
        go_quiet (fail)
        go_wp2_with fail
        exact A0 (v:=.tuple #[E none 0 0,H L q,H L A1]) (by simp[results,results45,go_sem]) J ⟨_,_,_,J,by rw[Uj.o.1,Uj.o.2];exact Ga.bad Qm.o,below_drewN Qx.o _⟩
def DY(W:G)(R:Nat)(s:ByteArray)(I:Int):Prop:=W.heap[R]?=some (.cells #[B s,.int L I] 151 (0,0))
section
variable {W W':World} {R:Nat} {s:ByteArray} {I:Int}
def DY.lt(h:DY W R s I):R<W.heap.size:=(Ab.1 h).1
def DY.c0(h:DY W R s I):W.cell? ⟨R,0,none⟩=some (B s):=by simp[World.cell?,show W.heap[R]?=_ from h]
def DY.c1(h:DY W R s I):W.cell? ⟨R,1,none⟩=some (H L I):=by simp[World.cell?,show W.heap[R]?=_ from h]
def DY.cp(h:DY W R s I):type_of% (And.intro h.c0 h.c1):=⟨h.c0,h.c1⟩
def DY.f(h:DY W R s I)(o:Nat):W.frozen? ⟨R,o,none⟩=false:=by simp[World.frozen?,show W.heap[R]?=_ from h]
def DY.below(h:DY W R s I)(a:Bl W W'):DY W' R s I:=(a.block R h.lt).trans h
def DY.set1(h:DY W R s I)(x:Int):DY (W.setCell ⟨R,1,none⟩ (H L x)) R s x:=by
 have:=JY (o:=1) h (H L x);exact this
def DY.drewN(h:DY W R s I)(n:Nat):DY (W.drewN n) R s I:=h
theorem Ih(h:DY W R s I){cs:Array N}{t:TypeId}{m:Nat × Nat}{b:Nat}(a:W.heap[b]?=some (.cells cs t m))(c:t≠151):b≠R:=by
 intro e;subst e;have:=a.symm.trans h;grind
theorem Ph(h:DY W R s I)(hg:W.grownBy W' (some R)):∀k v ds,Row k W v ds->Row k W' v ds:=by
 intro k v ds c;obtain⟨a,cap,e,_⟩:=id c;subst e;refine c.grown hg λp f hl=>?_;obtain⟨b,i,d,cs,m,g⟩:=c.typ hl;grind[Ih]
end
def KG{W:G}{R:Nat}{s:ByteArray}{I:Nat}(h:DY W R s I):F6 W R=I:=by
 unfold F6;rw[h.c1];simp[intOf]
def Tj(c:UInt8)(w:G):Calls Tryz.prog 208 #[H .u8 (c.toNat:Int)] w λr e=>r=.returned (F (DU c))/\e=w:=by
 by_cases b:48<=c.toNat
 . have f:decide ((48:Int)<=(c.toNat:Int))=true:=BH O;by_cases d:c.toNat<=57
   . have a:=Y (show DU c=true by simp[DU,b,d]);go_enter func208,ntmps208
     go_wp2;go_ret;exact⟨by rw[a.o];simp;omega,J⟩
   . have a:=Y (show DU c=false by simp[DU,d]);go_enter func208,ntmps208
     go_wp2;go_ret;exact⟨by rw[a.o];simp;omega,J⟩
 . have a:=Y (show DU c=false by simp[DU,b]);go_enter func208,ntmps208
   go_wp2;go_ret;exact⟨by rw[a.o];rfl,J⟩
def Pi(R:Nat)(s:ByteArray)(I:Nat)(w:G)(h:DY w R s I)(z:I<=s.size)(T:s.size<=300):
 Calls Tryz.prog 162 #[M (some ⟨R,0,none⟩)] w λr q=>r=.returned (F (decide (DL (Je s) I=s.size)))/\DY q R s (DL (Je s) I:Nat)/\w.grownBy q (some R):=by
 have t:=Y h;clear h;go_enter func162,ntmps162
 go_wp2;go_loopw [] (λwr=>∃j:Nat,I<=j/\j<=s.size/\Hid (DY wr R s j/\w.grownBy wr (some R)/\∀k (c:k<s.size),I<=k->k<j->s[k]=32)) λwr=>s.size-F6 wr R
 case atStart=>exact⟨I,Aa _,z,Y ⟨t.o,YV _ _,λk _ n o=>by omega⟩⟩
 case round=>
  obtain⟨j,n,o,a⟩:=hrel;obtain⟨c0,c1⟩:=a.o.1.cp;have f1:=a.o.1.f 1;by_cases C:j<s.size
  . have S:(j:Int)<(s.size:Int):=O
    have Q:(0:Int)<=(j:Int):=O
    by_cases b:s[j]=32
    . have A:((s[j].toNat:Int)==32)=true:=by rw[b];rfl
      have y:=Y b;clear b;go_wp2_with fail
      go_quiet (fail)
      go_wp2;go_roundw
      case rel=>
       refine⟨j+1,O,O,Y ⟨?_,Jf (Jf a.o.2.1 (JD _ _ _)) (JH _ R 1 _),λk c g i=>?_⟩⟩
       . have:=(a.o.1.drewN nq).set1 ((j:Int)+1);rw[show((j:Int)+1)=((j+1:Nat):Int)from by omega]at this;exact this
       . by_cases e:k=j
         . subst e;exact y.o
         . exact a.o.2.2 k c g O
      case measure=>
       have D:=KG a.o.1;have K:F6 ((wr.drewN nq).setCell ⟨R,1,none⟩ (H L ((j:Int)+1))) R=j+1:=by
        have:=(a.o.1.drewN nq).set1 ((j:Int)+1);rw[show((j:Int)+1)=((j+1:Nat):Int)from by omega]at this ⊢;exact KG this
       omega
    . have A:((s[j].toNat:Int)==32)=false:=NR (d:=32) b;have f:=Y (show DL (Je s) I=j from NS n o (λk c g i=>by rw[a.o.2.2 k c g i];rfl) λ_=>BI.2 b);have u:¬j=s.size:=O
      have x:((j:Int)==(s.size:Int))=false:=DI
      clear b;go_wp2_with fail
      go_quiet (fail)
      go_wp2;have m:=Y (show w.grownBy (wr.drewN nq) (some R)from Jf a.o.2.1 (JD _ _ _));have l:=Y (a.o.1.drewN nq);go_quiet (fail)
      go_wp2;go_ret;exact⟨by rw[f.o];simp[u],by rw[f.o];exact l.o.drewN _,Jf m.o (JD _ _ _)⟩
  . have p:j=s.size:=O
    have P:=BE O;have f:=Y (show DL (Je s) I=j from NS n o (λk c g i=>by rw[a.o.2.2 k c g i];rfl) λh=>by omega);have x:((j:Int)==(s.size:Int))=true:=DI
    have v:=Y p;clear C p;go_wp2_with fail
    go_quiet (fail)
    go_wp2;have m:=Y (show w.grownBy (wr.drewN nq) (some R)from Jf a.o.2.1 (JD _ _ _));have l:=Y (a.o.1.drewN nq);go_quiet (fail)
    go_wp2;go_ret;exact⟨by rw[f.o];simp[v.o],by rw[f.o];exact l.o.drewN _,Jf m.o (JD _ _ _)⟩
end
def Gu(e p:Int):N:=.iface 101 (.agg #[.int L e,.int L p])
def Lp(v:N)(e p:Int)(w:G):Calls Tryz.prog 163 #[v,H L e,H L p] w λr a=>r=.panicked [{ v:=Gu e p,recovered:=false }]/\a=w:=by
 go_enter func163,ntmps163
 go_wp2;exact⟨J,J,J⟩
section
open M3
def E9(w V:G)(R:Nat)(s:ByteArray)(I:Int):Prop:=DY V R s I/\w.grownBy V (some R)
def E9.below{w V V':G}{R:Nat}{s:ByteArray}{I:Int}(h:E9 w V R s I)(a:Bl V V'):E9 w V' R s I:=⟨h.1.below a,Jf h.2 (Ya a _)⟩
variable{j:Nat}
theorem Ii(R:Nat)(s:ByteArray)(I:Nat)(c:UInt8)(w:G)(h:DY w R s I)(y:I<=s.size)(A:s.size<=300)(b:Bool)(i:b=Ye (Je s) (DL (Je s) I) c):
 Calls Tryz.prog 160 #[M (some ⟨R,0,none⟩),H .u8 (c.toNat:Int)] w λr u=>r=.returned (F b)/\DY u R s ((DL (Je s) I+(if b then 1 else 0):Nat):Int)/\w.grownBy u (some R):=by
 have d:=Y λ(V:G) (z:DY V R s I)=>Pi R s I V z y A;obtain⟨j,q⟩:=ex (DL (Je s) I);have C:j<=s.size:=by grind[Jl,Yx]
 rw[q]at d i ⊢;have n:=Y h;clear h q;by_cases l:j=s.size
 . obtain rfl:b=false:=by rw[i];exact Tb O
   rw[show decide (j=s.size)=true from BH l]at d;clear i l;go_enter func160,ntmps160
   go_wp2_with fail
   have m:E9 w w.drew R s I:=⟨n.o,J,J,J,Aa _,λ_ _ _=>rfl⟩;refine EU Dl [[],[0],[1],[1,2],[1,2,3],[1,2,4],[1,2,5],[1,2],[1,2,7],[1,2,8],[1,2,9],[1,2,6,10],[1,2],[1,2,11,12],[1,2,13]] [.eq (M (some ⟨R,0,none⟩)),.eq (F true),.eq (F true),.any,.any,.any,.any,.any,.any,.any,.any,.any,.any,.any,.eq (F true)] [1] (λb _ V=>E9 w V R s (if b.getD 0 false then(j:Int)else I)) m (No (.vl J λ_ _=>mv)<|No (.cw λh k=>c1 (h.e 0) ((d.o _ k.1).mono λ_ _ ⟨e,r,g⟩=>⟨_,e,J,Ms,r,Jf k.2 g⟩))<|No (.vl J λh _=>mw (h.g 1))<|No (.no J λh=>Y9 2 false h)<|No (.no J λh=>Y9 2 false h)<|No (.no J λh=>Y9 2 false h)<|No (.no J λh=>Y9 2 false h)<|No (.no J λh=>Y9 2 false h)<|No (.no J λh=>Y9 2 false h)<|No (.no J λh=>Y9 2 false h)<|No (.no J λh=>Y9 2 false h)<|No (.no J λh=>Y9 2 false h)<|No (.no J λh=>Y9 2 false h)<|No (.no J λh=>Y9 2 false h)<|No (.vl J λh _=>⟨_,by refine DT ?_;rw[h.e 2];go_simp,J⟩) Stp.end_)
    λf V hF a=>?_
   refine DT ?_;have a:E9 w V R s (j:Int):=a;rw[hF.e 0,hF.e 1,hF.e 2,hF.e 14];replace a:=Y a;clear hF;go_wp2_with fail
   go_ret;exact⟨J,a.o.1,a.o.2⟩
 . have v:j<s.size:=O
   have D:(j:Int)<(s.size:Int):=O
   rw[show decide (j=s.size)=false from BE l]at d;rw[Ta v]at i;obtain⟨nb,t⟩:=ex (((s[j].toNat:Int) != (c.toNat:Int)));have o:=Y (show nb=!b by
    grind[NR])
   have x:=Y t;clear i l t;go_enter func160,ntmps160
   go_wp2_with fail
   have m:E9 w w.drew R s I:=⟨n.o,J,J,J,Aa _,λ_ _ _=>rfl⟩;refine EU Dl [[],[0],[1],[1,2],[1,2,3],[1,2,4],[1,2,5],[1,2],[1,2,7],[1,2,8],[1,2,9],[1,2,6,10],[1,2],[1,2,11,12],[1,2,13]] [.eq (M (some ⟨R,0,none⟩)),.eq (F false),.eq (F false),.eq (M (some ⟨R,0,none⟩)),.eq (M (some ⟨R,0,none⟩)),.eq (M (some ⟨R,0,none⟩)),.eq (B s),.eq (M (some ⟨R,0,none⟩)),.eq (M (some ⟨R,0,none⟩)),.eq (M (some ⟨R,1,none⟩)),.eq (H L (j:Int)),.eq (H .u8 (s[j].toNat:Int)),.eq (H .u8 (c.toNat:Int)),.eq (F nb),.eq (F nb)] [1] (λb _ V=>E9 w V R s (if b.getD 0 false then(j:Int)else I)) m (No (.vl J λ_ _=>mv)<|No (.cw λh k=>c1 (h.e 0) ((d.o _ k.1).mono λ_ _ ⟨e,r,g⟩=>⟨_,e,J,Ms,r,Jf k.2 g⟩))<|No (.vl J λh _=>mw (h.g 1))<|No (.vl J (λ_ _=>mv) (hg:=λh=>Y9 2 false h))<|No (.vl J (λh _=>⟨_,by refine DT ?_;rw[h.e 3];go_simp,J⟩) (hg:=λh=>Y9 2 false h))<|No (.vl J (λh _=>⟨_,by refine DT ?_;rw[h.e 4];go_simp,J⟩) (hg:=λh=>Y9 2 false h))<|No (.vl J (λh k=>⟨_,by have p:=k.1.c0;refine DT ?_;rw[h.e 5];go_simp,J⟩) (hg:=λh=>Y9 2 false h))<|No (.vl J (λ_ _=>mv) (hg:=λh=>Y9 2 false h))<|No (.vl J (λh _=>⟨_,by refine DT ?_;rw[h.e 7];go_simp,J⟩) (hg:=λh=>Y9 2 false h))<|No (.vl J (λh _=>⟨_,by refine DT ?_;rw[h.e 8];go_simp,J⟩) (hg:=λh=>Y9 2 false h))<|No (.vl J (λh k=>⟨_,by have p:=DY.c1 (I:=(j:Int)) k.1;refine DT ?_;rw[h.e 9];go_simp,J⟩) (hg:=λh=>Y9 2 false h))<|No (.vl J (λh _=>⟨_,by refine DT ?_;rw[h.e 6,h.e 10];go_simp,J⟩) (hg:=λh=>Y9 2 false h))<|No (.vl J (λ_ _=>mv) (hg:=λh=>Y9 2 false h))<|No (.vl J (λh _=>⟨_,by have p:=x.o;refine DT ?_;rw[h.e 11,h.e 12];go_simp,J⟩) (hg:=λh=>Y9 2 false h))<|No (.vl J λh _=>⟨_,by refine DT ?_;rw[h.e 2,h.e 13];go_simp,J⟩) Stp.end_)
    λf V hF a=>?_
   refine DT ?_;have a:E9 w V R s (j:Int):=a;rw[hF.e 0,hF.e 1,hF.e 2,hF.e 3,hF.e 4,hF.e 5,hF.e 6,hF.e 7,hF.e 8,hF.e 9,hF.e 10,hF.e 11,hF.e 12,hF.e 13,hF.e 14];replace a:=Y a;clear hF;have c1:=a.o.1.c1;have f1:=a.o.1.f 1;cases b with
   |true=>
    obtain rfl:nb=false:=o.o;go_wp2_with fail
    go_ret;exact⟨J,a.o.1.set1 _,Jf a.o.2 (JH _ R 1 _)⟩
   |false=>
    obtain rfl:nb=true:=o.o;go_wp2_with fail
    go_ret;exact⟨J,a.o.1,a.o.2⟩
def gJ(c:UInt8)(w:G):Calls Tryz.prog 208 #[H .u8 (c.toNat:Int)] w λr a=>r=.returned (F (DU c))/\Bl w a:=by
 refine(Tj c w).mono ?_;rintro e a ⟨rfl,rfl⟩;exact⟨J,BA _ _⟩
def Tk{s:ByteArray}(a:j<s.size):GU (Je s) j=DU s[j]:=by
 unfold GU;rw[Am (by rw[Jl];exact a)];rfl
theorem Tl{s:ByteArray}(a:s.size<=j):GU (Je s) j=false:=by
 grind[GU,Jl]
theorem Tm(R:Nat)(s:ByteArray)(I:Nat)(w:G)(h:DY w R s I)(u:I<=s.size)(x:s.size<=300):
 Calls Tryz.prog 187 #[M (some ⟨R,0,none⟩)] w λr p=>r=.returned (F (GU (Je s) (DL (Je s) I)))/\DY p R s (DL (Je s) I:Nat)/\w.grownBy p (some R):=by
 have c:=Y λ(V:G) (v:DY V R s I)=>Pi R s I V v u x;obtain⟨j,o⟩:=ex (DL (Je s) I);have y:j<=s.size:=by grind[Jl,Yx]
 rw[o]at c ⊢;have l:=Y h;clear h o;by_cases d:j=s.size
 . rw[Tl (by omega:s.size<=j)];rw[show decide (j=s.size)=true from BH d]at c;clear d;go_enter func187,ntmps187
   go_wp2_with fail
   have i:E9 w w.drew R s I:=⟨l.o,J,J,J,Aa _,λ_ _ _=>rfl⟩;refine EU Dl [[],[0],[1],[1,2],[1,3],[1,3,4],[1,3,5],[1,3,6],[1,3],[1,3,8],[1,3,9],[1,3,10],[1,3,7,11],[1,3,12],[1,3,13],[1,14]] [.eq (M (some ⟨R,0,none⟩)),.eq (F true),.eq (F false),.eq (F false),.any,.any,.any,.any,.any,.any,.any,.any,.any,.any,.eq (F false),.eq (F false)] [1] (λb _ V=>E9 w V R s (if b.getD 0 false then(j:Int)else I)) i (No (.vl J λ_ _=>mv)<|No (.cw λh k=>c1 (h.e 0) ((c.o _ k.1).mono λ_ _ ⟨e,r,g⟩=>⟨_,e,J,Ms,r,Jf k.2 g⟩))<|No (.vl J λh _=>⟨_,by refine DT ?_;rw[h.e 1];go_simp,J⟩)<|No (.vl J λh _=>mw (h.g 2))<|No (.no J λh=>Y9 3 true h)<|No (.no J λh=>Y9 3 true h)<|No (.no J λh=>Y9 3 true h)<|No (.no J λh=>Y9 3 true h)<|No (.no J λh=>Y9 3 true h)<|No (.no J λh=>Y9 3 true h)<|No (.no J λh=>Y9 3 true h)<|No (.no J λh=>Y9 3 true h)<|No (.no J λh=>Y9 3 true h)<|No (.no J λh=>Y9 3 true h)<|No (.vl J λh _=>⟨_,by refine DT ?_;rw[h.e 3];go_simp,J⟩)<|No (.vl J λh _=>aw (h.g 14)) Stp.end_)
    λf V hF a=>?_
   refine DT ?_;have a:E9 w V R s (j:Int):=a;rw[hF.e 0,hF.e 1,hF.e 2,hF.e 3,hF.e 14,hF.e 15];replace a:=Y a;clear hF;go_wp2_with fail
   go_ret;exact⟨J,a.o.1,a.o.2⟩
 . have q:j<s.size:=O
   have z:(j:Int)<(s.size:Int):=O
   rw[show decide (j=s.size)=false from BE d]at c;rw[Tk q];have m:=Y λ(V:G)=>gJ s[j] V;obtain⟨dg,n⟩:=ex (DU s[j]);rw[n]at m ⊢;clear d n;go_enter func187,ntmps187
   go_wp2_with fail
   have i:E9 w w.drew R s I:=⟨l.o,J,J,J,Aa _,λ_ _ _=>rfl⟩;refine EU Dl [[],[0],[1],[1,2],[1,3],[1,3,4],[1,3,5],[1,3,6],[1,3],[1,3,8],[1,3,9],[1,3,10],[1,3,7,11],[1,3,12],[1,3,13],[1,14]] [.eq (M (some ⟨R,0,none⟩)),.eq (F false),.eq (F true),.eq (F true),.eq (M (some ⟨R,0,none⟩)),.eq (M (some ⟨R,0,none⟩)),.eq (M (some ⟨R,0,none⟩)),.eq (B s),.eq (M (some ⟨R,0,none⟩)),.eq (M (some ⟨R,0,none⟩)),.eq (M (some ⟨R,1,none⟩)),.eq (H L (j:Int)),.eq (H .u8 (s[j].toNat:Int)),.eq (F dg),.eq (F dg),.eq (F dg)] [1] (λb _ V=>E9 w V R s (if b.getD 0 false then(j:Int)else I)) i (No (.vl J λ_ _=>mv)<|No (.cw λh k=>c1 (h.e 0) ((c.o _ k.1).mono λ_ _ ⟨e,r,g⟩=>⟨_,e,J,Ms,r,Jf k.2 g⟩))<|No (.vl J λh _=>⟨_,by refine DT ?_;rw[h.e 1];go_simp,J⟩)<|No (.vl J λh _=>mw (h.g 2))<|No (.vl J (λ_ _=>mv) (hg:=λh=>Y9 3 true h))<|No (.vl J (λh _=>⟨_,by refine DT ?_;rw[h.e 4];go_simp,J⟩) (hg:=λh=>Y9 3 true h))<|No (.vl J (λh _=>⟨_,by refine DT ?_;rw[h.e 5];go_simp,J⟩) (hg:=λh=>Y9 3 true h))<|No (.vl J (λh k=>⟨_,by have t:=k.1.c0;refine DT ?_;rw[h.e 6];go_simp,J⟩) (hg:=λh=>Y9 3 true h))<|No (.vl J (λ_ _=>mv) (hg:=λh=>Y9 3 true h))<|No (.vl J (λh _=>⟨_,by refine DT ?_;rw[h.e 8];go_simp,J⟩) (hg:=λh=>Y9 3 true h))<|No (.vl J (λh _=>⟨_,by refine DT ?_;rw[h.e 9];go_simp,J⟩) (hg:=λh=>Y9 3 true h))<|No (.vl J (λh k=>⟨_,by have t:=DY.c1 (I:=(j:Int)) k.1;refine DT ?_;rw[h.e 10];go_simp,J⟩) (hg:=λh=>Y9 3 true h))<|No (.vl J (λh _=>⟨_,by refine DT ?_;rw[h.e 7,h.e 11];go_simp,J⟩) (hg:=λh=>Y9 3 true h))<|No (.cl (λh _=>c1 (h.e 12) (rv (m.o _))) (hg:=λh=>Y9 3 true h))<|No (.vl J λh _=>⟨_,by refine DT ?_;rw[h.e 3,h.e 13];go_simp,J⟩)<|No (.vl J λh _=>aw (h.g 14)) Stp.end_)
    λf V hF a=>?_
   refine DT ?_;have a:E9 w V R s (j:Int):=a;rw[hF.e 0,hF.e 1,hF.e 2,hF.e 3,hF.e 4,hF.e 5,hF.e 6,hF.e 7,hF.e 8,hF.e 9,hF.e 10,hF.e 11,hF.e 12,hF.e 13,hF.e 14,hF.e 15];replace a:=Y a;clear hF;go_wp2_with fail
   go_ret;exact⟨J,a.o.1,a.o.2⟩
end
section
def Dg(ds:List UInt8):List UInt8:=if Lib.trimLeftB ds 48=[]then [48]else Lib.trimLeftB ds 48
def gK(w:G)(R:Nat)(s:ByteArray)(I:Nat)(r:Ending)(a:G):Prop:=
 w.grownBy a (some R)/\(∀e q,J3 (Je s) I=.error e q->r=.panicked [{ v:=Gu e q,recovered:=false }])/\(∀ds q k,J3 (Je s) I=.ok (ds,q) k->r=.returned (.tuple #[B ⟨(Dg ds).toArray⟩,.int L (q:Int)])/\DY a R s (k:Int))
variable{ds:List UInt8}{k:Nat}
theorem Tn(s:ByteArray)(p d:Nat):(s.extract p (p+d)).data.toList=((Je s).drop p).take d:=by
 grind[Je,ByteArray.data_extract,Array.toList_extract]
theorem Pj(R:Nat)(s:ByteArray)(I:Nat)(w:G)(h:DY w R s I)(hI:I<=s.size)(hs:s.size<=300):
 Calls Tryz.prog 209 #[M (some ⟨R,0,none⟩)] w λr w'=>gK w R s I r w':=by
 obtain⟨p,hp⟩:=ex (DL (Je s) I);have z:=Y (Tm R s I w h hI hs);rw[hp]at z;have Qv:p<=s.size:=by grind[Jl,Yx]
 have X:=Y hp;have Q:=Y λ(e q:Int) (V:G)=>Lp (M (some ⟨R,0,none⟩)) e q V;clear h hI hp;cases T:GU (Je s) p with
 |false=>
  have m:=Y (show J3 (Je s) I=.error 2 p by unfold J3;rw[X.o,BG (Tf T)]);rw[T]at z;clear T;go_enter func209,ntmps209
  go_wp2_with first
   |(go_at_call 187;refine z.o.mono ?_;clear z;rintro e w1 ⟨rfl,U,ad⟩;have c1:=U.c1;have Qn:=Y ad;clear U ad)
   |(go_at_call 163;refine(Q.o _ _ _).mono ?_;clear Q;rintro e W ⟨rfl,rfl⟩)
  refine⟨J,Qn.o,λe q a=>?_,λds q k a=>?_⟩
  . rw[m.o]at a;cases a;rfl
  . rw[m.o]at a;cases a
 |true=>
  rw[T]at z;have Qi:=Y T;clear T;go_enter func209,ntmps209
  go_upto_region 4 with first
   |(go_at_call 187;refine z.o.mono ?_;clear z;rintro e w1 ⟨rfl,U,ad⟩;have Qu:=Y U;have c1:=U.c1;have Qn:=Y ad;clear U ad)
  go_loopw [] (λwr=>∃d:Nat,p+d<=s.size/\Hid (DY wr R s ((p+d:Nat):Int)/\w.grownBy wr (some R)/\∃n,YW (Je s) p d n)) λwr=>s.size-F6 wr R
  case atStart=>exact⟨0,O,Y ⟨Qu.o,Qn.o,0,YW.zero (by rw[Jl];exact Qv)⟩⟩
  case round=>
   clear c1;obtain⟨d,ak,g⟩:=hrel;obtain⟨j,hj⟩:∃j,j=p+d:=⟨_,J⟩;have c:=Y hj;rw[<-hj]at ak g;clear hj;obtain⟨c0,c1⟩:=g.o.1.cp;have f1:=g.o.1.f 1;by_cases ap:j<s.size
   . have aq:(j:Int)<(s.size:Int):=O
     have an:(0:Int)<=(j:Int):=O
     have HX:=Y (Tj s[j]);by_cases y:DU s[j]=true
     . rw[y]at HX;have Qq:=Y y;clear y;go_wp2_with fail
       go_quiet ((go_at_call 208;exact Calls.quiet_of_same (HX.o _)))
       have Qr:=Y (KG g.o.1);go_wp2_with fail
       go_roundw
       case rel=>
        refine⟨d+1,?_,Y ⟨?_,?_,?_⟩⟩
        . have:=c.o;omega
        . have:=(g.o.1.drewN nq).set1 ((j:Int)+1);rw[show((j:Int)+1)=((p+(d+1):Nat):Int)from by have:=c.o;omega]at this ⊢;exact this
        . exact Jf (Jf g.o.2.1 (JD _ _ _)) (JH _ R 1 _)
        . obtain⟨n,hn⟩:=g.o.2.2;by_cases ai:d<12
          . exact⟨_,hn.next1 (by rw[Jl];have:=c.o;omega) (by simp only[<-c.o];exact Qq.o) ai⟩
          . exact⟨_,hn.next2 (by rw[Jl];have:=c.o;omega) (by simp only[<-c.o];exact Qq.o) O⟩
       case measure=>
        have e2:=KG ((g.o.1.drewN nq).set1 ((j+1:Nat):Int));rw[show((j+1:Nat):Int)=(j:Int)+1 from by omega]at e2;rw[e2,Qr.o];omega
     . have y:=Bool.eq_false_iff.2 y;rw[y]at HX;have D:=Y (show EC (Je s) p=j by rw[c.o];exact g.o.2.2.choose_spec.dg λhl=>by simp only[<-c.o];exact y);clear y;go_wp2_with fail
       go_quiet ((go_at_call 208;exact Calls.quiet_of_same (HX.o _)))
       obtain⟨Qh,HG,Qw⟩:=DX (g.o.1.drewN nq) (show w.grownBy (wr.drewN nq) (some R)from Jf g.o.2.1 (JD _ _ _)) g.o.2.2;have Qx:d≠0:=λe=>by
        have b:=D.o;have h6:=c.o;rw[e,Cl]at h6;have K:=Qi.o;have h8:=OT (f:=DU) (l:=Je s) (i:=p);rw[show XP DU (Je s) p=j from b]at h8;rw[<-h6]at K;by_cases h9:j<s.size
        . have:=h8 (by rw[Jl];exact h9);rw[Tk h9]at K;exact absurd (this.symm.trans K) DK
        omega
       have Qt:(p:Int)<=(j:Int):=by have:=c.o;omega
       have Qp:p<=j:=by have:=c.o;omega
       obtain⟨o,P⟩:=ex (s.extract p j);have Qs:o.size=d:=by rw[<-P,AG];have:=c.o;omega
       have Ql:=Y P;obtain⟨ae,ah⟩:=Qh.o.cp;go_wp2_with fail
       go_quiet (fail)
       have A:=Y (show ∀N,w.grownBy (wr.drewN N) (some R)from λN=>Jf g.o.2.1 (JD _ _ _));have Qg:=Y (show ∀N,DY (wr.drewN N) R s (j:Int)from λN=>g.o.1.drewN N);clear P ae ah c0 c1;have Qj:¬j=p:=by have:=c.o;omega
       have Qm:=Y (show o.data.toList=((Je s).drop p).take (j-p)by rw[<-Ql.o,c.o,Tn,show p+d-p=d from by omega]);by_cases ai:12<d
       . have aj:(12:Int)<(d:Int):=O
         have m:=Y (show J3 (Je s) I=.error 3 p by unfold J3;rw[X.o,D.o,BD Qj,BG (by have:=c.o;omega)]);go_wp2_with(go_at_call 163;refine(Q.o _ _ _).mono ?_;clear Q;rintro e W ⟨rfl,rfl⟩)
         refine⟨J,A.o _,λe q a=>?_,λds q k a=>?_⟩
         . rw[m.o]at a;cases a;rfl
         . rw[m.o]at a;cases a
       . have aj:¬(12:Int)<(d:Int):=O
         have m:=Y (show J3 (Je s) I=.ok (o.data.toList,p) j by unfold J3;rw[X.o,D.o,BD Qj,BD (by have:=c.o;omega),Qm.o]);have u:=Y λ(V:G)=>Tryz.strings_TrimLeft_one o 48 DK V;obtain⟨x,t⟩:∃S:ByteArray,⟨(Lib.trimLeftB o.data.toList 48).toArray⟩=S:=⟨_,J⟩;rw[t]at u;have Qo:=Y t;by_cases a:Lib.trimLeftB o.data.toList 48=[]
         . have Qk:x=⟨#[]⟩:=by rw[<-t,a]
           have C:=Y (show Dg o.data.toList=[48]by unfold Dg;rw[BG a]);clear t a Qo;subst Qk;go_wp2_with(go_at_call 222;refine(u.o _).mono ?_;clear u;rintro e W ⟨rfl,rfl⟩)
           refine A0 (v:=.tuple #[B ⟨#[48]⟩,H L (p:Int)]) (by simp[results,results209,go_sem]) J ⟨A.o _,λe q b=>?_,λds q k b=>?_⟩
           . rw[m.o]at b;cases b
           . rw[m.o]at b;cases b;exact⟨by rw[C.o],Qg.o _⟩
         . have Qk:x.toList.isEmpty=false:=by
            rw[<-t,PS];simpa using a
           have C:=Y (show(⟨(Dg o.data.toList).toArray⟩:ByteArray)=x by unfold Dg;rw[BD a];exact t);clear t a;go_wp2_with(go_at_call 222;refine(u.o _).mono ?_;clear u;rintro e W ⟨rfl,rfl⟩)
           refine A0 (v:=.tuple #[B x,H L (p:Int)]) (by simp[results,results209,go_sem]) J ⟨A.o _,λe q b=>?_,λds q k b=>?_⟩
           . rw[m.o]at b;cases b
           . rw[m.o]at b;cases b;exact⟨by rw[C.o],Qg.o _⟩
   . have D:=Y (show EC (Je s) p=j by rw[c.o];exact g.o.2.2.choose_spec.dg λhl=>absurd hl (by rw[Jl];have:=c.o;omega));have am:=BE O;go_wp2_with fail
     go_quiet (fail)
     obtain⟨Qh,HG,Qw⟩:=DX (g.o.1.drewN nq) (show w.grownBy (wr.drewN nq) (some R)from Jf g.o.2.1 (JD _ _ _)) g.o.2.2;have Qx:d≠0:=λe=>by
      have b:=D.o;have h6:=c.o;rw[e,Cl]at h6;have K:=Qi.o;have h8:=OT (f:=DU) (l:=Je s) (i:=p);rw[show XP DU (Je s) p=j from b]at h8;rw[<-h6]at K;by_cases h9:j<s.size
      . omega
      . rw[Tl O]at K;cases K
     have Qt:(p:Int)<=(j:Int):=by have:=c.o;omega
     have Qp:p<=j:=by have:=c.o;omega
     obtain⟨o,P⟩:=ex (s.extract p j);have Qs:o.size=d:=by rw[<-P,AG];have:=c.o;omega
     have Ql:=Y P;obtain⟨ae,ah⟩:=Qh.o.cp;go_wp2_with fail
     go_quiet (fail)
     have A:=Y (show ∀N,w.grownBy (wr.drewN N) (some R)from λN=>Jf g.o.2.1 (JD _ _ _));have Qg:=Y (show ∀N,DY (wr.drewN N) R s (j:Int)from λN=>g.o.1.drewN N);clear P ae ah c0 c1;have Qj:¬j=p:=by have:=c.o;omega
     have Qm:=Y (show o.data.toList=((Je s).drop p).take (j-p)by rw[<-Ql.o,c.o,Tn,show p+d-p=d from by omega]);by_cases ai:12<d
     . have aj:(12:Int)<(d:Int):=O
       have m:=Y (show J3 (Je s) I=.error 3 p by unfold J3;rw[X.o,D.o,BD Qj,BG (by have:=c.o;omega)]);go_wp2_with(go_at_call 163;refine(Q.o _ _ _).mono ?_;clear Q;rintro e W ⟨rfl,rfl⟩)
       refine⟨J,A.o _,λe q a=>?_,λds q k a=>?_⟩
       . rw[m.o]at a;cases a;rfl
       . rw[m.o]at a;cases a
     . have aj:¬(12:Int)<(d:Int):=O
       have m:=Y (show J3 (Je s) I=.ok (o.data.toList,p) j by unfold J3;rw[X.o,D.o,BD Qj,BD (by have:=c.o;omega),Qm.o]);have u:=Y λ(V:G)=>Tryz.strings_TrimLeft_one o 48 DK V;obtain⟨x,t⟩:∃S:ByteArray,⟨(Lib.trimLeftB o.data.toList 48).toArray⟩=S:=⟨_,J⟩;rw[t]at u;have Qo:=Y t;by_cases a:Lib.trimLeftB o.data.toList 48=[]
       . have Qk:x=⟨#[]⟩:=by rw[<-t,a]
         have C:=Y (show Dg o.data.toList=[48]by unfold Dg;rw[BG a]);clear t a Qo;subst Qk;go_wp2_with(go_at_call 222;refine(u.o _).mono ?_;clear u;rintro e W ⟨rfl,rfl⟩)
         refine A0 (v:=.tuple #[B ⟨#[48]⟩,H L (p:Int)]) (by simp[results,results209,go_sem]) J ⟨A.o _,λe q b=>?_,λds q k b=>?_⟩
         . rw[m.o]at b;cases b
         . rw[m.o]at b;cases b;exact⟨by rw[C.o],Qg.o _⟩
       . have Qk:x.toList.isEmpty=false:=by
          rw[<-t,PS];simpa using a
         have C:=Y (show(⟨(Dg o.data.toList).toArray⟩:ByteArray)=x by unfold Dg;rw[BD a];exact t);clear t a;go_wp2_with(go_at_call 222;refine(u.o _).mono ?_;clear u;rintro e W ⟨rfl,rfl⟩)
         refine A0 (v:=.tuple #[B x,H L (p:Int)]) (by simp[results,results209,go_sem]) J ⟨A.o _,λe q b=>?_,λds q k b=>?_⟩
         . rw[m.o]at b;cases b
         . rw[m.o]at b;cases b;exact⟨by rw[C.o],Qg.o _⟩
theorem To(c:UInt8)(t:List UInt8):num (c::t)=num t+10^t.length*(c.toNat-48):=by
 have h:=MP [c] t;grind[num,Du,val]
theorem gL(ds:List UInt8):num (ds.dropWhile (·==48))=num ds:=by
 induction ds with
 |nil=>rfl
 |cons c t a=>
  by_cases h:c=48
  . subst h;grind[List.dropWhile_cons_of_pos,To]
  . rw[List.dropWhile_cons_of_neg (by simpa using h)]
theorem gM(h:ds.all DU=true):(ds.dropWhile (·==48)).all DU=true:=by
 grind[List.dropWhile_sublist]
theorem IB(h:ds.all DU=true):num (Dg ds)=num ds/\(Dg ds).all DU=true/\Dg ds≠[]/\(1<(Dg ds).length->10<=num ds)/\(Dg ds).length<=ds.length+1:=by
 unfold Dg Lib.trimLeftB;have a:=gL ds;have d:=gM h;have i:=(List.dropWhile_sublist (l:=ds) (·==48)).length_le;split
 . rename_i b;rw[b]at a;refine⟨?_,DK,DG,DG,DG⟩;rw[<-a];decide
 . rename_i b;refine⟨a,d,b,λhl=>?_,O⟩;cases f:ds.dropWhile (·==48)with
   |nil=>exact absurd f b
   |cons c t=>
    rw[f]at a d hl;have g:c≠48:=by
     grind[List.head?_dropWhile_not]
    have m:=Yo (AR.1 d c (CC ..));have n:c.toNat≠48:=λe=>g (Fh.1 e);rw[<-a,To];have j:10^1<=10^t.length:=Ak O (by simp at hl;omega);have k:10^t.length*1<=10^t.length*(c.toNat-48):=Aj _ O;omega
def Pk(w:G)(R:Nat)(s:ByteArray)(I:Nat)(r:Ending)(a:G):Prop:=
 w.grownBy a (some R)/\(∀e q,EK (Je s) I=.error e q->r=.panicked [{ v:=Gu e q,recovered:=false }])/\(∀n k,EK (Je s) I=.ok n k->r=.returned (.int L (n:Int))/\DY a R s (k:Int))
theorem Tp(R:Nat)(s:ByteArray)(I:Nat)(w:G)(h:DY w R s I)(hI:I<=s.size)(hs:s.size<=300):
 Calls Tryz.prog 189 #[M (some ⟨R,0,none⟩)] w λr w'=>Pk w R s I r w':=by
 obtain⟨b,A⟩:∃b,b=Ye (Je s) (DL (Je s) I) 94:=⟨_,J⟩;have f:=Y (Ii R s I 94 w h hI hs b A);obtain⟨j,hj⟩:=ex (DL (Je s) I);rw[hj]at f A;have D:=Y λ(e q:Int) (V:G)=>Lp (M (some ⟨R,0,none⟩)) e q V;have HJ:=Y hj;clear h hj;cases b with
 |false=>
  have HN:=Y (show EK (Je s) I=.ok 1 j by unfold EK;rw[HJ.o,<-A];simp);clear A;go_enter func189,ntmps189
  go_wp2_with(go_at_call 160;refine f.o.mono ?_;clear f;rintro e W ⟨rfl,d,c⟩;have m:=Y d;have o:=Y c;clear d c)
  go_ret;refine⟨o.o,λe q a=>?_,λn k a=>?_⟩
  . rw[HN.o]at a;cases a
  . rw[HN.o]at a;cases a;exact⟨J,m.o⟩
 |true=>
  have Qm:j+1<=s.size:=by have:=Yg A.symm;rw[Jl]at this;omega
  have v:=Y λ(V:G) (hh:DY V R s ((j+1:Nat):Int))=>Pj R s (j+1) V hh Qm hs;have l:=Y (show EK (Je s) I=(match J3 (Je s) (j+1)with|.error e p=>.error e p|.ok (ds,p) k=>if 8<num ds then .error 3 p else .ok (num ds) k)by
   unfold EK;rw[HJ.o,BG A.symm];grind)
  clear A;cases C:J3 (Je s) (j+1)with
  |error e0 q0=>
   rw[C]at l;have z:=Y C;clear C;go_enter func189,ntmps189
   go_wp2_with(first
    |(go_at_call 160;refine f.o.mono ?_;clear f;rintro e W ⟨rfl,d,c⟩;have m:=Y d;have o:=Y c;clear d c)
    |(go_at_call 209;refine(v.o _ m.o).mono ?_;clear v;rintro e w2 ⟨i,g,_⟩;obtain rfl:=g _ _ z.o;have y:=Y (Jf o.o i);clear i g))
   refine⟨J,y.o,λe q a=>?_,λn k a=>?_⟩
   . rw[l.o]at a;cases a;rfl
   . rw[l.o]at a;cases a
  |ok a0 k0=>
   obtain⟨ds,p0⟩:=a0;rw[C]at l;have z:=Y C;obtain⟨T,U,g3,g4,g5⟩:=IB (Hr (by rw[Jl];omega) C).2.2.2.2.2.2.2.2;clear C;cases K:Dg ds with
   |nil=>exact absurd K g3
   |cons c0 t0=>
    rw[K]at T U g4 g5;have ae:=Yo (AR.1 U c0 (CC ..));have Qj:=(Hr (by rw[Jl];omega) z.o).2.2.2.2.2.2.2.1;have Qe:=(Hr (by rw[Jl];omega) z.o).2.2.2.2.2.1;cases t0 with
    |cons c1 t1=>
     have h8:8<num ds:=by have:=g4 DG;omega
     obtain⟨t,u⟩:∃S:ByteArray,⟨(c0::c1::t1).toArray⟩=S:=⟨_,J⟩;have Q:=Y (show(⟨(Dg ds).toArray⟩:ByteArray)=t by rw[K];exact u);have Qn:1<t.size:=by rw[<-u];show 1<(c0::c1::t1).toArray.size;simp
     have ak:t.size<=13:=by rw[<-u];show(c0::c1::t1).toArray.size<=13;grind
     have aj:(1:Int)<(t.size:Int):=O
     have Ql:=Y h8;clear u K T U g3 g4 g5 h8 Qj Qe;go_enter func189,ntmps189
     go_wp2_with(first
      |(go_at_call 160;refine f.o.mono ?_;clear f;rintro e W ⟨rfl,d,c⟩;have m:=Y d;have o:=Y c;clear d c)
      |(go_at_call 209;refine(v.o _ m.o).mono ?_;clear v;rintro e w2 ⟨i,_,g⟩;obtain⟨rfl,x⟩:=g _ _ _ z.o;rw[Q.o];have X:=Y x;have y:=Y (Jf o.o i);clear i g x)
      |(go_at_call 163;refine(D.o _ _ _).mono ?_;clear D;rintro e w3 ⟨rfl,rfl⟩))
     refine⟨J,y.o,λe q a=>?_,λn k a=>?_⟩
     . rw[l.o,BG Ql.o]at a;cases a;rfl
     . rw[l.o,BG Ql.o]at a;cases a
    |nil=>
     have Qi:num ds=c0.toNat-48:=by rw[<-T];simp[num,Du,val]
     obtain⟨t,u⟩:=ex ((⟨#[c0]⟩:ByteArray):ByteArray);have Q:=Y (show(⟨(Dg ds).toArray⟩:ByteArray)=t by rw[K];exact u);have Qn:t.size=1:=by rw[<-u];rfl
     have ah:∀h:0<t.size,t[0]'h=c0:=by subst u;intro _;rfl
     have ai:((c0.toNat:Int)-48)%256=(c0.toNat:Int)-48:=O
     clear u;have P:=Y Qi;clear K T U g3 g4 g5 Qj Qe Qi;by_cases h8:8<c0.toNat-48
     . have ad:(8:Int)<(c0.toNat:Int)-48:=O
       go_enter func189,ntmps189
       go_wp2_with(first
        |(go_at_call 160;refine f.o.mono ?_;clear f;rintro e W ⟨rfl,d,c⟩;have m:=Y d;have o:=Y c;clear d c)
        |(go_at_call 209;refine(v.o _ m.o).mono ?_;clear v;rintro e w2 ⟨i,_,g⟩;obtain⟨rfl,x⟩:=g _ _ _ z.o;rw[Q.o];have X:=Y x;have y:=Y (Jf o.o i);clear i g x)
        |(go_at_call 163;refine(D.o _ _ _).mono ?_;clear D;rintro e w3 ⟨rfl,rfl⟩))
       refine⟨J,y.o,λe q a=>?_,λn k a=>?_⟩
       . rw[l.o,BG (by rw[P.o];omega)]at a;cases a;rfl
       . rw[l.o,BG (by rw[P.o];omega)]at a;cases a
     . have ad:¬(8:Int)<(c0.toNat:Int)-48:=O
       go_enter func189,ntmps189
       go_wp2_with(first
        |(go_at_call 160;refine f.o.mono ?_;clear f;rintro e W ⟨rfl,d,c⟩;have m:=Y d;have o:=Y c;clear d c)
        |(go_at_call 209;refine(v.o _ m.o).mono ?_;clear v;rintro e w2 ⟨i,_,g⟩;obtain⟨rfl,x⟩:=g _ _ _ z.o;rw[Q.o];have X:=Y x;have y:=Y (Jf o.o i);clear i g x)
        |(go_at_call 163;refine(D.o _ _ _).mono ?_;clear D;rintro e w3 ⟨rfl,rfl⟩))
       go_ret;refine⟨y.o,λe q a=>?_,λn k a=>?_⟩
       . rw[l.o,BD (by rw[P.o];omega)]at a;cases a
       . rw[l.o,BD (by rw[P.o];omega)]at a;cases a;refine⟨?_,X.o⟩;rw[P.o];show Ending.returned (H L ((c0.toNat:Int)-48))=_;grind
def EW(ps:Ja)(i:Nat):Rat:=cf ps (i+1)*(((i+1:Nat):Int):Rat)
def Tq{K:Nat}(h:K<=1099511627776):Sq (((K:Nat):Int):Rat):=
 Sq.of (k:=1) ⟨by unfold Sm;rw[Rat.num_intCast];unfold Z;simp;omega,by unfold Sm;rw[Rat.den_intCast];unfold Z;decide⟩ O
theorem Tr(va:N)(ps:Ja)(w:G)(ha:RowK false w va ps)(an:Sqs ps)(ak:ps.length<1099511627776):
 Calls Tryz.prog 108 #[va] w λe w'=>∃u,e=.returned u/\RowK false w' u (Jb ps)/\Bl w w':=by
 obtain⟨a,la,ca,rfl⟩:=ha.form;obtain⟨aj,az,bc,bj,s,t,aa,bb,ll,cc,kk,dd,hc⟩:=ha.formsF;obtain⟨HA,HP,Qf,Qh⟩:=Di hc an aj ak;clear ha an aj az bc hc ak;go_enter func108,ntmps108
 go_wp2;go_loopw [3,4] (λo i wr=>∃k K:Nat,Hid (K=k+1/\(k=0\/K<=la))/\i=H L (K:Int)/\(∃Q R,o=E Q k R)/\Hid (E0 false w wr o (XH (EW ps) k))) λ_ i _=>la+1-(intOf i).toNat
 case atStart=>exact⟨0,1,Y ⟨J,An J⟩,J,⟨_,_,J⟩,Y ⟨EF.nil _ _ _,BA _ _⟩⟩
 case round=>
  obtain⟨k,K,T,rfl,⟨Q,R,rfl⟩,HR⟩:=hrel;by_cases bf:K<la
  . have Qg:(K:Int)<(la:Int):=O
    obtain⟨P,b,rfl,X,c0,c1,c2,c3⟩:=HA.o K bf;have Qk:=Y (show ∀V,Bl w V->(V.cell? ⟨b,K*4,none⟩=some (E (aa K) (ll K) (cc K))/\V.cell? ⟨b,K*4+1,none⟩=some (F (s K))/\V.cell? ⟨b,K*4+2,none⟩=some (E (bb K) (kk K) (dd K))/\V.cell? ⟨b,K*4+3,none⟩=some (F (t K)))/\Jk V (.agg #[E (aa K) (ll K) (cc K),F (s K),E (bb K) (kk K) (dd K),F (t K)]) (cf ps K)from λV W=>by
     exact⟨⟨(W.cell (p:=⟨b,_,none⟩) X).trans c0,(W.cell (p:=⟨b,_,none⟩) X).trans c1,(W.cell (p:=⟨b,_,none⟩) X).trans c2,(W.cell (p:=⟨b,_,none⟩) X).trans c3⟩,P.below W⟩)
    have HK:=Y (show k+1<=1099511627776/\K<=1099511627776 by have:=Qh.o;have:=Qf.o;have:=T.o;omega);have Qi:=Y (show cf ps K*((K:Int):Rat)=EW ps k by rw[T.o.1];rfl);clear P c0 c1 c2 c3 X;go_wp2_with fail
    have Qj:=HR.o.below ((BA _ wr).drew);refine J6 Dl [[],[],[],[1,2],[3],[],[5],[4,6,6],[7],[0,8,7],[9,9,0,1,2,3,4,5,6,7,8,9]] nK DK
     (λD ad V=>∃(ta tb tc td te tg ti tj tk S tm:N),ad={ tmps:=#[E (some ⟨b,0,none⟩) la ca,undef,E none 0 0,tm,H L ↑K,H L ↑K,E (some ⟨b,0,none⟩) la ca,H L ↑la,F true,u9,u10,ta,tb,tc,td,te,tg,ti,tj,tk,S,undef,undef],defers:=[] }/\Hid ((D 0=true->ta=E Q k R)/\(D 1=true->tb=E (some ⟨b,0,none⟩) la ca)/\(D 2=true->tc=H L (K:Int))/\(D 3=true->td=M (some ⟨b,K*4,none⟩))/\(D 4=true->D 9=false->Jk V te (cf ps K))/\(D 5=true->tg=H L (K:Int))/\(D 6=true->D 9=false->Jk V ti ((K:Int):Rat))/\(D 7=true->D 9=false->Jk V tj (EW ps k))/\(D 8=true->∃a l c,tk=E a l c)/\(D 9=true->∃a l c,S=E a l c)/\((D 10=false->tm=Value.slice Q k R)/\(D 10=true->tm=S)))/\Hid ((D 8=false->E0 false w V (E Q k R) (XH (EW ps) k))/\(D 8=true->D 9=false->∃(I:G) (x y z u:N),V=I.alloc (.cells #[x,y,z,u] (Dn false))/\(E0 false w I (E Q k R) (XH (EW ps) k))/\Dr false I (.agg #[x,y,z,u]) (EW ps k)/\tk=E (some ⟨I.heap.size,0,none⟩) 1 1)/\(D 9=true->E0 false w V S (XH (EW ps) k++[EW ps k]))))
     (E8 ⟨_,_,_,J,Y ⟨DG,DG,DG,DG,DG,DG,DG,DG,DG,DG,⟨λ_=>rfl,DG⟩⟩,Y ⟨λ_=>Qj,DG,DG⟩⟩) ?step1 ?fin1
    case step1=>
     rintro D ad V i ds f P g q ⟨ta,tb,tc,td,te,tg,ti,tj,tk,S,tm,rfl,d,v⟩;have bh:i<11:=(Aq.1 P).1;obtain rfl|rfl|rfl|rfl|rfl|rfl|rfl|rfl|rfl|rfl|rfl:=LA i O
     all_goals
      simp only[AO,AJ,AX]at P;subst P
     . have r:D 9=false:=DN f q;have Qd:D 10=false:=DN f q;obtain rfl:=D7 d Qd;clear g;refine Da ?_;exact⟨(Hw (GH d) ⟨λ_=>rfl,λh=>by simp[Qd]at h⟩),Y ⟨λh=>v.o.1 (by simpa using h),λh A=>v.o.2.1 (by simpa using h) (by simpa using A),λh=>v.o.2.2 (by simpa using h)⟩⟩
     . have r:D 9=false:=DN f (DN (a:=8) f (DN (a:=7) f (DN (a:=4) f (DN (a:=3) f q))));have n:D 8=false:=DN f (DN (a:=7) f (DN (a:=4) f (DN (a:=3) f q)));have m:=v.o.1 n;clear g;refine Da ?_;exact⟨Y ⟨d.o.1,λ_=>rfl,d.o.2.2.1,d.o.2.2.2.1,d.o.2.2.2.2.1,(EH d),(ER d),(Ec d),(Ed d),(EM d),⟨λh=>(D7 d) (by simpa using h),λh=>d.o.2.2.2.2.2.2.2.2.2.2.2 (by simpa using h)⟩⟩,Y ⟨λ_=>m,λh=>by simp[n]at h,λh=>by simp[r]at h⟩⟩
     . have r:D 9=false:=DN f (DN (a:=8) f (DN (a:=7) f (DN (a:=4) f (DN (a:=3) f q))));have n:D 8=false:=DN f (DN (a:=7) f (DN (a:=4) f (DN (a:=3) f q)));have m:=v.o.1 n;clear g;refine Da ?_;exact⟨Y ⟨d.o.1,d.o.2.1,λ_=>rfl,d.o.2.2.2.1,d.o.2.2.2.2.1,(EH d),(ER d),(Ec d),(Ed d),(EM d),⟨λh=>(D7 d) (by simpa using h),λh=>d.o.2.2.2.2.2.2.2.2.2.2.2 (by simpa using h)⟩⟩,Y ⟨λ_=>m,λh=>by simp[n]at h,λh=>by simp[r]at h⟩⟩
     . have r:D 9=false:=DN f (DN (a:=8) f (DN (a:=7) f (DN (a:=4) f q)));have n:D 8=false:=DN f (DN (a:=7) f (DN (a:=4) f q));have m:=v.o.1 n;obtain rfl:=d.o.2.1 (g 1 DG);obtain rfl:=d.o.2.2.1 (g 2 DG);clear g;refine Da ?_;exact⟨Y ⟨d.o.1,λ_=>rfl,λ_=>rfl,λ_=>rfl,d.o.2.2.2.2.1,(EH d),(ER d),(Ec d),(Ed d),(EM d),⟨λh=>(D7 d) (by simpa using h),λh=>d.o.2.2.2.2.2.2.2.2.2.2.2 (by simpa using h)⟩⟩,Y ⟨λ_=>m,λh=>by simp[n]at h,λh=>by simp[r]at h⟩⟩
     . have r:D 9=false:=DN f (DN (a:=8) f (DN (a:=7) f q));have n:D 8=false:=DN f (DN (a:=7) f q);have m:=v.o.1 n;obtain rfl:=d.o.2.2.2.1 (g 3 DG);obtain⟨⟨e0,e1,e2,e3⟩,hr⟩:=Qk.o V m.2;clear g;refine Da ?_;exact⟨Y ⟨d.o.1,d.o.2.1,d.o.2.2.1,λ_=>rfl,λ_ _=>hr,(EH d),(ER d),(Ec d),(Ed d),(EM d),⟨λh=>(D7 d) (by simpa using h),λh=>d.o.2.2.2.2.2.2.2.2.2.2.2 (by simpa using h)⟩⟩,Y ⟨λ_=>m,λh=>by simp[n]at h,λh=>by simp[r]at h⟩⟩
     . have r:D 9=false:=DN f (DN (a:=8) f (DN (a:=7) f (DN (a:=6) f q)));have n:D 8=false:=DN f (DN (a:=7) f (DN (a:=6) f q));have m:=v.o.1 n;clear g;refine Da ?_;exact⟨Y ⟨d.o.1,d.o.2.1,d.o.2.2.1,d.o.2.2.2.1,d.o.2.2.2.2.1,λ_=>rfl,(ER d),(Ec d),(Ed d),(EM d),⟨λh=>(D7 d) (by simpa using h),λh=>d.o.2.2.2.2.2.2.2.2.2.2.2 (by simpa using h)⟩⟩,Y ⟨λ_=>m,λh=>by simp[n]at h,λh=>by simp[r]at h⟩⟩
     . have r:D 9=false:=DN f (DN (a:=8) f (DN (a:=7) f q));have n:D 8=false:=DN f (DN (a:=7) f q);have m:=v.o.1 n;obtain rfl:=EH d (g 5 DG);clear g;have HC:=Y (YD (K:Int) O (by have:=HK.o;omega) V);refine Jo J J λK hK=>?_;go_simp;go_wp2_with(go_at_call 41;refine HC.o.mono ?_;rintro e w5 ⟨v5,rfl,ah,C⟩)
       exact E8 ⟨_,_,_,J,Y ⟨d.o.1,d.o.2.1,d.o.2.2.1,d.o.2.2.2.1,λh A=>(d.o.2.2.2.2.1 h A).below C,λ_=>rfl,λ_ _=>ah,λh A=>((Ec d) h A).below C,(Ed d),(EM d),⟨λh=>(D7 d) (by simpa using h),λh=>d.o.2.2.2.2.2.2.2.2.2.2.2 (by simpa using h)⟩⟩,Y ⟨λ_=>m.below C,λh=>by simp[n]at h,λh=>by simp[r]at h⟩⟩
     . have r:D 9=false:=DN f q;have n:D 8=false:=DN f q;have m:=v.o.1 n;have U:=d.o.2.2.2.2.1 (g 4 DG) r;have h1:=ER d (g 6 DG) r;clear g;have HC:=Y (NP _ _ (cf ps K) ((K:Int):Rat) V U h1 (HP.o.at K) (Tq HK.o.2));rw[Qi.o]at HC;clear U h1;refine Jo J J λK hK=>?_;go_simp;go_wp2_with(go_at_call 43;refine HC.o.mono ?_;rintro e w5 ⟨v5,rfl,ah,C⟩)
       exact E8 ⟨_,_,_,J,Y ⟨d.o.1,d.o.2.1,d.o.2.2.1,d.o.2.2.2.1,λh A=>(d.o.2.2.2.2.1 h A).below C,(EH d),λh A=>((ER d) h A).below C,λ_ _=>ah,(Ed d),(EM d),⟨λh=>(D7 d) (by simpa using h),λh=>d.o.2.2.2.2.2.2.2.2.2.2.2 (by simpa using h)⟩⟩,Y ⟨λ_=>m.below C,λh=>by simp[n]at h,λh=>by simp[r]at h⟩⟩
     . have r:D 9=false:=DN f q;have m:=v.o.1 q;have U:=Ec d (g 7 DG) r;obtain⟨a9,l9,c9,s9,b9,k9,d9,t9,rfl⟩:=Jk.form U;clear g;refine Da ?_;exact⟨Y ⟨d.o.1,d.o.2.1,d.o.2.2.1,d.o.2.2.2.1,λh A=>(d.o.2.2.2.2.1 h A).below (Ba V _),(EH d),λh A=>((ER d) h A).below (Ba V _),λh A=>((Ec d) h A).below (Ba V _),λ_=>⟨_,_,_,J⟩,(EM d),⟨λh=>(D7 d) (by simpa using h),λh=>d.o.2.2.2.2.2.2.2.2.2.2.2 (by simpa using h)⟩⟩,Y ⟨λh=>by simp at h,λ_ _=>⟨V,_,_,_,_,J,m,U,J⟩,λh=>by simp[r]at h⟩⟩
     . obtain⟨I,x9,y9,z9,u9,rfl,m,bg,ay⟩:=v.o.2.1 (g 8 DG) q;obtain rfl:=d.o.1 (g 0 DG);have Qd:D 10=false:=DN f q;have Qe:=g 8 DG;obtain⟨v5,w5,ai,am,bi,C⟩:=X2 false w.heap.size I _ _ m.1 bg (by rw[JM];exact HK.o.1) m.2.size;dsimp only[F5,Dn]at ai;subst ay;obtain⟨a6,c6,e6,_⟩:=am.form;subst e6;clear g;refine Jo J J λK hK=>?_;refine Lib.wp_append_run _ _ _ 29 29 J _ _ J J _ _ ai (hK _ _ ?_);exact E8 ⟨_,_,_,J,Y ⟨λ_=>rfl,d.o.2.1,d.o.2.2.1,d.o.2.2.2.1,λ_ h=>by simp at h,(EH d),λ_ h=>by simp at h,λ_ h=>by simp at h,(Ed d),λ_=>⟨_,_,_,J⟩,⟨λh=>(D7 d) (by simpa using h),λh=>by simp[Qd]at h⟩⟩,Y ⟨λh=>by simp[Qe]at h,λ_ h=>by simp at h,λ_=>⟨am,C _ _ (Aa _) m.2⟩⟩⟩
     . clear g;refine Da ?_;exact⟨(Hw d ⟨λh=>by simp at h,λ_=>rfl⟩),Y ⟨λh=>v.o.1 (by simpa using h),λh A=>v.o.2.1 (by simpa using h) (by simpa using A),λh=>v.o.2.2 (by simpa using h)⟩⟩
    case fin1=>
     rintro D ad V ae ⟨ta,tb,tc,td,te,tg,ti,tj,tk,S,tm,rfl,d,v⟩;have HO:=Y (v.o.2.2 (ae 9 DK));obtain rfl:=d.o.2.2.2.2.2.2.2.2.2.2.2 (ae 10 DK);clear d v ae;obtain⟨a9,c9,e9,_⟩:=HO.o.1.form;rw[<-Y8,JM]at e9;subst e9;go_wp2_with fail
     go_roundw
     case rel=>exact⟨k+1,K+1,Y ⟨by have:=T.o;omega,Au O⟩,by go_num,⟨a9,c9,J⟩,Y (by rw[Y8];exact HO.o)⟩
     case measure=>simp[intOf];omega
  . have Qg:¬(K:Int)<(la:Int):=O
    have HT:=Y (Ks _ _ wr (HR.o.1.row (by rw[JM];have:=T.o;have:=Qh.o;have:=Qf.o;omega)));have HE:=Y (show Jc (XH (EW ps) k)=Jb ps from YL λj=>by
     rw[Lj,Iq];split
     . rfl
     . rw[JZ (by have:=Qf.o;have:=T.o;omega)];grind)
    rw[HE.o]at HT;go_wp2_with(go_at_call 44;refine HT.o.mono ?_;clear HT;rintro e w1 ⟨u1,rfl,ap,aq⟩;obtain⟨a7,l7,c7,rfl⟩:=ap.form)
    go_ret;exact⟨_,J,ap,Bt HR.o.2 aq⟩
def GN(w V:G)(o:N)(C:Nat)(qs:Ja)(c:Rat):Prop:=
 E0 false w V o qs/\w.heap.size<=C/\(∀g l c,o=E (some ⟨g,0,none⟩) l c->g≠C)/\∃a l c' s b k d t,JB V C 47 (E a l c') (F s) (E b k d) (F t)/\Jk V (.agg #[E a l c',F s,E b k d,F t]) c
def GN.below{w V V':G}{o:N}{C:Nat}{qs:Ja}{c:Rat}(h:GN w V o C qs c)(e:Bl V V'):GN w V' o C qs c:=by
 obtain⟨f,g,i,a,l,c',s,b,k,d,t,j,m⟩:=h;exact⟨f.below e,g,i,a,l,c',s,b,k,d,t,j.below e,m.below e⟩
def EF.put4{r:Bool}{base:Nat}{V:G}{o:N}{qs:Ja}(h:EF r base V o qs){C:Nat}{ty:TypeId}{x y z u:N}(q:JB V C ty x y z u)(K:JE x=true)(P:JE y=true)(Q:JE z=true)(R:JE u=true)(D:∀g l c,o=E (some ⟨g,0,none⟩) l c->g≠C)(d e f b:N):EF r base (put4 V C d e f b) o qs:=by
 rcases h with h|⟨g,cap,i,a,n,p,s,t,v,w,A⟩
 . exact An h
 . have hg:=D g _ _ a;refine Au ⟨g,cap,i,a,n,?_,s,t,v,w,A.keep λ_ _ _ I=>Row.put4 I q K P Q R _ _ _ _⟩;have j:=(BC V ⟨C,0,none⟩ d g hg).trans p;have k:=(BC _ ⟨C,1,none⟩ e g hg).trans j;have m:=(BC _ ⟨C,2,none⟩ f g hg).trans k;exact(BC _ ⟨C,3,none⟩ b g hg).trans m
def GN.put{w V:G}{o:N}{C:Nat}{qs:Ja}{c c2:Rat}(h:GN w V o C qs c){a:nJ}{l c':Nat}{s:Bool}{b:nJ}{k d:Nat}{t:Bool}(j:Jk V (.agg #[E a l c',F s,E b k d,F t]) c2):
 GN w (put4 V C (E a l c') (F s) (E b k d) (F t)) o C qs c2:=by
 obtain⟨f,g,i,m,q,c0,r,b0,p,d0,u,e,n⟩:=h;exact⟨⟨f.1.put4 e J J J J i _ _ _ _,Jn f.2 g _ _ _ _⟩,g,i,_,_,_,_,_,_,_,_,e.put _ _ _ _,j.put4 e J J J J _ _ _ _⟩
def GN.new{w V:G}{o:N}{qs:Ja}{c:Rat}(h:E0 false w V o qs){a:nJ}{l c':Nat}{s:Bool}{b:nJ}{k d:Nat}{t:Bool}(m:Jk V (.agg #[E a l c',F s,E b k d,F t]) c):
 GN w (V.alloc (.cells #[E a l c',F s,E b k d,F t] 47)) o V.heap.size qs c:=by
 have i:Bl V (V.alloc (.cells #[E a l c',F s,E b k d,F t] 47)):=Ba V _;refine⟨h.below i,h.2.size,λg l c e=>?_,_,_,_,_,_,_,_,_,JB.new _ _ _ _ _ _,m.below i⟩;rcases h.1 with⟨f,_⟩|⟨p,cap,n,f,q,j,_⟩
 . rw[f]at e;cases e
 . rw[f]at e;cases e;have:=(Ab.1 j).1;omega
def gN(ps qs:Ja){i:Nat}(h:k<=i):conv ps qs (k+1) i=conv ps qs k i+cf ps k*cf qs (i-k):=by
 show sumN (k+1) _=_;rw[sumN,BG h];rfl
theorem Ts(p q:Ja)(h:p.length+q.length<=k):∀n,conv p q n k=0:=by
 intro n;induction n with
 |zero=>rfl
 |succ n a=>
  show conv p q n k+(if n<=k then cf p n*cf q (k-n)else 0)=0
  rw[a,Rat.zero_add];split
  . by_cases b:n<p.length
    . rw[JZ (p:=q) O,Rat.mul_zero]
    . rw[JZ (p:=p) O,Fm]
  . rfl
def gO{ps qs:Ja}(h:M3.Hk ps qs)(n k:Nat):Sq (conv ps qs n k):=by
 have a:=h.2 (n+qs.length) n 0 k;rw[show YZ (Xx ps qs (n+qs.length) n) n (cf ps n) qs 0=Xx ps qs (n+qs.length) n from J,OD _ _ _ _ _ (Au O)]at a;exact a
def gP(ps qs:Ja)(n:Nat)(h:ps.length+qs.length<=n):Jc (XH (λi=>conv ps qs (i+1) i) n)=Jv ps qs:=YL λj=>by
 rw[Lj,Ip];split
 . by_cases a:j+1<=ps.length
   . rw[Vt ps qs a]
   . rw[Q9 ps qs O]
 . rw[Ts ps qs O]
def Tt(va vb:N)(ps qs:Ja)(w:G)(ha:RowK false w va ps)(hb:RowK false w vb qs)(di:Sqs ps)(dj:Sqs qs)(ak:M3.Hk ps qs)(de:ps.length+qs.length<1099511627776):
 Calls Tryz.prog 10 #[va,vb] w λe w'=>∃u,e=.returned u/\RowK false w' u (Jv ps qs)/\Bl w w':=by
 obtain⟨a,la,ca,rfl⟩:=ha.form;obtain⟨b,lb,cb,rfl⟩:=hb.form;obtain⟨cn,dw,dz,ew,s,t,aa,bb,ll,cc,kk,dd,hc⟩:=ha.formsF;obtain⟨co,dx,ed,f6,s',t',ap,aq,dm,bk,dk,bm,ce⟩:=hb.formsF;obtain⟨HA,HB,HP,HQ,Qk,Ql,Qn,f8⟩:=FZ hc ce di dj cn co ak de;have Qq:=Y λn k=>gO ak n k;obtain⟨n,hn⟩:=ex (la+lb);have fh:(la:Int)+(lb:Int)=(n:Int):=O
 have fg:n<1099511627776:=O
 have fj:L.wrap (n:Int)=(n:Int):=by rw[BJ];omega
 have HN:=Y hn;have Qr:=Y λ(V:G)=>YD 0 O O V;clear ha hb di dj ak cn co hc ce de hn dw dz dx ed ew f6;go_enter func10,ntmps10
 go_wp2;go_loopw [5,6] (λo iv wr=>∃i:Nat,i<=n/\iv=H L (i:Int)/\(∃Q R,o=E Q i R)/\Hid (E0 false w wr o (XH (λi=>conv ps qs (i+1) i) i))) λ_ iv _=>n-(intOf iv).toNat
 case atStart=>exact⟨0,Ap _,J,⟨_,_,J⟩,Y ⟨EF.nil _ _ _,BA _ _⟩⟩
 case round=>
  obtain⟨i,hi,rfl,⟨Q,R,rfl⟩,T⟩:=hrel;by_cases fc:i<n
  . have fe:(i:Int)<(n:Int):=O
    obtain⟨ae,am⟩:=ex (XH (λi=>conv ps qs (i+1) i) i);rw[am]at T;have Qg:=Y am;clear am;go_upto_region 6 with(go_at_call 41;refine(Qr.o _).mono ?_;rintro e w1 ⟨u1,rfl,S,v⟩;obtain⟨a0,l0,c0,s0,b0,k0,d0,t0,rfl⟩:=Jk.form S)
    have hX:=GN.new (T.o.below v) S;obtain⟨W1,aj⟩:=ex (w1.alloc (.cells #[E a0 l0 c0,F s0,E b0 k0 d0,F t0] 47));obtain⟨C,hC⟩:=ex (w1.heap.size);rw[aj,hC]at hX;rw[aj,hC];have HX:=Y (show GN w W1 (E Q i R) C ae 0 from hX);clear hX S v aj hC T;go_wp2;go_loopw [8] (λkv wr=>∃k:Nat,k<=i+1/\kv=H L (k:Int)/\Hid (GN w wr (E Q i R) C ae (conv ps qs k i))) λkv _=>i+1-(intOf kv).toNat
    case atStart=>exact⟨0,Ap _,J,HX⟩
    case round=>
     obtain⟨k,hk,rfl,x⟩:=hrel;clear HX;by_cases et:k<=i
     . have Qe:(k:Int)<=(i:Int):=O
       obtain⟨m,hm⟩:=ex (i-k:Nat);have ff:(i:Int)-(k:Int)=(m:Int):=O
       have fi:L.wrap (m:Int)=(m:Int):=by rw[BJ];omega
       have Qc:=Y (show conv ps qs k i+cf ps k*cf qs m=conv ps qs (k+1) i by rw[gN ps qs et,hm]);have Qm:=Y (Qq.o k i);clear hm;by_cases eo:k<la
       . have Qi:(k:Int)<(la:Int):=O
         by_cases f7:m<lb
         . have Qd:(m:Int)<(lb:Int):=O
           obtain⟨cj,j,rfl,v,ay,az,bc,bf⟩:=HA.o k eo;obtain⟨ck,l,rfl,X,bg,bh,bi,bj⟩:=HB.o m f7;have Qf:=Y (show ∀V,Bl w V->(V.cell? ⟨j,k*4,none⟩=some (E (aa k) (ll k) (cc k))/\V.cell? ⟨j,k*4+1,none⟩=some (F (s k))/\V.cell? ⟨j,k*4+2,none⟩=some (E (bb k) (kk k) (dd k))/\V.cell? ⟨j,k*4+3,none⟩=some (F (t k)))/\Jk V (.agg #[E (aa k) (ll k) (cc k),F (s k),E (bb k) (kk k) (dd k),F (t k)]) (cf ps k)from λV r=>by
            exact⟨⟨(r.cell (p:=⟨j,_,none⟩) v).trans ay,(r.cell (p:=⟨j,_,none⟩) v).trans az,(r.cell (p:=⟨j,_,none⟩) v).trans bc,(r.cell (p:=⟨j,_,none⟩) v).trans bf⟩,cj.below r⟩)
           have Qh:=Y (show ∀V,Bl w V->(V.cell? ⟨l,m*4,none⟩=some (E (ap m) (dm m) (bk m))/\V.cell? ⟨l,m*4+1,none⟩=some (F (s' m))/\V.cell? ⟨l,m*4+2,none⟩=some (E (aq m) (dk m) (bm m))/\V.cell? ⟨l,m*4+3,none⟩=some (F (t' m)))/\Jk V (.agg #[E (ap m) (dm m) (bk m),F (s' m),E (aq m) (dk m) (bm m),F (t' m)]) (cf qs m)from λV r=>by
            exact⟨⟨(r.cell (p:=⟨l,_,none⟩) X).trans bg,(r.cell (p:=⟨l,_,none⟩) X).trans bh,(r.cell (p:=⟨l,_,none⟩) X).trans bi,(r.cell (p:=⟨l,_,none⟩) X).trans bj⟩,ck.below r⟩)
           obtain⟨y,hy⟩:=ex (conv ps qs k i)
           rw[hy]at x Qc Qm;clear cj v ay az bc bf ck X bg bh bi bj hy;go_wp2_with fail
           have Qo:=x.o.below ((BA _ wr).drew);refine J6 Dl [[],[],[],[1,2],[3],[],[],[],[6,7],[5,8],[9],[4,10],[0,11,11],[12,12,0,1,2,3,4,5,6,7,8,9,10,11,12]] nK DK
            (λD ai V=>∃(ta tb tc td te tg ti tj tk tl tm tn tp:N),ai={ tmps:=#[E (some ⟨j,0,none⟩) la ca,E (some ⟨l,0,none⟩) lb cb,undef,undef,E none 0 0,E Q i R,H L ↑i,M (some ⟨C,0,none⟩),H L ↑k,H L ↑i,E (some ⟨j,0,none⟩) la ca,H L ↑la,E (some ⟨l,0,none⟩) lb cb,H L ↑lb,H L ↑n,F true,u16,u17,.agg #[E a0 l0 c0,F s0,E b0 k0 d0,F t0],H L ↑k,H L ↑i,F true,u22,u23,H L ↑k,E (some ⟨j,0,none⟩) la ca,H L ↑la,F true,F true,H L ↑i,H L ↑k,H L ↑m,E (some ⟨l,0,none⟩) lb cb,H L ↑lb,F true,F true,ta,tb,tc,td,te,tg,ti,tj,tk,tl,tm,tn,tp,u49,u50,u51,u52,undef,undef],defers:=[] }/\Hid ((D 0=true->D 13=false->Jk V ta y)/\(D 1=true->tb=E (some ⟨j,0,none⟩) la ca)/\(D 2=true->tc=H L (k:Int))/\(D 3=true->td=M (some ⟨j,k*4,none⟩))/\(D 4=true->D 13=false->Jk V te (cf ps k))/\(D 5=true->tg=E (some ⟨l,0,none⟩) lb cb)/\(D 6=true->ti=H L (i:Int))/\(D 7=true->tj=H L (k:Int))/\(D 8=true->tk=H L (m:Int))/\(D 9=true->tl=M (some ⟨l,m*4,none⟩))/\(D 10=true->D 13=false->Jk V tm (cf qs m))/\(D 11=true->D 13=false->Jk V tn (cf ps k*cf qs m))/\(D 12=true->D 13=false->Jk V tp (conv ps qs (k+1) i)))/\Hid ((D 13=false->GN w V (E Q i R) C ae y)/\(D 13=true->GN w V (E Q i R) C ae (conv ps qs (k+1) i))))
            (E8 ⟨_,_,_,_,_,J,Y DG,Y ⟨λ_=>Qo,DG⟩⟩) ?step1 ?fin1
           case step1=>
            rintro D ai V i ds ad hi d I ⟨ta,tb,tc,td,te,tg,ti,tj,tk,tl,tm,tn,tp,rfl,c,f⟩;have f9:i<14:=(Aq.1 hi).1;obtain rfl|rfl|rfl|rfl|rfl|rfl|rfl|rfl|rfl|rfl|rfl|rfl|rfl|rfl:=Io i O
            all_goals
             simp only[AO,AJ,AX]at hi;subst hi
            . have z:=f.o.1 (DN ad I);obtain⟨_,_,_,a5,l5,c5,s5,b5,k5,d5,t5,P,r5⟩:=id z;obtain⟨e0,e1,e2,e3⟩:=P.cq;clear d;refine Da ?_;exact⟨(GH c λ_ _=>r5),f⟩
            . clear d;refine Da ?_;exact⟨(Gk c),f⟩
            . clear d;refine Da ?_;exact⟨(Gl c),f⟩
            . obtain rfl:=c.o.2.1 (d 1 DG);obtain rfl:=c.o.2.2.1 (d 2 DG);clear d;refine Da ?_;exact⟨(Hc (Gl (Gk c))),f⟩
            . have z:=f.o.1 (DN ad I);obtain rfl:=c.o.2.2.2.1 (d 3 DG);obtain⟨⟨e0,e1,e2,e3⟩,hr⟩:=Qf.o V z.1.2;clear d;refine Da ?_;exact⟨(Hd (Hc c) λ_ _=>hr),f⟩
            . clear d;refine Da ?_;exact⟨(He c),f⟩
            . clear d;refine Da ?_;exact⟨(IR c),f⟩
            . clear d;refine Da ?_;exact⟨(Ka c),f⟩
            . obtain rfl:=ER c (d 6 DG);obtain rfl:=Ec c (d 7 DG);clear d;refine Da ?_;exact⟨(LO (Ka (IR c))),f⟩
            . obtain rfl:=EH c (d 5 DG);obtain rfl:=Ed c (d 8 DG);clear d;refine Da ?_;exact⟨(LP (LO (He c))),f⟩
            . have z:=f.o.1 (DN ad I);obtain rfl:=EM c (d 9 DG);obtain⟨⟨e0,e1,e2,e3⟩,hr⟩:=Qh.o V z.1.2;clear d;refine Da ?_;exact⟨(Gm (LP c) λ_ _=>hr),f⟩
            . have U:D 13=false:=DN ad I;have A:=c.o.2.2.2.2.1 (d 4 DG) U;have W:=D7 c (d 10 DG) U;clear d;have HC:=Y (NP _ _ (cf ps k) (cf qs m) V A W (HP.o.at k) (HQ.o.at m));clear A W;refine Jo J J λK hK=>?_;go_simp;go_wp2_with(go_at_call 43;refine HC.o.mono ?_;rintro e w5 ⟨v5,rfl,an,q⟩)
              obtain⟨G0,G1,G2,G3,G4,G5,G6,G7,G8,G9,ah,_,du⟩:=c.o;exact E8 ⟨_,_,_,_,_,J,Y ⟨λh g=>(G0 h g).below q,G1,G2,G3,λh g=>(G4 h g).below q,G5,G6,G7,G8,G9,λh g=>(ah h g).below q,λ_ _=>an,λh g=>(du h g).below q⟩,Y ⟨λh=>(f.o.1 h).below q,λh=>(f.o.2 h).below q⟩⟩
            . have U:D 13=false:=DN ad I;have A:=c.o.1 (d 0 DG) U;have W:=LR c (d 11 DG) U;clear d;have HC:=Y (PZ _ _ y (cf ps k*cf qs m) V A W Qm.o (Qn.o.1 k m));rw[Qc.o]at HC;clear A W;refine Jo J J λK hK=>?_;go_simp;go_wp2_with(go_at_call 42;refine HC.o.mono ?_;rintro e w5 ⟨v5,rfl,an,q⟩)
              obtain⟨G0,G1,G2,G3,G4,G5,G6,G7,G8,G9,ah,dt,_⟩:=c.o;exact E8 ⟨_,_,_,_,_,J,Y ⟨λh g=>(G0 h g).below q,G1,G2,G3,λh g=>(G4 h g).below q,G5,G6,G7,G8,G9,λh g=>(ah h g).below q,λh g=>(dt h g).below q,λ_ _=>an⟩,Y ⟨λh=>(f.o.1 h).below q,λh=>(f.o.2 h).below q⟩⟩
            . have z:=f.o.1 I;have A:=c.o.2.2.2.2.2.2.2.2.2.2.2.2 (d 12 DG) I;obtain⟨a9,l9,c9,s9,b9,k9,d9,t9,rfl⟩:=Jk.form A;obtain⟨_,_,_,a5,l5,c5,s5,b5,k5,d5,t5,P,r5⟩:=id z;obtain⟨e0,e1,e2,e3⟩:=P.cq;obtain⟨f0,f1,f2,f3⟩:=P.fq;clear d;refine Da ?_;exact⟨(Iy (Ix (Gm (Hd (GH c λ_ h=>by simp at h) λ_ h=>by simp at h) λ_ h=>by simp at h) λ_ h=>by simp at h) λ_ h=>by simp at h),Y ⟨λh=>by simp at h,λ_=>z.put A⟩⟩
           case fin1=>
            rintro D ai V bn ⟨ta,tb,tc,td,te,tg,ti,tj,tk,tl,tm,tn,tp,rfl,c,f⟩;have HO:=Y (f.o.2 (bn 13 DK));clear c f bn;go_wp2_with fail
            go_roundw
            case rel=>exact⟨k+1,O,by go_num,HO⟩
            case measure=>simp[intOf];omega
         . have Qd:¬(m:Int)<(lb:Int):=O
           have HZ:=Y (show conv ps qs (k+1) i=conv ps qs k i by rw[<-Qc.o,JZ (p:=qs) (by have:=Ql.o;omega),Rat.mul_zero,Rat.add_zero]);go_wp2_with fail
           go_roundw
           case rel=>exact⟨k+1,O,by go_num,Y (by rw[HZ.o];exact x.o)⟩
           case measure=>simp[intOf];omega
       . have Qi:¬(k:Int)<(la:Int):=O
         have HZ:=Y (show conv ps qs (k+1) i=conv ps qs k i by rw[<-Qc.o,JZ (p:=ps) (by have:=Qk.o;omega),Fm,Rat.add_zero]);go_wp2_with fail
         go_roundw
         case rel=>exact⟨k+1,O,by go_num,Y (by rw[HZ.o];exact x.o)⟩
         case measure=>simp[intOf];omega
     . obtain rfl:k=i+1:=O
       have Qe:¬((i+1:Nat):Int)<=(i:Int):=O
       obtain⟨_,_,_,a5,l5,c5,s5,b5,k5,d5,t5,P,r5⟩:=id x.o;obtain⟨e0,e1,e2,e3⟩:=P.cq;obtain⟨v9,w9,bt,dh,ei,bu⟩:=X2 false w.heap.size wr _ _ x.o.1.1 r5 (by rw[<-Qg.o,JM];omega) x.o.1.2.size;dsimp only[F5,Dn]at bt;have Qj:=Y dh;have Qp:=Y (bu w.heap.size w (Aa _) x.o.1.2);clear dh ei bu P r5;go_wp2_with(at_builtin;refine BS _ J _ _ 29 29 J _ _ J J _ _ bt ?_)
       obtain⟨a9,c9,e9,_⟩:=Qj.o.form;rw[<-Qg.o,Cc,JM]at e9;go_roundw
       case rel=>exact⟨i+1,O,by go_num,⟨a9,c9,e9⟩,Y ⟨by rw[Y8,Qg.o];exact Qj.o,Qp.o⟩⟩
       case measure=>simp[intOf];omega
  . obtain rfl:i=n:=O
    have HT:=Y (Ks _ _ wr (T.o.1.row (by rw[JM];omega)));rw[gP ps qs i (by have:=HN.o;have:=Qk.o;have:=Ql.o;omega)]at HT;go_wp2_with(go_at_call 44;refine HT.o.mono ?_;clear HT;rintro e w1 ⟨u1,rfl,S,v⟩;obtain⟨a7,l7,c7,rfl⟩:=S.form)
    go_ret;exact⟨_,J,S,Bt T.o.2 v⟩
end
namespace M3
def gS(va vx:N)(ps:Ja)(x:Rat)(w:G)(ha:RowK false w va ps)(hx:Jk w vx x)(aq:Sqs ps)(ay:Sq x)(ap:Id ps x):
 Calls Tryz.prog 113 #[va,vx] w λe w'=>∃u,e=.returned u/\Jk w' u (ev ps x)/\Bl w w':=by
 obtain⟨a,la,ca,rfl⟩:=ha.form;obtain⟨xa,xl,xc,xs,xb,xk,xd,xt,rfl⟩:=Jk.form hx;obtain⟨an,bf,bg,bj,s,t,aa,bb,ll,cc,kk,dd,hc⟩:=ha.formsF;obtain⟨W0,az,ad⟩:=Kf 47 (.ref x) hx 47 (.zref) J;have M1:=ad.o;obtain⟨A,HP,HX,HK,Qi,Qh⟩:=IU hc aq ay ap an λ(V:G)=>YD 0 O O V;have bk:L.wrap ((la:Int)-1)=(la:Int)-1:=by rw[BJ];omega
 clear ha hx aq ay ap an hc M1;go_enter func113,ntmps113
 go_upto_region 1 with fail
 rw[az.o];go_upto_region 2 with(go_at_call 41;refine(Qh.o _).mono ?_;clear Qh;rintro e w1 ⟨u1,rfl,ai,am⟩;obtain⟨a1,l1,c1,s1,b1,k1,d1,t1,rfl⟩:=Jk.form ai)
 have M2:DH w _ _:=(ad.o.below am).push (.ref 0) ai;obtain⟨W1,ah⟩:=ex (w1.alloc (.cells #[E a1 l1 c1,F s1,E b1 k1 d1,F t1] 47));obtain⟨B,n⟩:=ex (w1.heap.size);rw[ah];rw[n];have M3:DH w W1 [some (w.heap.size,.ref x),some (w.heap.size+1,.zref),some (B,.ref (0:Rat))]:=by rw[<-ah,<-n];exact M2
 have Qd:=Y M3;clear M2 M3 ai am ad ah n;go_wp2;go_loopw [6] (λiv wr=>∃m:Nat,m<=la/\iv=H L ((m:Int)-1)/\Hid (DH w wr [some (w.heap.size,.ref x),some (w.heap.size+1,.zref),some (B,.ref (ev (ps.drop m) x))])) λiv _=>((intOf iv)+1).toNat
 case atStart=>
  refine⟨la,Aa _,J,Y ?_⟩;rw[AN (by have:=Qi.o;omega)];exact Qd.o
 case round=>
  obtain⟨m,hm,rfl,v⟩:=hrel;clear Qd;by_cases l:m=0
  . subst l;have Qc:((((0:Nat):Int)-1))=-1:=O
    rw[Qc];clear Qc;rw[Ca]at v;obtain⟨S,l5,U,s5,T,k5,W,t5,o,r,i5,j5⟩:=v.o.ref (i:=2) J;have n6:=v.o.zref (i:=1) J;obtain⟨X,e1,e2,e3⟩:=o.cq;obtain⟨f0,f1,f2,f3⟩:=n6.fq;obtain⟨r0,r1,r2,r3⟩:=n6.cq;have Qk:=Y (v.o.putZref (i:=1) J r).2.2;have Qm:=Y (Pb n6 r (E S l5 U) (F s5) (E T k5 W) (F t5));clear o r i5 j5 n6;go_wp2_with fail
    exact A0 (by simp[results,results113,go_sem,r0,r1,r2,r3]) J ⟨_,J,Qm.o,Qk.o⟩
  . obtain⟨j,hj⟩:∃j:Nat,m=j+1:=⟨m-1,O⟩;have Qf:(m:Int)-1=(j:Int):=O
    rw[Qf];have bc:=Y hj;rw[hj]at v;have Qj:j<la:=O
    have bi:(j:Int)<(la:Int):=O
    obtain⟨C,b,rfl,Q,c0,c1,c2,c3⟩:=A.o j Qj;have Ql:=Y (show ∀V,Bl w V->(V.cell? ⟨b,j*4,none⟩=some (E (aa j) (ll j) (cc j))/\V.cell? ⟨b,j*4+1,none⟩=some (F (s j))/\V.cell? ⟨b,j*4+2,none⟩=some (E (bb j) (kk j) (dd j))/\V.cell? ⟨b,j*4+3,none⟩=some (F (t j)))/\Jk V (.agg #[E (aa j) (ll j) (cc j),F (s j),E (bb j) (kk j) (dd j),F (t j)]) (cf ps j)from λV n=>by
     exact⟨⟨(n.cell (p:=⟨b,_,none⟩) Q).trans c0,(n.cell (p:=⟨b,_,none⟩) Q).trans c1,(n.cell (p:=⟨b,_,none⟩) Q).trans c2,(n.cell (p:=⟨b,_,none⟩) Q).trans c3⟩,C.below n⟩)
    have Qg:=Y (TO ps x (m:=j) (by have:=Qi.o;omega));obtain⟨y,hy⟩:=ex (ev (ps.drop (j+1)) x);have Qe:=Y (show Sq y/\Sq (y*x)by rw[<-hy];exact HK.o (j+1));rw[hy]at v Qg;clear C c0 c1 c2 c3 Q hj Qf hy l hm;go_wp2_with fail
    have Qn:=v.o.drew;refine J6 Dl [[],[],[0,1],[],[],[3,4],[5],[2,6,2],[7,7,0,1,2,3,4,5,6,7]] nK DK
     (λD ae V=>∃(ta tb tc td te tg ti tj:N),ae={ tmps:=#[E (some ⟨b,0,none⟩) la ca,.agg #[E xa xl xc,F xs,E xb xk xd,F xt],undef,M (some ⟨w.heap.size,0,none⟩),M (some ⟨w.heap.size+1,0,none⟩),M (some ⟨B,0,none⟩),H L ↑j,.agg #[E a1 l1 c1,F s1,E b1 k1 d1,F t1],E (some ⟨b,0,none⟩) la ca,H L ↑la,H L (↑la-1),H L ↑j,F true,u13,u14,ta,tb,tc,td,te,tg,ti,tj,undef],defers:=[] }/\Hid ((D 0=true->D 8=false->Jk V ta y)/\(D 1=true->D 8=false->Jk V tb x)/\(D 2=true->D 8=false->Jk V tc (y*x))/\(D 3=true->td=E (some ⟨b,0,none⟩) la ca)/\(D 4=true->te=H L (j:Int))/\(D 5=true->tg=M (some ⟨b,j*4,none⟩))/\(D 6=true->D 8=false->Jk V ti (cf ps j))/\(D 7=true->D 8=false->Jk V tj (ev (ps.drop j) x)))/\Hid ((D 8=false->DH w V [some (w.heap.size,.ref x),some (w.heap.size+1,.zref),some (B,.ref y)])/\(D 8=true->DH w V [some (w.heap.size,.ref x),some (w.heap.size+1,.zref),some (B,.ref (ev (ps.drop j) x))])))
     (E8 ⟨J,Y DG,Y ⟨λ_=>Qn,DG⟩⟩) ?step1 ?fin1
    case step1=>
     rintro D ae V i ds R C f z ⟨ta,tb,tc,td,te,tg,ti,tj,rfl,c,d⟩;have bh:i<9:=(Aq.1 C).1;obtain rfl|rfl|rfl|rfl|rfl|rfl|rfl|rfl|rfl:=Vl i O
     all_goals
      simp only[AO,AJ,AX]at C;subst C
     . have q:=d.o.1 (DN R z);obtain⟨S,l5,U,s5,T,k5,W,t5,o,r,i5,j5⟩:=q.ref (i:=2) J;obtain⟨X,e1,e2,e3⟩:=o.cq;clear f;refine Da ?_;exact⟨(GH c λ_ _=>r),d⟩
     . have q:=d.o.1 (DN R z);obtain⟨S,l5,U,s5,T,k5,W,t5,o,r,i5,j5⟩:=q.ref (i:=0) J;obtain⟨X,e1,e2,e3⟩:=o.cq;clear f;refine Da ?_;exact⟨(Gk c λ_ _=>r),d⟩
     . have I:D 8=false:=DN R z;have l:=c.o.1 (f 0 DG) I;have P:=c.o.2.1 (f 1 DG) I;clear f;have A:=Y (NP _ _ y x V l P Qe.o.1 HX.o);clear l P;refine Jo J J λK hK=>?_;go_simp;go_wp2_with(go_at_call 43;refine A.o.mono ?_;rintro e w5 ⟨v5,rfl,aj,k⟩)
       obtain⟨G0,G1,_,G3,G4,G5,G6,G7⟩:=c.o;exact E8 ⟨J,Y ⟨λh g=>(G0 h g).below k,λh g=>(G1 h g).below k,λ_ _=>aj,G3,G4,G5,λh g=>(G6 h g).below k,λh g=>(G7 h g).below k⟩,Y ⟨λh=>(d.o.1 h).below k,λh=>(d.o.2 h).below k⟩⟩
     . clear f;refine Da ?_;exact⟨(Hc c),d⟩
     . clear f;refine Da ?_;exact⟨(Hd c),d⟩
     . obtain rfl:=c.o.2.2.2.1 (f 3 DG);obtain rfl:=c.o.2.2.2.2.1 (f 4 DG);clear f;refine Da ?_;exact⟨(He (Hd (Hc c))),d⟩
     . have q:=d.o.1 (DN R z);obtain rfl:=EH c (f 5 DG);obtain⟨⟨X,e1,e2,e3⟩,hr⟩:=Ql.o V q.2.2;clear f;refine Da ?_;exact⟨(IR (He c) λ_ _=>hr),d⟩
     . have I:D 8=false:=DN R z;have l:=c.o.2.2.1 (f 2 DG) I;have P:=ER c (f 6 DG) I;clear f;have A:=Y (PZ _ _ (y*x) (cf ps j) V l P Qe.o.2 (HP.o.at j));rw[Qg.o]at A;clear l P;refine Jo J J λK hK=>?_;go_simp;go_wp2_with(go_at_call 42;refine A.o.mono ?_;rintro e w5 ⟨v5,rfl,aj,k⟩)
       obtain⟨G0,G1,G2,G3,G4,G5,G6,_⟩:=c.o;exact E8 ⟨J,Y ⟨λh g=>(G0 h g).below k,λh g=>(G1 h g).below k,λh g=>(G2 h g).below k,G3,G4,G5,λh g=>(G6 h g).below k,λ_ _=>aj⟩,Y ⟨λh=>(d.o.1 h).below k,λh=>(d.o.2 h).below k⟩⟩
     . have q:=d.o.1 z;have l:=c.o.2.2.2.2.2.2.2 (f 7 DG) z;obtain⟨a9,l9,c9,s9,b9,k9,d9,t9,rfl⟩:=Jk.form l;obtain⟨S,l5,U,s5,T,k5,W,t5,o,r,i5,j5⟩:=q.ref (i:=2) J;obtain⟨X,e1,e2,e3⟩:=o.cq;obtain⟨f0,f1,f2,f3⟩:=o.fq;clear f;refine Da ?_;exact⟨Y ⟨λ_ h=>by simp at h,λ_ h=>by simp at h,λ_ h=>by simp at h,c.o.2.2.2.1,c.o.2.2.2.2.1,(EH c),λ_ h=>by simp at h,λ_ h=>by simp at h⟩,Y ⟨λh=>by simp at h,λ_=>q.putRef (i:=2) J l⟩⟩
    case fin1=>
     rintro D ae V ak ⟨ta,tb,tc,td,te,tg,ti,tj,rfl,c,d⟩;have HO:=Y (d.o.2 (ak 8 DK));clear c d ak;go_wp2_with fail
     go_roundw
     case rel=>exact⟨j,O,by go_num,HO⟩
     case measure=>simp[intOf]
