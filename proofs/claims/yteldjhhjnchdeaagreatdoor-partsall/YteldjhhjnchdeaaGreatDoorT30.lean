import Derived.Test.YteldjhhjnchdeaaGreatDoorT29
import Derived.Test.YteldjhhjnchdeaaGreatDoorT26
set_option linter.all false
open Go.Value renaming slice->B,bool->F,int->G,pointer->L,string->C
open Go renaming World->E,Value->M
open Go.IntKind renaming i64->H
set_option maxRecDepth 99999
set_option maxHeartbeats 0
namespace Go.Proofs.YteldjhhjnchdeaaGreatDoor
open List renaming replicate->kT
open Proofs.Tryz
open Go.RowKit Go.Shelf
attribute [local go_sem] Oper.semAt_some
section
variable{b:Bool}{S:Ja}{l:List UInt8}{e k m n p:Nat}{c:Rat}{a:E}
def DT.add2{p q:Rat}(hp:DT k p)(hq:DT m q):DT (k+m+1) (p+q):=by
 rw[<-Ng];refine DT.divInt ?_ ((hp.1.mul hq.2).add (by have:=hq.1.mul hp.2;rwa[Fi]at this)) ((hp.2.mul hq.2).mono O);exact AU (by have:=p.den_nz;omega) (by have:=q.den_nz;omega)
def FP.sm(h:FP c):DT 1 c:=by
 obtain⟨x,y,rfl,a,b,d⟩:=h;exact DT.divInt O (by unfold Sm Z;omega) (by unfold Sm Z;omega)
theorem DT.zero(k:Nat)(a:1<=k):DT k 0:=⟨Sm.zero k,Sm.one k a⟩
def MX(n:Nat)(c:Rat)(i:Nat):cf (Dg n [c]) i=if i=n then c else 0:=by
 rw[IM];by_cases h:n<=i
 . rw[BL h];by_cases a:i=n
   . rw[BL a,a,A7,YC]
   . rw[BH a,JS si]
 . rw[BH h,BH O]
def Sd(h:FP c):Sqs (Jb (Dg n [c])):=Sqs.of λi=>by
 rw[JR,MX];split
 . exact Sq.of h.sm O
 . exact Sq.of (DT.zero 1 O) O
def Of(n:Nat)(c:Rat):(Jb (Dg n [c])).length<=n+1:=Al (Yk _) (by simp[Dg])
theorem dJ(c:Rat)(h:n<S.length):Xm (Jb S) (Jb (Dg n [c]))=Jb (S.set n (cf S n+c)):=by
 unfold Xm;refine Yy λi=>?_;rw[Xv,JR,JR,MX,XJ _ _ _ _ h];split
 . rename_i h;rw[h]
 . grind
theorem dK(c:Rat)(h:n<S.length):JP (Jb S) (Jb (Dg n [c]))=Jb (S.set n (cf S n-c)):=by
 unfold JP;refine Yy λi=>?_;rw[Xv,Xc,JR,JR,MX,XJ _ _ _ _ h];split
 . rename_i h;rw[h];grind
 . grind
def Xh(S:Ja)(m:Nat):Prop:=S.length=9/\∀i,DT (2*m+1) (cf S i)
def Xh.start:Xh (kT 9 0) 0:=⟨J,λi=>by rw[JT];exact DT.zero 1 O⟩
def Xh.sqs(h:Xh S m)(a:m<=300):Sqs (Jb S):=Sqs.of λi=>by rw[JR];exact Sq.of (h.2 i) O
def Xh.next(h:Xh S m)(a:FP c)(d:n<=8)(b:Bool):Xh (S.set n (if b then cf S n-c else cf S n+c)) (m+1):=by
 refine⟨by rw[C0];exact h.1,λi=>?_⟩;rw[XJ _ _ _ _ (by rw[h.1];omega)];split
 . cases b
   . exact((h.2 n).add2 a.sm).mono O
   . rw[BL J,C9];exact((h.2 n).add2 a.sm.neg).mono O
 . exact(h.2 i).mono O
def dL{j:Nat}{c d:UInt8}(a:Yd l j c=true)(b:Yd l j d=true):c=d:=by
 unfold Yd at a b;rw[beq_iff_eq]at a b;exact Cf (a.symm.trans b)
def MY{f:Nat}{I:Nat}(h:Yg l I=.error e p):EP l (f+1) b I S=.error e p:=by
 rw[EP,h]
def MZ{f:Nat}{I:Nat}(h:Yg l I=.ok (c,n) k):EP l (f+1) b I S =
 if Yd l (DO l k) 43 then EP l f false (DO l k+1) (S.set n (if b then cf S n-c else cf S n+c))else if Yd l (DO l k) 45 then EP l f true (DO l k+1) (S.set n (if b then cf S n-c else cf S n+c))else if DO l k=l.length then .ok (S.set n (if b then cf S n-c else cf S n+c)) (DO l k)else .error 2 (DO l k):=by
 rw[EP,h]
def dM(l:List UInt8)(i:Nat):(Yg l i).pos:=by
 intro e p h;rw[IA]at h;split at h
 . rename_i b c a;cases h;exact SZ l i _ _ a
 . split at h
   . split at h
     . rename_i b c a;cases h;exact ct _ _ _ _ a
     . cases h
   . cases h
def EF(l:List UInt8):Rd Ja:=if Yd l (DO l 0) 45 then EP l (l.length+1) true (DO l 0+1) (kT 9 0)else EP l (l.length+1) false (DO l 0) (kT 9 0)
def K9(r:Rd Ja):Ja × Nat × Nat:=match r with|.error e p=>([],e,p)|.ok s _=>(Jb s,0,0)
def LA(h:¬300<l.length):J3 l=K9 (EF l):=by
 unfold J3 EF K9;rw[BH h];split<;>(rename_i a;rw[a])
def GC(l:List UInt8)(a:E)(u:M)(e p:Int):Prop:=e=((J3 l).2.1:Int)/\p=((J3 l).2.2:Int)/\RowK false a u (J3 l).1/\(J3 l).1.length<=9/\∀i,DT 601 (cf (J3 l).1 i)
def GC.bad(h:J3 l=([],e,p)):GC l a (B none 0 0) e p:=by
 rw[GC,h];exact⟨J,J,RowK.nil _ _,DK,λi=>by rw[Yt];exact DT.zero _ O⟩
def GC.ok{u:M}(h:J3 l=(Jb S,0,0))(hs:Xh S m)(c:m<=300)(b:RowK false a u (Jb S)):GC l a u 0 0:=by
 rw[GC,h];exact⟨J,J,b,Al (Yk _) (by rw[hs.1];exact Aa _),λi=>by rw[JR];exact(hs.2 i).mono O⟩
def below_drewN{w W:E}(h:Bl w W)(k:Nat):Bl w (W.drewN k):=h.grown (JC W k none) h.size (λk e=>by cases e)
def DV.new(w:E)(s:ByteArray):DV (w.alloc (.cells #[C s,G H 0,G H 0,G H 0] 106)) w.heap.size s 0 0 0:=BC w _
def dN(s:ByteArray)(ck:s.size<=140737488351232)(w:E):
 Calls Tryz.prog 29 #[C s] w λr w'=>∃(u:M) (e p:Int),r=.returned (.tuple #[u,G H e,G H p])/\GC (Jf s) w' u e p/\Bl w w':=by
 by_cases bk:300<s.size
 . have bu:(300:Int)<(s.size:Int):=O
   have HP:=Y (show J3 (Jf s)=([],1,0)by unfold J3;rw[BL (by rw[Ji];exact bk)]);go_enter func29,ntmps29
   go_wp2;exact BA (v:=.tuple #[B none 0 0,G H 1,G H 0]) (by simp[results,results29,go_sem]) J ⟨_,_,_,J,GC.bad HP.o,BB _ _⟩
 . have bu:¬(300:Int)<(s.size:Int):=O
   have hs:s.size<=300:=O
   have HP:=Y (LA (l:=Jf s) (by rw[Ji];exact bk));clear bk ck;have Um:Bl w (w.alloc (.cells #[C s,G H 0,G H 0,G H 0] 106)):=Ba w _;have Uc:=DV.new w s;obtain⟨W0,bi⟩:=ex (w.alloc (.cells #[C s,G H 0,G H 0,G H 0] 106));rw[bi]at Um Uc;obtain⟨R,hR⟩:=ex (w.heap.size);rw[hR]at Uc;obtain⟨o,Up,Uo,Ux⟩:=Do hR bi Um Uc;obtain⟨b0,bj⟩:∃b,b=(decide ((0:Int)=0)&&Yd (Jf s) (DO (Jf s) 0) 45):=⟨_,J⟩;have Ut:=Y (Y7 R s 0 0 0 45 W0 Uc O hs b0 bj);have HB:=Y (show Yd (Jf s) (DO (Jf s) 0) 45=b0 by rw[bj];simp);clear Um Uc bj hR bi;go_enter func29,ntmps29
   go_upto_region 4 with fail
   rw[Up.o,o.o];go_wp2_with(first
    |(go_at_call 61;refine Ut.o.mono ?_;clear Ut;rintro e w1 ⟨rfl,bc,ay⟩;have Uq:=Y bc;have Qw:=Y (below_grown Uo.o ay (by rw[o.o];exact Aa _));clear bc ay))
   go_loopw [6,7,8] (λmv pv _ wr=>∃(b:Bool) (I f m:Nat) (S:Ja) (a:kR) (la ca:Nat),mv=F b/\pv=B a la ca/\I<=s.size/\Hid (DV wr R s (I:Int) 0 0)/\Hid (RowK false wr (B a la ca) (Jb S))/\Hid (Xh S m)/\Hid (m<=I/\s.size-I<f/\EP (Jf s) f b I S=EF (Jf s))/\Hid (Bl w wr)) λ_ _ _ wr=>s.size-E9 wr R
   case atStart=>
    have Uv:DO (Jf s) 0<=s.size:=by rw[<-Ji];exact Ys O
    refine⟨b0,DO (Jf s) 0+(if b0 then 1 else 0),s.size+1,0,kT 9 0,none,0,0,J,J,?_,Y Uq.o,Y ?_,Y Xh.start,Y ⟨O,O,?_⟩,Y Qw.o⟩
    . cases hb:b0
      . simpa using Uv
      . have h1:=HB.o;rw[hb]at h1;have h2:=Ye h1;rw[Ji]at h2;simp;omega
    . rw[LW λi=>JT 9 i];exact RowK.nil _ _
    . unfold EF;rw[HB.o,Ji];cases b0<;>rfl
   case round=>
    clear Uq Qw HB Uo Ux Up;obtain⟨b,I,f,m,S,a,la,ca,rfl,rfl,hI,bf,bt,HS,HT,HG⟩:=hrel;have Ur:=Y (dI R s I 0 0 wr bf.o hI hs);go_upto_if 19 with(first
     |(go_at_call 62;refine Ur.o.mono ?_;clear Ur;rintro e w1 ⟨u,c,n,D,rfl,hu,cj,hF,an,bc,bn,ay⟩;have Qo:=Y (bt.o.rd bf.o ay);have Qy:=Y bc;have HU:=Y hu;have HF:=Y hF;have Uw:=Y (bn J);have Qw:=Y (below_grown HG.o ay (by rw[o.o];exact Aa _));obtain⟨a2,l2,c2,rfl⟩:=hu.form;clear bc hu hF bn ay))
    obtain⟨d,bg⟩:=ex (DO (Jf s) D);have Qn:=Y bg;have Qg:d<=s.size:=by rw[<-bg,<-Ji];exact Ys (by rw[Ji];exact an)
    have K:=Y (show DO (Jf s) d=d by rw[<-bg];exact KM _ _);clear bg;obtain⟨f,rfl⟩:∃g,f=g+1:=⟨f-1,by have:=HT.o.2.1;omega⟩;have Ui:=Y (HS.o.next HF.o cj b);obtain⟨S2,bh⟩:=ex (S.set n (if b then cf S n-c else cf S n+c));rw[bh]at Ui;have Ul:=Y bh;clear bh;go_cut [7] λpv wx=>∃a3 l3 c3,pv=B a3 l3 c3/\Hid (RowK false wx (B a3 l3 c3) (Jb S2))/\Hid (DV wx R s (D:Int) (D0 (Yg (Jf s) I) 0) (EJ (Yg (Jf s) I) 0 0))/\Hid (Bl w wx)
    case first=>
     cases b with
     |false=>
      have Ub:=Y λ(V:E) (h1:RowK false V (B a la ca) (Jb S)) (h2:RowK false V (B a2 l2 c2) (Jb (Dg n [c])))=>Ob _ _ _ _ V h1 h2 (HS.o.sqs (by have:=HT.o.1;omega)) (Sd HF.o) ⟨(by have:=Yk S;have:=HS.o.1;omega),(by have:=Of n c;omega)⟩;obtain rfl:S.set n (cf S n+c)=S2:=Ul.o;go_wp2_with(go_at_call 64;refine(Ub.o _ Qo.o HU.o).mono ?_;clear Ub;rintro e w2 ⟨u2,rfl,am,ap⟩;rw[dJ c (by rw[HS.o.1];omega)]at am;obtain⟨a3,l3,c3,rfl⟩:=am.form;have Qh:=Y am;have T:=Y (Qy.o.below ap);have Qu:=Y (Bt Qw.o ap);clear am ap)
      go_meet
      case rel=>exact⟨_,_,_,J,Qh,T,Qu⟩
     |true=>
      have Ub:=Y λ(V:E) (h1:RowK false V (B a la ca) (Jb S)) (h2:RowK false V (B a2 l2 c2) (Jb (Dg n [c])))=>SR _ _ _ _ V h1 h2 (HS.o.sqs (by have:=HT.o.1;omega)) (Sd HF.o) ⟨(by have:=Yk S;have:=HS.o.1;omega),(by have:=Of n c;omega)⟩;obtain rfl:S.set n (cf S n-c)=S2:=Ul.o;go_wp2_with(go_at_call 63;refine(Ub.o _ Qo.o HU.o).mono ?_;clear Ub;rintro e w2 ⟨u2,rfl,am,ap⟩;rw[dK c (by rw[HS.o.1];omega)]at am;obtain⟨a3,l3,c3,rfl⟩:=am.form;have Qh:=Y am;have T:=Y (Qy.o.below ap);have Qu:=Y (Bt Qw.o ap);clear am ap)
      go_meet
      case rel=>exact⟨_,_,_,J,Qh,T,Qu⟩
    obtain⟨a3,l3,c3,rfl,Qh,T,Qu⟩:=hcut;clear Qo Qy Qw HU;by_cases ah:D0 (Yg (Jf s) I) 0=0
    . obtain⟨_,⟨c0,n0⟩,k,hk⟩:=Od (dM _ _) ah;obtain⟨rfl,rfl,rfl⟩:=Uw.o c0 n0 k hk;rw[ah,(FM hk 0 0).2]at T;have Qz:=Y (show m<=I/\I<D/\D<=d/\d<=s.size/\s.size-I<f+1 from⟨HT.o.1,(Lh (by rw[Ji];exact hI) hk).1,by rw[<-Qn.o];exact GH _ _,Qg,HT.o.2.1⟩);have Uf:=Y (MZ (f:=f) (b:=b) (S:=S) hk);rw[Qn.o,HT.o.2.2,Ul.o]at Uf;clear ah hk;cases aj:Yd (Jf s) d 43 with
      |true=>
       obtain⟨Qr,Qk,Un⟩:=Dc aj (show Yd (Jf s) d 45=false from Bool.eq_false_iff.2 λh=>absurd (dL aj h) DN) (show EP (Jf s) f false (d+1) S2=EF (Jf s)by rw[Uf.o,BL aj]);have Ua:d+1<=s.size:=by have:=Ye aj;rw[Ji]at this;omega
       clear aj;have t:=Y λ(V:E) (j:DV V R s (D:Int) 0 0)=>F0 R s D 0 0 45 V j an hs;rw[show(decide ((0:Int)=0)&&Yd (Jf s) (DO (Jf s) D) 45)=false from by rw[Qn.o];simp[Qk.o],Qn.o]at t;have x:=Y λ(V:E) (j:DV V R s (d:Int) 0 0)=>Y7 R s d 0 0 43 V j Qg hs true (by rw[K.o];simp[Qr.o]);rw[K.o]at x;go_wp2_with(first
        |(go_at_call 65;refine(t.o _ T.o).mono ?_;clear t;rintro e w3 ⟨rfl,X,y⟩;have Qe:=Y (Qh.o.rd T.o y);have W:=Y X;have Qq:=Y (below_grown Qu.o y (by rw[o.o];exact Aa _));clear X y)
        |(go_at_call 61;refine(x.o _ W.o).mono ?_;clear x;rintro e w4 ⟨rfl,ad,z⟩;have Qf:=Y (Qe.o.rd W.o z);have U:=Y ad;have Qt:=Y (below_grown Qq.o z (by rw[o.o];exact Aa _));clear ad z))
       go_roundw
       case rel=>exact⟨_,d+1,f,m+1,_,_,_,_,J,J,Ua,Y U.o,Y Qf.o,Y Ui.o,Y ⟨by have:=Qz.o;omega,by have:=Qz.o;omega,Un.o⟩,Y Qt.o⟩
       case measure=>
        have e1:=Hd (I:=d+1) U.o;have e2:=Hd bf.o;rw[e1,e2];have:=Qz.o;omega
      |false=>
       have Qr:=Y aj;cases ak:Yd (Jf s) d 45 with
       |true=>
        have Qk:=Y ak;have Un:=Y (show EP (Jf s) f true (d+1) S2=EF (Jf s)by rw[Uf.o,BH (show ¬Yd (Jf s) d 43=true by rw[aj];decide),BL ak]);have Ua:d+1<=s.size:=by have:=Ye ak;rw[Ji]at this;omega
        clear aj ak;have t:=Y λ(V:E) (j:DV V R s (D:Int) 0 0)=>F0 R s D 0 0 45 V j an hs;rw[show(decide ((0:Int)=0)&&Yd (Jf s) (DO (Jf s) D) 45)=true from by rw[Qn.o];simp[Qk.o],Qn.o]at t;have x:=Y λ(V:E) (j:DV V R s (d:Int) 0 0)=>Y7 R s d 0 0 43 V j Qg hs false (by rw[K.o];simp[Qr.o]);rw[K.o]at x;have P:=Y λ(V:E) (j:DV V R s (d:Int) 0 0)=>Y7 R s d 0 0 45 V j Qg hs true (by rw[K.o];simp[Qk.o]);rw[K.o]at P;go_wp2_with(first
         |(go_at_call 65;refine(t.o _ T.o).mono ?_;clear t;rintro e w3 ⟨rfl,X,y⟩;have Qe:=Y (Qh.o.rd T.o y);have W:=Y X;have Qq:=Y (below_grown Qu.o y (by rw[o.o];exact Aa _));clear X y)
         |(go_at_call 61;refine(x.o _ W.o).mono ?_;clear x;rintro e w4 ⟨rfl,ad,z⟩;have Qf:=Y (Qe.o.rd W.o z);have U:=Y ad;have Qt:=Y (below_grown Qq.o z (by rw[o.o];exact Aa _));clear ad z)
         |(go_at_call 61;refine(P.o _ U.o).mono ?_;clear P;rintro e w5 ⟨rfl,ai,Q⟩;have Qj:=Y (Qf.o.rd U.o Q);have Qi:=Y ai;have Qv:=Y (below_grown Qt.o Q (by rw[o.o];exact Aa _));clear ai Q))
        go_roundw
        case rel=>exact⟨_,d+1,f,m+1,_,_,_,_,J,J,Ua,Y Qi.o,Y Qj.o,Y Ui.o,Y ⟨by have:=Qz.o;omega,by have:=Qz.o;omega,Un.o⟩,Y Qv.o⟩
        case measure=>
         have e1:=Hd (I:=d+1) Qi.o;have e2:=Hd bf.o;rw[e1,e2];have:=Qz.o;omega
       |false=>
        have Qk:=Y ak;by_cases bm:d<s.size
        . have Qm:=Y (show J3 (Jf s)=([],2,d)by rw[HP.o,Uf.o,BH (show ¬Yd (Jf s) d 43=true by rw[aj];decide),BH (show ¬Yd (Jf s) d 45=true by rw[ak];decide),BH (by rw[Ji];omega)];rfl);clear aj ak;have t:=Y λ(V:E) (j:DV V R s (D:Int) 0 0)=>F0 R s D 0 0 45 V j an hs;rw[show(decide ((0:Int)=0)&&Yd (Jf s) (DO (Jf s) D) 45)=false from by rw[Qn.o];simp[Qk.o],Qn.o]at t;have x:=Y λ(V:E) (j:DV V R s (d:Int) 0 0)=>Y7 R s d 0 0 43 V j Qg hs false (by rw[K.o];simp[Qr.o]);rw[K.o]at x;have P:=Y λ(V:E) (j:DV V R s (d:Int) 0 0)=>Y7 R s d 0 0 45 V j Qg hs false (by rw[K.o];simp[Qk.o]);rw[K.o]at P;have H8:=Y λ(V:E) (j:DV V R s (d:Int) 0 0)=>F0 R s d 0 0 32 V j Qg hs;rw[K.o]at H8;have Ug:=Y λ(V:E) (j:DV V R s (d:Int) 0 0)=>K8 R s (d:Int) 0 0 2 (d:Int) V j;have ce:(d:Int)<(s.size:Int):=O
          go_wp2_with(first
           |(go_at_call 65;refine(t.o _ T.o).mono ?_;clear t;rintro e w3 ⟨rfl,X,y⟩;have Qe:=Y (Qh.o.rd T.o y);have W:=Y X;have Qq:=Y (below_grown Qu.o y (by rw[o.o];exact Aa _));clear X y)
           |(go_at_call 61;refine(x.o _ W.o).mono ?_;clear x;rintro e w4 ⟨rfl,ad,z⟩;have Qf:=Y (Qe.o.rd W.o z);have U:=Y ad;have Qt:=Y (below_grown Qq.o z (by rw[o.o];exact Aa _));clear ad z)
           |(go_at_call 61;refine(P.o _ U.o).mono ?_;clear P;rintro e w5 ⟨rfl,ai,Q⟩;have Qj:=Y (Qf.o.rd U.o Q);have Qi:=Y ai;have Qv:=Y (below_grown Qt.o Q (by rw[o.o];exact Aa _));clear ai Q)
           |(go_at_call 65;refine(H8.o _ Qi.o).mono ?_;clear H8;rintro e w6 ⟨rfl,A,ae⟩;have Ql:=Y (Qj.o.rd Qi.o ae);have Qp:=Y A;have Ud:=A.c1;have Uh:=A.c2;have Ue:=A.c3;have Qx:=Y (below_grown Qv.o ae (by rw[o.o];exact Aa _));clear A ae)
           |(go_at_call 66;refine(Ug.o _ Qp.o).mono ?_;clear Ug;rintro e w7 ⟨rfl,aq,az⟩;clear Ud Uh Ue;have Us:w7.cell? ⟨R,2,none⟩=some (G H 2):=aq.c2;have Uu:w7.cell? ⟨R,3,none⟩=some (G H (d:Int)):=aq.c3;have Uk:=Y (below_grown Qx.o az (by rw[o.o];exact Aa _));clear aq az))
          go_quiet (fail)
          go_wp2_with fail
          exact BA (v:=.tuple #[B none 0 0,G H 2,G H (d:Int)]) (by simp[results,results29,go_sem]) J ⟨_,_,_,J,GC.bad (e:=2) Qm.o,below_drewN Uk.o _⟩
        . have Qm:=Y (show J3 (Jf s)=(Jb S2,0,0)by rw[HP.o,Uf.o,BH (show ¬Yd (Jf s) d 43=true by rw[aj];decide),BH (show ¬Yd (Jf s) d 45=true by rw[ak];decide),BL (by rw[Ji];omega)];rfl);clear aj ak;have t:=Y λ(V:E) (j:DV V R s (D:Int) 0 0)=>F0 R s D 0 0 45 V j an hs;rw[show(decide ((0:Int)=0)&&Yd (Jf s) (DO (Jf s) D) 45)=false from by rw[Qn.o];simp[Qk.o],Qn.o]at t;have x:=Y λ(V:E) (j:DV V R s (d:Int) 0 0)=>Y7 R s d 0 0 43 V j Qg hs false (by rw[K.o];simp[Qr.o]);rw[K.o]at x;have P:=Y λ(V:E) (j:DV V R s (d:Int) 0 0)=>Y7 R s d 0 0 45 V j Qg hs false (by rw[K.o];simp[Qk.o]);rw[K.o]at P;have H8:=Y λ(V:E) (j:DV V R s (d:Int) 0 0)=>F0 R s d 0 0 32 V j Qg hs;rw[K.o]at H8;have Uy:decide (d<s.size)=false:=BE bm;go_wp2_with(first
           |(go_at_call 65;refine(t.o _ T.o).mono ?_;clear t;rintro e w3 ⟨rfl,X,y⟩;have Qe:=Y (Qh.o.rd T.o y);have W:=Y X;have Qq:=Y (below_grown Qu.o y (by rw[o.o];exact Aa _));clear X y)
           |(go_at_call 61;refine(x.o _ W.o).mono ?_;clear x;rintro e w4 ⟨rfl,ad,z⟩;have Qf:=Y (Qe.o.rd W.o z);have U:=Y ad;have Qt:=Y (below_grown Qq.o z (by rw[o.o];exact Aa _));clear ad z)
           |(go_at_call 61;refine(P.o _ U.o).mono ?_;clear P;rintro e w5 ⟨rfl,ai,Q⟩;have Qj:=Y (Qf.o.rd U.o Q);have Qi:=Y ai;have Qv:=Y (below_grown Qt.o Q (by rw[o.o];exact Aa _));clear ai Q)
           |(go_at_call 65;refine(H8.o _ Qi.o).mono ?_;clear H8;rintro e w6 ⟨rfl,A,ae⟩;have Ql:=Y (Qj.o.rd Qi.o ae);have Qp:=Y A;have Ud:=A.c1;have Uh:=A.c2;have Ue:=A.c3;have Qx:=Y (below_grown Qv.o ae (by rw[o.o];exact Aa _));clear A ae))
          exact BA (v:=.tuple #[B a3 l3 c3,G H 0,G H 0]) (by simp[results,results29,go_sem]) J ⟨_,_,_,J,GC.ok Qm.o Ui.o (by have:=Qz.o;omega) Ql.o,Qx.o⟩
    . obtain⟨q,hE⟩:=ex (D0 (Yg (Jf s) I) 0);obtain⟨N,hA⟩:=ex (EJ (Yg (Jf s) I) 0 0);have Qs:∃e p:Nat,Yg (Jf s) I=.error e p:=by
       cases hk:Yg (Jf s) I with
       |error e p=>exact⟨e,p,J⟩
       |ok a k=>exact absurd (FM hk 0 0).1 ah
      obtain⟨e0,p0,Qs⟩:=Qs;have Uj:=Y (show q=(e0:Int)/\N=(p0:Int)by rw[<-hE,<-hA,Qs];exact⟨J,J⟩);have Qm:=Y (show J3 (Jf s)=([],e0,p0)by rw[HP.o,<-HT.o.2.2,MY Qs];rfl);rw[hE,hA]at T;rw[hE]at ah;have cn:(q==0)=false:=by rw[BG];exact ah
      clear hE hA Qs;by_cases bm:d<s.size
      . skip
        have t:=Y λ(V:E) (j:DV V R s (D:Int) q N)=>F0 R s D q N 45 V j an hs;rw[show(decide ((q:Int)=0)&&Yd (Jf s) (DO (Jf s) D) 45)=false from by simp[ah],Qn.o]at t;have x:=Y λ(V:E) (j:DV V R s (d:Int) q N)=>Y7 R s d q N 43 V j Qg hs false (by simp[ah]);rw[K.o]at x;have P:=Y λ(V:E) (j:DV V R s (d:Int) q N)=>Y7 R s d q N 45 V j Qg hs false (by simp[ah]);rw[K.o]at P;have H8:=Y λ(V:E) (j:DV V R s (d:Int) q N)=>F0 R s d q N 32 V j Qg hs;rw[K.o]at H8;have Ug:=Y λ(V:E) (j:DV V R s (d:Int) q N)=>K8 R s (d:Int) q N 2 (d:Int) V j;have ce:(d:Int)<(s.size:Int):=O
        go_wp2_with(first
         |(go_at_call 65;refine(t.o _ T.o).mono ?_;clear t;rintro e w3 ⟨rfl,X,y⟩;have Qe:=Y (Qh.o.rd T.o y);have W:=Y X;have Qq:=Y (below_grown Qu.o y (by rw[o.o];exact Aa _));clear X y)
         |(go_at_call 61;refine(x.o _ W.o).mono ?_;clear x;rintro e w4 ⟨rfl,ad,z⟩;have Qf:=Y (Qe.o.rd W.o z);have U:=Y ad;have Qt:=Y (below_grown Qq.o z (by rw[o.o];exact Aa _));clear ad z)
         |(go_at_call 61;refine(P.o _ U.o).mono ?_;clear P;rintro e w5 ⟨rfl,ai,Q⟩;have Qj:=Y (Qf.o.rd U.o Q);have Qi:=Y ai;have Qv:=Y (below_grown Qt.o Q (by rw[o.o];exact Aa _));clear ai Q)
         |(go_at_call 65;refine(H8.o _ Qi.o).mono ?_;clear H8;rintro e w6 ⟨rfl,A,ae⟩;have Ql:=Y (Qj.o.rd Qi.o ae);have Qp:=Y A;have Ud:=A.c1;have Uh:=A.c2;have Ue:=A.c3;have Qx:=Y (below_grown Qv.o ae (by rw[o.o];exact Aa _));clear A ae)
         |(go_at_call 66;refine(Ug.o _ Qp.o).mono ?_;clear Ug;rintro e w7 ⟨rfl,aq,az⟩;clear Ud Uh Ue;have Us:=aq.c2;have Uu:=aq.c3;rw[BH ah]at Us;rw[BH ah]at Uu;have Uk:=Y (below_grown Qx.o az (by rw[o.o];exact Aa _));clear aq az))
        go_quiet (fail)
        go_wp2_with fail
        exact BA (v:=.tuple #[B none 0 0,G H q,G H N]) (by simp[results,results29,go_sem]) J ⟨_,_,_,J,by rw[Uj.o.1,Uj.o.2];exact GC.bad Qm.o,below_drewN Uk.o _⟩
      . skip
        have t:=Y λ(V:E) (j:DV V R s (D:Int) q N)=>F0 R s D q N 45 V j an hs;rw[show(decide ((q:Int)=0)&&Yd (Jf s) (DO (Jf s) D) 45)=false from by simp[ah],Qn.o]at t;have x:=Y λ(V:E) (j:DV V R s (d:Int) q N)=>Y7 R s d q N 43 V j Qg hs false (by simp[ah]);rw[K.o]at x;have P:=Y λ(V:E) (j:DV V R s (d:Int) q N)=>Y7 R s d q N 45 V j Qg hs false (by simp[ah]);rw[K.o]at P;have H8:=Y λ(V:E) (j:DV V R s (d:Int) q N)=>F0 R s d q N 32 V j Qg hs;rw[K.o]at H8;have Uy:decide (d<s.size)=false:=BE bm;go_wp2_with(first
         |(go_at_call 65;refine(t.o _ T.o).mono ?_;clear t;rintro e w3 ⟨rfl,X,y⟩;have Qe:=Y (Qh.o.rd T.o y);have W:=Y X;have Qq:=Y (below_grown Qu.o y (by rw[o.o];exact Aa _));clear X y)
         |(go_at_call 61;refine(x.o _ W.o).mono ?_;clear x;rintro e w4 ⟨rfl,ad,z⟩;have Qf:=Y (Qe.o.rd W.o z);have U:=Y ad;have Qt:=Y (below_grown Qq.o z (by rw[o.o];exact Aa _));clear ad z)
         |(go_at_call 61;refine(P.o _ U.o).mono ?_;clear P;rintro e w5 ⟨rfl,ai,Q⟩;have Qj:=Y (Qf.o.rd U.o Q);have Qi:=Y ai;have Qv:=Y (below_grown Qt.o Q (by rw[o.o];exact Aa _));clear ai Q)
         |(go_at_call 65;refine(H8.o _ Qi.o).mono ?_;clear H8;rintro e w6 ⟨rfl,A,ae⟩;have Ql:=Y (Qj.o.rd Qi.o ae);have Qp:=Y A;have Ud:=A.c1;have Uh:=A.c2;have Ue:=A.c3;have Qx:=Y (below_grown Qv.o ae (by rw[o.o];exact Aa _));clear A ae))
        go_quiet (fail)
        go_wp2_with fail
        exact BA (v:=.tuple #[B none 0 0,G H q,G H N]) (by simp[results,results29,go_sem]) J ⟨_,_,_,J,by rw[Uj.o.1,Uj.o.2];exact GC.bad Qm.o,below_drewN Qx.o _⟩
def Db(W:E)(R:Nat)(s:ByteArray)(I:Int):Prop:=W.heap[R]?=some (.cells #[C s,.int H I] 130 (0,0))
section
variable {W W':World} {R:Nat} {s:ByteArray} {I:Int}
def Db.lt(h:Db W R s I):R<W.heap.size:=(Ab.1 h).1
def Db.c0(h:Db W R s I):W.cell? ⟨R,0,none⟩=some (C s):=by simp[World.cell?,show W.heap[R]?=_ from h]
def Db.c1(h:Db W R s I):W.cell? ⟨R,1,none⟩=some (G H I):=by simp[World.cell?,show W.heap[R]?=_ from h]
def Db.cp(h:Db W R s I):type_of% (And.intro h.c0 h.c1):=⟨h.c0,h.c1⟩
def Db.f(h:Db W R s I)(o:Nat):W.frozen? ⟨R,o,none⟩=false:=by simp[World.frozen?,show W.heap[R]?=_ from h]
def Db.below(h:Db W R s I)(a:Bl W W'):Db W' R s I:=(a.block R h.lt).trans h
def Db.set1(h:Db W R s I)(x:Int):Db (W.setCell ⟨R,1,none⟩ (G H x)) R s x:=by
 have:=J1 (o:=1) h (G H x);exact this
def Db.drewN(h:Db W R s I)(n:Nat):Db (W.drewN n) R s I:=h
theorem IB(h:Db W R s I){cs:Array M}{t:TypeId}{m:Nat × Nat}{b:Nat}(a:W.heap[b]?=some (.cells cs t m))(c:t≠130):b≠R:=by
 intro e;subst e;have:=a.symm.trans h;grind
theorem Og(h:Db W R s I)(hg:W.grownBy W' (some R)):∀k v ds,Row k W v ds->Row k W' v ds:=by
 intro k v ds c;obtain⟨a,cap,e,_⟩:=id c;subst e;refine c.grown hg λp f hl=>?_;obtain⟨b,i,d,cs,m,g⟩:=c.typ hl;grind[IB]
end
def Iq{W:E}{R:Nat}{s:ByteArray}{I:Nat}(h:Db W R s I):E9 W R=I:=by
 unfold E9;rw[h.c1];simp[intOf]
def Se(c:UInt8)(w:E):Calls Tryz.prog 171 #[G .u8 (c.toNat:Int)] w λr e=>r=.returned (F (DW c))/\e=w:=by
 by_cases b:48<=c.toNat
 . have g1:decide ((48:Int)<=(c.toNat:Int))=true:=BI O;by_cases d:c.toNat<=57
   . have a:=Y (show DW c=true by simp[DW,b,d]);go_enter func171,ntmps171
     go_wp2;go_ret;exact⟨by rw[a.o];simp;omega,J⟩
   . have a:=Y (show DW c=false by simp[DW,d]);go_enter func171,ntmps171
     go_wp2;go_ret;exact⟨by rw[a.o];simp;omega,J⟩
 . have a:=Y (show DW c=false by simp[DW,b]);go_enter func171,ntmps171
   go_wp2;go_ret;exact⟨by rw[a.o];rfl,J⟩
def Oh(R:Nat)(s:ByteArray)(I:Nat)(w:E)(h:Db w R s I)(x:I<=s.size)(hs:s.size<=300):
 Calls Tryz.prog 126 #[L (some ⟨R,0,none⟩)] w λr o=>r=.returned (F (decide (DO (Jf s) I=s.size)))/\Db o R s (DO (Jf s) I:Nat)/\w.grownBy o (some R):=by
 have p:=Y h;clear h;go_enter func126,ntmps126
 go_wp2;go_loopw [] (λwr=>∃j:Nat,I<=j/\j<=s.size/\Hid (Db wr R s j/\w.grownBy wr (some R)/\∀k (c:k<s.size),I<=k->k<j->s[k]=32)) λwr=>s.size-E9 wr R
 case atStart=>exact⟨I,Aa _,x,Y ⟨p.o,YK _ _,λk _ l m=>by omega⟩⟩
 case round=>
  obtain⟨j,l,m,a⟩:=hrel;obtain⟨c0,c1⟩:=a.o.1.cp;have f1:=a.o.1.f 1;by_cases z:j<s.size
  . have P:(j:Int)<(s.size:Int):=O
    have N:(0:Int)<=(j:Int):=O
    by_cases b:s[j]=32
    . have y:((s[j].toNat:Int)==32)=true:=by rw[b];rfl
      have v:=Y b;clear b;go_wp2_with fail
      go_quiet (fail)
      go_wp2;go_roundw
      case rel=>
       refine⟨j+1,O,O,Y ⟨?_,Jg (Jg a.o.2.1 (JC _ _ _)) (JE _ R 1 _),λk c g1 g2=>?_⟩⟩
       . have:=(a.o.1.drewN nq).set1 ((j:Int)+1);rw[show((j:Int)+1)=((j+1:Nat):Int)from by omega]at this;exact this
       . by_cases e:k=j
         . subst e;exact v.o
         . exact a.o.2.2 k c g1 O
      case measure=>
       have A:=Iq a.o.1;have D:E9 ((wr.drewN nq).setCell ⟨R,1,none⟩ (G H ((j:Int)+1))) R=j+1:=by
        have:=(a.o.1.drewN nq).set1 ((j:Int)+1);rw[show((j:Int)+1)=((j+1:Nat):Int)from by omega]at this ⊢;exact Iq this
       omega
    . have y:((s[j].toNat:Int)==32)=false:=MU (d:=32) b;have f:=Y (show DO (Jf s) I=j from MV l m (λk c g1 g2=>by rw[a.o.2.2 k c g1 g2];rfl) λ_=>BG.2 b);have q:¬j=s.size:=O
      have u:((j:Int)==(s.size:Int))=false:=DX
      clear b;go_wp2_with fail
      go_quiet (fail)
      go_wp2;have i:=Y (show w.grownBy (wr.drewN nq) (some R)from Jg a.o.2.1 (JC _ _ _));have g:=Y (a.o.1.drewN nq);go_quiet (fail)
      go_wp2;go_ret;exact⟨by rw[f.o];simp[q],by rw[f.o];exact g.o.drewN _,Jg i.o (JC _ _ _)⟩
  . have n:j=s.size:=O
    have K:=BE O;have f:=Y (show DO (Jf s) I=j from MV l m (λk c g1 g2=>by rw[a.o.2.2 k c g1 g2];rfl) λh=>by omega);have u:((j:Int)==(s.size:Int))=true:=DX
    have t:=Y n;clear z n;go_wp2_with fail
    go_quiet (fail)
    go_wp2;have i:=Y (show w.grownBy (wr.drewN nq) (some R)from Jg a.o.2.1 (JC _ _ _));have g:=Y (a.o.1.drewN nq);go_quiet (fail)
    go_wp2;go_ret;exact⟨by rw[f.o];simp[t.o],by rw[f.o];exact g.o.drewN _,Jg i.o (JC _ _ _)⟩
end
def GT(e p:Int):M:=.iface 97 (.agg #[.int H e,.int H p])
def LB(v:M)(e p:Int)(w:E):Calls Tryz.prog 127 #[v,G H e,G H p] w λr a=>r=.panicked [{ v:=GT e p,recovered:=false }]/\a=w:=by
 go_enter func127,ntmps127
 go_wp2;exact⟨J,J,J⟩
section
open M3
def Er(w V:E)(R:Nat)(s:ByteArray)(I:Int):Prop:=Db V R s I/\w.grownBy V (some R)
def Er.below{w V V':E}{R:Nat}{s:ByteArray}{I:Int}(h:Er w V R s I)(a:Bl V V'):Er w V' R s I:=⟨h.1.below a,Jg h.2 (J4 a _)⟩
variable{j:Nat}
theorem IC(R:Nat)(s:ByteArray)(I:Nat)(c:UInt8)(w:E)(h:Db w R s I)(y:I<=s.size)(hs:s.size<=300)(b:Bool)(i:b=Yd (Jf s) (DO (Jf s) I) c):
 Calls Tryz.prog 124 #[L (some ⟨R,0,none⟩),G .u8 (c.toNat:Int)] w λr u=>r=.returned (F b)/\Db u R s ((DO (Jf s) I+(if b then 1 else 0):Nat):Int)/\w.grownBy u (some R):=by
 have d:=Y λ(V:E) (z:Db V R s I)=>Oh R s I V z y hs;obtain⟨j,q⟩:=ex (DO (Jf s) I);have A:j<=s.size:=by grind[Ji,Ys]
 rw[q]at d i ⊢;have n:=Y h;clear h q;by_cases l:j=s.size
 . obtain rfl:b=false:=by rw[i];exact SV O
   rw[show decide (j=s.size)=true from BI l]at d;clear i l;go_enter func124,ntmps124
   go_wp2_with fail
   have m:Er w w.drew R s I:=⟨n.o,J,J,J,Aa _,λ_ _ _=>rfl⟩;refine Xa Di [[],[0],[1],[1,2],[1,2,3],[1,2,4],[1,2,5],[1,2],[1,2,7],[1,2,8],[1,2,9],[1,2,6,10],[1,2],[1,2,11,12],[1,2,13]] [.eq (L (some ⟨R,0,none⟩)),.eq (F true),.eq (F true),.any,.any,.any,.any,.any,.any,.any,.any,.any,.any,.any,.eq (F true)] [1] (λb _ V=>Er w V R s (if b.getD 0 false then(j:Int)else I)) m (No (.vl J λ_ _=>mv)<|No (.cw λh k=>c1 (h.e 0) ((d.o _ k.1).mono λ_ _ ⟨e,r,g⟩=>⟨_,e,J,L9,r,Jg k.2 g⟩))<|No (.vl J λh _=>mw (h.g 1))<|No (.no J λh=>YZ 2 false h)<|No (.no J λh=>YZ 2 false h)<|No (.no J λh=>YZ 2 false h)<|No (.no J λh=>YZ 2 false h)<|No (.no J λh=>YZ 2 false h)<|No (.no J λh=>YZ 2 false h)<|No (.no J λh=>YZ 2 false h)<|No (.no J λh=>YZ 2 false h)<|No (.no J λh=>YZ 2 false h)<|No (.no J λh=>YZ 2 false h)<|No (.no J λh=>YZ 2 false h)<|No (.vl J λh _=>⟨_,by refine DU ?_;rw[h.e 2];go_simp,J⟩) Stp.end_)
    λf V hF a=>?_
   refine DU ?_;have a:Er w V R s (j:Int):=a;rw[hF.e 0,hF.e 1,hF.e 2,hF.e 14];replace a:=Y a;clear hF;go_wp2_with fail
   go_ret;exact⟨J,a.o.1,a.o.2⟩
 . have v:j<s.size:=O
   have D:(j:Int)<(s.size:Int):=O
   rw[show decide (j=s.size)=false from BE l]at d;rw[SU v]at i;obtain⟨nb,t⟩:=ex (((s[j].toNat:Int) != (c.toNat:Int)));have o:=Y (show nb=!b by
    grind[MU])
   have x:=Y t;clear i l t;go_enter func124,ntmps124
   go_wp2_with fail
   have m:Er w w.drew R s I:=⟨n.o,J,J,J,Aa _,λ_ _ _=>rfl⟩;refine Xa Di [[],[0],[1],[1,2],[1,2,3],[1,2,4],[1,2,5],[1,2],[1,2,7],[1,2,8],[1,2,9],[1,2,6,10],[1,2],[1,2,11,12],[1,2,13]] [.eq (L (some ⟨R,0,none⟩)),.eq (F false),.eq (F false),.eq (L (some ⟨R,0,none⟩)),.eq (L (some ⟨R,0,none⟩)),.eq (L (some ⟨R,0,none⟩)),.eq (C s),.eq (L (some ⟨R,0,none⟩)),.eq (L (some ⟨R,0,none⟩)),.eq (L (some ⟨R,1,none⟩)),.eq (G H (j:Int)),.eq (G .u8 (s[j].toNat:Int)),.eq (G .u8 (c.toNat:Int)),.eq (F nb),.eq (F nb)] [1] (λb _ V=>Er w V R s (if b.getD 0 false then(j:Int)else I)) m (No (.vl J λ_ _=>mv)<|No (.cw λh k=>c1 (h.e 0) ((d.o _ k.1).mono λ_ _ ⟨e,r,g⟩=>⟨_,e,J,L9,r,Jg k.2 g⟩))<|No (.vl J λh _=>mw (h.g 1))<|No (.vl J (λ_ _=>mv) (hg:=λh=>YZ 2 false h))<|No (.vl J (λh _=>⟨_,by refine DU ?_;rw[h.e 3];go_simp,J⟩) (hg:=λh=>YZ 2 false h))<|No (.vl J (λh _=>⟨_,by refine DU ?_;rw[h.e 4];go_simp,J⟩) (hg:=λh=>YZ 2 false h))<|No (.vl J (λh k=>⟨_,by have p:=k.1.c0;refine DU ?_;rw[h.e 5];go_simp,J⟩) (hg:=λh=>YZ 2 false h))<|No (.vl J (λ_ _=>mv) (hg:=λh=>YZ 2 false h))<|No (.vl J (λh _=>⟨_,by refine DU ?_;rw[h.e 7];go_simp,J⟩) (hg:=λh=>YZ 2 false h))<|No (.vl J (λh _=>⟨_,by refine DU ?_;rw[h.e 8];go_simp,J⟩) (hg:=λh=>YZ 2 false h))<|No (.vl J (λh k=>⟨_,by have p:=Db.c1 (I:=(j:Int)) k.1;refine DU ?_;rw[h.e 9];go_simp,J⟩) (hg:=λh=>YZ 2 false h))<|No (.vl J (λh _=>⟨_,by refine DU ?_;rw[h.e 6,h.e 10];go_simp,J⟩) (hg:=λh=>YZ 2 false h))<|No (.vl J (λ_ _=>mv) (hg:=λh=>YZ 2 false h))<|No (.vl J (λh _=>⟨_,by have p:=x.o;refine DU ?_;rw[h.e 11,h.e 12];go_simp,J⟩) (hg:=λh=>YZ 2 false h))<|No (.vl J λh _=>⟨_,by refine DU ?_;rw[h.e 2,h.e 13];go_simp,J⟩) Stp.end_)
    λf V hF a=>?_
   refine DU ?_;have a:Er w V R s (j:Int):=a;rw[hF.e 0,hF.e 1,hF.e 2,hF.e 3,hF.e 4,hF.e 5,hF.e 6,hF.e 7,hF.e 8,hF.e 9,hF.e 10,hF.e 11,hF.e 12,hF.e 13,hF.e 14];replace a:=Y a;clear hF;have c1:=a.o.1.c1;have f1:=a.o.1.f 1;cases b with
   |true=>
    obtain rfl:nb=false:=o.o;go_wp2_with fail
    go_ret;exact⟨J,a.o.1.set1 _,Jg a.o.2 (JE _ R 1 _)⟩
   |false=>
    obtain rfl:nb=true:=o.o;go_wp2_with fail
    go_ret;exact⟨J,a.o.1,a.o.2⟩
def dO(c:UInt8)(w:E):Calls Tryz.prog 171 #[G .u8 (c.toNat:Int)] w λr a=>r=.returned (F (DW c))/\Bl w a:=by
 refine(Se c w).mono ?_;rintro e a ⟨rfl,rfl⟩;exact⟨J,BB _ _⟩
def Sf{s:ByteArray}(a:j<s.size):F5 (Jf s) j=DW s[j]:=by
 unfold F5;rw[Aq (by rw[Ji];exact a)];rfl
theorem Sg{s:ByteArray}(a:s.size<=j):F5 (Jf s) j=false:=by
 grind[F5,Ji]
theorem Sh(R:Nat)(s:ByteArray)(I:Nat)(w:E)(h:Db w R s I)(u:I<=s.size)(hs:s.size<=300):
 Calls Tryz.prog 149 #[L (some ⟨R,0,none⟩)] w λr p=>r=.returned (F (F5 (Jf s) (DO (Jf s) I)))/\Db p R s (DO (Jf s) I:Nat)/\w.grownBy p (some R):=by
 have c:=Y λ(V:E) (v:Db V R s I)=>Oh R s I V v u hs;obtain⟨j,o⟩:=ex (DO (Jf s) I);have x:j<=s.size:=by grind[Ji,Ys]
 rw[o]at c ⊢;have l:=Y h;clear h o;by_cases d:j=s.size
 . rw[Sg (by omega:s.size<=j)];rw[show decide (j=s.size)=true from BI d]at c;clear d;go_enter func149,ntmps149
   go_wp2_with fail
   have i:Er w w.drew R s I:=⟨l.o,J,J,J,Aa _,λ_ _ _=>rfl⟩;refine Xa Di [[],[0],[1],[1,2],[1,3],[1,3,4],[1,3,5],[1,3,6],[1,3],[1,3,8],[1,3,9],[1,3,10],[1,3,7,11],[1,3,12],[1,3,13],[1,14]] [.eq (L (some ⟨R,0,none⟩)),.eq (F true),.eq (F false),.eq (F false),.any,.any,.any,.any,.any,.any,.any,.any,.any,.any,.eq (F false),.eq (F false)] [1] (λb _ V=>Er w V R s (if b.getD 0 false then(j:Int)else I)) i (No (.vl J λ_ _=>mv)<|No (.cw λh k=>c1 (h.e 0) ((c.o _ k.1).mono λ_ _ ⟨e,r,g⟩=>⟨_,e,J,L9,r,Jg k.2 g⟩))<|No (.vl J λh _=>⟨_,by refine DU ?_;rw[h.e 1];go_simp,J⟩)<|No (.vl J λh _=>mw (h.g 2))<|No (.no J λh=>YZ 3 true h)<|No (.no J λh=>YZ 3 true h)<|No (.no J λh=>YZ 3 true h)<|No (.no J λh=>YZ 3 true h)<|No (.no J λh=>YZ 3 true h)<|No (.no J λh=>YZ 3 true h)<|No (.no J λh=>YZ 3 true h)<|No (.no J λh=>YZ 3 true h)<|No (.no J λh=>YZ 3 true h)<|No (.no J λh=>YZ 3 true h)<|No (.vl J λh _=>⟨_,by refine DU ?_;rw[h.e 3];go_simp,J⟩)<|No (.vl J λh _=>aw (h.g 14)) Stp.end_)
    λf V hF a=>?_
   refine DU ?_;have a:Er w V R s (j:Int):=a;rw[hF.e 0,hF.e 1,hF.e 2,hF.e 3,hF.e 14,hF.e 15];replace a:=Y a;clear hF;go_wp2_with fail
   go_ret;exact⟨J,a.o.1,a.o.2⟩
 . have q:j<s.size:=O
   have y:(j:Int)<(s.size:Int):=O
   rw[show decide (j=s.size)=false from BE d]at c;rw[Sf q];have m:=Y λ(V:E)=>dO s[j] V;obtain⟨dg,n⟩:=ex (DW s[j]);rw[n]at m ⊢;clear d n;go_enter func149,ntmps149
   go_wp2_with fail
   have i:Er w w.drew R s I:=⟨l.o,J,J,J,Aa _,λ_ _ _=>rfl⟩;refine Xa Di [[],[0],[1],[1,2],[1,3],[1,3,4],[1,3,5],[1,3,6],[1,3],[1,3,8],[1,3,9],[1,3,10],[1,3,7,11],[1,3,12],[1,3,13],[1,14]] [.eq (L (some ⟨R,0,none⟩)),.eq (F false),.eq (F true),.eq (F true),.eq (L (some ⟨R,0,none⟩)),.eq (L (some ⟨R,0,none⟩)),.eq (L (some ⟨R,0,none⟩)),.eq (C s),.eq (L (some ⟨R,0,none⟩)),.eq (L (some ⟨R,0,none⟩)),.eq (L (some ⟨R,1,none⟩)),.eq (G H (j:Int)),.eq (G .u8 (s[j].toNat:Int)),.eq (F dg),.eq (F dg),.eq (F dg)] [1] (λb _ V=>Er w V R s (if b.getD 0 false then(j:Int)else I)) i (No (.vl J λ_ _=>mv)<|No (.cw λh k=>c1 (h.e 0) ((c.o _ k.1).mono λ_ _ ⟨e,r,g⟩=>⟨_,e,J,L9,r,Jg k.2 g⟩))<|No (.vl J λh _=>⟨_,by refine DU ?_;rw[h.e 1];go_simp,J⟩)<|No (.vl J λh _=>mw (h.g 2))<|No (.vl J (λ_ _=>mv) (hg:=λh=>YZ 3 true h))<|No (.vl J (λh _=>⟨_,by refine DU ?_;rw[h.e 4];go_simp,J⟩) (hg:=λh=>YZ 3 true h))<|No (.vl J (λh _=>⟨_,by refine DU ?_;rw[h.e 5];go_simp,J⟩) (hg:=λh=>YZ 3 true h))<|No (.vl J (λh k=>⟨_,by have t:=k.1.c0;refine DU ?_;rw[h.e 6];go_simp,J⟩) (hg:=λh=>YZ 3 true h))<|No (.vl J (λ_ _=>mv) (hg:=λh=>YZ 3 true h))<|No (.vl J (λh _=>⟨_,by refine DU ?_;rw[h.e 8];go_simp,J⟩) (hg:=λh=>YZ 3 true h))<|No (.vl J (λh _=>⟨_,by refine DU ?_;rw[h.e 9];go_simp,J⟩) (hg:=λh=>YZ 3 true h))<|No (.vl J (λh k=>⟨_,by have t:=Db.c1 (I:=(j:Int)) k.1;refine DU ?_;rw[h.e 10];go_simp,J⟩) (hg:=λh=>YZ 3 true h))<|No (.vl J (λh _=>⟨_,by refine DU ?_;rw[h.e 7,h.e 11];go_simp,J⟩) (hg:=λh=>YZ 3 true h))<|No (.cl (λh _=>c1 (h.e 12) (rv (m.o _))) (hg:=λh=>YZ 3 true h))<|No (.vl J λh _=>⟨_,by refine DU ?_;rw[h.e 3,h.e 13];go_simp,J⟩)<|No (.vl J λh _=>aw (h.g 14)) Stp.end_)
    λf V hF a=>?_
   refine DU ?_;have a:Er w V R s (j:Int):=a;rw[hF.e 0,hF.e 1,hF.e 2,hF.e 3,hF.e 4,hF.e 5,hF.e 6,hF.e 7,hF.e 8,hF.e 9,hF.e 10,hF.e 11,hF.e 12,hF.e 13,hF.e 14,hF.e 15];replace a:=Y a;clear hF;go_wp2_with fail
   go_ret;exact⟨J,a.o.1,a.o.2⟩
end
def Dh(ds:List UInt8):List UInt8:=if Lib.trimLeftB ds 48=[]then [48]else Lib.trimLeftB ds 48
def dP(w:E)(R:Nat)(s:ByteArray)(I:Nat)(r:Ending)(a:E):Prop:=
 w.grownBy a (some R)/\(∀e q,J2 (Jf s) I=.error e q->r=.panicked [{ v:=GT e q,recovered:=false }])/\(∀ds q k,J2 (Jf s) I=.ok (ds,q) k->r=.returned (.tuple #[C ⟨(Dh ds).toArray⟩,.int H (q:Int)])/\Db a R s (k:Int))
variable{ds:List UInt8}{k:Nat}
theorem Si(s:ByteArray)(p d:Nat):(s.extract p (p+d)).data.toList=((Jf s).drop p).take d:=by
 grind[Jf,ByteArray.data_extract,Array.toList_extract]
theorem Oi(R:Nat)(s:ByteArray)(I:Nat)(w:E)(h:Db w R s I)(hI:I<=s.size)(hs:s.size<=300):
 Calls Tryz.prog 172 #[L (some ⟨R,0,none⟩)] w λr w'=>dP w R s I r w':=by
 obtain⟨p,hp⟩:=ex (DO (Jf s) I);have z:=Y (Sh R s I w h hI hs);rw[hp]at z;have Qv:p<=s.size:=by grind[Ji,Ys]
 have HP:=Y hp;have T:=Y λ(e q:Int) (V:E)=>LB (L (some ⟨R,0,none⟩)) e q V;clear h hI hp;cases U:F5 (Jf s) p with
 |false=>
  have m:=Y (show J2 (Jf s) I=.error 2 p by unfold J2;rw[HP.o,BL (Sa U)]);rw[U]at z;clear U;go_enter func172,ntmps172
  go_wp2_with first
   |(go_at_call 149;refine z.o.mono ?_;clear z;rintro e w1 ⟨rfl,W,ad⟩;have c1:=W.c1;have Qn:=Y ad;clear W ad)
   |(go_at_call 127;refine(T.o _ _ _).mono ?_;clear T;rintro e X ⟨rfl,rfl⟩)
  refine⟨J,Qn.o,λe q a=>?_,λds q k a=>?_⟩
  . rw[m.o]at a;cases a;rfl
  . rw[m.o]at a;cases a
 |true=>
  rw[U]at z;have Qi:=Y U;clear U;go_enter func172,ntmps172
  go_upto_region 4 with first
   |(go_at_call 149;refine z.o.mono ?_;clear z;rintro e w1 ⟨rfl,W,ad⟩;have Qu:=Y W;have c1:=W.c1;have Qn:=Y ad;clear W ad)
  go_loopw [] (λwr=>∃d:Nat,p+d<=s.size/\Hid (Db wr R s ((p+d:Nat):Int)/\w.grownBy wr (some R)/\∃n,YL (Jf s) p d n)) λwr=>s.size-E9 wr R
  case atStart=>exact⟨0,O,Y ⟨Qu.o,Qn.o,0,YL.zero (by rw[Ji];exact Qv)⟩⟩
  case round=>
   clear c1;obtain⟨d,ak,g⟩:=hrel;obtain⟨j,hj⟩:∃j,j=p+d:=⟨_,J⟩;have c:=Y hj;rw[<-hj]at ak g;clear hj;obtain⟨c0,c1⟩:=g.o.1.cp;have f1:=g.o.1.f 1;by_cases ap:j<s.size
   . have aq:(j:Int)<(s.size:Int):=O
     have an:(0:Int)<=(j:Int):=O
     have HX:=Y (Se s[j]);by_cases y:DW s[j]=true
     . rw[y]at HX;have Qq:=Y y;clear y;go_wp2_with fail
       go_quiet ((go_at_call 171;exact Calls.quiet_of_same (HX.o _)))
       have Qr:=Y (Iq g.o.1);go_wp2_with fail
       go_roundw
       case rel=>
        refine⟨d+1,?_,Y ⟨?_,?_,?_⟩⟩
        . have:=c.o;omega
        . have:=(g.o.1.drewN nq).set1 ((j:Int)+1);rw[show((j:Int)+1)=((p+(d+1):Nat):Int)from by have:=c.o;omega]at this ⊢;exact this
        . exact Jg (Jg g.o.2.1 (JC _ _ _)) (JE _ R 1 _)
        . obtain⟨n,hn⟩:=g.o.2.2;by_cases ai:d<12
          . exact⟨_,hn.next1 (by rw[Ji];have:=c.o;omega) (by simp only[<-c.o];exact Qq.o) ai⟩
          . exact⟨_,hn.next2 (by rw[Ji];have:=c.o;omega) (by simp only[<-c.o];exact Qq.o) O⟩
       case measure=>
        have e2:=Iq ((g.o.1.drewN nq).set1 ((j+1:Nat):Int));rw[show((j+1:Nat):Int)=(j:Int)+1 from by omega]at e2;rw[e2,Qr.o];omega
     . have y:=Bool.eq_false_iff.2 y;rw[y]at HX;have K:=Y (show EB (Jf s) p=j by rw[c.o];exact g.o.2.2.choose_spec.dg λhl=>by simp only[<-c.o];exact y);clear y;go_wp2_with fail
       go_quiet ((go_at_call 171;exact Calls.quiet_of_same (HX.o _)))
       obtain⟨Qh,HG,Qw⟩:=Dc (g.o.1.drewN nq) (show w.grownBy (wr.drewN nq) (some R)from Jg g.o.2.1 (JC _ _ _)) g.o.2.2;have Qx:d≠0:=λe=>by
        have b:=K.o;have h6:=c.o;rw[e,Cb]at h6;have P:=Qi.o;have h8:=NN (f:=DW) (l:=Jf s) (i:=p);rw[show Xy DW (Jf s) p=j from b]at h8;rw[<-h6]at P;by_cases h9:j<s.size
        . have:=h8 (by rw[Ji];exact h9);rw[Sf h9]at P;exact absurd (this.symm.trans P) DN
        omega
       have Qt:(p:Int)<=(j:Int):=by have:=c.o;omega
       have Qp:p<=j:=by have:=c.o;omega
       obtain⟨o,Q⟩:=ex (s.extract p j);have Qs:o.size=d:=by rw[<-Q,Cn];have:=c.o;omega
       have Ql:=Y Q;obtain⟨ae,ah⟩:=Qh.o.cp;go_wp2_with fail
       go_quiet (fail)
       have A:=Y (show ∀N,w.grownBy (wr.drewN N) (some R)from λN=>Jg g.o.2.1 (JC _ _ _));have Qg:=Y (show ∀N,Db (wr.drewN N) R s (j:Int)from λN=>g.o.1.drewN N);clear Q ae ah c0 c1;have Qj:¬j=p:=by have:=c.o;omega
       have Qm:=Y (show o.data.toList=((Jf s).drop p).take (j-p)by rw[<-Ql.o,c.o,Si,show p+d-p=d from by omega]);by_cases ai:12<d
       . have aj:(12:Int)<(d:Int):=O
         have m:=Y (show J2 (Jf s) I=.error 3 p by unfold J2;rw[HP.o,K.o,BH Qj,BL (by have:=c.o;omega)]);go_wp2_with(go_at_call 127;refine(T.o _ _ _).mono ?_;clear T;rintro e X ⟨rfl,rfl⟩)
         refine⟨J,A.o _,λe q a=>?_,λds q k a=>?_⟩
         . rw[m.o]at a;cases a;rfl
         . rw[m.o]at a;cases a
       . have aj:¬(12:Int)<(d:Int):=O
         have m:=Y (show J2 (Jf s) I=.ok (o.data.toList,p) j by unfold J2;rw[HP.o,K.o,BH Qj,BH (by have:=c.o;omega),Qm.o]);have u:=Y λ(V:E)=>Tryz.strings_TrimLeft_one o 48 DN V;obtain⟨x,t⟩:∃S:ByteArray,⟨(Lib.trimLeftB o.data.toList 48).toArray⟩=S:=⟨_,J⟩;rw[t]at u;have Qo:=Y t;by_cases a:Lib.trimLeftB o.data.toList 48=[]
         . have Qk:x=⟨#[]⟩:=by rw[<-t,a]
           have D:=Y (show Dh o.data.toList=[48]by unfold Dh;rw[BL a]);clear t a Qo;subst Qk;go_wp2_with(go_at_call 188;refine(u.o _).mono ?_;clear u;rintro e X ⟨rfl,rfl⟩)
           refine BA (v:=.tuple #[C ⟨#[48]⟩,G H (p:Int)]) (by simp[results,results172,go_sem]) J ⟨A.o _,λe q b=>?_,λds q k b=>?_⟩
           . rw[m.o]at b;cases b
           . rw[m.o]at b;cases b;exact⟨by rw[D.o],Qg.o _⟩
         . have Qk:x.toList.isEmpty=false:=by
            rw[<-t,XS];simpa using a
           have D:=Y (show(⟨(Dh o.data.toList).toArray⟩:ByteArray)=x by unfold Dh;rw[BH a];exact t);clear t a;go_wp2_with(go_at_call 188;refine(u.o _).mono ?_;clear u;rintro e X ⟨rfl,rfl⟩)
           refine BA (v:=.tuple #[C x,G H (p:Int)]) (by simp[results,results172,go_sem]) J ⟨A.o _,λe q b=>?_,λds q k b=>?_⟩
           . rw[m.o]at b;cases b
           . rw[m.o]at b;cases b;exact⟨by rw[D.o],Qg.o _⟩
   . have K:=Y (show EB (Jf s) p=j by rw[c.o];exact g.o.2.2.choose_spec.dg λhl=>absurd hl (by rw[Ji];have:=c.o;omega));have am:=BE O;go_wp2_with fail
     go_quiet (fail)
     obtain⟨Qh,HG,Qw⟩:=Dc (g.o.1.drewN nq) (show w.grownBy (wr.drewN nq) (some R)from Jg g.o.2.1 (JC _ _ _)) g.o.2.2;have Qx:d≠0:=λe=>by
      have b:=K.o;have h6:=c.o;rw[e,Cb]at h6;have P:=Qi.o;have h8:=NN (f:=DW) (l:=Jf s) (i:=p);rw[show Xy DW (Jf s) p=j from b]at h8;rw[<-h6]at P;by_cases h9:j<s.size
      . omega
      . rw[Sg O]at P;cases P
     have Qt:(p:Int)<=(j:Int):=by have:=c.o;omega
     have Qp:p<=j:=by have:=c.o;omega
     obtain⟨o,Q⟩:=ex (s.extract p j);have Qs:o.size=d:=by rw[<-Q,Cn];have:=c.o;omega
     have Ql:=Y Q;obtain⟨ae,ah⟩:=Qh.o.cp;go_wp2_with fail
     go_quiet (fail)
     have A:=Y (show ∀N,w.grownBy (wr.drewN N) (some R)from λN=>Jg g.o.2.1 (JC _ _ _));have Qg:=Y (show ∀N,Db (wr.drewN N) R s (j:Int)from λN=>g.o.1.drewN N);clear Q ae ah c0 c1;have Qj:¬j=p:=by have:=c.o;omega
     have Qm:=Y (show o.data.toList=((Jf s).drop p).take (j-p)by rw[<-Ql.o,c.o,Si,show p+d-p=d from by omega]);by_cases ai:12<d
     . have aj:(12:Int)<(d:Int):=O
       have m:=Y (show J2 (Jf s) I=.error 3 p by unfold J2;rw[HP.o,K.o,BH Qj,BL (by have:=c.o;omega)]);go_wp2_with(go_at_call 127;refine(T.o _ _ _).mono ?_;clear T;rintro e X ⟨rfl,rfl⟩)
       refine⟨J,A.o _,λe q a=>?_,λds q k a=>?_⟩
       . rw[m.o]at a;cases a;rfl
       . rw[m.o]at a;cases a
     . have aj:¬(12:Int)<(d:Int):=O
       have m:=Y (show J2 (Jf s) I=.ok (o.data.toList,p) j by unfold J2;rw[HP.o,K.o,BH Qj,BH (by have:=c.o;omega),Qm.o]);have u:=Y λ(V:E)=>Tryz.strings_TrimLeft_one o 48 DN V;obtain⟨x,t⟩:∃S:ByteArray,⟨(Lib.trimLeftB o.data.toList 48).toArray⟩=S:=⟨_,J⟩;rw[t]at u;have Qo:=Y t;by_cases a:Lib.trimLeftB o.data.toList 48=[]
       . have Qk:x=⟨#[]⟩:=by rw[<-t,a]
         have D:=Y (show Dh o.data.toList=[48]by unfold Dh;rw[BL a]);clear t a Qo;subst Qk;go_wp2_with(go_at_call 188;refine(u.o _).mono ?_;clear u;rintro e X ⟨rfl,rfl⟩)
         refine BA (v:=.tuple #[C ⟨#[48]⟩,G H (p:Int)]) (by simp[results,results172,go_sem]) J ⟨A.o _,λe q b=>?_,λds q k b=>?_⟩
         . rw[m.o]at b;cases b
         . rw[m.o]at b;cases b;exact⟨by rw[D.o],Qg.o _⟩
       . have Qk:x.toList.isEmpty=false:=by
          rw[<-t,XS];simpa using a
         have D:=Y (show(⟨(Dh o.data.toList).toArray⟩:ByteArray)=x by unfold Dh;rw[BH a];exact t);clear t a;go_wp2_with(go_at_call 188;refine(u.o _).mono ?_;clear u;rintro e X ⟨rfl,rfl⟩)
         refine BA (v:=.tuple #[C x,G H (p:Int)]) (by simp[results,results172,go_sem]) J ⟨A.o _,λe q b=>?_,λds q k b=>?_⟩
         . rw[m.o]at b;cases b
         . rw[m.o]at b;cases b;exact⟨by rw[D.o],Qg.o _⟩
theorem Sj(c:UInt8)(t:List UInt8):num (c::t)=num t+10^t.length*(c.toNat-48):=by
 have h:=I1 [c] t;grind[num,Dq,val]
theorem dQ(ds:List UInt8):num (ds.dropWhile (·==48))=num ds:=by
 induction ds with
 |nil=>rfl
 |cons c t a=>
  by_cases h:c=48
  . subst h;grind[List.dropWhile_cons_of_pos,Sj]
  . rw[List.dropWhile_cons_of_neg (by simpa using h)]
theorem dR(h:ds.all DW=true):(ds.dropWhile (·==48)).all DW=true:=by
 grind[List.dropWhile_sublist]
theorem Hf(h:ds.all DW=true):num (Dh ds)=num ds/\(Dh ds).all DW=true/\Dh ds≠[]/\(1<(Dh ds).length->10<=num ds)/\(Dh ds).length<=ds.length+1:=by
 unfold Dh Lib.trimLeftB;have a:=dQ ds;have d:=dR h;have i:=(List.dropWhile_sublist (l:=ds) (·==48)).length_le;split
 . rename_i b;rw[b]at a;refine⟨?_,DN,DK,DK,DK⟩;rw[<-a];decide
 . rename_i b;refine⟨a,d,b,λhl=>?_,O⟩;cases f:ds.dropWhile (·==48)with
   |nil=>exact absurd f b
   |cons c t=>
    rw[f]at a d hl;have g:c≠48:=by
     grind[List.head?_dropWhile_not]
    have m:=YV (AG.1 d c (CI ..));have n:c.toNat≠48:=λe=>g (Fo.1 e);rw[<-a,Sj];have j:10^1<=10^t.length:=Ag O (by simp at hl;omega);have k:10^t.length*1<=10^t.length*(c.toNat-48):=Ai _ O;omega
def Oj(w:E)(R:Nat)(s:ByteArray)(I:Nat)(r:Ending)(a:E):Prop:=
 w.grownBy a (some R)/\(∀e q,EO (Jf s) I=.error e q->r=.panicked [{ v:=GT e q,recovered:=false }])/\(∀n k,EO (Jf s) I=.ok n k->r=.returned (.int H (n:Int))/\Db a R s (k:Int))
theorem Sk(R:Nat)(s:ByteArray)(I:Nat)(w:E)(h:Db w R s I)(hI:I<=s.size)(hs:s.size<=300):
 Calls Tryz.prog 151 #[L (some ⟨R,0,none⟩)] w λr w'=>Oj w R s I r w':=by
 obtain⟨b,A⟩:∃b,b=Yd (Jf s) (DO (Jf s) I) 94:=⟨_,J⟩;have f:=Y (IC R s I 94 w h hI hs b A);obtain⟨j,hj⟩:=ex (DO (Jf s) I);rw[hj]at f A;have K:=Y λ(e q:Int) (V:E)=>LB (L (some ⟨R,0,none⟩)) e q V;have HJ:=Y hj;clear h hj;cases b with
 |false=>
  have HN:=Y (show EO (Jf s) I=.ok 1 j by unfold EO;rw[HJ.o,<-A];simp);clear A;go_enter func151,ntmps151
  go_wp2_with(go_at_call 124;refine f.o.mono ?_;clear f;rintro e T ⟨rfl,d,c⟩;have m:=Y d;have o:=Y c;clear d c)
  go_ret;refine⟨o.o,λe q a=>?_,λn k a=>?_⟩
  . rw[HN.o]at a;cases a
  . rw[HN.o]at a;cases a;exact⟨J,m.o⟩
 |true=>
  have Qm:j+1<=s.size:=by have:=Ye A.symm;rw[Ji]at this;omega
  have v:=Y λ(V:E) (hh:Db V R s ((j+1:Nat):Int))=>Oi R s (j+1) V hh Qm hs;have l:=Y (show EO (Jf s) I=(match J2 (Jf s) (j+1)with|.error e p=>.error e p|.ok (ds,p) k=>if 8<num ds then .error 3 p else .ok (num ds) k)by
   unfold EO;rw[HJ.o,BL A.symm];grind)
  clear A;cases D:J2 (Jf s) (j+1)with
  |error e0 q0=>
   rw[D]at l;have z:=Y D;clear D;go_enter func151,ntmps151
   go_wp2_with(first
    |(go_at_call 124;refine f.o.mono ?_;clear f;rintro e T ⟨rfl,d,c⟩;have m:=Y d;have o:=Y c;clear d c)
    |(go_at_call 172;refine(v.o _ m.o).mono ?_;clear v;rintro e w2 ⟨i,g,_⟩;obtain rfl:=g _ _ z.o;have y:=Y (Jg o.o i);clear i g))
   refine⟨J,y.o,λe q a=>?_,λn k a=>?_⟩
   . rw[l.o]at a;cases a;rfl
   . rw[l.o]at a;cases a
  |ok a0 k0=>
   obtain⟨ds,p0⟩:=a0;rw[D]at l;have z:=Y D;obtain⟨g1,g2,W,g4,X⟩:=Hf (Gn (by rw[Ji];omega) D).2.2.2.2.2.2.2.2;clear D;cases N:Dh ds with
   |nil=>exact absurd N W
   |cons c0 t0=>
    rw[N]at g1 g2 g4 X;have ae:=YV (AG.1 g2 c0 (CI ..));have Qj:=(Gn (by rw[Ji];omega) z.o).2.2.2.2.2.2.2.1;have Qe:=(Gn (by rw[Ji];omega) z.o).2.2.2.2.2.1;cases t0 with
    |cons c1 t1=>
     have h8:8<num ds:=by have:=g4 DK;omega
     obtain⟨t,u⟩:∃S:ByteArray,⟨(c0::c1::t1).toArray⟩=S:=⟨_,J⟩;have Q:=Y (show(⟨(Dh ds).toArray⟩:ByteArray)=t by rw[N];exact u);have Qn:1<t.size:=by rw[<-u];show 1<(c0::c1::t1).toArray.size;simp
     have ak:t.size<=13:=by rw[<-u];show(c0::c1::t1).toArray.size<=13;grind
     have aj:(1:Int)<(t.size:Int):=O
     have Ql:=Y h8;clear u N g1 g2 W g4 X h8 Qj Qe;go_enter func151,ntmps151
     go_wp2_with(first
      |(go_at_call 124;refine f.o.mono ?_;clear f;rintro e T ⟨rfl,d,c⟩;have m:=Y d;have o:=Y c;clear d c)
      |(go_at_call 172;refine(v.o _ m.o).mono ?_;clear v;rintro e w2 ⟨i,_,g⟩;obtain⟨rfl,x⟩:=g _ _ _ z.o;rw[Q.o];have U:=Y x;have y:=Y (Jg o.o i);clear i g x)
      |(go_at_call 127;refine(K.o _ _ _).mono ?_;clear K;rintro e w3 ⟨rfl,rfl⟩))
     refine⟨J,y.o,λe q a=>?_,λn k a=>?_⟩
     . rw[l.o,BL Ql.o]at a;cases a;rfl
     . rw[l.o,BL Ql.o]at a;cases a
    |nil=>
     have Qi:num ds=c0.toNat-48:=by rw[<-g1];simp[num,Dq,val]
     obtain⟨t,u⟩:=ex ((⟨#[c0]⟩:ByteArray):ByteArray);have Q:=Y (show(⟨(Dh ds).toArray⟩:ByteArray)=t by rw[N];exact u);have Qn:t.size=1:=by rw[<-u];rfl
     have ah:∀h:0<t.size,t[0]'h=c0:=by subst u;intro _;rfl
     have ai:((c0.toNat:Int)-48)%256=(c0.toNat:Int)-48:=O
     clear u;have P:=Y Qi;clear N g1 g2 W g4 X Qj Qe Qi;by_cases h8:8<c0.toNat-48
     . have ad:(8:Int)<(c0.toNat:Int)-48:=O
       go_enter func151,ntmps151
       go_wp2_with(first
        |(go_at_call 124;refine f.o.mono ?_;clear f;rintro e T ⟨rfl,d,c⟩;have m:=Y d;have o:=Y c;clear d c)
        |(go_at_call 172;refine(v.o _ m.o).mono ?_;clear v;rintro e w2 ⟨i,_,g⟩;obtain⟨rfl,x⟩:=g _ _ _ z.o;rw[Q.o];have U:=Y x;have y:=Y (Jg o.o i);clear i g x)
        |(go_at_call 127;refine(K.o _ _ _).mono ?_;clear K;rintro e w3 ⟨rfl,rfl⟩))
       refine⟨J,y.o,λe q a=>?_,λn k a=>?_⟩
       . rw[l.o,BL (by rw[P.o];omega)]at a;cases a;rfl
       . rw[l.o,BL (by rw[P.o];omega)]at a;cases a
     . have ad:¬(8:Int)<(c0.toNat:Int)-48:=O
       go_enter func151,ntmps151
       go_wp2_with(first
        |(go_at_call 124;refine f.o.mono ?_;clear f;rintro e T ⟨rfl,d,c⟩;have m:=Y d;have o:=Y c;clear d c)
        |(go_at_call 172;refine(v.o _ m.o).mono ?_;clear v;rintro e w2 ⟨i,_,g⟩;obtain⟨rfl,x⟩:=g _ _ _ z.o;rw[Q.o];have U:=Y x;have y:=Y (Jg o.o i);clear i g x)
        |(go_at_call 127;refine(K.o _ _ _).mono ?_;clear K;rintro e w3 ⟨rfl,rfl⟩))
       go_ret;refine⟨y.o,λe q a=>?_,λn k a=>?_⟩
       . rw[l.o,BH (by rw[P.o];omega)]at a;cases a
       . rw[l.o,BH (by rw[P.o];omega)]at a;cases a;refine⟨?_,U.o⟩;rw[P.o];show Ending.returned (G H ((c0.toNat:Int)-48))=_;grind
def Ef(ps:Ja)(i:Nat):Rat:=cf ps (i+1)*(((i+1:Nat):Int):Rat)
def Sl{K:Nat}(h:K<=1099511627776):Sq (((K:Nat):Int):Rat):=
 Sq.of (k:=1) ⟨by unfold Sm;rw[Rat.num_intCast];unfold Z;simp;omega,by unfold Sm;rw[Rat.den_intCast];unfold Z;decide⟩ O
theorem dS(va:M)(ps:Ja)(w:E)(ha:RowK false w va ps)(an:Sqs ps)(ak:ps.length<1099511627776):
 Calls Tryz.prog 47 #[va] w λe w'=>∃u,e=.returned u/\RowK false w' u (Jd ps)/\Bl w w':=by
 obtain⟨a,la,ca,rfl⟩:=ha.form;obtain⟨aj,az,bc,bj,s,t,aa,bb,ll,cc,kk,dd,hc⟩:=ha.formsF;obtain⟨HA,HP,Qf,Qh⟩:=Do hc an aj ak;clear ha an aj az bc hc ak;go_enter func47,ntmps47
 go_wp2;go_loopw [3,4] (λo i wr=>∃k K:Nat,Hid (K=k+1/\(k=0\/K<=la))/\i=G H (K:Int)/\(∃Q R,o=B Q k R)/\Hid (Ep false w wr o (Xt (Ef ps) k))) λ_ i _=>la+1-(intOf i).toNat
 case atStart=>exact⟨0,1,Y ⟨J,Am J⟩,J,⟨_,_,J⟩,Y ⟨EI.nil _ _ _,BB _ _⟩⟩
 case round=>
  obtain⟨k,K,T,rfl,⟨Q,R,rfl⟩,HR⟩:=hrel;by_cases bf:K<la
  . have Qg:(K:Int)<(la:Int):=O
    obtain⟨P,b,rfl,X,c0,c1,c2,c3⟩:=HA.o K bf;have Qk:=Y (show ∀V,Bl w V->(V.cell? ⟨b,K*4,none⟩=some (B (aa K) (ll K) (cc K))/\V.cell? ⟨b,K*4+1,none⟩=some (F (s K))/\V.cell? ⟨b,K*4+2,none⟩=some (B (bb K) (kk K) (dd K))/\V.cell? ⟨b,K*4+3,none⟩=some (F (t K)))/\Jq V (.agg #[B (aa K) (ll K) (cc K),F (s K),B (bb K) (kk K) (dd K),F (t K)]) (cf ps K)from λV W=>by
     exact⟨⟨(W.cell (p:=⟨b,_,none⟩) X).trans c0,(W.cell (p:=⟨b,_,none⟩) X).trans c1,(W.cell (p:=⟨b,_,none⟩) X).trans c2,(W.cell (p:=⟨b,_,none⟩) X).trans c3⟩,P.below W⟩)
    have HK:=Y (show k+1<=1099511627776/\K<=1099511627776 by have:=Qh.o;have:=Qf.o;have:=T.o;omega);have Qi:=Y (show cf ps K*((K:Int):Rat)=Ef ps k by rw[T.o.1];rfl);clear P c0 c1 c2 c3 X;go_wp2_with fail
    have Qj:=HR.o.below ((BB _ wr).drew);refine JY Di [[],[],[],[1,2],[3],[],[5],[4,6,6],[7],[0,8,7],[9,9,0,1,2,3,4,5,6,7,8,9]] kS DN
     (λD ad V=>∃(ta tb tc td te tf tg ti tj S tl:M),ad={ tmps:=#[B (some ⟨b,0,none⟩) la ca,undef,B none 0 0,tl,G H ↑K,G H ↑K,B (some ⟨b,0,none⟩) la ca,G H ↑la,F true,u9,u10,ta,tb,tc,td,te,tf,tg,ti,tj,S,undef,undef],defers:=[] }/\Hid ((D 0=true->ta=B Q k R)/\(D 1=true->tb=B (some ⟨b,0,none⟩) la ca)/\(D 2=true->tc=G H (K:Int))/\(D 3=true->td=L (some ⟨b,K*4,none⟩))/\(D 4=true->D 9=false->Jq V te (cf ps K))/\(D 5=true->tf=G H (K:Int))/\(D 6=true->D 9=false->Jq V tg ((K:Int):Rat))/\(D 7=true->D 9=false->Jq V ti (Ef ps k))/\(D 8=true->∃a l c,tj=B a l c)/\(D 9=true->∃a l c,S=B a l c)/\((D 10=false->tl=Value.slice Q k R)/\(D 10=true->tl=S)))/\Hid ((D 8=false->Ep false w V (B Q k R) (Xt (Ef ps) k))/\(D 8=true->D 9=false->∃(N:E) (x y z u:M),V=N.alloc (.cells #[x,y,z,u] (Dr false))/\(Ep false w N (B Q k R) (Xt (Ef ps) k))/\Dy false N (.agg #[x,y,z,u]) (Ef ps k)/\tj=B (some ⟨N.heap.size,0,none⟩) 1 1)/\(D 9=true->Ep false w V S (Xt (Ef ps) k++[Ef ps k]))))
     (E8 ⟨_,_,_,J,Y ⟨DK,DK,DK,DK,DK,DK,DK,DK,DK,DK,⟨λ_=>rfl,DK⟩⟩,Y ⟨λ_=>Qj,DK,DK⟩⟩) ?step1 ?fin1
    case step1=>
     rintro D ad V i ds f P g q ⟨ta,tb,tc,td,te,tf,tg,ti,tj,S,tl,rfl,d,v⟩;have bh:i<11:=(Ar.1 P).1;obtain rfl|rfl|rfl|rfl|rfl|rfl|rfl|rfl|rfl|rfl|rfl:=KT i O
     all_goals
      simp only[AH,AD,AO]at P;subst P
     . have r:D 9=false:=DQ f q;have Qd:D 10=false:=DQ f q;obtain rfl:=D6 d Qd;clear g;refine Dd ?_;exact⟨(Gv (Gf d) ⟨λ_=>rfl,λh=>by simp[Qd]at h⟩),Y ⟨λh=>v.o.1 (by simpa using h),λh A=>v.o.2.1 (by simpa using h) (by simpa using A),λh=>v.o.2.2 (by simpa using h)⟩⟩
     . have r:D 9=false:=DQ f (DQ (a:=8) f (DQ (a:=7) f (DQ (a:=4) f (DQ (a:=3) f q))));have n:D 8=false:=DQ f (DQ (a:=7) f (DQ (a:=4) f (DQ (a:=3) f q)));have m:=v.o.1 n;clear g;refine Dd ?_;exact⟨Y ⟨d.o.1,λ_=>rfl,d.o.2.2.1,d.o.2.2.2.1,d.o.2.2.2.2.1,(EU d),(EW d),(EX d),(Eb d),(EQ d),⟨λh=>(D6 d) (by simpa using h),λh=>d.o.2.2.2.2.2.2.2.2.2.2.2 (by simpa using h)⟩⟩,Y ⟨λ_=>m,λh=>by simp[n]at h,λh=>by simp[r]at h⟩⟩
     . have r:D 9=false:=DQ f (DQ (a:=8) f (DQ (a:=7) f (DQ (a:=4) f (DQ (a:=3) f q))));have n:D 8=false:=DQ f (DQ (a:=7) f (DQ (a:=4) f (DQ (a:=3) f q)));have m:=v.o.1 n;clear g;refine Dd ?_;exact⟨Y ⟨d.o.1,d.o.2.1,λ_=>rfl,d.o.2.2.2.1,d.o.2.2.2.2.1,(EU d),(EW d),(EX d),(Eb d),(EQ d),⟨λh=>(D6 d) (by simpa using h),λh=>d.o.2.2.2.2.2.2.2.2.2.2.2 (by simpa using h)⟩⟩,Y ⟨λ_=>m,λh=>by simp[n]at h,λh=>by simp[r]at h⟩⟩
     . have r:D 9=false:=DQ f (DQ (a:=8) f (DQ (a:=7) f (DQ (a:=4) f q)));have n:D 8=false:=DQ f (DQ (a:=7) f (DQ (a:=4) f q));have m:=v.o.1 n;obtain rfl:=d.o.2.1 (g 1 DK);obtain rfl:=d.o.2.2.1 (g 2 DK);clear g;refine Dd ?_;exact⟨Y ⟨d.o.1,λ_=>rfl,λ_=>rfl,λ_=>rfl,d.o.2.2.2.2.1,(EU d),(EW d),(EX d),(Eb d),(EQ d),⟨λh=>(D6 d) (by simpa using h),λh=>d.o.2.2.2.2.2.2.2.2.2.2.2 (by simpa using h)⟩⟩,Y ⟨λ_=>m,λh=>by simp[n]at h,λh=>by simp[r]at h⟩⟩
     . have r:D 9=false:=DQ f (DQ (a:=8) f (DQ (a:=7) f q));have n:D 8=false:=DQ f (DQ (a:=7) f q);have m:=v.o.1 n;obtain rfl:=d.o.2.2.2.1 (g 3 DK);obtain⟨⟨e0,e1,e2,e3⟩,hr⟩:=Qk.o V m.2;clear g;refine Dd ?_;exact⟨Y ⟨d.o.1,d.o.2.1,d.o.2.2.1,λ_=>rfl,λ_ _=>hr,(EU d),(EW d),(EX d),(Eb d),(EQ d),⟨λh=>(D6 d) (by simpa using h),λh=>d.o.2.2.2.2.2.2.2.2.2.2.2 (by simpa using h)⟩⟩,Y ⟨λ_=>m,λh=>by simp[n]at h,λh=>by simp[r]at h⟩⟩
     . have r:D 9=false:=DQ f (DQ (a:=8) f (DQ (a:=7) f (DQ (a:=6) f q)));have n:D 8=false:=DQ f (DQ (a:=7) f (DQ (a:=6) f q));have m:=v.o.1 n;clear g;refine Dd ?_;exact⟨Y ⟨d.o.1,d.o.2.1,d.o.2.2.1,d.o.2.2.2.1,d.o.2.2.2.2.1,λ_=>rfl,(EW d),(EX d),(Eb d),(EQ d),⟨λh=>(D6 d) (by simpa using h),λh=>d.o.2.2.2.2.2.2.2.2.2.2.2 (by simpa using h)⟩⟩,Y ⟨λ_=>m,λh=>by simp[n]at h,λh=>by simp[r]at h⟩⟩
     . have r:D 9=false:=DQ f (DQ (a:=8) f (DQ (a:=7) f q));have n:D 8=false:=DQ f (DQ (a:=7) f q);have m:=v.o.1 n;obtain rfl:=EU d (g 5 DK);clear g;have HC:=Y (Ip (K:Int) O (by have:=HK.o;omega) V);refine Jj J J λK hK=>?_;go_simp;go_wp2_with(go_at_call 42;refine HC.o.mono ?_;rintro e w5 ⟨v5,rfl,ah,I⟩)
       exact E8 ⟨_,_,_,J,Y ⟨d.o.1,d.o.2.1,d.o.2.2.1,d.o.2.2.2.1,λh A=>(d.o.2.2.2.2.1 h A).below I,λ_=>rfl,λ_ _=>ah,λh A=>((EX d) h A).below I,(Eb d),(EQ d),⟨λh=>(D6 d) (by simpa using h),λh=>d.o.2.2.2.2.2.2.2.2.2.2.2 (by simpa using h)⟩⟩,Y ⟨λ_=>m.below I,λh=>by simp[n]at h,λh=>by simp[r]at h⟩⟩
     . have r:D 9=false:=DQ f q;have n:D 8=false:=DQ f q;have m:=v.o.1 n;have U:=d.o.2.2.2.2.1 (g 4 DK) r;have h1:=EW d (g 6 DK) r;clear g;have HC:=Y (OZ _ _ (cf ps K) ((K:Int):Rat) V U h1 (HP.o.at K) (Sl HK.o.2));rw[Qi.o]at HC;clear U h1;refine Jj J J λK hK=>?_;go_simp;go_wp2_with(go_at_call 44;refine HC.o.mono ?_;rintro e w5 ⟨v5,rfl,ah,I⟩)
       exact E8 ⟨_,_,_,J,Y ⟨d.o.1,d.o.2.1,d.o.2.2.1,d.o.2.2.2.1,λh A=>(d.o.2.2.2.2.1 h A).below I,(EU d),λh A=>((EW d) h A).below I,λ_ _=>ah,(Eb d),(EQ d),⟨λh=>(D6 d) (by simpa using h),λh=>d.o.2.2.2.2.2.2.2.2.2.2.2 (by simpa using h)⟩⟩,Y ⟨λ_=>m.below I,λh=>by simp[n]at h,λh=>by simp[r]at h⟩⟩
     . have r:D 9=false:=DQ f q;have m:=v.o.1 q;have U:=EX d (g 7 DK) r;obtain⟨a9,l9,c9,s9,b9,k9,d9,t9,rfl⟩:=Jq.form U;clear g;refine Dd ?_;exact⟨Y ⟨d.o.1,d.o.2.1,d.o.2.2.1,d.o.2.2.2.1,λh A=>(d.o.2.2.2.2.1 h A).below (Ba V _),(EU d),λh A=>((EW d) h A).below (Ba V _),λh A=>((EX d) h A).below (Ba V _),λ_=>⟨_,_,_,J⟩,(EQ d),⟨λh=>(D6 d) (by simpa using h),λh=>d.o.2.2.2.2.2.2.2.2.2.2.2 (by simpa using h)⟩⟩,Y ⟨λh=>by simp at h,λ_ _=>⟨V,_,_,_,_,J,m,U,J⟩,λh=>by simp[r]at h⟩⟩
     . obtain⟨N,x9,y9,z9,u9,rfl,m,bg,ay⟩:=v.o.2.1 (g 8 DK) q;obtain rfl:=d.o.1 (g 0 DK);have Qd:D 10=false:=DQ f q;have Qe:=g 8 DK;obtain⟨v5,w5,ai,am,bi,I⟩:=XN false w.heap.size N _ _ m.1 bg (by rw[JM];exact HK.o.1) m.2.size;dsimp only[E1,Dr]at ai;subst ay;obtain⟨a6,c6,e6,_⟩:=am.form;subst e6;clear g;refine Jj J J λK hK=>?_;refine Lib.wp_append_run _ _ _ 30 30 J _ _ J J _ _ ai (hK _ _ ?_);exact E8 ⟨_,_,_,J,Y ⟨λ_=>rfl,d.o.2.1,d.o.2.2.1,d.o.2.2.2.1,λ_ h=>by simp at h,(EU d),λ_ h=>by simp at h,λ_ h=>by simp at h,(Eb d),λ_=>⟨_,_,_,J⟩,⟨λh=>(D6 d) (by simpa using h),λh=>by simp[Qd]at h⟩⟩,Y ⟨λh=>by simp[Qe]at h,λ_ h=>by simp at h,λ_=>⟨am,I _ _ (Aa _) m.2⟩⟩⟩
     . clear g;refine Dd ?_;exact⟨(Gv d ⟨λh=>by simp at h,λ_=>rfl⟩),Y ⟨λh=>v.o.1 (by simpa using h),λh A=>v.o.2.1 (by simpa using h) (by simpa using A),λh=>v.o.2.2 (by simpa using h)⟩⟩
    case fin1=>
     rintro D ad V ae ⟨ta,tb,tc,td,te,tf,tg,ti,tj,S,tl,rfl,d,v⟩;have HO:=Y (v.o.2.2 (ae 9 DN));obtain rfl:=d.o.2.2.2.2.2.2.2.2.2.2.2 (ae 10 DN);clear d v ae;obtain⟨a9,c9,e9,_⟩:=HO.o.1.form;rw[<-YW,JM]at e9;subst e9;go_wp2_with fail
     go_roundw
     case rel=>exact⟨k+1,K+1,Y ⟨by have:=T.o;omega,Ax O⟩,by go_num,⟨a9,c9,J⟩,Y (by rw[YW];exact HO.o)⟩
     case measure=>simp[intOf];omega
  . have Qg:¬(K:Int)<(la:Int):=O
    have HT:=Y (KK _ _ wr (HR.o.1.row (by rw[JM];have:=T.o;have:=Qh.o;have:=Qf.o;omega)));have HE:=Y (show Jb (Xt (Ef ps) k)=Jd ps from Yy λj=>by
     rw[K6,IL];split
     . rfl
     . rw[JS (by have:=Qf.o;have:=T.o;omega)];grind)
    rw[HE.o]at HT;go_wp2_with(go_at_call 45;refine HT.o.mono ?_;clear HT;rintro e w1 ⟨u1,rfl,ap,aq⟩;obtain⟨a7,l7,c7,rfl⟩:=ap.form)
    go_ret;exact⟨_,J,ap,Bt HR.o.2 aq⟩
def F1(w V:E)(o:M)(C:Nat)(qs:Ja)(c:Rat):Prop:=
 Ep false w V o qs/\w.heap.size<=C/\(∀g l c,o=B (some ⟨g,0,none⟩) l c->g≠C)/\∃a l c' s b k d t,JN V C 85 (B a l c') (F s) (B b k d) (F t)/\Jq V (.agg #[B a l c',F s,B b k d,F t]) c
def F1.below{w V V':E}{o:M}{C:Nat}{qs:Ja}{c:Rat}(h:F1 w V o C qs c)(e:Bl V V'):F1 w V' o C qs c:=by
 obtain⟨f,g,i,a,l,c',s,b,k,d,t,j,m⟩:=h;exact⟨f.below e,g,i,a,l,c',s,b,k,d,t,j.below e,m.below e⟩
def EI.put4{r:Bool}{base:Nat}{V:E}{o:M}{qs:Ja}(h:EI r base V o qs){C:Nat}{ty:TypeId}{x y z u:M}(q:JN V C ty x y z u)(D:JG x=true)(I:JG y=true)(K:JG z=true)(N:JG u=true)(w:∀g l c,o=B (some ⟨g,0,none⟩) l c->g≠C)(d e f b:M):EI r base (put4 V C d e f b) o qs:=by
 rcases h with h|⟨g,cap,i,a,k,m,n,p,s,t,v⟩
 . exact Am h
 . have hg:=w g _ _ a;refine Ax ⟨g,cap,i,a,k,?_,n,p,s,t,v.keep λ_ _ _ A=>Row.put4 A q D I K N _ _ _ _⟩;have j:=(BD V ⟨C,0,none⟩ d g hg).trans m;have g1:=(BD _ ⟨C,1,none⟩ e g hg).trans j;have g2:=(BD _ ⟨C,2,none⟩ f g hg).trans g1;exact(BD _ ⟨C,3,none⟩ b g hg).trans g2
def F1.put{w V:E}{o:M}{C:Nat}{qs:Ja}{c c2:Rat}(h:F1 w V o C qs c){a:kR}{l c':Nat}{s:Bool}{b:kR}{k d:Nat}{t:Bool}(j:Jq V (.agg #[B a l c',F s,B b k d,F t]) c2):
 F1 w (put4 V C (B a l c') (F s) (B b k d) (F t)) o C qs c2:=by
 obtain⟨f,g,i,m,q,c0,r,b0,p,d0,u,e,n⟩:=h;exact⟨⟨f.1.put4 e J J J J i _ _ _ _,Jw f.2 g _ _ _ _⟩,g,i,_,_,_,_,_,_,_,_,e.put _ _ _ _,j.put4 e J J J J _ _ _ _⟩
def F1.new{w V:E}{o:M}{qs:Ja}{c:Rat}(h:Ep false w V o qs){a:kR}{l c':Nat}{s:Bool}{b:kR}{k d:Nat}{t:Bool}(m:Jq V (.agg #[B a l c',F s,B b k d,F t]) c):
 F1 w (V.alloc (.cells #[B a l c',F s,B b k d,F t] 85)) o V.heap.size qs c:=by
 have i:Bl V (V.alloc (.cells #[B a l c',F s,B b k d,F t] 85)):=Ba V _;refine⟨h.below i,h.2.size,λg l c e=>?_,_,_,_,_,_,_,_,_,JN.new _ _ _ _ _ _,m.below i⟩;rcases h.1 with⟨f,_⟩|⟨g',cap,n,f,p,j,_⟩
 . rw[f]at e;cases e
 . rw[f]at e;cases e;have:=(Ab.1 j).1;omega
def dT(ps qs:Ja){i:Nat}(h:k<=i):conv ps qs (k+1) i=conv ps qs k i+cf ps k*cf qs (i-k):=by
 show sumN (k+1) _=_;rw[sumN,BL h];rfl
theorem Sn(p q:Ja)(h:p.length+q.length<=k):∀n,conv p q n k=0:=by
 intro n;induction n with
 |zero=>rfl
 |succ n a=>
  show conv p q n k+(if n<=k then cf p n*cf q (k-n)else 0)=0
  rw[a,Rat.zero_add];split
  . by_cases b:n<p.length
    . rw[JS (p:=q) O,Rat.mul_zero]
    . rw[JS (p:=p) O,CX]
  . rfl
def dU{ps qs:Ja}(h:M3.GS ps qs)(n k:Nat):Sq (conv ps qs n k):=by
 have a:=h.2 (n+qs.length) n 0 k;rw[show YP (Xj ps qs (n+qs.length) n) n (cf ps n) qs 0=Xj ps qs (n+qs.length) n from J,NA _ _ _ _ _ (Ax O)]at a;exact a
def dV(ps qs:Ja)(n:Nat)(h:ps.length+qs.length<=n):Jb (Xt (λi=>conv ps qs (i+1) i) n)=Jy ps qs:=Yy λj=>by
 rw[K6,IJ];split
 . by_cases a:j+1<=ps.length
   . rw[UZ ps qs a]
   . rw[PY ps qs O]
 . rw[Sn ps qs O]
def Ok(va vb:M)(ps qs:Ja)(w:E)(ha:RowK false w va ps)(hb:RowK false w vb qs)(dh:Sqs ps)(di:Sqs qs)(aj:M3.GS ps qs)(co:ps.length+qs.length<1099511627776):
 Calls Tryz.prog 14 #[va,vb] w λe w'=>∃u,e=.returned u/\RowK false w' u (Jy ps qs)/\Bl w w':=by
 obtain⟨a,la,ca,rfl⟩:=ha.form;obtain⟨b,lb,cb,rfl⟩:=hb.form;obtain⟨ck,dz,ei,f8,s,t,aa,bb,ll,cc,kk,dd,hc⟩:=ha.formsF;obtain⟨cn,ed,et,f9,s',t',an,ap,dt,bj,dj,bk,bu⟩:=hb.formsF;obtain⟨HA,HB,HP,HQ,Qk,Ql,Qn,fe⟩:=Gw hc bu dh di ck cn aj co;have Qq:=Y λn k=>dU aj n k;obtain⟨n,hn⟩:=ex (la+lb);have fk:(la:Int)+(lb:Int)=(n:Int):=O
 have fj:n<1099511627776:=O
 have fo:H.wrap (n:Int)=(n:Int):=by rw[BQ];omega
 have HN:=Y hn;have Qr:=Y λ(V:E)=>Ip 0 O O V;clear ha hb dh di aj ck cn hc bu co hn dz ei ed et f8 f9;go_enter func14,ntmps14
 go_wp2;go_loopw [5,6] (λo iv wr=>∃i:Nat,i<=n/\iv=G H (i:Int)/\(∃P Q,o=B P i Q)/\Hid (Ep false w wr o (Xt (λi=>conv ps qs (i+1) i) i))) λ_ iv _=>n-(intOf iv).toNat
 case atStart=>exact⟨0,As _,J,⟨_,_,J⟩,Y ⟨EI.nil _ _ _,BB _ _⟩⟩
 case round=>
  obtain⟨i,hi,rfl,⟨P,Q,rfl⟩,S⟩:=hrel;by_cases fg:i<n
  . have fh:(i:Int)<(n:Int):=O
    obtain⟨ad,ak⟩:=ex (Xt (λi=>conv ps qs (i+1) i) i);rw[ak]at S;have Qg:=Y ak;clear ak;go_upto_region 6 with(go_at_call 42;refine(Qr.o _).mono ?_;rintro e w1 ⟨u1,rfl,R,v⟩;obtain⟨a0,l0,c0,s0,b0,k0,d0,t0,rfl⟩:=Jq.form R)
    have hX:=F1.new (S.o.below v) R;obtain⟨W1,ai⟩:=ex (w1.alloc (.cells #[B a0 l0 c0,F s0,B b0 k0 d0,F t0] 85));obtain⟨C,hC⟩:=ex (w1.heap.size);rw[ai,hC]at hX;rw[ai,hC];have HX:=Y (show F1 w W1 (B P i Q) C ad 0 from hX);clear hX R v ai hC S;go_wp2;go_loopw [8] (λkv wr=>∃k:Nat,k<=i+1/\kv=G H (k:Int)/\Hid (F1 w wr (B P i Q) C ad (conv ps qs k i))) λkv _=>i+1-(intOf kv).toNat
    case atStart=>exact⟨0,As _,J,HX⟩
    case round=>
     obtain⟨k,hk,rfl,x⟩:=hrel;clear HX;by_cases f7:k<=i
     . have Qe:(k:Int)<=(i:Int):=O
       obtain⟨m,hm⟩:=ex (i-k:Nat);have fi:(i:Int)-(k:Int)=(m:Int):=O
       have fm:H.wrap (m:Int)=(m:Int):=by rw[BQ];omega
       have Qc:=Y (show conv ps qs k i+cf ps k*cf qs m=conv ps qs (k+1) i by rw[dT ps qs f7,hm]);have Qm:=Y (Qq.o k i);clear hm;by_cases f6:k<la
       . have Qi:(k:Int)<(la:Int):=O
         by_cases fd:m<lb
         . have Qd:(m:Int)<(lb:Int):=O
           obtain⟨ce,j,rfl,v,aq,ay,az,bc⟩:=HA.o k f6;obtain⟨cj,l,rfl,W,bf,bg,bh,bi⟩:=HB.o m fd;have Qf:=Y (show ∀V,Bl w V->(V.cell? ⟨j,k*4,none⟩=some (B (aa k) (ll k) (cc k))/\V.cell? ⟨j,k*4+1,none⟩=some (F (s k))/\V.cell? ⟨j,k*4+2,none⟩=some (B (bb k) (kk k) (dd k))/\V.cell? ⟨j,k*4+3,none⟩=some (F (t k)))/\Jq V (.agg #[B (aa k) (ll k) (cc k),F (s k),B (bb k) (kk k) (dd k),F (t k)]) (cf ps k)from λV r=>by
            exact⟨⟨(r.cell (p:=⟨j,_,none⟩) v).trans aq,(r.cell (p:=⟨j,_,none⟩) v).trans ay,(r.cell (p:=⟨j,_,none⟩) v).trans az,(r.cell (p:=⟨j,_,none⟩) v).trans bc⟩,ce.below r⟩)
           have Qh:=Y (show ∀V,Bl w V->(V.cell? ⟨l,m*4,none⟩=some (B (an m) (dt m) (bj m))/\V.cell? ⟨l,m*4+1,none⟩=some (F (s' m))/\V.cell? ⟨l,m*4+2,none⟩=some (B (ap m) (dj m) (bk m))/\V.cell? ⟨l,m*4+3,none⟩=some (F (t' m)))/\Jq V (.agg #[B (an m) (dt m) (bj m),F (s' m),B (ap m) (dj m) (bk m),F (t' m)]) (cf qs m)from λV r=>by
            exact⟨⟨(r.cell (p:=⟨l,_,none⟩) W).trans bf,(r.cell (p:=⟨l,_,none⟩) W).trans bg,(r.cell (p:=⟨l,_,none⟩) W).trans bh,(r.cell (p:=⟨l,_,none⟩) W).trans bi⟩,cj.below r⟩)
           obtain⟨y,hy⟩:=ex (conv ps qs k i)
           rw[hy]at x Qc Qm;clear ce v aq ay az bc cj W bf bg bh bi hy;go_wp2_with fail
           have Qo:=x.o.below ((BB _ wr).drew);refine JY Di [[],[],[],[1,2],[3],[],[],[],[6,7],[5,8],[9],[4,10],[0,11,11],[12,12,0,1,2,3,4,5,6,7,8,9,10,11,12]] kS DN
            (λD ah V=>∃(ta tb tc td te tf tg ti tj tk tl tm tn:M),ah={ tmps:=#[B (some ⟨j,0,none⟩) la ca,B (some ⟨l,0,none⟩) lb cb,undef,undef,B none 0 0,B P i Q,G H ↑i,L (some ⟨C,0,none⟩),G H ↑k,G H ↑i,B (some ⟨j,0,none⟩) la ca,G H ↑la,B (some ⟨l,0,none⟩) lb cb,G H ↑lb,G H ↑n,F true,u16,u17,.agg #[B a0 l0 c0,F s0,B b0 k0 d0,F t0],G H ↑k,G H ↑i,F true,u22,u23,G H ↑k,B (some ⟨j,0,none⟩) la ca,G H ↑la,F true,F true,G H ↑i,G H ↑k,G H ↑m,B (some ⟨l,0,none⟩) lb cb,G H ↑lb,F true,F true,ta,tb,tc,td,te,tf,tg,ti,tj,tk,tl,tm,tn,u49,u50,u51,u52,undef,undef],defers:=[] }/\Hid ((D 0=true->D 13=false->Jq V ta y)/\(D 1=true->tb=B (some ⟨j,0,none⟩) la ca)/\(D 2=true->tc=G H (k:Int))/\(D 3=true->td=L (some ⟨j,k*4,none⟩))/\(D 4=true->D 13=false->Jq V te (cf ps k))/\(D 5=true->tf=B (some ⟨l,0,none⟩) lb cb)/\(D 6=true->tg=G H (i:Int))/\(D 7=true->ti=G H (k:Int))/\(D 8=true->tj=G H (m:Int))/\(D 9=true->tk=L (some ⟨l,m*4,none⟩))/\(D 10=true->D 13=false->Jq V tl (cf qs m))/\(D 11=true->D 13=false->Jq V tm (cf ps k*cf qs m))/\(D 12=true->D 13=false->Jq V tn (conv ps qs (k+1) i)))/\Hid ((D 13=false->F1 w V (B P i Q) C ad y)/\(D 13=true->F1 w V (B P i Q) C ad (conv ps qs (k+1) i))))
            (E8 ⟨_,_,_,_,_,J,Y DK,Y ⟨λ_=>Qo,DK⟩⟩) ?step1 ?fin1
           case step1=>
            rintro D ah V i ds X hi d I ⟨ta,tb,tc,td,te,tf,tg,ti,tj,tk,tl,tm,tn,rfl,c,f⟩;have ff:i<14:=(Ar.1 hi).1;obtain rfl|rfl|rfl|rfl|rfl|rfl|rfl|rfl|rfl|rfl|rfl|rfl|rfl|rfl:=II i O
            all_goals
             simp only[AH,AD,AO]at hi;subst hi
            . have z:=f.o.1 (DQ X I);obtain⟨_,_,_,a5,l5,c5,s5,b5,k5,d5,t5,N,r5⟩:=id z;obtain⟨e0,e1,e2,e3⟩:=N.cq;clear d;refine Dd ?_;exact⟨(Gf c λ_ _=>r5),f⟩
            . clear d;refine Dd ?_;exact⟨(Gt c),f⟩
            . clear d;refine Dd ?_;exact⟨(Hu c),f⟩
            . obtain rfl:=c.o.2.1 (d 1 DK);obtain rfl:=c.o.2.2.1 (d 2 DK);clear d;refine Dd ?_;exact⟨(IR (Hu (Gt c))),f⟩
            . have z:=f.o.1 (DQ X I);obtain rfl:=c.o.2.2.2.1 (d 3 DK);obtain⟨⟨e0,e1,e2,e3⟩,hr⟩:=Qf.o V z.1.2;clear d;refine Dd ?_;exact⟨(I6 (IR c) λ_ _=>hr),f⟩
            . clear d;refine Dd ?_;exact⟨(Kf c),f⟩
            . clear d;refine Dd ?_;exact⟨(IU c),f⟩
            . clear d;refine Dd ?_;exact⟨(I7 c),f⟩
            . obtain rfl:=EW c (d 6 DK);obtain rfl:=EX c (d 7 DK);clear d;refine Dd ?_;exact⟨(Kg (I7 (IU c))),f⟩
            . obtain rfl:=EU c (d 5 DK);obtain rfl:=Eb c (d 8 DK);clear d;refine Dd ?_;exact⟨(Kh (Kg (Kf c))),f⟩
            . have z:=f.o.1 (DQ X I);obtain rfl:=EQ c (d 9 DK);obtain⟨⟨e0,e1,e2,e3⟩,hr⟩:=Qh.o V z.1.2;clear d;refine Dd ?_;exact⟨(Gu (Kh c) λ_ _=>hr),f⟩
            . have T:D 13=false:=DQ X I;have A:=c.o.2.2.2.2.1 (d 4 DK) T;have U:=D6 c (d 10 DK) T;clear d;have HC:=Y (OZ _ _ (cf ps k) (cf qs m) V A U (HP.o.at k) (HQ.o.at m));clear A U;refine Jj J J λK hK=>?_;go_simp;go_wp2_with(go_at_call 44;refine HC.o.mono ?_;rintro e w5 ⟨v5,rfl,am,q⟩)
              obtain⟨G0,G1,G2,G3,G4,G5,G6,G7,G8,G9,ae,_,dx⟩:=c.o;exact E8 ⟨_,_,_,_,_,J,Y ⟨λh g=>(G0 h g).below q,G1,G2,G3,λh g=>(G4 h g).below q,G5,G6,G7,G8,G9,λh g=>(ae h g).below q,λ_ _=>am,λh g=>(dx h g).below q⟩,Y ⟨λh=>(f.o.1 h).below q,λh=>(f.o.2 h).below q⟩⟩
            . have T:D 13=false:=DQ X I;have A:=c.o.1 (d 0 DK) T;have U:=Kj c (d 11 DK) T;clear d;have HC:=Y (SL _ _ y (cf ps k*cf qs m) V A U Qm.o (Qn.o.1 k m));rw[Qc.o]at HC;clear A U;refine Jj J J λK hK=>?_;go_simp;go_wp2_with(go_at_call 43;refine HC.o.mono ?_;rintro e w5 ⟨v5,rfl,am,q⟩)
              obtain⟨G0,G1,G2,G3,G4,G5,G6,G7,G8,G9,ae,du,_⟩:=c.o;exact E8 ⟨_,_,_,_,_,J,Y ⟨λh g=>(G0 h g).below q,G1,G2,G3,λh g=>(G4 h g).below q,G5,G6,G7,G8,G9,λh g=>(ae h g).below q,λh g=>(du h g).below q,λ_ _=>am⟩,Y ⟨λh=>(f.o.1 h).below q,λh=>(f.o.2 h).below q⟩⟩
            . have z:=f.o.1 I;have A:=c.o.2.2.2.2.2.2.2.2.2.2.2.2 (d 12 DK) I;obtain⟨a9,l9,c9,s9,b9,k9,d9,t9,rfl⟩:=Jq.form A;obtain⟨_,_,_,a5,l5,c5,s5,b5,k5,d5,t5,N,r5⟩:=id z;obtain⟨e0,e1,e2,e3⟩:=N.cq;obtain⟨f0,f1,f2,f3⟩:=N.fq;clear d;refine Dd ?_;exact⟨(Ki (IV (Gu (I6 (Gf c λ_ h=>by simp at h) λ_ h=>by simp at h) λ_ h=>by simp at h) λ_ h=>by simp at h) λ_ h=>by simp at h),Y ⟨λh=>by simp at h,λ_=>z.put A⟩⟩
           case fin1=>
            rintro D ah V bm ⟨ta,tb,tc,td,te,tf,tg,ti,tj,tk,tl,tm,tn,rfl,c,f⟩;have HO:=Y (f.o.2 (bm 13 DN));clear c f bm;go_wp2_with fail
            go_roundw
            case rel=>exact⟨k+1,O,by go_num,HO⟩
            case measure=>simp[intOf];omega
         . have Qd:¬(m:Int)<(lb:Int):=O
           have HZ:=Y (show conv ps qs (k+1) i=conv ps qs k i by rw[<-Qc.o,JS (p:=qs) (by have:=Ql.o;omega),Rat.mul_zero,Rat.add_zero]);go_wp2_with fail
           go_roundw
           case rel=>exact⟨k+1,O,by go_num,Y (by rw[HZ.o];exact x.o)⟩
           case measure=>simp[intOf];omega
       . have Qi:¬(k:Int)<(la:Int):=O
         have HZ:=Y (show conv ps qs (k+1) i=conv ps qs k i by rw[<-Qc.o,JS (p:=ps) (by have:=Qk.o;omega),CX,Rat.add_zero]);go_wp2_with fail
         go_roundw
         case rel=>exact⟨k+1,O,by go_num,Y (by rw[HZ.o];exact x.o)⟩
         case measure=>simp[intOf];omega
     . obtain rfl:k=i+1:=O
       have Qe:¬((i+1:Nat):Int)<=(i:Int):=O
       obtain⟨_,_,_,a5,l5,c5,s5,b5,k5,d5,t5,N,r5⟩:=id x.o;obtain⟨e0,e1,e2,e3⟩:=N.cq;obtain⟨v9,w9,bn,de,ew,bt⟩:=XN false w.heap.size wr _ _ x.o.1.1 r5 (by rw[<-Qg.o,JM];omega) x.o.1.2.size;dsimp only[E1,Dr]at bn;have Qj:=Y de;have Qp:=Y (bt w.heap.size w (Aa _) x.o.1.2);clear de ew bt N r5;go_wp2_with(at_builtin;refine Bg _ J _ _ 30 30 J _ _ J J _ _ bn ?_)
       obtain⟨a9,c9,e9,_⟩:=Qj.o.form;rw[<-Qg.o,At,JM]at e9;go_roundw
       case rel=>exact⟨i+1,O,by go_num,⟨a9,c9,e9⟩,Y ⟨by rw[YW,Qg.o];exact Qj.o,Qp.o⟩⟩
       case measure=>simp[intOf];omega
  . obtain rfl:i=n:=O
    have HT:=Y (KK _ _ wr (S.o.1.row (by rw[JM];omega)));rw[dV ps qs i (by have:=HN.o;have:=Qk.o;have:=Ql.o;omega)]at HT;go_wp2_with(go_at_call 45;refine HT.o.mono ?_;clear HT;rintro e w1 ⟨u1,rfl,R,v⟩;obtain⟨a7,l7,c7,rfl⟩:=R.form)
    go_ret;exact⟨_,J,R,Bt S.o.2 v⟩

