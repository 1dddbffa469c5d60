import Derived.Test.YtcahejkcdcjjgaaGreatDoorT29
set_option linter.all false
open Go renaming World->B
open Go.Value renaming pointer->C,int->D,bool->F,string->G,slice->H
open Go.IntKind renaming i64->E
set_option maxRecDepth 99999
set_option maxHeartbeats 0
namespace Go.Proofs.YtcahejkcdcjjgaaGreatDoor
open List renaming replicate->TU
open Proofs.Tryz
open Go.RowKit Go.Shelf
attribute [local go_sem] Oper.semAt_some
section
variable{b:Bool}{S:X}{l:List UInt8}{e k m n p:Nat}{c:Rat}{a:B}
def DM.add2{p q:Rat}(hp:DM k p)(a:DM m q):DM (k+m+1) (p+q):=by
 rw[<-Hq];refine DM.divInt ?_ ((hp.1.mul a.2).add (by have:=a.1.mul hp.2;rwa[CM]at this)) ((hp.2.mul a.2).mono Y);exact CQ (by have:=p.den_nz;omega) (by have:=q.den_nz;omega)
def Dz.sm(h:Dz c):DM 1 c:=by
 obtain⟨x,y,rfl,a,b,d⟩:=h;exact DM.divInt Y (by unfold Sm O;omega) (by unfold Sm O;omega)
theorem DM.zero(k:Nat)(a:1<=k):DM k 0:=⟨Sm.zero k,Sm.one k a⟩
def KB(n:Nat)(c:Rat)(i:Nat):cf (Dv n [c]) i=if i=n then c else 0:=by
 rw[F0];by_cases h:n<=i
 . rw[BL h];by_cases a:i=n
   . rw[BL a,a,AV,Ep]
   . rw[BH a,XW si]
 . rw[BH h,BH Y]
def Mj(h:Dz c):Sqs (Jv (Dv n [c])):=Sqs.of λi=>by
 rw[YE,KB];split
 . exact Sq.of h.sm Y
 . exact Sq.of (DM.zero 1 Y) Y
def Mk(n:Nat)(c:Rat):(Jv (Dv n [c])).length<=n+1:=AB (Yh _) (by simp[Dv])
theorem R8(c:Rat)(h:n<S.length):FU (Jv S) (Jv (Dv n [c]))=Jv (S.set n (cf S n+c)):=by
 unfold FU;refine YP λi=>?_;rw[FH,YE,YE,KB,Ea _ _ _ _ h];split
 . rename_i h;rw[h]
 . grind
theorem R9(c:Rat)(h:n<S.length):F1 (Jv S) (Jv (Dv n [c]))=Jv (S.set n (cf S n-c)):=by
 unfold F1;refine YP λi=>?_;rw[FH,Fz,YE,YE,KB,Ea _ _ _ _ h];split
 . rename_i h;rw[h];grind
 . grind
def Yq(S:X)(m:Nat):Prop:=S.length=9/\∀i,DM (2*m+1) (cf S i)
def Yq.start:Yq (TU 9 0) 0:=⟨J,λi=>by rw[Yx];exact DM.zero 1 Y⟩
def Yq.sqs(h:Yq S m)(a:m<=300):Sqs (Jv S):=Sqs.of λi=>by rw[YE];exact Sq.of (h.2 i) Y
def Yq.next(h:Yq S m)(a:Dz c)(d:n<=8)(b:Bool):Yq (S.set n (if b then cf S n-c else cf S n+c)) (m+1):=by
 refine⟨by rw[CZ];exact h.1,λi=>?_⟩;rw[Ea _ _ _ _ (by rw[h.1];omega)];split
 . cases b
   . exact((h.2 n).add2 a.sm).mono Y
   . rw[BL J,Rat.sub_eq_add_neg];exact((h.2 n).add2 a.sm.neg).mono Y
 . exact(h.2 i).mono Y
def SA{j:Nat}{c d:UInt8}(a:JR l j c=true)(b:JR l j d=true):c=d:=by
 unfold JR at a b;rw[beq_iff_eq]at a b;exact AY (a.symm.trans b)
def KC{f:Nat}{I:Nat}(h:JV l I=.error e p):Dj l (f+1) b I S=.error e p:=by
 rw[Dj,h]
def KD{f:Nat}{I:Nat}(h:JV l I=.ok (c,n) k):Dj l (f+1) b I S =
 if JR l (DB l k) 43 then Dj l f false (DB l k+1) (S.set n (if b then cf S n-c else cf S n+c))else if JR l (DB l k) 45 then Dj l f true (DB l k+1) (S.set n (if b then cf S n-c else cf S n+c))else if DB l k=l.length then .ok (S.set n (if b then cf S n-c else cf S n+c)) (DB l k)else .error 2 (DB l k):=by
 rw[Dj,h]
def SB(l:List UInt8)(i:Nat):(JV l i).pos:=by
 intro e p h;rw[Xl]at h;split at h
 . rename_i b c a;cases h;exact Me l i _ _ a
 . split at h
   . split at h
     . rename_i b c a;cases h;exact Ry _ _ _ _ a
     . cases h
   . cases h
def X9(l:List UInt8):Rd X:=if JR l (DB l 0) 45 then Dj l (l.length+1) true (DB l 0+1) (TU 9 0)else Dj l (l.length+1) false (DB l 0) (TU 9 0)
def Gj(r:Rd X):X × Nat × Nat:=match r with|.error e p=>([],e,p)|.ok s _=>(Jv s,0,0)
def Gk(h:¬300<l.length):JU l=Gj (X9 l):=by
 unfold JU X9 Gj;rw[BH h];split<;>(rename_i a;rw[a])
def D4(l:List UInt8)(a:B)(u:Value)(e p:Int):Prop:=e=((JU l).2.1:Int)/\p=((JU l).2.2:Int)/\RowK false a u (JU l).1/\(JU l).1.length<=9/\∀i,DM 601 (cf (JU l).1 i)
def D4.bad(h:JU l=([],e,p)):D4 l a (H none 0 0) e p:=by
 rw[D4,h];exact⟨J,J,RowK.nil _ _,C9,λi=>by rw[EP];exact DM.zero _ Y⟩
def D4.ok{u:Value}(h:JU l=(Jv S,0,0))(hs:Yq S m)(c:m<=300)(b:RowK false a u (Jv S)):D4 l a u 0 0:=by
 rw[D4,h];exact⟨J,J,b,AB (Yh _) (by rw[hs.1];exact Aa _),λi=>by rw[YE];exact(hs.2 i).mono Y⟩
def below_drewN{w W:B}(h:Bl w W)(k:Nat):Bl w (W.drewN k):=h.grown (Jr W k none) h.size (λk e=>by cases e)
def DH.new(w:B)(s:ByteArray):DH (w.alloc (.cells #[G s,D E 0,D E 0,D E 0] 82)) w.heap.size s 0 0 0:=BD w _
def SC(s:ByteArray)(bz:s.size<=140737488351232)(w:B):
 Calls Tryz.prog 10 #[G s] w λr w'=>∃(u:Value) (e p:Int),r=.returned (.tuple #[u,D E e,D E p])/\D4 (Je s) w' u e p/\Bl w w':=by
 by_cases bi:300<s.size
 . have bn:(300:Int)<(s.size:Int):=Y
   have HP:=Z (show JU (Je s)=([],1,0)by unfold JU;rw[BL (by rw[Jf];exact bi)]);go_enter func10,ntmps10
   go_wp2;exact BA (v:=.tuple #[H none 0 0,D E 1,D E 0]) (by simp[results,results10,go_sem]) J ⟨_,_,_,J,D4.bad HP.o,BB _ _⟩
 . have bn:¬(300:Int)<(s.size:Int):=Y
   have hs:s.size<=300:=Y
   have HP:=Z (Gk (l:=Je s) (by rw[Jf];exact bi));clear bi bz;have Um:Bl w (w.alloc (.cells #[G s,D E 0,D E 0,D E 0] 82)):=Ba w _;have Uc:=DH.new w s;obtain⟨W0,bg⟩:=ex (w.alloc (.cells #[G s,D E 0,D E 0,D E 0] 82));rw[bg]at Um Uc;obtain⟨R,hR⟩:=ex (w.heap.size);rw[hR]at Uc;obtain⟨o,Up,Uo,Ux⟩:=Dk hR bg Um Uc;obtain⟨b0,bh⟩:∃b,b=(decide ((0:Int)=0)&&JR (Je s) (DB (Je s) 0) 45):=⟨_,J⟩;have Ut:=Z (Yk R s 0 0 0 45 W0 Uc Y hs b0 bh);have HB:=Z (show JR (Je s) (DB (Je s) 0) 45=b0 by rw[bh];simp);clear Um Uc bh hR bg;go_enter func10,ntmps10
   go_upto_region 4 with fail
   rw[Up.o,o.o];go_wp2_with(first
    |(go_at_call 45;refine Ut.o.mono ?_;clear Ut;rintro e w1 ⟨rfl,az,aq⟩;have Uq:=Z az;have Qw:=Z (below_grown Uo.o aq (by rw[o.o];exact Aa _));clear az aq))
   go_loopw [6,7,8] (λmv pv _ wr=>∃(b:Bool) (I f m:Nat) (S:List Rat) (a:TS) (la ca:Nat),mv=F b/\pv=H a la ca/\I<=s.size/\Hid (DH wr R s (I:Int) 0 0)/\Hid (RowK false wr (H a la ca) (Jv S))/\Hid (Yq S m)/\Hid (m<=I/\s.size-I<f/\Dj (Je s) f b I S=X9 (Je s))/\Hid (Bl w wr)) λ_ _ _ wr=>s.size-Dx wr R
   case atStart=>
    have Uv:DB (Je s) 0<=s.size:=by rw[<-Jf];exact J9 Y
    refine⟨b0,DB (Je s) 0+(if b0 then 1 else 0),s.size+1,0,TU 9 0,none,0,0,J,J,?_,Z Uq.o,Z ?_,Z Yq.start,Z ⟨Y,Y,?_⟩,Z Qw.o⟩
    . cases hb:b0
      . simpa using Uv
      . have h1:=HB.o;rw[hb]at h1;have h2:=JZ h1;rw[Jf]at h2;simp;omega
    . rw[Fy λi=>Yx 9 i];exact RowK.nil _ _
    . unfold X9;rw[HB.o,Jf];cases b0<;>rfl
   case round=>
    clear Uq Qw HB Uo Ux Up;obtain⟨b,I,f,m,S,a,la,ca,rfl,rfl,hI,bc,bm,HS,HT,HG⟩:=hrel;have Ur:=Z (R7 R s I 0 0 wr bc.o hI hs);go_upto_if 19 with(first
     |(go_at_call 46;refine Ur.o.mono ?_;clear Ur;rintro e w1 ⟨u,c,n,K,rfl,hu,bu,hF,am,az,bk,aq⟩;have Qo:=Z (bm.o.rd bc.o aq);have Qy:=Z az;have HU:=Z hu;have HF:=Z hF;have Uw:=Z (bk J);have Qw:=Z (below_grown HG.o aq (by rw[o.o];exact Aa _));obtain⟨a2,l2,c2,rfl⟩:=hu.form;clear az hu hF bk aq))
    obtain⟨d,bd⟩:=ex (DB (Je s) K);have Qn:=Z bd;have Qg:d<=s.size:=by rw[<-bd,<-Jf];exact J9 (by rw[Jf];exact am)
    have L:=Z (show DB (Je s) d=d by rw[<-bd];exact X8 _ _);clear bd;obtain⟨f,rfl⟩:∃g,f=g+1:=⟨f-1,by have:=HT.o.2.1;omega⟩;have Ui:=Z (HS.o.next HF.o bu b);obtain⟨S2,bf⟩:=ex (S.set n (if b then cf S n-c else cf S n+c));rw[bf]at Ui;have Ul:=Z bf;clear bf;go_cut [7] λpv wx=>∃a3 l3 c3,pv=H a3 l3 c3/\Hid (RowK false wx (H a3 l3 c3) (Jv S2))/\Hid (DH wx R s (K:Int) (DZ (JV (Je s) I) 0) (Dg (JV (Je s) I) 0 0))/\Hid (Bl w wx)
    case first=>
     cases b with
     |false=>
      have Ub:=Z λ(V:B) (h1:RowK false V (H a la ca) (Jv S)) (h2:RowK false V (H a2 l2 c2) (Jv (Dv n [c])))=>MY _ _ _ _ V h1 h2 (HS.o.sqs (by have:=HT.o.1;omega)) (Mj HF.o) ⟨(by have:=Yh S;have:=HS.o.1;omega),(by have:=Mk n c;omega)⟩;obtain rfl:S.set n (cf S n+c)=S2:=Ul.o;go_wp2_with(go_at_call 30;refine(Ub.o _ Qo.o HU.o).mono ?_;clear Ub;rintro e w2 ⟨u2,rfl,ak,an⟩;rw[R8 c (by rw[HS.o.1];omega)]at ak;obtain⟨a3,l3,c3,rfl⟩:=ak.form;have Qh:=Z ak;have Q:=Z (Qy.o.below an);have Qu:=Z (Bt Qw.o an);clear ak an)
      go_meet
      case rel=>exact⟨_,_,_,J,Qh,Q,Qu⟩
     |true=>
      have Ub:=Z λ(V:B) (h1:RowK false V (H a la ca) (Jv S)) (h2:RowK false V (H a2 l2 c2) (Jv (Dv n [c])))=>Rv _ _ _ _ V h1 h2 (HS.o.sqs (by have:=HT.o.1;omega)) (Mj HF.o) ⟨(by have:=Yh S;have:=HS.o.1;omega),(by have:=Mk n c;omega)⟩;obtain rfl:S.set n (cf S n-c)=S2:=Ul.o;go_wp2_with(go_at_call 31;refine(Ub.o _ Qo.o HU.o).mono ?_;clear Ub;rintro e w2 ⟨u2,rfl,ak,an⟩;rw[R9 c (by rw[HS.o.1];omega)]at ak;obtain⟨a3,l3,c3,rfl⟩:=ak.form;have Qh:=Z ak;have Q:=Z (Qy.o.below an);have Qu:=Z (Bt Qw.o an);clear ak an)
      go_meet
      case rel=>exact⟨_,_,_,J,Qh,Q,Qu⟩
    obtain⟨a3,l3,c3,rfl,Qh,Q,Qu⟩:=hcut;clear Qo Qy Qw HU;by_cases ae:DZ (JV (Je s) I) 0=0
    . obtain⟨_,⟨c0,n0⟩,k,hk⟩:=KA (SB _ _) ae;obtain⟨rfl,rfl,rfl⟩:=Uw.o c0 n0 k hk;rw[ae,(XQ hk 0 0).2]at Q;have Qz:=Z (show m<=I/\I<K/\K<=d/\d<=s.size/\s.size-I<f+1 from⟨HT.o.1,(Hd (by rw[Jf];exact hI) hk).1,by rw[<-Qn.o];exact Es _ _,Qg,HT.o.2.1⟩);have Uf:=Z (KD (f:=f) (b:=b) (S:=S) hk);rw[Qn.o,HT.o.2.2,Ul.o]at Uf;clear ae hk;cases ai:JR (Je s) d 43 with
      |true=>
       obtain⟨Qr,Qk,Un⟩:=DQ ai (show JR (Je s) d 45=false from Bool.eq_false_iff.2 λh=>absurd (SA ai h) DG) (show Dj (Je s) f false (d+1) S2=X9 (Je s)by rw[Uf.o,BL ai]);have Ua:d+1<=s.size:=by have:=JZ ai;rw[Jf]at this;omega
       clear ai;have t:=Z λ(V:B) (j:DH V R s (K:Int) 0 0)=>Y9 R s K 0 0 45 V j am hs;rw[show(decide ((0:Int)=0)&&JR (Je s) (DB (Je s) K) 45)=false from by rw[Qn.o];simp[Qk.o],Qn.o]at t;have x:=Z λ(V:B) (j:DH V R s (d:Int) 0 0)=>Yk R s d 0 0 43 V j Qg hs true (by rw[L.o];simp[Qr.o]);rw[L.o]at x;go_wp2_with(first
        |(go_at_call 47;refine(t.o _ Q.o).mono ?_;clear t;rintro e w3 ⟨rfl,W,y⟩;have Qe:=Z (Qh.o.rd Q.o y);have U:=Z W;have Qq:=Z (below_grown Qu.o y (by rw[o.o];exact Aa _));clear W y)
        |(go_at_call 45;refine(x.o _ U.o).mono ?_;clear x;rintro e w4 ⟨rfl,X,z⟩;have Qf:=Z (Qe.o.rd U.o z);have T:=Z X;have Qt:=Z (below_grown Qq.o z (by rw[o.o];exact Aa _));clear X z))
       go_roundw
       case rel=>exact⟨_,d+1,f,m+1,_,_,_,_,J,J,Ua,Z T.o,Z Qf.o,Z Ui.o,Z ⟨by have:=Qz.o;omega,by have:=Qz.o;omega,Un.o⟩,Z Qt.o⟩
       case measure=>
        have e1:=EY (I:=d+1) T.o;have e2:=EY bc.o;rw[e1,e2];have:=Qz.o;omega
      |false=>
       have Qr:=Z ai;cases aj:JR (Je s) d 45 with
       |true=>
        have Qk:=Z aj;have Un:=Z (show Dj (Je s) f true (d+1) S2=X9 (Je s)by rw[Uf.o,BH (show ¬JR (Je s) d 43=true by rw[ai];decide),BL aj]);have Ua:d+1<=s.size:=by have:=JZ aj;rw[Jf]at this;omega
        clear ai aj;have t:=Z λ(V:B) (j:DH V R s (K:Int) 0 0)=>Y9 R s K 0 0 45 V j am hs;rw[show(decide ((0:Int)=0)&&JR (Je s) (DB (Je s) K) 45)=true from by rw[Qn.o];simp[Qk.o],Qn.o]at t;have x:=Z λ(V:B) (j:DH V R s (d:Int) 0 0)=>Yk R s d 0 0 43 V j Qg hs false (by rw[L.o];simp[Qr.o]);rw[L.o]at x;have N:=Z λ(V:B) (j:DH V R s (d:Int) 0 0)=>Yk R s d 0 0 45 V j Qg hs true (by rw[L.o];simp[Qk.o]);rw[L.o]at N;go_wp2_with(first
         |(go_at_call 47;refine(t.o _ Q.o).mono ?_;clear t;rintro e w3 ⟨rfl,W,y⟩;have Qe:=Z (Qh.o.rd Q.o y);have U:=Z W;have Qq:=Z (below_grown Qu.o y (by rw[o.o];exact Aa _));clear W y)
         |(go_at_call 45;refine(x.o _ U.o).mono ?_;clear x;rintro e w4 ⟨rfl,X,z⟩;have Qf:=Z (Qe.o.rd U.o z);have T:=Z X;have Qt:=Z (below_grown Qq.o z (by rw[o.o];exact Aa _));clear X z)
         |(go_at_call 45;refine(N.o _ T.o).mono ?_;clear N;rintro e w5 ⟨rfl,ah,P⟩;have Qj:=Z (Qf.o.rd T.o P);have Qi:=Z ah;have Qv:=Z (below_grown Qt.o P (by rw[o.o];exact Aa _));clear ah P))
        go_roundw
        case rel=>exact⟨_,d+1,f,m+1,_,_,_,_,J,J,Ua,Z Qi.o,Z Qj.o,Z Ui.o,Z ⟨by have:=Qz.o;omega,by have:=Qz.o;omega,Un.o⟩,Z Qv.o⟩
        case measure=>
         have e1:=EY (I:=d+1) Qi.o;have e2:=EY bc.o;rw[e1,e2];have:=Qz.o;omega
       |false=>
        have Qk:=Z aj;by_cases bj:d<s.size
        . have Qm:=Z (show JU (Je s)=([],2,d)by rw[HP.o,Uf.o,BH (show ¬JR (Je s) d 43=true by rw[ai];decide),BH (show ¬JR (Je s) d 45=true by rw[aj];decide),BH (by rw[Jf];omega)];rfl);clear ai aj;have t:=Z λ(V:B) (j:DH V R s (K:Int) 0 0)=>Y9 R s K 0 0 45 V j am hs;rw[show(decide ((0:Int)=0)&&JR (Je s) (DB (Je s) K) 45)=false from by rw[Qn.o];simp[Qk.o],Qn.o]at t;have x:=Z λ(V:B) (j:DH V R s (d:Int) 0 0)=>Yk R s d 0 0 43 V j Qg hs false (by rw[L.o];simp[Qr.o]);rw[L.o]at x;have N:=Z λ(V:B) (j:DH V R s (d:Int) 0 0)=>Yk R s d 0 0 45 V j Qg hs false (by rw[L.o];simp[Qk.o]);rw[L.o]at N;have H8:=Z λ(V:B) (j:DH V R s (d:Int) 0 0)=>Y9 R s d 0 0 32 V j Qg hs;rw[L.o]at H8;have Ug:=Z λ(V:B) (j:DH V R s (d:Int) 0 0)=>Ft R s (d:Int) 0 0 2 (d:Int) V j;have bt:(d:Int)<(s.size:Int):=Y
          go_wp2_with(first
           |(go_at_call 47;refine(t.o _ Q.o).mono ?_;clear t;rintro e w3 ⟨rfl,W,y⟩;have Qe:=Z (Qh.o.rd Q.o y);have U:=Z W;have Qq:=Z (below_grown Qu.o y (by rw[o.o];exact Aa _));clear W y)
           |(go_at_call 45;refine(x.o _ U.o).mono ?_;clear x;rintro e w4 ⟨rfl,X,z⟩;have Qf:=Z (Qe.o.rd U.o z);have T:=Z X;have Qt:=Z (below_grown Qq.o z (by rw[o.o];exact Aa _));clear X z)
           |(go_at_call 45;refine(N.o _ T.o).mono ?_;clear N;rintro e w5 ⟨rfl,ah,P⟩;have Qj:=Z (Qf.o.rd T.o P);have Qi:=Z ah;have Qv:=Z (below_grown Qt.o P (by rw[o.o];exact Aa _));clear ah P)
           |(go_at_call 47;refine(H8.o _ Qi.o).mono ?_;clear H8;rintro e w6 ⟨rfl,A,ad⟩;have Ql:=Z (Qj.o.rd Qi.o ad);have Qp:=Z A;have Ud:=A.c1;have Uh:=A.c2;have Ue:=A.c3;have Qx:=Z (below_grown Qv.o ad (by rw[o.o];exact Aa _));clear A ad)
           |(go_at_call 48;refine(Ug.o _ Qp.o).mono ?_;clear Ug;rintro e w7 ⟨rfl,ap,ay⟩;clear Ud Uh Ue;have Us:w7.cell? ⟨R,2,none⟩=some (D E 2):=ap.c2;have Uu:w7.cell? ⟨R,3,none⟩=some (D E (d:Int)):=ap.c3;have Uk:=Z (below_grown Qx.o ay (by rw[o.o];exact Aa _));clear ap ay))
          go_quiet (fail)
          go_wp2_with fail
          exact BA (v:=.tuple #[H none 0 0,D E 2,D E (d:Int)]) (by simp[results,results10,go_sem]) J ⟨_,_,_,J,D4.bad (e:=2) Qm.o,below_drewN Uk.o _⟩
        . have Qm:=Z (show JU (Je s)=(Jv S2,0,0)by rw[HP.o,Uf.o,BH (show ¬JR (Je s) d 43=true by rw[ai];decide),BH (show ¬JR (Je s) d 45=true by rw[aj];decide),BL (by rw[Jf];omega)];rfl);clear ai aj;have t:=Z λ(V:B) (j:DH V R s (K:Int) 0 0)=>Y9 R s K 0 0 45 V j am hs;rw[show(decide ((0:Int)=0)&&JR (Je s) (DB (Je s) K) 45)=false from by rw[Qn.o];simp[Qk.o],Qn.o]at t;have x:=Z λ(V:B) (j:DH V R s (d:Int) 0 0)=>Yk R s d 0 0 43 V j Qg hs false (by rw[L.o];simp[Qr.o]);rw[L.o]at x;have N:=Z λ(V:B) (j:DH V R s (d:Int) 0 0)=>Yk R s d 0 0 45 V j Qg hs false (by rw[L.o];simp[Qk.o]);rw[L.o]at N;have H8:=Z λ(V:B) (j:DH V R s (d:Int) 0 0)=>Y9 R s d 0 0 32 V j Qg hs;rw[L.o]at H8;have Uy:decide (d<s.size)=false:=BE bj;go_wp2_with(first
           |(go_at_call 47;refine(t.o _ Q.o).mono ?_;clear t;rintro e w3 ⟨rfl,W,y⟩;have Qe:=Z (Qh.o.rd Q.o y);have U:=Z W;have Qq:=Z (below_grown Qu.o y (by rw[o.o];exact Aa _));clear W y)
           |(go_at_call 45;refine(x.o _ U.o).mono ?_;clear x;rintro e w4 ⟨rfl,X,z⟩;have Qf:=Z (Qe.o.rd U.o z);have T:=Z X;have Qt:=Z (below_grown Qq.o z (by rw[o.o];exact Aa _));clear X z)
           |(go_at_call 45;refine(N.o _ T.o).mono ?_;clear N;rintro e w5 ⟨rfl,ah,P⟩;have Qj:=Z (Qf.o.rd T.o P);have Qi:=Z ah;have Qv:=Z (below_grown Qt.o P (by rw[o.o];exact Aa _));clear ah P)
           |(go_at_call 47;refine(H8.o _ Qi.o).mono ?_;clear H8;rintro e w6 ⟨rfl,A,ad⟩;have Ql:=Z (Qj.o.rd Qi.o ad);have Qp:=Z A;have Ud:=A.c1;have Uh:=A.c2;have Ue:=A.c3;have Qx:=Z (below_grown Qv.o ad (by rw[o.o];exact Aa _));clear A ad))
          exact BA (v:=.tuple #[H a3 l3 c3,D E 0,D E 0]) (by simp[results,results10,go_sem]) J ⟨_,_,_,J,D4.ok Qm.o Ui.o (by have:=Qz.o;omega) Ql.o,Qx.o⟩
    . obtain⟨q,hE⟩:=ex (DZ (JV (Je s) I) 0);obtain⟨M,hA⟩:=ex (Dg (JV (Je s) I) 0 0);have Qs:∃e p:Nat,JV (Je s) I=.error e p:=by
       cases hk:JV (Je s) I with
       |error e p=>exact⟨e,p,J⟩
       |ok a k=>exact absurd (XQ hk 0 0).1 ae
      obtain⟨e0,p0,Qs⟩:=Qs;have Uj:=Z (show q=(e0:Int)/\M=(p0:Int)by rw[<-hE,<-hA,Qs];exact⟨J,J⟩);have Qm:=Z (show JU (Je s)=([],e0,p0)by rw[HP.o,<-HT.o.2.2,KC Qs];rfl);rw[hE,hA]at Q;rw[hE]at ae;have ce:(q==0)=false:=by rw[BF];exact ae
      clear hE hA Qs;by_cases bj:d<s.size
      . skip
        have t:=Z λ(V:B) (j:DH V R s (K:Int) q M)=>Y9 R s K q M 45 V j am hs;rw[show(decide ((q:Int)=0)&&JR (Je s) (DB (Je s) K) 45)=false from by simp[ae],Qn.o]at t;have x:=Z λ(V:B) (j:DH V R s (d:Int) q M)=>Yk R s d q M 43 V j Qg hs false (by simp[ae]);rw[L.o]at x;have N:=Z λ(V:B) (j:DH V R s (d:Int) q M)=>Yk R s d q M 45 V j Qg hs false (by simp[ae]);rw[L.o]at N;have H8:=Z λ(V:B) (j:DH V R s (d:Int) q M)=>Y9 R s d q M 32 V j Qg hs;rw[L.o]at H8;have Ug:=Z λ(V:B) (j:DH V R s (d:Int) q M)=>Ft R s (d:Int) q M 2 (d:Int) V j;have bt:(d:Int)<(s.size:Int):=Y
        go_wp2_with(first
         |(go_at_call 47;refine(t.o _ Q.o).mono ?_;clear t;rintro e w3 ⟨rfl,W,y⟩;have Qe:=Z (Qh.o.rd Q.o y);have U:=Z W;have Qq:=Z (below_grown Qu.o y (by rw[o.o];exact Aa _));clear W y)
         |(go_at_call 45;refine(x.o _ U.o).mono ?_;clear x;rintro e w4 ⟨rfl,X,z⟩;have Qf:=Z (Qe.o.rd U.o z);have T:=Z X;have Qt:=Z (below_grown Qq.o z (by rw[o.o];exact Aa _));clear X z)
         |(go_at_call 45;refine(N.o _ T.o).mono ?_;clear N;rintro e w5 ⟨rfl,ah,P⟩;have Qj:=Z (Qf.o.rd T.o P);have Qi:=Z ah;have Qv:=Z (below_grown Qt.o P (by rw[o.o];exact Aa _));clear ah P)
         |(go_at_call 47;refine(H8.o _ Qi.o).mono ?_;clear H8;rintro e w6 ⟨rfl,A,ad⟩;have Ql:=Z (Qj.o.rd Qi.o ad);have Qp:=Z A;have Ud:=A.c1;have Uh:=A.c2;have Ue:=A.c3;have Qx:=Z (below_grown Qv.o ad (by rw[o.o];exact Aa _));clear A ad)
         |(go_at_call 48;refine(Ug.o _ Qp.o).mono ?_;clear Ug;rintro e w7 ⟨rfl,ap,ay⟩;clear Ud Uh Ue;have Us:=ap.c2;have Uu:=ap.c3;rw[BH ae]at Us;rw[BH ae]at Uu;have Uk:=Z (below_grown Qx.o ay (by rw[o.o];exact Aa _));clear ap ay))
        go_quiet (fail)
        go_wp2_with fail
        exact BA (v:=.tuple #[H none 0 0,D E q,D E M]) (by simp[results,results10,go_sem]) J ⟨_,_,_,J,by rw[Uj.o.1,Uj.o.2];exact D4.bad Qm.o,below_drewN Uk.o _⟩
      . skip
        have t:=Z λ(V:B) (j:DH V R s (K:Int) q M)=>Y9 R s K q M 45 V j am hs;rw[show(decide ((q:Int)=0)&&JR (Je s) (DB (Je s) K) 45)=false from by simp[ae],Qn.o]at t;have x:=Z λ(V:B) (j:DH V R s (d:Int) q M)=>Yk R s d q M 43 V j Qg hs false (by simp[ae]);rw[L.o]at x;have N:=Z λ(V:B) (j:DH V R s (d:Int) q M)=>Yk R s d q M 45 V j Qg hs false (by simp[ae]);rw[L.o]at N;have H8:=Z λ(V:B) (j:DH V R s (d:Int) q M)=>Y9 R s d q M 32 V j Qg hs;rw[L.o]at H8;have Uy:decide (d<s.size)=false:=BE bj;go_wp2_with(first
         |(go_at_call 47;refine(t.o _ Q.o).mono ?_;clear t;rintro e w3 ⟨rfl,W,y⟩;have Qe:=Z (Qh.o.rd Q.o y);have U:=Z W;have Qq:=Z (below_grown Qu.o y (by rw[o.o];exact Aa _));clear W y)
         |(go_at_call 45;refine(x.o _ U.o).mono ?_;clear x;rintro e w4 ⟨rfl,X,z⟩;have Qf:=Z (Qe.o.rd U.o z);have T:=Z X;have Qt:=Z (below_grown Qq.o z (by rw[o.o];exact Aa _));clear X z)
         |(go_at_call 45;refine(N.o _ T.o).mono ?_;clear N;rintro e w5 ⟨rfl,ah,P⟩;have Qj:=Z (Qf.o.rd T.o P);have Qi:=Z ah;have Qv:=Z (below_grown Qt.o P (by rw[o.o];exact Aa _));clear ah P)
         |(go_at_call 47;refine(H8.o _ Qi.o).mono ?_;clear H8;rintro e w6 ⟨rfl,A,ad⟩;have Ql:=Z (Qj.o.rd Qi.o ad);have Qp:=Z A;have Ud:=A.c1;have Uh:=A.c2;have Ue:=A.c3;have Qx:=Z (below_grown Qv.o ad (by rw[o.o];exact Aa _));clear A ad))
        go_quiet (fail)
        go_wp2_with fail
        exact BA (v:=.tuple #[H none 0 0,D E q,D E M]) (by simp[results,results10,go_sem]) J ⟨_,_,_,J,by rw[Uj.o.1,Uj.o.2];exact D4.bad Qm.o,below_drewN Qx.o _⟩
def DL(W:B)(R:Nat)(s:ByteArray)(I:Int):Prop:=W.heap[R]?=some (.cells #[G s,.int E I] 124 (0,0))
section
variable {W W':World} {R:Nat} {s:ByteArray} {I:Int}
def DL.lt(h:DL W R s I):R<W.heap.size:=(Ab.1 h).1
def DL.c0(h:DL W R s I):W.cell? ⟨R,0,none⟩=some (G s):=by simp[World.cell?,show W.heap[R]?=_ from h]
def DL.c1(h:DL W R s I):W.cell? ⟨R,1,none⟩=some (D E I):=by simp[World.cell?,show W.heap[R]?=_ from h]
def DL.cp(h:DL W R s I):type_of% (And.intro h.c0 h.c1):=⟨h.c0,h.c1⟩
def DL.f(h:DL W R s I)(o:Nat):W.frozen? ⟨R,o,none⟩=false:=by simp[World.frozen?,show W.heap[R]?=_ from h]
def DL.below(h:DL W R s I)(a:Bl W W'):DL W' R s I:=(a.block R h.lt).trans h
def DL.set1(h:DL W R s I)(x:Int):DL (W.setCell ⟨R,1,none⟩ (D E x)) R s x:=by
 have:=JH (o:=1) h (D E x);exact this
def DL.drewN(h:DL W R s I)(n:Nat):DL (W.drewN n) R s I:=h
theorem Eo(h:DL W R s I){cs:Array Value}{t:TypeId}{m:Nat × Nat}{b:Nat}(a:W.heap[b]?=some (.cells cs t m))(c:t≠124):b≠R:=by
 intro e;subst e;have:=a.symm.trans h;grind
theorem KE(h:DL W R s I)(hg:W.grownBy W' (some R)):∀k v ds,Row k W v ds->Row k W' v ds:=by
 intro k v ds c;obtain⟨a,cap,e,_⟩:=id c;subst e;refine c.grown hg λp f hl=>?_;obtain⟨b,i,d,cs,m,g⟩:=c.typ hl;grind[Eo]
end
def FC{W:B}{R:Nat}{s:ByteArray}{I:Nat}(h:DL W R s I):Dx W R=I:=by
 unfold Dx;rw[h.c1];simp[intOf]
def Ml(c:UInt8)(w:B):Calls Tryz.prog 181 #[D .u8 (c.toNat:Int)] w λr e=>r=.returned (F (DI c))/\e=w:=by
 by_cases b:48<=c.toNat
 . have f:decide ((48:Int)<=(c.toNat:Int))=true:=BI Y;by_cases d:c.toNat<=57
   . have a:=Z (show DI c=true by simp[DI,b,d]);go_enter func181,ntmps181
     go_wp2;go_ret;exact⟨by rw[a.o];simp;omega,J⟩
   . have a:=Z (show DI c=false by simp[DI,d]);go_enter func181,ntmps181
     go_wp2;go_ret;exact⟨by rw[a.o];simp;omega,J⟩
 . have a:=Z (show DI c=false by simp[DI,b]);go_enter func181,ntmps181
   go_wp2;go_ret;exact⟨by rw[a.o];rfl,J⟩
def KF(R:Nat)(s:ByteArray)(I:Nat)(w:B)(h:DL w R s I)(z:I<=s.size)(hs:s.size<=300):
 Calls Tryz.prog 122 #[C (some ⟨R,0,none⟩)] w λr q=>r=.returned (F (decide (DB (Je s) I=s.size)))/\DL q R s (DB (Je s) I:Nat)/\w.grownBy q (some R):=by
 have t:=Z h;clear h;go_enter func122,ntmps122
 go_wp2;go_loopw [] (λwr=>∃j:Nat,I<=j/\j<=s.size/\Hid (DL wr R s j/\w.grownBy wr (some R)/\∀k (c:k<s.size),I<=k->k<j->s[k]=32)) λwr=>s.size-Dx wr R
 case atStart=>exact⟨I,Aa _,z,Z ⟨t.o,J6 _ _,λk _ n o=>by omega⟩⟩
 case round=>
  obtain⟨j,n,o,a⟩:=hrel;obtain⟨c0,c1⟩:=a.o.1.cp;have f1:=a.o.1.f 1;by_cases K:j<s.size
  . have Q:(j:Int)<(s.size:Int):=Y
    have P:(0:Int)<=(j:Int):=Y
    by_cases b:s[j]=32
    . have A:((s[j].toNat:Int)==32)=true:=by rw[b];rfl
      have y:=Z b;clear b;go_wp2_with fail
      go_quiet (fail)
      go_wp2;go_roundw
      case rel=>
       refine⟨j+1,Y,Y,Z ⟨?_,Jd (Jd a.o.2.1 (Jr _ _ _)) (Ju _ R 1 _),λk c g i=>?_⟩⟩
       . have:=(a.o.1.drewN nq).set1 ((j:Int)+1);rw[show((j:Int)+1)=((j+1:Nat):Int)from by omega]at this;exact this
       . by_cases e:k=j
         . subst e;exact y.o
         . exact a.o.2.2 k c g Y
      case measure=>
       have L:=FC a.o.1;have M:Dx ((wr.drewN nq).setCell ⟨R,1,none⟩ (D E ((j:Int)+1))) R=j+1:=by
        have:=(a.o.1.drewN nq).set1 ((j:Int)+1);rw[show((j:Int)+1)=((j+1:Nat):Int)from by omega]at this ⊢;exact FC this
       omega
    . have A:((s[j].toNat:Int)==32)=false:=Gg (d:=32) b;have f:=Z (show DB (Je s) I=j from Gh n o (λk c g i=>by rw[a.o.2.2 k c g i];rfl) λ_=>BF.2 b);have u:¬j=s.size:=Y
      have x:((j:Int)==(s.size:Int))=false:=DN
      clear b;go_wp2_with fail
      go_quiet (fail)
      go_wp2;have m:=Z (show w.grownBy (wr.drewN nq) (some R)from Jd a.o.2.1 (Jr _ _ _));have l:=Z (a.o.1.drewN nq);go_quiet (fail)
      go_wp2;go_ret;exact⟨by rw[f.o];simp[u],by rw[f.o];exact l.o.drewN _,Jd m.o (Jr _ _ _)⟩
  . have p:j=s.size:=Y
    have N:=BE Y;have f:=Z (show DB (Je s) I=j from Gh n o (λk c g i=>by rw[a.o.2.2 k c g i];rfl) λh=>by omega);have x:((j:Int)==(s.size:Int))=true:=DN
    have v:=Z p;clear K p;go_wp2_with fail
    go_quiet (fail)
    go_wp2;have m:=Z (show w.grownBy (wr.drewN nq) (some R)from Jd a.o.2.1 (Jr _ _ _));have l:=Z (a.o.1.drewN nq);go_quiet (fail)
    go_wp2;go_ret;exact⟨by rw[f.o];simp[v.o],by rw[f.o];exact l.o.drewN _,Jd m.o (Jr _ _ _)⟩
end
def XG(e p:Int):Value:=.iface 77 (.agg #[.int E e,.int E p])
def Fu(v:Value)(e p:Int)(w:B):Calls Tryz.prog 123 #[v,D E e,D E p] w λr a=>r=.panicked [{ v:=XG e p,recovered:=false }]/\a=w:=by
 go_enter func123,ntmps123
 go_wp2;exact⟨J,J,J⟩
section
open M3
def Dt(w V:B)(R:Nat)(s:ByteArray)(I:Int):Prop:=DL V R s I/\w.grownBy V (some R)
def Dt.below{w V V':B}{R:Nat}{s:ByteArray}{I:Int}(h:Dt w V R s I)(a:Bl V V'):Dt w V' R s I:=⟨h.1.below a,Jd h.2 (JJ a _)⟩
variable{j:Nat}
theorem XS(R:Nat)(s:ByteArray)(I:Nat)(c:UInt8)(w:B)(h:DL w R s I)(y:I<=s.size)(hs:s.size<=300)(b:Bool)(i:b=JR (Je s) (DB (Je s) I) c):
 Calls Tryz.prog 120 #[C (some ⟨R,0,none⟩),D .u8 (c.toNat:Int)] w λr u=>r=.returned (F b)/\DL u R s ((DB (Je s) I+(if b then 1 else 0):Nat):Int)/\w.grownBy u (some R):=by
 have d:=Z λ(V:B) (z:DL V R s I)=>KF R s I V z y hs;obtain⟨j,q⟩:=ex (DB (Je s) I);have A:j<=s.size:=by grind[Jf,J9]
 rw[q]at d i ⊢;have n:=Z h;clear h q;by_cases l:j=s.size
 . obtain rfl:b=false:=by rw[i];exact Ma Y
   rw[show decide (j=s.size)=true from BI l]at d;clear i l;go_enter func120,ntmps120
   go_wp2_with fail
   have m:Dt w w.drew R s I:=⟨n.o,J,J,J,Aa _,λ_ _ _=>rfl⟩;refine ED Di [[],[0],[1],[1,2],[1,2,3],[1,2,4],[1,2,5],[1,2],[1,2,7],[1,2,8],[1,2,9],[1,2,6,10],[1,2],[1,2,11,12],[1,2,13]] [.eq (C (some ⟨R,0,none⟩)),.eq (F true),.eq (F true),.any,.any,.any,.any,.any,.any,.any,.any,.any,.any,.any,.eq (F true)] [1] (λb _ V=>Dt w V R s (if b.getD 0 false then(j:Int)else I)) m (WB (.vl J λ_ _=>mv)<|WB (.cw λh k=>c1 (h.e 0) ((d.o _ k.1).mono λ_ _ ⟨e,r,g⟩=>⟨_,e,J,GT,r,Jd k.2 g⟩))<|WB (.vl J λh _=>mw (h.g 1))<|WB (.no J λh=>Yg 2 false h)<|WB (.no J λh=>Yg 2 false h)<|WB (.no J λh=>Yg 2 false h)<|WB (.no J λh=>Yg 2 false h)<|WB (.no J λh=>Yg 2 false h)<|WB (.no J λh=>Yg 2 false h)<|WB (.no J λh=>Yg 2 false h)<|WB (.no J λh=>Yg 2 false h)<|WB (.no J λh=>Yg 2 false h)<|WB (.no J λh=>Yg 2 false h)<|WB (.no J λh=>Yg 2 false h)<|WB (.vl J λh _=>⟨_,by refine DO ?_;rw[h.e 2];go_simp,J⟩) Stp.end_)
    λf V hF a=>?_
   refine DO ?_;have a:Dt w V R s (j:Int):=a;rw[hF.e 0,hF.e 1,hF.e 2,hF.e 14];replace a:=Z a;clear hF;go_wp2_with fail
   go_ret;exact⟨J,a.o.1,a.o.2⟩
 . have v:j<s.size:=Y
   have K:(j:Int)<(s.size:Int):=Y
   rw[show decide (j=s.size)=false from BE l]at d;rw[MZ v]at i;obtain⟨nb,t⟩:=ex (((s[j].toNat:Int) != (c.toNat:Int)));have o:=Z (show nb=!b by
    grind[Gg])
   have x:=Z t;clear i l t;go_enter func120,ntmps120
   go_wp2_with fail
   have m:Dt w w.drew R s I:=⟨n.o,J,J,J,Aa _,λ_ _ _=>rfl⟩;refine ED Di [[],[0],[1],[1,2],[1,2,3],[1,2,4],[1,2,5],[1,2],[1,2,7],[1,2,8],[1,2,9],[1,2,6,10],[1,2],[1,2,11,12],[1,2,13]] [.eq (C (some ⟨R,0,none⟩)),.eq (F false),.eq (F false),.eq (C (some ⟨R,0,none⟩)),.eq (C (some ⟨R,0,none⟩)),.eq (C (some ⟨R,0,none⟩)),.eq (G s),.eq (C (some ⟨R,0,none⟩)),.eq (C (some ⟨R,0,none⟩)),.eq (C (some ⟨R,1,none⟩)),.eq (D E (j:Int)),.eq (D .u8 (s[j].toNat:Int)),.eq (D .u8 (c.toNat:Int)),.eq (F nb),.eq (F nb)] [1] (λb _ V=>Dt w V R s (if b.getD 0 false then(j:Int)else I)) m (WB (.vl J λ_ _=>mv)<|WB (.cw λh k=>c1 (h.e 0) ((d.o _ k.1).mono λ_ _ ⟨e,r,g⟩=>⟨_,e,J,GT,r,Jd k.2 g⟩))<|WB (.vl J λh _=>mw (h.g 1))<|WB (.vl J (λ_ _=>mv) (hg:=λh=>Yg 2 false h))<|WB (.vl J (λh _=>⟨_,by refine DO ?_;rw[h.e 3];go_simp,J⟩) (hg:=λh=>Yg 2 false h))<|WB (.vl J (λh _=>⟨_,by refine DO ?_;rw[h.e 4];go_simp,J⟩) (hg:=λh=>Yg 2 false h))<|WB (.vl J (λh k=>⟨_,by have p:=k.1.c0;refine DO ?_;rw[h.e 5];go_simp,J⟩) (hg:=λh=>Yg 2 false h))<|WB (.vl J (λ_ _=>mv) (hg:=λh=>Yg 2 false h))<|WB (.vl J (λh _=>⟨_,by refine DO ?_;rw[h.e 7];go_simp,J⟩) (hg:=λh=>Yg 2 false h))<|WB (.vl J (λh _=>⟨_,by refine DO ?_;rw[h.e 8];go_simp,J⟩) (hg:=λh=>Yg 2 false h))<|WB (.vl J (λh k=>⟨_,by have p:=DL.c1 (I:=(j:Int)) k.1;refine DO ?_;rw[h.e 9];go_simp,J⟩) (hg:=λh=>Yg 2 false h))<|WB (.vl J (λh _=>⟨_,by refine DO ?_;rw[h.e 6,h.e 10];go_simp,J⟩) (hg:=λh=>Yg 2 false h))<|WB (.vl J (λ_ _=>mv) (hg:=λh=>Yg 2 false h))<|WB (.vl J (λh _=>⟨_,by have p:=x.o;refine DO ?_;rw[h.e 11,h.e 12];go_simp,J⟩) (hg:=λh=>Yg 2 false h))<|WB (.vl J λh _=>⟨_,by refine DO ?_;rw[h.e 2,h.e 13];go_simp,J⟩) Stp.end_)
    λf V hF a=>?_
   refine DO ?_;have a:Dt w V R s (j:Int):=a;rw[hF.e 0,hF.e 1,hF.e 2,hF.e 3,hF.e 4,hF.e 5,hF.e 6,hF.e 7,hF.e 8,hF.e 9,hF.e 10,hF.e 11,hF.e 12,hF.e 13,hF.e 14];replace a:=Z a;clear hF;have c1:=a.o.1.c1;have f1:=a.o.1.f 1;cases b with
   |true=>
    obtain rfl:nb=false:=o.o;go_wp2_with fail
    go_ret;exact⟨J,a.o.1.set1 _,Jd a.o.2 (Ju _ R 1 _)⟩
   |false=>
    obtain rfl:nb=true:=o.o;go_wp2_with fail
    go_ret;exact⟨J,a.o.1,a.o.2⟩
def SF(c:UInt8)(w:B):Calls Tryz.prog 181 #[D .u8 (c.toNat:Int)] w λr a=>r=.returned (F (DI c))/\Bl w a:=by
 refine(Ml c w).mono ?_;rintro e a ⟨rfl,rfl⟩;exact⟨J,BB _ _⟩
def Mm{s:ByteArray}(a:j<s.size):D5 (Je s) j=DI s[j]:=by
 unfold D5;rw[Ak (by rw[Jf];exact a)];rfl
theorem Mn{s:ByteArray}(a:s.size<=j):D5 (Je s) j=false:=by
 grind[D5,Jf]
theorem Mo(R:Nat)(s:ByteArray)(I:Nat)(w:B)(h:DL w R s I)(u:I<=s.size)(hs:s.size<=300):
 Calls Tryz.prog 154 #[C (some ⟨R,0,none⟩)] w λr p=>r=.returned (F (D5 (Je s) (DB (Je s) I)))/\DL p R s (DB (Je s) I:Nat)/\w.grownBy p (some R):=by
 have c:=Z λ(V:B) (v:DL V R s I)=>KF R s I V v u hs;obtain⟨j,o⟩:=ex (DB (Je s) I);have x:j<=s.size:=by grind[Jf,J9]
 rw[o]at c ⊢;have l:=Z h;clear h o;by_cases d:j=s.size
 . rw[Mn (by omega:s.size<=j)];rw[show decide (j=s.size)=true from BI d]at c;clear d;go_enter func154,ntmps154
   go_wp2_with fail
   have i:Dt w w.drew R s I:=⟨l.o,J,J,J,Aa _,λ_ _ _=>rfl⟩;refine ED Di [[],[0],[1],[1,2],[1,3],[1,3,4],[1,3,5],[1,3,6],[1,3],[1,3,8],[1,3,9],[1,3,10],[1,3,7,11],[1,3,12],[1,3,13],[1,14]] [.eq (C (some ⟨R,0,none⟩)),.eq (F true),.eq (F false),.eq (F false),.any,.any,.any,.any,.any,.any,.any,.any,.any,.any,.eq (F false),.eq (F false)] [1] (λb _ V=>Dt w V R s (if b.getD 0 false then(j:Int)else I)) i (WB (.vl J λ_ _=>mv)<|WB (.cw λh k=>c1 (h.e 0) ((c.o _ k.1).mono λ_ _ ⟨e,r,g⟩=>⟨_,e,J,GT,r,Jd k.2 g⟩))<|WB (.vl J λh _=>⟨_,by refine DO ?_;rw[h.e 1];go_simp,J⟩)<|WB (.vl J λh _=>mw (h.g 2))<|WB (.no J λh=>Yg 3 true h)<|WB (.no J λh=>Yg 3 true h)<|WB (.no J λh=>Yg 3 true h)<|WB (.no J λh=>Yg 3 true h)<|WB (.no J λh=>Yg 3 true h)<|WB (.no J λh=>Yg 3 true h)<|WB (.no J λh=>Yg 3 true h)<|WB (.no J λh=>Yg 3 true h)<|WB (.no J λh=>Yg 3 true h)<|WB (.no J λh=>Yg 3 true h)<|WB (.vl J λh _=>⟨_,by refine DO ?_;rw[h.e 3];go_simp,J⟩)<|WB (.vl J λh _=>aw (h.g 14)) Stp.end_)
    λf V hF a=>?_
   refine DO ?_;have a:Dt w V R s (j:Int):=a;rw[hF.e 0,hF.e 1,hF.e 2,hF.e 3,hF.e 14,hF.e 15];replace a:=Z a;clear hF;go_wp2_with fail
   go_ret;exact⟨J,a.o.1,a.o.2⟩
 . have q:j<s.size:=Y
   have y:(j:Int)<(s.size:Int):=Y
   rw[show decide (j=s.size)=false from BE d]at c;rw[Mm q];have m:=Z λ(V:B)=>SF s[j] V;obtain⟨dg,n⟩:=ex (DI s[j]);rw[n]at m ⊢;clear d n;go_enter func154,ntmps154
   go_wp2_with fail
   have i:Dt w w.drew R s I:=⟨l.o,J,J,J,Aa _,λ_ _ _=>rfl⟩;refine ED Di [[],[0],[1],[1,2],[1,3],[1,3,4],[1,3,5],[1,3,6],[1,3],[1,3,8],[1,3,9],[1,3,10],[1,3,7,11],[1,3,12],[1,3,13],[1,14]] [.eq (C (some ⟨R,0,none⟩)),.eq (F false),.eq (F true),.eq (F true),.eq (C (some ⟨R,0,none⟩)),.eq (C (some ⟨R,0,none⟩)),.eq (C (some ⟨R,0,none⟩)),.eq (G s),.eq (C (some ⟨R,0,none⟩)),.eq (C (some ⟨R,0,none⟩)),.eq (C (some ⟨R,1,none⟩)),.eq (D E (j:Int)),.eq (D .u8 (s[j].toNat:Int)),.eq (F dg),.eq (F dg),.eq (F dg)] [1] (λb _ V=>Dt w V R s (if b.getD 0 false then(j:Int)else I)) i (WB (.vl J λ_ _=>mv)<|WB (.cw λh k=>c1 (h.e 0) ((c.o _ k.1).mono λ_ _ ⟨e,r,g⟩=>⟨_,e,J,GT,r,Jd k.2 g⟩))<|WB (.vl J λh _=>⟨_,by refine DO ?_;rw[h.e 1];go_simp,J⟩)<|WB (.vl J λh _=>mw (h.g 2))<|WB (.vl J (λ_ _=>mv) (hg:=λh=>Yg 3 true h))<|WB (.vl J (λh _=>⟨_,by refine DO ?_;rw[h.e 4];go_simp,J⟩) (hg:=λh=>Yg 3 true h))<|WB (.vl J (λh _=>⟨_,by refine DO ?_;rw[h.e 5];go_simp,J⟩) (hg:=λh=>Yg 3 true h))<|WB (.vl J (λh k=>⟨_,by have t:=k.1.c0;refine DO ?_;rw[h.e 6];go_simp,J⟩) (hg:=λh=>Yg 3 true h))<|WB (.vl J (λ_ _=>mv) (hg:=λh=>Yg 3 true h))<|WB (.vl J (λh _=>⟨_,by refine DO ?_;rw[h.e 8];go_simp,J⟩) (hg:=λh=>Yg 3 true h))<|WB (.vl J (λh _=>⟨_,by refine DO ?_;rw[h.e 9];go_simp,J⟩) (hg:=λh=>Yg 3 true h))<|WB (.vl J (λh k=>⟨_,by have t:=DL.c1 (I:=(j:Int)) k.1;refine DO ?_;rw[h.e 10];go_simp,J⟩) (hg:=λh=>Yg 3 true h))<|WB (.vl J (λh _=>⟨_,by refine DO ?_;rw[h.e 7,h.e 11];go_simp,J⟩) (hg:=λh=>Yg 3 true h))<|WB (.cl (λh _=>c1 (h.e 12) (rv (m.o _))) (hg:=λh=>Yg 3 true h))<|WB (.vl J λh _=>⟨_,by refine DO ?_;rw[h.e 3,h.e 13];go_simp,J⟩)<|WB (.vl J λh _=>aw (h.g 14)) Stp.end_)
    λf V hF a=>?_
   refine DO ?_;have a:Dt w V R s (j:Int):=a;rw[hF.e 0,hF.e 1,hF.e 2,hF.e 3,hF.e 4,hF.e 5,hF.e 6,hF.e 7,hF.e 8,hF.e 9,hF.e 10,hF.e 11,hF.e 12,hF.e 13,hF.e 14,hF.e 15];replace a:=Z a;clear hF;go_wp2_with fail
   go_ret;exact⟨J,a.o.1,a.o.2⟩
end
def DP(ds:List UInt8):List UInt8:=if Lib.trimLeftB ds 48=[]then [48]else Lib.trimLeftB ds 48
def SH(w:B)(R:Nat)(s:ByteArray)(I:Nat)(r:Ending)(a:B):Prop:=
 w.grownBy a (some R)/\(∀e q,JI (Je s) I=.error e q->r=.panicked [{ v:=XG e q,recovered:=false }])/\(∀ds q k,JI (Je s) I=.ok (ds,q) k->r=.returned (.tuple #[G ⟨(DP ds).toArray⟩,.int E (q:Int)])/\DL a R s (k:Int))
variable{ds:List UInt8}
theorem Mp(s:ByteArray)(p d:Nat):(s.extract p (p+d)).data.toList=((Je s).drop p).take d:=by
 grind[Je,ByteArray.data_extract,Array.toList_extract]
theorem KG(R:Nat)(s:ByteArray)(I:Nat)(w:B)(h:DL w R s I)(hI:I<=s.size)(hs:s.size<=300):
 Calls Tryz.prog 182 #[C (some ⟨R,0,none⟩)] w λr w'=>SH w R s I r w':=by
 obtain⟨p,hp⟩:=ex (DB (Je s) I);have A:=Z (Mo R s I w h hI hs);rw[hp]at A;have Qv:p<=s.size:=by grind[Jf,J9]
 have X:=Z hp;have Q:=Z λ(e q:Int) (V:B)=>Fu (C (some ⟨R,0,none⟩)) e q V;clear h hI hp;cases T:D5 (Je s) p with
 |false=>
  have m:=Z (show JI (Je s) I=.error 2 p by unfold JI;rw[X.o,BL (Mf T)]);rw[T]at A;clear T;go_enter func182,ntmps182
  go_wp2_with first
   |(go_at_call 154;refine A.o.mono ?_;clear A;rintro e w1 ⟨rfl,U,ad⟩;have c1:=U.c1;have Qn:=Z ad;clear U ad)
   |(go_at_call 123;refine(Q.o _ _ _).mono ?_;clear Q;rintro e W ⟨rfl,rfl⟩)
  refine⟨J,Qn.o,λe q a=>?_,λds q k a=>?_⟩
  . rw[m.o]at a;cases a;rfl
  . rw[m.o]at a;cases a
 |true=>
  rw[T]at A;have Qi:=Z T;clear T;go_enter func182,ntmps182
  go_upto_region 4 with first
   |(go_at_call 154;refine A.o.mono ?_;clear A;rintro e w1 ⟨rfl,U,ad⟩;have Qu:=Z U;have c1:=U.c1;have Qn:=Z ad;clear U ad)
  go_loopw [] (λwr=>∃d:Nat,p+d<=s.size/\Hid (DL wr R s ((p+d:Nat):Int)/\w.grownBy wr (some R)/\∃n,J7 (Je s) p d n)) λwr=>s.size-Dx wr R
  case atStart=>exact⟨0,Y,Z ⟨Qu.o,Qn.o,0,J7.zero (by rw[Jf];exact Qv)⟩⟩
  case round=>
   clear c1;obtain⟨d,ak,g⟩:=hrel;obtain⟨j,hj⟩:∃j,j=p+d:=⟨_,J⟩;have c:=Z hj;rw[<-hj]at ak g;clear hj;obtain⟨c0,c1⟩:=g.o.1.cp;have f1:=g.o.1.f 1;by_cases ap:j<s.size
   . have aq:(j:Int)<(s.size:Int):=Y
     have an:(0:Int)<=(j:Int):=Y
     have HX:=Z (Ml s[j]);by_cases z:DI s[j]=true
     . rw[z]at HX;have Qq:=Z z;clear z;go_wp2_with fail
       go_quiet ((go_at_call 181;exact Calls.quiet_of_same (HX.o _)))
       have Qr:=Z (FC g.o.1);go_wp2_with fail
       go_roundw
       case rel=>
        refine⟨d+1,?_,Z ⟨?_,?_,?_⟩⟩
        . have:=c.o;omega
        . have:=(g.o.1.drewN nq).set1 ((j:Int)+1);rw[show((j:Int)+1)=((p+(d+1):Nat):Int)from by have:=c.o;omega]at this ⊢;exact this
        . exact Jd (Jd g.o.2.1 (Jr _ _ _)) (Ju _ R 1 _)
        . obtain⟨n,hn⟩:=g.o.2.2;by_cases ai:d<12
          . exact⟨_,hn.next1 (by rw[Jf];have:=c.o;omega) (by simp only[<-c.o];exact Qq.o) ai⟩
          . exact⟨_,hn.next2 (by rw[Jf];have:=c.o;omega) (by simp only[<-c.o];exact Qq.o) Y⟩
       case measure=>
        have e2:=FC ((g.o.1.drewN nq).set1 ((j+1:Nat):Int));rw[show((j+1:Nat):Int)=(j:Int)+1 from by omega]at e2;rw[e2,Qr.o];omega
     . have z:=Bool.eq_false_iff.2 z;rw[z]at HX;have M:=Z (show Df (Je s) p=j by rw[c.o];exact g.o.2.2.choose_spec.dg λhl=>by simp only[<-c.o];exact z);clear z;go_wp2_with fail
       go_quiet ((go_at_call 181;exact Calls.quiet_of_same (HX.o _)))
       obtain⟨Qh,HG,Qw⟩:=DQ (g.o.1.drewN nq) (show w.grownBy (wr.drewN nq) (some R)from Jd g.o.2.1 (Jr _ _ _)) g.o.2.2;have Qx:d≠0:=λe=>by
        have b:=M.o;have h6:=c.o;rw[e,AU]at h6;have N:=Qi.o;have h8:=Hb (f:=DI) (l:=Je s) (i:=p);rw[show Yy DI (Je s) p=j from b]at h8;rw[<-h6]at N;by_cases h9:j<s.size
        . have:=h8 (by rw[Jf];exact h9);rw[Mm h9]at N;exact absurd (this.symm.trans N) DG
        omega
       have Qt:(p:Int)<=(j:Int):=by have:=c.o;omega
       have Qp:p<=j:=by have:=c.o;omega
       obtain⟨o,P⟩:=ex (s.extract p j);have Qs:o.size=d:=by rw[<-P,A7];have:=c.o;omega
       have Ql:=Z P;obtain⟨ae,ah⟩:=Qh.o.cp;go_wp2_with fail
       go_quiet (fail)
       have K:=Z (show ∀u,w.grownBy (wr.drewN u) (some R)from λu=>Jd g.o.2.1 (Jr _ _ _));have Qg:=Z (show ∀u,DL (wr.drewN u) R s (j:Int)from λu=>g.o.1.drewN u);clear P ae ah c0 c1;have Qj:¬j=p:=by have:=c.o;omega
       have Qm:=Z (show o.data.toList=((Je s).drop p).take (j-p)by rw[<-Ql.o,c.o,Mp,show p+d-p=d from by omega]);by_cases ai:12<d
       . have aj:(12:Int)<(d:Int):=Y
         have m:=Z (show JI (Je s) I=.error 3 p by unfold JI;rw[X.o,M.o,BH Qj,BL (by have:=c.o;omega)]);go_wp2_with(go_at_call 123;refine(Q.o _ _ _).mono ?_;clear Q;rintro e W ⟨rfl,rfl⟩)
         refine⟨J,K.o _,λe q a=>?_,λds q k a=>?_⟩
         . rw[m.o]at a;cases a;rfl
         . rw[m.o]at a;cases a
       . have aj:¬(12:Int)<(d:Int):=Y
         have m:=Z (show JI (Je s) I=.ok (o.data.toList,p) j by unfold JI;rw[X.o,M.o,BH Qj,BH (by have:=c.o;omega),Qm.o]);have x:=Z λ(V:B)=>Tryz.strings_TrimLeft_one o 48 DG V;obtain⟨y,t⟩:∃S:ByteArray,⟨(Lib.trimLeftB o.data.toList 48).toArray⟩=S:=⟨_,J⟩;rw[t]at x;have Qo:=Z t;by_cases a:Lib.trimLeftB o.data.toList 48=[]
         . have Qk:y=⟨#[]⟩:=by rw[<-t,a]
           have L:=Z (show DP o.data.toList=[48]by unfold DP;rw[BL a]);clear t a Qo;subst Qk;go_wp2_with(go_at_call 200;refine(x.o _).mono ?_;clear x;rintro e W ⟨rfl,rfl⟩)
           refine BA (v:=.tuple #[G ⟨#[48]⟩,D E (p:Int)]) (by simp[results,results182,go_sem]) J ⟨K.o _,λe q b=>?_,λds q k b=>?_⟩
           . rw[m.o]at b;cases b
           . rw[m.o]at b;cases b;exact⟨by rw[L.o],Qg.o _⟩
         . have Qk:y.toList.isEmpty=false:=by
            rw[<-t,YO];simpa using a
           have L:=Z (show(⟨(DP o.data.toList).toArray⟩:ByteArray)=y by unfold DP;rw[BH a];exact t);clear t a;go_wp2_with(go_at_call 200;refine(x.o _).mono ?_;clear x;rintro e W ⟨rfl,rfl⟩)
           refine BA (v:=.tuple #[G y,D E (p:Int)]) (by simp[results,results182,go_sem]) J ⟨K.o _,λe q b=>?_,λds q k b=>?_⟩
           . rw[m.o]at b;cases b
           . rw[m.o]at b;cases b;exact⟨by rw[L.o],Qg.o _⟩
   . have M:=Z (show Df (Je s) p=j by rw[c.o];exact g.o.2.2.choose_spec.dg λhl=>absurd hl (by rw[Jf];have:=c.o;omega));have am:=BE Y;go_wp2_with fail
     go_quiet (fail)
     obtain⟨Qh,HG,Qw⟩:=DQ (g.o.1.drewN nq) (show w.grownBy (wr.drewN nq) (some R)from Jd g.o.2.1 (Jr _ _ _)) g.o.2.2;have Qx:d≠0:=λe=>by
      have b:=M.o;have h6:=c.o;rw[e,AU]at h6;have N:=Qi.o;have h8:=Hb (f:=DI) (l:=Je s) (i:=p);rw[show Yy DI (Je s) p=j from b]at h8;rw[<-h6]at N;by_cases h9:j<s.size
      . omega
      . rw[Mn Y]at N;cases N
     have Qt:(p:Int)<=(j:Int):=by have:=c.o;omega
     have Qp:p<=j:=by have:=c.o;omega
     obtain⟨o,P⟩:=ex (s.extract p j);have Qs:o.size=d:=by rw[<-P,A7];have:=c.o;omega
     have Ql:=Z P;obtain⟨ae,ah⟩:=Qh.o.cp;go_wp2_with fail
     go_quiet (fail)
     have K:=Z (show ∀u,w.grownBy (wr.drewN u) (some R)from λu=>Jd g.o.2.1 (Jr _ _ _));have Qg:=Z (show ∀u,DL (wr.drewN u) R s (j:Int)from λu=>g.o.1.drewN u);clear P ae ah c0 c1;have Qj:¬j=p:=by have:=c.o;omega
     have Qm:=Z (show o.data.toList=((Je s).drop p).take (j-p)by rw[<-Ql.o,c.o,Mp,show p+d-p=d from by omega]);by_cases ai:12<d
     . have aj:(12:Int)<(d:Int):=Y
       have m:=Z (show JI (Je s) I=.error 3 p by unfold JI;rw[X.o,M.o,BH Qj,BL (by have:=c.o;omega)]);go_wp2_with(go_at_call 123;refine(Q.o _ _ _).mono ?_;clear Q;rintro e W ⟨rfl,rfl⟩)
       refine⟨J,K.o _,λe q a=>?_,λds q k a=>?_⟩
       . rw[m.o]at a;cases a;rfl
       . rw[m.o]at a;cases a
     . have aj:¬(12:Int)<(d:Int):=Y
       have m:=Z (show JI (Je s) I=.ok (o.data.toList,p) j by unfold JI;rw[X.o,M.o,BH Qj,BH (by have:=c.o;omega),Qm.o]);have x:=Z λ(V:B)=>Tryz.strings_TrimLeft_one o 48 DG V;obtain⟨y,t⟩:∃S:ByteArray,⟨(Lib.trimLeftB o.data.toList 48).toArray⟩=S:=⟨_,J⟩;rw[t]at x;have Qo:=Z t;by_cases a:Lib.trimLeftB o.data.toList 48=[]
       . have Qk:y=⟨#[]⟩:=by rw[<-t,a]
         have L:=Z (show DP o.data.toList=[48]by unfold DP;rw[BL a]);clear t a Qo;subst Qk;go_wp2_with(go_at_call 200;refine(x.o _).mono ?_;clear x;rintro e W ⟨rfl,rfl⟩)
         refine BA (v:=.tuple #[G ⟨#[48]⟩,D E (p:Int)]) (by simp[results,results182,go_sem]) J ⟨K.o _,λe q b=>?_,λds q k b=>?_⟩
         . rw[m.o]at b;cases b
         . rw[m.o]at b;cases b;exact⟨by rw[L.o],Qg.o _⟩
       . have Qk:y.toList.isEmpty=false:=by
          rw[<-t,YO];simpa using a
         have L:=Z (show(⟨(DP o.data.toList).toArray⟩:ByteArray)=y by unfold DP;rw[BH a];exact t);clear t a;go_wp2_with(go_at_call 200;refine(x.o _).mono ?_;clear x;rintro e W ⟨rfl,rfl⟩)
         refine BA (v:=.tuple #[G y,D E (p:Int)]) (by simp[results,results182,go_sem]) J ⟨K.o _,λe q b=>?_,λds q k b=>?_⟩
         . rw[m.o]at b;cases b
         . rw[m.o]at b;cases b;exact⟨by rw[L.o],Qg.o _⟩
theorem Mq(c:UInt8)(t:List UInt8):num (c::t)=num t+10^t.length*(c.toNat-48):=by
 have h:=Y6 [c] t;grind[num,DV,val]
theorem SI(ds:List UInt8):num (ds.dropWhile (·==48))=num ds:=by
 induction ds with
 |nil=>rfl
 |cons c t a=>
  by_cases h:c=48
  . subst h;grind[List.dropWhile_cons_of_pos,Mq]
  . rw[List.dropWhile_cons_of_neg (by simpa using h)]
theorem SJ(h:ds.all DI=true):(ds.dropWhile (·==48)).all DI=true:=by
 grind[List.dropWhile_sublist]
theorem Y0(h:ds.all DI=true):num (DP ds)=num ds/\(DP ds).all DI=true/\DP ds≠[]/\(1<(DP ds).length->10<=num ds)/\(DP ds).length<=ds.length+1:=by
 unfold DP Lib.trimLeftB;have a:=SI ds;have d:=SJ h;have i:=(List.dropWhile_sublist (l:=ds) (·==48)).length_le;split
 . rename_i b;rw[b]at a;refine⟨?_,DG,C9,C9,C9⟩;rw[<-a];decide
 . rename_i b;refine⟨a,d,b,λhl=>?_,Y⟩;cases f:ds.dropWhile (·==48)with
   |nil=>exact absurd f b
   |cons c t=>
    rw[f]at a d hl;have g:c≠48:=by
     grind[List.head?_dropWhile_not]
    have m:=Yd (Ay.1 d c (Cr ..));have n:c.toNat≠48:=λe=>g (CS.1 e);rw[<-a,Mq];have j:10^1<=10^t.length:=Am Y (by simp at hl;omega);have k:10^t.length*1<=10^t.length*(c.toNat-48):=Aq _ Y;omega
def KH(w:B)(R:Nat)(s:ByteArray)(I:Nat)(r:Ending)(a:B):Prop:=
 w.grownBy a (some R)/\(∀e q,XX (Je s) I=.error e q->r=.panicked [{ v:=XG e q,recovered:=false }])/\(∀n k,XX (Je s) I=.ok n k->r=.returned (.int E (n:Int))/\DL a R s (k:Int))
theorem Mr(R:Nat)(s:ByteArray)(I:Nat)(w:B)(h:DL w R s I)(hI:I<=s.size)(hs:s.size<=300):
 Calls Tryz.prog 156 #[C (some ⟨R,0,none⟩)] w λr w'=>KH w R s I r w':=by
 obtain⟨b,A⟩:∃b,b=JR (Je s) (DB (Je s) I) 94:=⟨_,J⟩;have f:=Z (XS R s I 94 w h hI hs b A);obtain⟨j,hj⟩:=ex (DB (Je s) I);rw[hj]at f A;have L:=Z λ(e q:Int) (V:B)=>Fu (C (some ⟨R,0,none⟩)) e q V;have HJ:=Z hj;clear h hj;cases b with
 |false=>
  have HN:=Z (show XX (Je s) I=.ok 1 j by unfold XX;rw[HJ.o,<-A];simp);clear A;go_enter func156,ntmps156
  go_wp2_with(go_at_call 120;refine f.o.mono ?_;clear f;rintro e W ⟨rfl,d,c⟩;have m:=Z d;have o:=Z c;clear d c)
  go_ret;refine⟨o.o,λe q a=>?_,λn k a=>?_⟩
  . rw[HN.o]at a;cases a
  . rw[HN.o]at a;cases a;exact⟨J,m.o⟩
 |true=>
  have Qm:j+1<=s.size:=by have:=JZ A.symm;rw[Jf]at this;omega
  have v:=Z λ(V:B) (hh:DL V R s ((j+1:Nat):Int))=>KG R s (j+1) V hh Qm hs;have l:=Z (show XX (Je s) I=(match JI (Je s) (j+1)with|.error e p=>.error e p|.ok (ds,p) k=>if 8<num ds then .error 3 p else .ok (num ds) k)by
   unfold XX;rw[HJ.o,BL A.symm];grind)
  clear A;cases K:JI (Je s) (j+1)with
  |error e0 q0=>
   rw[K]at l;have z:=Z K;clear K;go_enter func156,ntmps156
   go_wp2_with(first
    |(go_at_call 120;refine f.o.mono ?_;clear f;rintro e W ⟨rfl,d,c⟩;have m:=Z d;have o:=Z c;clear d c)
    |(go_at_call 182;refine(v.o _ m.o).mono ?_;clear v;rintro e w2 ⟨i,g,_⟩;obtain rfl:=g _ _ z.o;have y:=Z (Jd o.o i);clear i g))
   refine⟨J,y.o,λe q a=>?_,λn k a=>?_⟩
   . rw[l.o]at a;cases a;rfl
   . rw[l.o]at a;cases a
  |ok a0 k0=>
   obtain⟨ds,p0⟩:=a0;rw[K]at l;have z:=Z K;obtain⟨Q,T,g3,U,g5⟩:=Y0 (Er (by rw[Jf];omega) K).2.2.2.2.2.2.2.2;clear K;cases M:DP ds with
   |nil=>exact absurd M g3
   |cons c0 t0=>
    rw[M]at Q T U g5;have ae:=Yd (Ay.1 T c0 (Cr ..));have Qj:=(Er (by rw[Jf];omega) z.o).2.2.2.2.2.2.2.1;have Qe:=(Er (by rw[Jf];omega) z.o).2.2.2.2.2.1;cases t0 with
    |cons c1 t1=>
     have h8:8<num ds:=by have:=U C9;omega
     obtain⟨t,u⟩:∃S:ByteArray,⟨(c0::c1::t1).toArray⟩=S:=⟨_,J⟩;have P:=Z (show(⟨(DP ds).toArray⟩:ByteArray)=t by rw[M];exact u);have Qn:1<t.size:=by rw[<-u];show 1<(c0::c1::t1).toArray.size;simp
     have ak:t.size<=13:=by rw[<-u];show(c0::c1::t1).toArray.size<=13;grind
     have aj:(1:Int)<(t.size:Int):=Y
     have Ql:=Z h8;clear u M Q T g3 U g5 h8 Qj Qe;go_enter func156,ntmps156
     go_wp2_with(first
      |(go_at_call 120;refine f.o.mono ?_;clear f;rintro e W ⟨rfl,d,c⟩;have m:=Z d;have o:=Z c;clear d c)
      |(go_at_call 182;refine(v.o _ m.o).mono ?_;clear v;rintro e w2 ⟨i,_,g⟩;obtain⟨rfl,x⟩:=g _ _ _ z.o;rw[P.o];have X:=Z x;have y:=Z (Jd o.o i);clear i g x)
      |(go_at_call 123;refine(L.o _ _ _).mono ?_;clear L;rintro e w3 ⟨rfl,rfl⟩))
     refine⟨J,y.o,λe q a=>?_,λn k a=>?_⟩
     . rw[l.o,BL Ql.o]at a;cases a;rfl
     . rw[l.o,BL Ql.o]at a;cases a
    |nil=>
     have Qi:num ds=c0.toNat-48:=by rw[<-Q];simp[num,DV,val]
     obtain⟨t,u⟩:=ex ((⟨#[c0]⟩:ByteArray):ByteArray);have P:=Z (show(⟨(DP ds).toArray⟩:ByteArray)=t by rw[M];exact u);have Qn:t.size=1:=by rw[<-u];rfl
     have ah:∀h:0<t.size,t[0]'h=c0:=by subst u;intro _;rfl
     have ai:((c0.toNat:Int)-48)%256=(c0.toNat:Int)-48:=Y
     clear u;have N:=Z Qi;clear M Q T g3 U g5 Qj Qe Qi;by_cases h8:8<c0.toNat-48
     . have ad:(8:Int)<(c0.toNat:Int)-48:=Y
       go_enter func156,ntmps156
       go_wp2_with(first
        |(go_at_call 120;refine f.o.mono ?_;clear f;rintro e W ⟨rfl,d,c⟩;have m:=Z d;have o:=Z c;clear d c)
        |(go_at_call 182;refine(v.o _ m.o).mono ?_;clear v;rintro e w2 ⟨i,_,g⟩;obtain⟨rfl,x⟩:=g _ _ _ z.o;rw[P.o];have X:=Z x;have y:=Z (Jd o.o i);clear i g x)
        |(go_at_call 123;refine(L.o _ _ _).mono ?_;clear L;rintro e w3 ⟨rfl,rfl⟩))
       refine⟨J,y.o,λe q a=>?_,λn k a=>?_⟩
       . rw[l.o,BL (by rw[N.o];omega)]at a;cases a;rfl
       . rw[l.o,BL (by rw[N.o];omega)]at a;cases a
     . have ad:¬(8:Int)<(c0.toNat:Int)-48:=Y
       go_enter func156,ntmps156
       go_wp2_with(first
        |(go_at_call 120;refine f.o.mono ?_;clear f;rintro e W ⟨rfl,d,c⟩;have m:=Z d;have o:=Z c;clear d c)
        |(go_at_call 182;refine(v.o _ m.o).mono ?_;clear v;rintro e w2 ⟨i,_,g⟩;obtain⟨rfl,x⟩:=g _ _ _ z.o;rw[P.o];have X:=Z x;have y:=Z (Jd o.o i);clear i g x)
        |(go_at_call 123;refine(L.o _ _ _).mono ?_;clear L;rintro e w3 ⟨rfl,rfl⟩))
       go_ret;refine⟨y.o,λe q a=>?_,λn k a=>?_⟩
       . rw[l.o,BH (by rw[N.o];omega)]at a;cases a
       . rw[l.o,BH (by rw[N.o];omega)]at a;cases a;refine⟨?_,X.o⟩;rw[N.o];show Ending.returned (D E ((c0.toNat:Int)-48))=_;grind

