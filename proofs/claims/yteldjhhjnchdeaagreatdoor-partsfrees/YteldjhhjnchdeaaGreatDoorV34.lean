import Derived.Test.YteldjhhjnchdeaaGreatDoorV33
import Derived.WalkLawsBesides
open Go renaming World->B,undef->H
open Go.Value renaming slice->C,int->E,pointer->G
open Go.IntKind renaming i64->F
set_option maxRecDepth 100000
set_option maxHeartbeats 16000000
namespace Go.Proofs.YteldjhhjnchdeaaGreatDoor
open Go.RowKit Go.Shelf
section
attribute [local go_sem] Oper.semAt_some
variable{b:Bool}{S:List Rat}{l:List UInt8}{I e k m n p:Nat}{c:Rat}{a:B}
theorem Dd.add2{p q:Rat}(hp:Dd k p)(hq:Dd m q):Dd (k+m+1) (p+q):=by
 rw[<-PR];refine Dd.divInt ?_ ((hp.1.mul hq.2).add (by have:=hq.1.mul hp.2;rwa[C0]at this)) ((hp.2.mul hq.2).mono Y);exact Co (by have:=p.den_nz;omega) (by have:=q.den_nz;omega)
theorem F3.sm(h:F3 c):Dd 1 c:=by
 obtain⟨x,y,rfl,a,b,d⟩:=h;exact Dd.divInt Y (by unfold Sm Z;omega) (by unfold Sm Z;omega)
theorem Dd.zero(k:Nat)(a:1<=k):Dd k 0:=⟨Sm.zero k,Sm.one k a⟩
theorem MU(n:Nat)(c:Rat)(i:Nat):cf (Dl n [c]) i=if i=n then c else 0:=by
 rw[IX];by_cases h:n<=i
 . rw[BG h];by_cases a:i=n
   . rw[BG a,a,A3,Xo]
   . rw[BC a,J1 si]
 . rw[BC h,BC Y]
theorem Y8(h:F3 c):DZ (Jd (Dl n [c])):=DZ.of λi=>by
 rw[JU,MU];split
 . exact Sq.of h.sm Y
 . exact Sq.of (Dd.zero 1 Y) Y
theorem Y0(n:Nat)(c:Rat):(Jd (Dl n [c])).length<=n+1:=Aq (Jw _) (by simp[Dl])
theorem KI(c:Rat)(h:n<S.length):ES (Jd S) (Jd (Dl n [c]))=Jd (S.set n (cf S n+c)):=by
 unfold ES;refine YB λi=>?_;rw[Xy,JU,JU,MU,XC _ _ _ _ h];split
 . rename_i h;rw[h]
 . grind
theorem KJ(c:Rat)(h:n<S.length):J3 (Jd S) (Jd (Dl n [c]))=Jd (S.set n (cf S n-c)):=by
 unfold J3;refine YB λi=>?_;rw[Xy,Y9,JU,JU,MU,XC _ _ _ _ h];split
 . rename_i h;rw[h];grind
 . grind
def YN(S:List Rat)(m:Nat):Prop:=S.length=9/\∀i,Dd (2*m+1) (cf S i)
theorem YN.start:YN (List.replicate 9 0) 0:=⟨rfl,λi=>by rw[JO];exact Dd.zero 1 Y⟩
theorem YN.sqs(h:YN S m)(a:m<=300):DZ (Jd S):=DZ.of λi=>by rw[JU];exact Sq.of (h.2 i) Y
theorem YN.next(h:YN S m)(a:F3 c)(d:n<=8)(b:Bool):YN (S.set n (if b then cf S n-c else cf S n+c)) (m+1):=by
 refine⟨by rw[Cr];exact h.1,λi=>?_⟩;rw[XC _ _ _ _ (by rw[h.1];omega)];split
 . cases b
   . exact((h.2 n).add2 a.sm).mono Y
   . rw[BG rfl,FC];exact((h.2 n).add2 a.sm.neg).mono Y
 . exact(h.2 i).mono Y
theorem Rl{j:Nat}{c d:UInt8}(a:JP l j c=true)(b:JP l j d=true):c=d:=by
 unfold JP at a b;rw[beq_iff_eq]at a b;exact Ch (a.symm.trans b)
theorem KK{f:Nat}(h:JT l I=.bad e p):ET l (f+1) b I S=.bad e p:=by
 rw[ET,h]
theorem KL{f:Nat}(h:JT l I=.ok (c,n) k):ET l (f+1) b I S =
 if JP l (DU l k) 43 then ET l f false (DU l k+1) (S.set n (if b then cf S n-c else cf S n+c))else if JP l (DU l k) 45 then ET l f true (DU l k+1) (S.set n (if b then cf S n-c else cf S n+c))else if DU l k=l.length then .ok (S.set n (if b then cf S n-c else cf S n+c)) (DU l k)else .bad 2 (DU l k):=by
 rw[ET,h]
theorem Rm(l:List UInt8)(i:Nat):(JT l i).pos:=by
 intro e p h;rw[IK]at h;split at h
 . rename_i b c a;cases h;exact Rh l i _ _ a
 . split at h
   . split at h
     . rename_i b c a;cases h;exact aW _ _ _ _ a
     . cases h
   . cases h
def Xw(l:List UInt8):Rd (List Rat):=if JP l (DU l 0) 45 then ET l (l.length+1) true (DU l 0+1) (List.replicate 9 0)else ET l (l.length+1) false (DU l 0) (List.replicate 9 0)
def KM(r:Rd (List Rat)):List Rat × Nat × Nat:=match r with|.bad e p=>([],e,p)|.ok s _=>(Jd s,0,0)
theorem K7(h:¬300<l.length):JR l=KM (Xw l):=by
 unfold JR Xw KM;rw[BC h];split<;>(rename_i a;rw[a])
def FZ(l:List UInt8)(a:B)(u:Value)(e p:Int):Prop:=e=((JR l).2.1:Int)/\p=((JR l).2.2:Int)/\RowK false a u (JR l).1/\(JR l).1.length<=9/\∀i,Dd 601 (cf (JR l).1 i)
theorem FZ.bad(h:JR l=([],e,p)):FZ l a (C none 0 0) e p:=by
 rw[FZ,h];exact⟨rfl,rfl,RowK.nil _ _,O,λi=>by rw[YS];exact Dd.zero _ Y⟩
theorem FZ.ok{u:Value}(h:JR l=(Jd S,0,0))(hs:YN S m)(c:m<=300)(b:RowK false a u (Jd S)):FZ l a u 0 0:=by
 rw[FZ,h];exact⟨rfl,rfl,b,Aq (Jw _) (by rw[hs.1];exact Aa _),λi=>by rw[JU];exact(hs.2 i).mono Y⟩
theorem below_drewN{w W:B}(h:Bl w W)(k:Nat):Bl w (W.drewN k):=h.grown (JI W k none) h.size (λk e=>by cases e)
theorem DX.new(w:B)(s:ByteArray):DX (w.alloc (.cells #[.string s,E F 0,E F 0,E F 0] 106)) w.heap.size s 0 0 0:=BE w _
theorem bF(s:ByteArray)(bt:s.size<=140737488351232)(w:B):
 Calls Tryz.prog 29 #[.string s] w λr w'=>∃(u:Value) (e p:Int),r=.returned (.tuple #[u,E F e,E F p])/\FZ (Je s) w' u e p/\Bl w w':=by
 by_cases bg:300<s.size
 . have bn:(300:Int)<(s.size:Int):=Y
   have HP:=J (show JR (Je s)=([],1,0)by unfold JR;rw[BG (by rw[Ji];exact bg)]);go_enter Tryz.func29,Tryz.ntmps29
   go_wp2;exact BA (v:=.tuple #[C none 0 0,E F 1,E F 0]) (by simp[results,Tryz.results29,go_sem]) rfl ⟨_,_,_,rfl,FZ.bad HP.o,BB _ _⟩
 . have bn:¬(300:Int)<(s.size:Int):=Y
   have hs:s.size<=300:=Y
   have HP:=J (K7 (l:=Je s) (by rw[Ji];exact bg));clear bg bt;have Uo:Bl w (w.alloc (.cells #[.string s,E F 0,E F 0,E F 0] 106)):=Ba w _;have Un:=DX.new w s;obtain⟨W0,bc⟩:=ex (w.alloc (.cells #[.string s,E F 0,E F 0,E F 0] 106));rw[bc]at Uo Un;obtain⟨R,hR⟩:=ex (w.heap.size);rw[hR]at Un;obtain⟨t,Us,Uq⟩:=Dk hR bc Uo;obtain⟨b0,bf⟩:∃b,b=(decide ((0:Int)=0)&&JP (Je s) (DU (Je s) 0) 45):=⟨_,rfl⟩;have Uv:=J (J8 R s 0 0 0 45 W0 Un Y hs b0 bf);have HB:=J (show JP (Je s) (DU (Je s) 0) 45=b0 by rw[bf];simp);clear Uo Un bf hR bc;go_enter Tryz.func29,Tryz.ntmps29
   go_upto_region 4 with fail
   rw[Us.o,t.o];go_wp2_with(first
    |(go_at_call 61;refine Uv.o.mono ?_;clear Uv;rintro e w1 ⟨rfl,ay,aw⟩;have Ut:=J ay;have Qq:=J (below_grown Uq.o aw (by rw[t.o];exact Aa _));clear ay aw))
   go_loopw [6,7,8] (λmv pv _ wr=>∃(b:Bool) (I f m:Nat) (S:List Rat) (a:Option Addr) (la ca:Nat),mv=.bool b/\pv=C a la ca/\I<=s.size/\Hid (DX wr R s (I:Int) 0 0)/\Hid (RowK false wr (C a la ca) (Jd S))/\Hid (YN S m)/\Hid (m<=I/\s.size-I<f/\ET (Je s) f b I S=Xw (Je s))/\Hid (Bl w wr)) λ_ _ _ wr=>s.size-Ez wr R
   case atStart=>
    have Uw:DU (Je s) 0<=s.size:=by rw[<-Ji];exact Ys Y
    refine⟨b0,DU (Je s) 0+(if b0 then 1 else 0),s.size+1,0,List.replicate 9 0,none,0,0,rfl,rfl,?_,J Ut.o,J ?_,J YN.start,J ⟨Y,Y,?_⟩,J Qq.o⟩
    . cases hb:b0
      . simpa using Uw
      . have h1:=HB.o;rw[hb]at h1;have h2:=JS h1;rw[Ji]at h2;simp;omega
    . rw[LR λi=>JO 9 i];exact RowK.nil _ _
    . unfold Xw;rw[HB.o,Ji];cases b0<;>rfl
   case round=>
    clear Ut Qq HB Uq Us;obtain⟨b,I,f,m,S,a,la,ca,rfl,rfl,hI,aq,bm,T,HT,HG⟩:=hrel;have Uu:=J (bE R s I 0 0 wr aq.o hI hs);go_upto_if 19 with(first
     |(go_at_call 62;refine Uu.o.mono ?_;clear Uu;rintro e w1 ⟨u,c,n,N,rfl,hu,bj,hF,an,ay,bk,aw⟩;have Ql:=J (bm.o.rd aq.o aw);have Qn:=J ay;have HU:=J hu;have HF:=J hF;have Ur:=J (bk rfl);have Qq:=J (below_grown HG.o aw (by rw[t.o];exact Aa _));obtain⟨a2,l2,c2,rfl⟩:=hu.form;clear ay hu hF bk aw))
    obtain⟨d,az⟩:=ex (DU (Je s) N);have Qr:=J az;have Qh:d<=s.size:=by rw[<-az,<-Ji];exact Ys (by rw[Ji];exact an)
    have L:=J (show DU (Je s) d=d by rw[<-az];exact Iv _ _);clear az;obtain⟨f,rfl⟩:∃g,f=g+1:=⟨f-1,by have:=HT.o.2.1;omega⟩;cases b with
    |false=>
     have Uj:=J (show YN (S.set n (if false then cf S n-c else cf S n+c)) (m+1)from T.o.next HF.o bj false);by_cases ah:EN (JT (Je s) I) 0=0
     . obtain⟨_,⟨c0,n0⟩,k,hk⟩:=MS (Rm _ _) ah;obtain⟨rfl,rfl,rfl⟩:=Ur.o c0 n0 k hk;rw[ah,(FY hk 0 0).2]at Qn;have Ua:=J (show m<=I/\I<N/\N<=d/\d<=s.size/\s.size-I<f+1 from⟨HT.o.1,(I1 (by rw[Ji];exact hI) hk).1,by rw[<-Qr.o];exact GI _ _,Qh,HT.o.2.1⟩);have Ue:=J (KL (f:=f) (b:=false) (S:=S) hk);rw[Qr.o,HT.o.2.2]at Ue;clear ah hk;cases aj:JP (Je s) d 43 with
       |true=>
        obtain⟨Qv,Qk,Uk⟩:=Dk aj (show JP (Je s) d 45=false from Bool.eq_false_iff.2 λh=>absurd (Rl aj h) DQ) (show ET (Je s) f false (d+1) (S.set n (if false then cf S n-c else cf S n+c))=Xw (Je s)by rw[Ue.o,BG aj]);have Ub:d+1<=s.size:=by have:=JS aj;rw[Ji]at this;omega
        clear aj;have Qm:=J λ(V:B) (h1:RowK false V (C a la ca) (Jd S)) (h2:RowK false V (C a2 l2 c2) (Jd (Dl n [c])))=>IJ _ _ _ _ V h1 h2 (T.o.sqs (by have:=HT.o.1;omega)) (Y8 HF.o) ⟨(by have:=Jw S;have:=T.o.1;omega),(by have:=Y0 n c;omega)⟩;have x:=J λ(V:B) (j:DX V R s (N:Int) 0 0)=>YI R s N 0 0 45 V j an hs;rw[show(decide ((0:Int)=0)&&JP (Je s) (DU (Je s) N) 45)=false from by rw[Qr.o];simp[Qk.o],Qr.o]at x;have y:=J λ(V:B) (j:DX V R s (d:Int) 0 0)=>J8 R s d 0 0 43 V j Qh hs true (by rw[L.o];simp[Qv.o]);rw[L.o]at y;go_wp2_with(first
         |(go_at_call 64;refine(Qm.o _ Ql.o HU.o).mono ?_;clear Qm;rintro e w2 ⟨u2,rfl,o,D⟩;rw[KI c (by rw[T.o.1];omega)]at o;obtain⟨a3,l3,c3,rfl⟩:=o.form;have Qd:=J o;have W:=J (Qn.o.below D);have Qt:=J (Bt Qq.o D);clear o D)
         |(go_at_call 65;refine(x.o _ W.o).mono ?_;clear x;rintro e w3 ⟨rfl,ad,z⟩;have Qf:=J (Qd.o.rd W.o z);have X:=J ad;have Qu:=J (below_grown Qt.o z (by rw[t.o];exact Aa _));clear ad z)
         |(go_at_call 61;refine(y.o _ X.o).mono ?_;clear y;rintro e w4 ⟨rfl,ae,A⟩;have Qg:=J (Qf.o.rd X.o A);have U:=J ae;have Qx:=J (below_grown Qu.o A (by rw[t.o];exact Aa _));clear ae A))
        go_roundw
        case rel=>exact⟨_,d+1,f,m+1,_,_,_,_,rfl,rfl,Ub,J U.o,J Qg.o,J Uj.o,J ⟨by have:=Ua.o;omega,by have:=Ua.o;omega,Uk.o⟩,J Qx.o⟩
        case measure=>
         have e1:=GP (I:=d+1) U.o;have e2:=GP aq.o;rw[e1,e2];have:=Ua.o;omega
       |false=>
        have Qv:=J aj;cases ak:JP (Je s) d 45 with
        |true=>
         have Qk:=J ak;have Uk:=J (show ET (Je s) f true (d+1) (S.set n (if false then cf S n-c else cf S n+c))=Xw (Je s)by rw[Ue.o,BC (show ¬JP (Je s) d 43=true by rw[aj];decide),BG ak]);have Ub:d+1<=s.size:=by have:=JS ak;rw[Ji]at this;omega
         clear aj ak;have Qm:=J λ(V:B) (h1:RowK false V (C a la ca) (Jd S)) (h2:RowK false V (C a2 l2 c2) (Jd (Dl n [c])))=>IJ _ _ _ _ V h1 h2 (T.o.sqs (by have:=HT.o.1;omega)) (Y8 HF.o) ⟨(by have:=Jw S;have:=T.o.1;omega),(by have:=Y0 n c;omega)⟩;have x:=J λ(V:B) (j:DX V R s (N:Int) 0 0)=>YI R s N 0 0 45 V j an hs;rw[show(decide ((0:Int)=0)&&JP (Je s) (DU (Je s) N) 45)=true from by rw[Qr.o];simp[Qk.o],Qr.o]at x;have y:=J λ(V:B) (j:DX V R s (d:Int) 0 0)=>J8 R s d 0 0 43 V j Qh hs false (by rw[L.o];simp[Qv.o]);rw[L.o]at y;have P:=J λ(V:B) (j:DX V R s (d:Int) 0 0)=>J8 R s d 0 0 45 V j Qh hs true (by rw[L.o];simp[Qk.o]);rw[L.o]at P;go_wp2_with(first
          |(go_at_call 64;refine(Qm.o _ Ql.o HU.o).mono ?_;clear Qm;rintro e w2 ⟨u2,rfl,o,D⟩;rw[KI c (by rw[T.o.1];omega)]at o;obtain⟨a3,l3,c3,rfl⟩:=o.form;have Qd:=J o;have W:=J (Qn.o.below D);have Qt:=J (Bt Qq.o D);clear o D)
          |(go_at_call 65;refine(x.o _ W.o).mono ?_;clear x;rintro e w3 ⟨rfl,ad,z⟩;have Qf:=J (Qd.o.rd W.o z);have X:=J ad;have Qu:=J (below_grown Qt.o z (by rw[t.o];exact Aa _));clear ad z)
          |(go_at_call 61;refine(y.o _ X.o).mono ?_;clear y;rintro e w4 ⟨rfl,ae,A⟩;have Qg:=J (Qf.o.rd X.o A);have U:=J ae;have Qx:=J (below_grown Qu.o A (by rw[t.o];exact Aa _));clear ae A)
          |(go_at_call 61;refine(P.o _ U.o).mono ?_;clear P;rintro e w5 ⟨rfl,ai,Q⟩;have Qj:=J (Qg.o.rd U.o Q);have Qi:=J ai;have Qy:=J (below_grown Qx.o Q (by rw[t.o];exact Aa _));clear ai Q))
         go_roundw
         case rel=>exact⟨_,d+1,f,m+1,_,_,_,_,rfl,rfl,Ub,J Qi.o,J Qj.o,J Uj.o,J ⟨by have:=Ua.o;omega,by have:=Ua.o;omega,Uk.o⟩,J Qy.o⟩
         case measure=>
          have e1:=GP (I:=d+1) Qi.o;have e2:=GP aq.o;rw[e1,e2];have:=Ua.o;omega
        |false=>
         have Qk:=J ak;by_cases bh:d<s.size
         . have Qp:=J (show JR (Je s)=([],2,d)by rw[HP.o,Ue.o,BC (show ¬JP (Je s) d 43=true by rw[aj];decide),BC (show ¬JP (Je s) d 45=true by rw[ak];decide),BC (by rw[Ji];omega)];rfl);clear aj ak;have Qm:=J λ(V:B) (h1:RowK false V (C a la ca) (Jd S)) (h2:RowK false V (C a2 l2 c2) (Jd (Dl n [c])))=>IJ _ _ _ _ V h1 h2 (T.o.sqs (by have:=HT.o.1;omega)) (Y8 HF.o) ⟨(by have:=Jw S;have:=T.o.1;omega),(by have:=Y0 n c;omega)⟩;have x:=J λ(V:B) (j:DX V R s (N:Int) 0 0)=>YI R s N 0 0 45 V j an hs;rw[show(decide ((0:Int)=0)&&JP (Je s) (DU (Je s) N) 45)=false from by rw[Qr.o];simp[Qk.o],Qr.o]at x;have y:=J λ(V:B) (j:DX V R s (d:Int) 0 0)=>J8 R s d 0 0 43 V j Qh hs false (by rw[L.o];simp[Qv.o]);rw[L.o]at y;have P:=J λ(V:B) (j:DX V R s (d:Int) 0 0)=>J8 R s d 0 0 45 V j Qh hs false (by rw[L.o];simp[Qk.o]);rw[L.o]at P;have H8:=J λ(V:B) (j:DX V R s (d:Int) 0 0)=>YI R s d 0 0 32 V j Qh hs;rw[L.o]at H8;have Uf:=J λ(V:B) (j:DX V R s (d:Int) 0 0)=>Iu R s (d:Int) 0 0 2 (d:Int) V j;have bi:(d:Int)<(s.size:Int):=Y
           go_wp2_with(first
            |(go_at_call 64;refine(Qm.o _ Ql.o HU.o).mono ?_;clear Qm;rintro e w2 ⟨u2,rfl,o,D⟩;rw[KI c (by rw[T.o.1];omega)]at o;obtain⟨a3,l3,c3,rfl⟩:=o.form;have Qd:=J o;have W:=J (Qn.o.below D);have Qt:=J (Bt Qq.o D);clear o D)
            |(go_at_call 65;refine(x.o _ W.o).mono ?_;clear x;rintro e w3 ⟨rfl,ad,z⟩;have Qf:=J (Qd.o.rd W.o z);have X:=J ad;have Qu:=J (below_grown Qt.o z (by rw[t.o];exact Aa _));clear ad z)
            |(go_at_call 61;refine(y.o _ X.o).mono ?_;clear y;rintro e w4 ⟨rfl,ae,A⟩;have Qg:=J (Qf.o.rd X.o A);have U:=J ae;have Qx:=J (below_grown Qu.o A (by rw[t.o];exact Aa _));clear ae A)
            |(go_at_call 61;refine(P.o _ U.o).mono ?_;clear P;rintro e w5 ⟨rfl,ai,Q⟩;have Qj:=J (Qg.o.rd U.o Q);have Qi:=J ai;have Qy:=J (below_grown Qx.o Q (by rw[t.o];exact Aa _));clear ai Q)
            |(go_at_call 65;refine(H8.o _ Qi.o).mono ?_;clear H8;rintro e w6 ⟨rfl,K,af⟩;have Qo:=J (Qj.o.rd Qi.o af);have Qs:=J K;have Uc:=K.c1;have Ug:=K.c2;have Ud:=K.c3;have Qz:=J (below_grown Qy.o af (by rw[t.o];exact Aa _));clear K af)
            |(go_at_call 66;refine(Uf.o _ Qs.o).mono ?_;clear Uf;rintro e w7 ⟨rfl,am,ap⟩;clear Uc Ug Ud;have Ul:w7.cell? ⟨R,2,none⟩=some (E F 2):=am.c2;have Um:w7.cell? ⟨R,3,none⟩=some (E F (d:Int)):=am.c3;have Ui:=J (below_grown Qz.o ap (by rw[t.o];exact Aa _));clear am ap))
           go_quiet (fail)
           go_wp2_with fail
           exact BA (v:=.tuple #[C none 0 0,E F 2,E F (d:Int)]) (by simp[results,Tryz.results29,go_sem]) rfl ⟨_,_,_,rfl,FZ.bad (e:=2) Qp.o,below_drewN Ui.o _⟩
         . have Qp:=J (show JR (Je s)=(Jd (S.set n (if false then cf S n-c else cf S n+c)),0,0)by rw[HP.o,Ue.o,BC (show ¬JP (Je s) d 43=true by rw[aj];decide),BC (show ¬JP (Je s) d 45=true by rw[ak];decide),BG (by rw[Ji];omega)];rfl);clear aj ak;have Qm:=J λ(V:B) (h1:RowK false V (C a la ca) (Jd S)) (h2:RowK false V (C a2 l2 c2) (Jd (Dl n [c])))=>IJ _ _ _ _ V h1 h2 (T.o.sqs (by have:=HT.o.1;omega)) (Y8 HF.o) ⟨(by have:=Jw S;have:=T.o.1;omega),(by have:=Y0 n c;omega)⟩;have x:=J λ(V:B) (j:DX V R s (N:Int) 0 0)=>YI R s N 0 0 45 V j an hs;rw[show(decide ((0:Int)=0)&&JP (Je s) (DU (Je s) N) 45)=false from by rw[Qr.o];simp[Qk.o],Qr.o]at x;have y:=J λ(V:B) (j:DX V R s (d:Int) 0 0)=>J8 R s d 0 0 43 V j Qh hs false (by rw[L.o];simp[Qv.o]);rw[L.o]at y;have P:=J λ(V:B) (j:DX V R s (d:Int) 0 0)=>J8 R s d 0 0 45 V j Qh hs false (by rw[L.o];simp[Qk.o]);rw[L.o]at P;have H8:=J λ(V:B) (j:DX V R s (d:Int) 0 0)=>YI R s d 0 0 32 V j Qh hs;rw[L.o]at H8;go_wp2_with(first
            |(go_at_call 64;refine(Qm.o _ Ql.o HU.o).mono ?_;clear Qm;rintro e w2 ⟨u2,rfl,o,D⟩;rw[KI c (by rw[T.o.1];omega)]at o;obtain⟨a3,l3,c3,rfl⟩:=o.form;have Qd:=J o;have W:=J (Qn.o.below D);have Qt:=J (Bt Qq.o D);clear o D)
            |(go_at_call 65;refine(x.o _ W.o).mono ?_;clear x;rintro e w3 ⟨rfl,ad,z⟩;have Qf:=J (Qd.o.rd W.o z);have X:=J ad;have Qu:=J (below_grown Qt.o z (by rw[t.o];exact Aa _));clear ad z)
            |(go_at_call 61;refine(y.o _ X.o).mono ?_;clear y;rintro e w4 ⟨rfl,ae,A⟩;have Qg:=J (Qf.o.rd X.o A);have U:=J ae;have Qx:=J (below_grown Qu.o A (by rw[t.o];exact Aa _));clear ae A)
            |(go_at_call 61;refine(P.o _ U.o).mono ?_;clear P;rintro e w5 ⟨rfl,ai,Q⟩;have Qj:=J (Qg.o.rd U.o Q);have Qi:=J ai;have Qy:=J (below_grown Qx.o Q (by rw[t.o];exact Aa _));clear ai Q)
            |(go_at_call 65;refine(H8.o _ Qi.o).mono ?_;clear H8;rintro e w6 ⟨rfl,K,af⟩;have Qo:=J (Qj.o.rd Qi.o af);have Qs:=J K;have Uc:=K.c1;have Ug:=K.c2;have Ud:=K.c3;have Qz:=J (below_grown Qy.o af (by rw[t.o];exact Aa _));clear K af))
           exact BA (v:=.tuple #[C a3 l3 c3,E F 0,E F 0]) (by simp[results,Tryz.results29,go_sem]) rfl ⟨_,_,_,rfl,FZ.ok Qp.o Uj.o (by have:=Ua.o;omega) Qo.o,Qz.o⟩
     . obtain⟨q,hE⟩:=ex (EN (JT (Je s) I) 0);obtain⟨M,hA⟩:=ex (Ei (JT (Je s) I) 0 0);have Qw:∃e p:Nat,JT (Je s) I=.bad e p:=by
        cases hk:JT (Je s) I with
        |bad e p=>exact⟨e,p,rfl⟩
        |ok a k=>exact absurd (FY hk 0 0).1 ah
       obtain⟨e0,p0,Qw⟩:=Qw;have Uh:=J (show q=(e0:Int)/\M=(p0:Int)by rw[<-hE,<-hA,Qw];exact⟨rfl,rfl⟩);have Qp:=J (show JR (Je s)=([],e0,p0)by rw[HP.o,<-HT.o.2.2,KK Qw];rfl);rw[hE,hA]at Qn;rw[hE]at ah;have Up:(q==0)=false:=by rw[BH];exact ah
       clear hE hA Qw;by_cases bh:d<s.size
       . skip
         have Qm:=J λ(V:B) (h1:RowK false V (C a la ca) (Jd S)) (h2:RowK false V (C a2 l2 c2) (Jd (Dl n [c])))=>IJ _ _ _ _ V h1 h2 (T.o.sqs (by have:=HT.o.1;omega)) (Y8 HF.o) ⟨(by have:=Jw S;have:=T.o.1;omega),(by have:=Y0 n c;omega)⟩;have x:=J λ(V:B) (j:DX V R s (N:Int) q M)=>YI R s N q M 45 V j an hs;rw[show(decide ((q:Int)=0)&&JP (Je s) (DU (Je s) N) 45)=false from by simp[ah],Qr.o]at x;have y:=J λ(V:B) (j:DX V R s (d:Int) q M)=>J8 R s d q M 43 V j Qh hs false (by simp[ah]);rw[L.o]at y;have P:=J λ(V:B) (j:DX V R s (d:Int) q M)=>J8 R s d q M 45 V j Qh hs false (by simp[ah]);rw[L.o]at P;have H8:=J λ(V:B) (j:DX V R s (d:Int) q M)=>YI R s d q M 32 V j Qh hs;rw[L.o]at H8;have Uf:=J λ(V:B) (j:DX V R s (d:Int) q M)=>Iu R s (d:Int) q M 2 (d:Int) V j;have bi:(d:Int)<(s.size:Int):=Y
         go_wp2_with(first
          |(go_at_call 64;refine(Qm.o _ Ql.o HU.o).mono ?_;clear Qm;rintro e w2 ⟨u2,rfl,o,D⟩;rw[KI c (by rw[T.o.1];omega)]at o;obtain⟨a3,l3,c3,rfl⟩:=o.form;have Qd:=J o;have W:=J (Qn.o.below D);have Qt:=J (Bt Qq.o D);clear o D)
          |(go_at_call 65;refine(x.o _ W.o).mono ?_;clear x;rintro e w3 ⟨rfl,ad,z⟩;have Qf:=J (Qd.o.rd W.o z);have X:=J ad;have Qu:=J (below_grown Qt.o z (by rw[t.o];exact Aa _));clear ad z)
          |(go_at_call 61;refine(y.o _ X.o).mono ?_;clear y;rintro e w4 ⟨rfl,ae,A⟩;have Qg:=J (Qf.o.rd X.o A);have U:=J ae;have Qx:=J (below_grown Qu.o A (by rw[t.o];exact Aa _));clear ae A)
          |(go_at_call 61;refine(P.o _ U.o).mono ?_;clear P;rintro e w5 ⟨rfl,ai,Q⟩;have Qj:=J (Qg.o.rd U.o Q);have Qi:=J ai;have Qy:=J (below_grown Qx.o Q (by rw[t.o];exact Aa _));clear ai Q)
          |(go_at_call 65;refine(H8.o _ Qi.o).mono ?_;clear H8;rintro e w6 ⟨rfl,K,af⟩;have Qo:=J (Qj.o.rd Qi.o af);have Qs:=J K;have Uc:=K.c1;have Ug:=K.c2;have Ud:=K.c3;have Qz:=J (below_grown Qy.o af (by rw[t.o];exact Aa _));clear K af)
          |(go_at_call 66;refine(Uf.o _ Qs.o).mono ?_;clear Uf;rintro e w7 ⟨rfl,am,ap⟩;clear Uc Ug Ud;have Ul:=am.c2;have Um:=am.c3;rw[BC ah]at Ul;rw[BC ah]at Um;have Ui:=J (below_grown Qz.o ap (by rw[t.o];exact Aa _));clear am ap))
         go_quiet (fail)
         go_wp2_with fail
         exact BA (v:=.tuple #[C none 0 0,E F q,E F M]) (by simp[results,Tryz.results29,go_sem]) rfl ⟨_,_,_,rfl,by rw[Uh.o.1,Uh.o.2];exact FZ.bad Qp.o,below_drewN Ui.o _⟩
       . skip
         have Qm:=J λ(V:B) (h1:RowK false V (C a la ca) (Jd S)) (h2:RowK false V (C a2 l2 c2) (Jd (Dl n [c])))=>IJ _ _ _ _ V h1 h2 (T.o.sqs (by have:=HT.o.1;omega)) (Y8 HF.o) ⟨(by have:=Jw S;have:=T.o.1;omega),(by have:=Y0 n c;omega)⟩;have x:=J λ(V:B) (j:DX V R s (N:Int) q M)=>YI R s N q M 45 V j an hs;rw[show(decide ((q:Int)=0)&&JP (Je s) (DU (Je s) N) 45)=false from by simp[ah],Qr.o]at x;have y:=J λ(V:B) (j:DX V R s (d:Int) q M)=>J8 R s d q M 43 V j Qh hs false (by simp[ah]);rw[L.o]at y;have P:=J λ(V:B) (j:DX V R s (d:Int) q M)=>J8 R s d q M 45 V j Qh hs false (by simp[ah]);rw[L.o]at P;have H8:=J λ(V:B) (j:DX V R s (d:Int) q M)=>YI R s d q M 32 V j Qh hs;rw[L.o]at H8;go_wp2_with(first
          |(go_at_call 64;refine(Qm.o _ Ql.o HU.o).mono ?_;clear Qm;rintro e w2 ⟨u2,rfl,o,D⟩;rw[KI c (by rw[T.o.1];omega)]at o;obtain⟨a3,l3,c3,rfl⟩:=o.form;have Qd:=J o;have W:=J (Qn.o.below D);have Qt:=J (Bt Qq.o D);clear o D)
          |(go_at_call 65;refine(x.o _ W.o).mono ?_;clear x;rintro e w3 ⟨rfl,ad,z⟩;have Qf:=J (Qd.o.rd W.o z);have X:=J ad;have Qu:=J (below_grown Qt.o z (by rw[t.o];exact Aa _));clear ad z)
          |(go_at_call 61;refine(y.o _ X.o).mono ?_;clear y;rintro e w4 ⟨rfl,ae,A⟩;have Qg:=J (Qf.o.rd X.o A);have U:=J ae;have Qx:=J (below_grown Qu.o A (by rw[t.o];exact Aa _));clear ae A)
          |(go_at_call 61;refine(P.o _ U.o).mono ?_;clear P;rintro e w5 ⟨rfl,ai,Q⟩;have Qj:=J (Qg.o.rd U.o Q);have Qi:=J ai;have Qy:=J (below_grown Qx.o Q (by rw[t.o];exact Aa _));clear ai Q)
          |(go_at_call 65;refine(H8.o _ Qi.o).mono ?_;clear H8;rintro e w6 ⟨rfl,K,af⟩;have Qo:=J (Qj.o.rd Qi.o af);have Qs:=J K;have Uc:=K.c1;have Ug:=K.c2;have Ud:=K.c3;have Qz:=J (below_grown Qy.o af (by rw[t.o];exact Aa _));clear K af))
         go_quiet (fail)
         go_wp2_with fail
         exact BA (v:=.tuple #[C none 0 0,E F q,E F M]) (by simp[results,Tryz.results29,go_sem]) rfl ⟨_,_,_,rfl,by rw[Uh.o.1,Uh.o.2];exact FZ.bad Qp.o,below_drewN Qz.o _⟩
    |true=>
     have Uj:=J (show YN (S.set n (if true then cf S n-c else cf S n+c)) (m+1)from T.o.next HF.o bj true);by_cases ah:EN (JT (Je s) I) 0=0
     . obtain⟨_,⟨c0,n0⟩,k,hk⟩:=MS (Rm _ _) ah;obtain⟨rfl,rfl,rfl⟩:=Ur.o c0 n0 k hk;rw[ah,(FY hk 0 0).2]at Qn;have Ua:=J (show m<=I/\I<N/\N<=d/\d<=s.size/\s.size-I<f+1 from⟨HT.o.1,(I1 (by rw[Ji];exact hI) hk).1,by rw[<-Qr.o];exact GI _ _,Qh,HT.o.2.1⟩);have Ue:=J (KL (f:=f) (b:=true) (S:=S) hk);rw[Qr.o,HT.o.2.2]at Ue;clear ah hk;cases aj:JP (Je s) d 43 with
       |true=>
        obtain⟨Qv,Qk,Uk⟩:=Dk aj (show JP (Je s) d 45=false from Bool.eq_false_iff.2 λh=>absurd (Rl aj h) DQ) (show ET (Je s) f false (d+1) (S.set n (if true then cf S n-c else cf S n+c))=Xw (Je s)by rw[Ue.o,BG aj]);have Ub:d+1<=s.size:=by have:=JS aj;rw[Ji]at this;omega
        clear aj;have Qm:=J λ(V:B) (h1:RowK false V (C a la ca) (Jd S)) (h2:RowK false V (C a2 l2 c2) (Jd (Dl n [c])))=>It _ _ _ _ V h1 h2 (T.o.sqs (by have:=HT.o.1;omega)) (Y8 HF.o) ⟨(by have:=Jw S;have:=T.o.1;omega),(by have:=Y0 n c;omega)⟩;have x:=J λ(V:B) (j:DX V R s (N:Int) 0 0)=>YI R s N 0 0 45 V j an hs;rw[show(decide ((0:Int)=0)&&JP (Je s) (DU (Je s) N) 45)=false from by rw[Qr.o];simp[Qk.o],Qr.o]at x;have y:=J λ(V:B) (j:DX V R s (d:Int) 0 0)=>J8 R s d 0 0 43 V j Qh hs true (by rw[L.o];simp[Qv.o]);rw[L.o]at y;go_wp2_with(first
         |(go_at_call 63;refine(Qm.o _ Ql.o HU.o).mono ?_;clear Qm;rintro e w2 ⟨u2,rfl,o,D⟩;rw[KJ c (by rw[T.o.1];omega)]at o;obtain⟨a3,l3,c3,rfl⟩:=o.form;have Qd:=J o;have W:=J (Qn.o.below D);have Qt:=J (Bt Qq.o D);clear o D)
         |(go_at_call 65;refine(x.o _ W.o).mono ?_;clear x;rintro e w3 ⟨rfl,ad,z⟩;have Qf:=J (Qd.o.rd W.o z);have X:=J ad;have Qu:=J (below_grown Qt.o z (by rw[t.o];exact Aa _));clear ad z)
         |(go_at_call 61;refine(y.o _ X.o).mono ?_;clear y;rintro e w4 ⟨rfl,ae,A⟩;have Qg:=J (Qf.o.rd X.o A);have U:=J ae;have Qx:=J (below_grown Qu.o A (by rw[t.o];exact Aa _));clear ae A))
        go_roundw
        case rel=>exact⟨_,d+1,f,m+1,_,_,_,_,rfl,rfl,Ub,J U.o,J Qg.o,J Uj.o,J ⟨by have:=Ua.o;omega,by have:=Ua.o;omega,Uk.o⟩,J Qx.o⟩
        case measure=>
         have e1:=GP (I:=d+1) U.o;have e2:=GP aq.o;rw[e1,e2];have:=Ua.o;omega
       |false=>
        have Qv:=J aj;cases ak:JP (Je s) d 45 with
        |true=>
         have Qk:=J ak;have Uk:=J (show ET (Je s) f true (d+1) (S.set n (if true then cf S n-c else cf S n+c))=Xw (Je s)by rw[Ue.o,BC (show ¬JP (Je s) d 43=true by rw[aj];decide),BG ak]);have Ub:d+1<=s.size:=by have:=JS ak;rw[Ji]at this;omega
         clear aj ak;have Qm:=J λ(V:B) (h1:RowK false V (C a la ca) (Jd S)) (h2:RowK false V (C a2 l2 c2) (Jd (Dl n [c])))=>It _ _ _ _ V h1 h2 (T.o.sqs (by have:=HT.o.1;omega)) (Y8 HF.o) ⟨(by have:=Jw S;have:=T.o.1;omega),(by have:=Y0 n c;omega)⟩;have x:=J λ(V:B) (j:DX V R s (N:Int) 0 0)=>YI R s N 0 0 45 V j an hs;rw[show(decide ((0:Int)=0)&&JP (Je s) (DU (Je s) N) 45)=true from by rw[Qr.o];simp[Qk.o],Qr.o]at x;have y:=J λ(V:B) (j:DX V R s (d:Int) 0 0)=>J8 R s d 0 0 43 V j Qh hs false (by rw[L.o];simp[Qv.o]);rw[L.o]at y;have P:=J λ(V:B) (j:DX V R s (d:Int) 0 0)=>J8 R s d 0 0 45 V j Qh hs true (by rw[L.o];simp[Qk.o]);rw[L.o]at P;go_wp2_with(first
          |(go_at_call 63;refine(Qm.o _ Ql.o HU.o).mono ?_;clear Qm;rintro e w2 ⟨u2,rfl,o,D⟩;rw[KJ c (by rw[T.o.1];omega)]at o;obtain⟨a3,l3,c3,rfl⟩:=o.form;have Qd:=J o;have W:=J (Qn.o.below D);have Qt:=J (Bt Qq.o D);clear o D)
          |(go_at_call 65;refine(x.o _ W.o).mono ?_;clear x;rintro e w3 ⟨rfl,ad,z⟩;have Qf:=J (Qd.o.rd W.o z);have X:=J ad;have Qu:=J (below_grown Qt.o z (by rw[t.o];exact Aa _));clear ad z)
          |(go_at_call 61;refine(y.o _ X.o).mono ?_;clear y;rintro e w4 ⟨rfl,ae,A⟩;have Qg:=J (Qf.o.rd X.o A);have U:=J ae;have Qx:=J (below_grown Qu.o A (by rw[t.o];exact Aa _));clear ae A)
          |(go_at_call 61;refine(P.o _ U.o).mono ?_;clear P;rintro e w5 ⟨rfl,ai,Q⟩;have Qj:=J (Qg.o.rd U.o Q);have Qi:=J ai;have Qy:=J (below_grown Qx.o Q (by rw[t.o];exact Aa _));clear ai Q))
         go_roundw
         case rel=>exact⟨_,d+1,f,m+1,_,_,_,_,rfl,rfl,Ub,J Qi.o,J Qj.o,J Uj.o,J ⟨by have:=Ua.o;omega,by have:=Ua.o;omega,Uk.o⟩,J Qy.o⟩
         case measure=>
          have e1:=GP (I:=d+1) Qi.o;have e2:=GP aq.o;rw[e1,e2];have:=Ua.o;omega
        |false=>
         have Qk:=J ak;by_cases bh:d<s.size
         . have Qp:=J (show JR (Je s)=([],2,d)by rw[HP.o,Ue.o,BC (show ¬JP (Je s) d 43=true by rw[aj];decide),BC (show ¬JP (Je s) d 45=true by rw[ak];decide),BC (by rw[Ji];omega)];rfl);clear aj ak;have Qm:=J λ(V:B) (h1:RowK false V (C a la ca) (Jd S)) (h2:RowK false V (C a2 l2 c2) (Jd (Dl n [c])))=>It _ _ _ _ V h1 h2 (T.o.sqs (by have:=HT.o.1;omega)) (Y8 HF.o) ⟨(by have:=Jw S;have:=T.o.1;omega),(by have:=Y0 n c;omega)⟩;have x:=J λ(V:B) (j:DX V R s (N:Int) 0 0)=>YI R s N 0 0 45 V j an hs;rw[show(decide ((0:Int)=0)&&JP (Je s) (DU (Je s) N) 45)=false from by rw[Qr.o];simp[Qk.o],Qr.o]at x;have y:=J λ(V:B) (j:DX V R s (d:Int) 0 0)=>J8 R s d 0 0 43 V j Qh hs false (by rw[L.o];simp[Qv.o]);rw[L.o]at y;have P:=J λ(V:B) (j:DX V R s (d:Int) 0 0)=>J8 R s d 0 0 45 V j Qh hs false (by rw[L.o];simp[Qk.o]);rw[L.o]at P;have H8:=J λ(V:B) (j:DX V R s (d:Int) 0 0)=>YI R s d 0 0 32 V j Qh hs;rw[L.o]at H8;have Uf:=J λ(V:B) (j:DX V R s (d:Int) 0 0)=>Iu R s (d:Int) 0 0 2 (d:Int) V j;have bi:(d:Int)<(s.size:Int):=Y
           go_wp2_with(first
            |(go_at_call 63;refine(Qm.o _ Ql.o HU.o).mono ?_;clear Qm;rintro e w2 ⟨u2,rfl,o,D⟩;rw[KJ c (by rw[T.o.1];omega)]at o;obtain⟨a3,l3,c3,rfl⟩:=o.form;have Qd:=J o;have W:=J (Qn.o.below D);have Qt:=J (Bt Qq.o D);clear o D)
            |(go_at_call 65;refine(x.o _ W.o).mono ?_;clear x;rintro e w3 ⟨rfl,ad,z⟩;have Qf:=J (Qd.o.rd W.o z);have X:=J ad;have Qu:=J (below_grown Qt.o z (by rw[t.o];exact Aa _));clear ad z)
            |(go_at_call 61;refine(y.o _ X.o).mono ?_;clear y;rintro e w4 ⟨rfl,ae,A⟩;have Qg:=J (Qf.o.rd X.o A);have U:=J ae;have Qx:=J (below_grown Qu.o A (by rw[t.o];exact Aa _));clear ae A)
            |(go_at_call 61;refine(P.o _ U.o).mono ?_;clear P;rintro e w5 ⟨rfl,ai,Q⟩;have Qj:=J (Qg.o.rd U.o Q);have Qi:=J ai;have Qy:=J (below_grown Qx.o Q (by rw[t.o];exact Aa _));clear ai Q)
            |(go_at_call 65;refine(H8.o _ Qi.o).mono ?_;clear H8;rintro e w6 ⟨rfl,K,af⟩;have Qo:=J (Qj.o.rd Qi.o af);have Qs:=J K;have Uc:=K.c1;have Ug:=K.c2;have Ud:=K.c3;have Qz:=J (below_grown Qy.o af (by rw[t.o];exact Aa _));clear K af)
            |(go_at_call 66;refine(Uf.o _ Qs.o).mono ?_;clear Uf;rintro e w7 ⟨rfl,am,ap⟩;clear Uc Ug Ud;have Ul:w7.cell? ⟨R,2,none⟩=some (E F 2):=am.c2;have Um:w7.cell? ⟨R,3,none⟩=some (E F (d:Int)):=am.c3;have Ui:=J (below_grown Qz.o ap (by rw[t.o];exact Aa _));clear am ap))
           go_quiet (fail)
           go_wp2_with fail
           exact BA (v:=.tuple #[C none 0 0,E F 2,E F (d:Int)]) (by simp[results,Tryz.results29,go_sem]) rfl ⟨_,_,_,rfl,FZ.bad (e:=2) Qp.o,below_drewN Ui.o _⟩
         . have Qp:=J (show JR (Je s)=(Jd (S.set n (if true then cf S n-c else cf S n+c)),0,0)by rw[HP.o,Ue.o,BC (show ¬JP (Je s) d 43=true by rw[aj];decide),BC (show ¬JP (Je s) d 45=true by rw[ak];decide),BG (by rw[Ji];omega)];rfl);clear aj ak;have Qm:=J λ(V:B) (h1:RowK false V (C a la ca) (Jd S)) (h2:RowK false V (C a2 l2 c2) (Jd (Dl n [c])))=>It _ _ _ _ V h1 h2 (T.o.sqs (by have:=HT.o.1;omega)) (Y8 HF.o) ⟨(by have:=Jw S;have:=T.o.1;omega),(by have:=Y0 n c;omega)⟩;have x:=J λ(V:B) (j:DX V R s (N:Int) 0 0)=>YI R s N 0 0 45 V j an hs;rw[show(decide ((0:Int)=0)&&JP (Je s) (DU (Je s) N) 45)=false from by rw[Qr.o];simp[Qk.o],Qr.o]at x;have y:=J λ(V:B) (j:DX V R s (d:Int) 0 0)=>J8 R s d 0 0 43 V j Qh hs false (by rw[L.o];simp[Qv.o]);rw[L.o]at y;have P:=J λ(V:B) (j:DX V R s (d:Int) 0 0)=>J8 R s d 0 0 45 V j Qh hs false (by rw[L.o];simp[Qk.o]);rw[L.o]at P;have H8:=J λ(V:B) (j:DX V R s (d:Int) 0 0)=>YI R s d 0 0 32 V j Qh hs;rw[L.o]at H8;go_wp2_with(first
            |(go_at_call 63;refine(Qm.o _ Ql.o HU.o).mono ?_;clear Qm;rintro e w2 ⟨u2,rfl,o,D⟩;rw[KJ c (by rw[T.o.1];omega)]at o;obtain⟨a3,l3,c3,rfl⟩:=o.form;have Qd:=J o;have W:=J (Qn.o.below D);have Qt:=J (Bt Qq.o D);clear o D)
            |(go_at_call 65;refine(x.o _ W.o).mono ?_;clear x;rintro e w3 ⟨rfl,ad,z⟩;have Qf:=J (Qd.o.rd W.o z);have X:=J ad;have Qu:=J (below_grown Qt.o z (by rw[t.o];exact Aa _));clear ad z)
            |(go_at_call 61;refine(y.o _ X.o).mono ?_;clear y;rintro e w4 ⟨rfl,ae,A⟩;have Qg:=J (Qf.o.rd X.o A);have U:=J ae;have Qx:=J (below_grown Qu.o A (by rw[t.o];exact Aa _));clear ae A)
            |(go_at_call 61;refine(P.o _ U.o).mono ?_;clear P;rintro e w5 ⟨rfl,ai,Q⟩;have Qj:=J (Qg.o.rd U.o Q);have Qi:=J ai;have Qy:=J (below_grown Qx.o Q (by rw[t.o];exact Aa _));clear ai Q)
            |(go_at_call 65;refine(H8.o _ Qi.o).mono ?_;clear H8;rintro e w6 ⟨rfl,K,af⟩;have Qo:=J (Qj.o.rd Qi.o af);have Qs:=J K;have Uc:=K.c1;have Ug:=K.c2;have Ud:=K.c3;have Qz:=J (below_grown Qy.o af (by rw[t.o];exact Aa _));clear K af))
           exact BA (v:=.tuple #[C a3 l3 c3,E F 0,E F 0]) (by simp[results,Tryz.results29,go_sem]) rfl ⟨_,_,_,rfl,FZ.ok Qp.o Uj.o (by have:=Ua.o;omega) Qo.o,Qz.o⟩
     . obtain⟨q,hE⟩:=ex (EN (JT (Je s) I) 0);obtain⟨M,hA⟩:=ex (Ei (JT (Je s) I) 0 0);have Qw:∃e p:Nat,JT (Je s) I=.bad e p:=by
        cases hk:JT (Je s) I with
        |bad e p=>exact⟨e,p,rfl⟩
        |ok a k=>exact absurd (FY hk 0 0).1 ah
       obtain⟨e0,p0,Qw⟩:=Qw;have Uh:=J (show q=(e0:Int)/\M=(p0:Int)by rw[<-hE,<-hA,Qw];exact⟨rfl,rfl⟩);have Qp:=J (show JR (Je s)=([],e0,p0)by rw[HP.o,<-HT.o.2.2,KK Qw];rfl);rw[hE,hA]at Qn;rw[hE]at ah;have Up:(q==0)=false:=by rw[BH];exact ah
       clear hE hA Qw;by_cases bh:d<s.size
       . skip
         have Qm:=J λ(V:B) (h1:RowK false V (C a la ca) (Jd S)) (h2:RowK false V (C a2 l2 c2) (Jd (Dl n [c])))=>It _ _ _ _ V h1 h2 (T.o.sqs (by have:=HT.o.1;omega)) (Y8 HF.o) ⟨(by have:=Jw S;have:=T.o.1;omega),(by have:=Y0 n c;omega)⟩;have x:=J λ(V:B) (j:DX V R s (N:Int) q M)=>YI R s N q M 45 V j an hs;rw[show(decide ((q:Int)=0)&&JP (Je s) (DU (Je s) N) 45)=false from by simp[ah],Qr.o]at x;have y:=J λ(V:B) (j:DX V R s (d:Int) q M)=>J8 R s d q M 43 V j Qh hs false (by simp[ah]);rw[L.o]at y;have P:=J λ(V:B) (j:DX V R s (d:Int) q M)=>J8 R s d q M 45 V j Qh hs false (by simp[ah]);rw[L.o]at P;have H8:=J λ(V:B) (j:DX V R s (d:Int) q M)=>YI R s d q M 32 V j Qh hs;rw[L.o]at H8;have Uf:=J λ(V:B) (j:DX V R s (d:Int) q M)=>Iu R s (d:Int) q M 2 (d:Int) V j;have bi:(d:Int)<(s.size:Int):=Y
         go_wp2_with(first
          |(go_at_call 63;refine(Qm.o _ Ql.o HU.o).mono ?_;clear Qm;rintro e w2 ⟨u2,rfl,o,D⟩;rw[KJ c (by rw[T.o.1];omega)]at o;obtain⟨a3,l3,c3,rfl⟩:=o.form;have Qd:=J o;have W:=J (Qn.o.below D);have Qt:=J (Bt Qq.o D);clear o D)
          |(go_at_call 65;refine(x.o _ W.o).mono ?_;clear x;rintro e w3 ⟨rfl,ad,z⟩;have Qf:=J (Qd.o.rd W.o z);have X:=J ad;have Qu:=J (below_grown Qt.o z (by rw[t.o];exact Aa _));clear ad z)
          |(go_at_call 61;refine(y.o _ X.o).mono ?_;clear y;rintro e w4 ⟨rfl,ae,A⟩;have Qg:=J (Qf.o.rd X.o A);have U:=J ae;have Qx:=J (below_grown Qu.o A (by rw[t.o];exact Aa _));clear ae A)
          |(go_at_call 61;refine(P.o _ U.o).mono ?_;clear P;rintro e w5 ⟨rfl,ai,Q⟩;have Qj:=J (Qg.o.rd U.o Q);have Qi:=J ai;have Qy:=J (below_grown Qx.o Q (by rw[t.o];exact Aa _));clear ai Q)
          |(go_at_call 65;refine(H8.o _ Qi.o).mono ?_;clear H8;rintro e w6 ⟨rfl,K,af⟩;have Qo:=J (Qj.o.rd Qi.o af);have Qs:=J K;have Uc:=K.c1;have Ug:=K.c2;have Ud:=K.c3;have Qz:=J (below_grown Qy.o af (by rw[t.o];exact Aa _));clear K af)
          |(go_at_call 66;refine(Uf.o _ Qs.o).mono ?_;clear Uf;rintro e w7 ⟨rfl,am,ap⟩;clear Uc Ug Ud;have Ul:=am.c2;have Um:=am.c3;rw[BC ah]at Ul;rw[BC ah]at Um;have Ui:=J (below_grown Qz.o ap (by rw[t.o];exact Aa _));clear am ap))
         go_quiet (fail)
         go_wp2_with fail
         exact BA (v:=.tuple #[C none 0 0,E F q,E F M]) (by simp[results,Tryz.results29,go_sem]) rfl ⟨_,_,_,rfl,by rw[Uh.o.1,Uh.o.2];exact FZ.bad Qp.o,below_drewN Ui.o _⟩
       . skip
         have Qm:=J λ(V:B) (h1:RowK false V (C a la ca) (Jd S)) (h2:RowK false V (C a2 l2 c2) (Jd (Dl n [c])))=>It _ _ _ _ V h1 h2 (T.o.sqs (by have:=HT.o.1;omega)) (Y8 HF.o) ⟨(by have:=Jw S;have:=T.o.1;omega),(by have:=Y0 n c;omega)⟩;have x:=J λ(V:B) (j:DX V R s (N:Int) q M)=>YI R s N q M 45 V j an hs;rw[show(decide ((q:Int)=0)&&JP (Je s) (DU (Je s) N) 45)=false from by simp[ah],Qr.o]at x;have y:=J λ(V:B) (j:DX V R s (d:Int) q M)=>J8 R s d q M 43 V j Qh hs false (by simp[ah]);rw[L.o]at y;have P:=J λ(V:B) (j:DX V R s (d:Int) q M)=>J8 R s d q M 45 V j Qh hs false (by simp[ah]);rw[L.o]at P;have H8:=J λ(V:B) (j:DX V R s (d:Int) q M)=>YI R s d q M 32 V j Qh hs;rw[L.o]at H8;go_wp2_with(first
          |(go_at_call 63;refine(Qm.o _ Ql.o HU.o).mono ?_;clear Qm;rintro e w2 ⟨u2,rfl,o,D⟩;rw[KJ c (by rw[T.o.1];omega)]at o;obtain⟨a3,l3,c3,rfl⟩:=o.form;have Qd:=J o;have W:=J (Qn.o.below D);have Qt:=J (Bt Qq.o D);clear o D)
          |(go_at_call 65;refine(x.o _ W.o).mono ?_;clear x;rintro e w3 ⟨rfl,ad,z⟩;have Qf:=J (Qd.o.rd W.o z);have X:=J ad;have Qu:=J (below_grown Qt.o z (by rw[t.o];exact Aa _));clear ad z)
          |(go_at_call 61;refine(y.o _ X.o).mono ?_;clear y;rintro e w4 ⟨rfl,ae,A⟩;have Qg:=J (Qf.o.rd X.o A);have U:=J ae;have Qx:=J (below_grown Qu.o A (by rw[t.o];exact Aa _));clear ae A)
          |(go_at_call 61;refine(P.o _ U.o).mono ?_;clear P;rintro e w5 ⟨rfl,ai,Q⟩;have Qj:=J (Qg.o.rd U.o Q);have Qi:=J ai;have Qy:=J (below_grown Qx.o Q (by rw[t.o];exact Aa _));clear ai Q)
          |(go_at_call 65;refine(H8.o _ Qi.o).mono ?_;clear H8;rintro e w6 ⟨rfl,K,af⟩;have Qo:=J (Qj.o.rd Qi.o af);have Qs:=J K;have Uc:=K.c1;have Ug:=K.c2;have Ud:=K.c3;have Qz:=J (below_grown Qy.o af (by rw[t.o];exact Aa _));clear K af))
         go_quiet (fail)
         go_wp2_with fail
         exact BA (v:=.tuple #[C none 0 0,E F q,E F M]) (by simp[results,Tryz.results29,go_sem]) rfl ⟨_,_,_,rfl,by rw[Uh.o.1,Uh.o.2];exact FZ.bad Qp.o,below_drewN Qz.o _⟩
def Dc(W:B)(R:Nat)(s:ByteArray)(I:Int):Prop:=W.heap[R]?=some (.cells #[.string s,E F I] 130 (0,0))
section
variable {W W':World} {R:Nat} {s:ByteArray} {I:Int}
theorem Dc.lt(h:Dc W R s I):R<W.heap.size:=(Ab.1 h).1
theorem Dc.c0(h:Dc W R s I):W.cell? ⟨R,0,none⟩=some (.string s):=by simp[World.cell?,show W.heap[R]?=_ from h]
theorem Dc.c1(h:Dc W R s I):W.cell? ⟨R,1,none⟩=some (E F I):=by simp[World.cell?,show W.heap[R]?=_ from h]
theorem Dc.cp(h:Dc W R s I):type_of% (And.intro h.c0 h.c1):=⟨h.c0,h.c1⟩
theorem Dc.f(h:Dc W R s I)(o:Nat):W.frozen? ⟨R,o,none⟩=false:=by simp[World.frozen?,show W.heap[R]?=_ from h]
theorem Dc.below(h:Dc W R s I)(a:Bl W W'):Dc W' R s I:=(a.block R h.lt).trans h
theorem Dc.set1(h:Dc W R s I)(x:Int):Dc (W.setCell ⟨R,1,none⟩ (E F x)) R s x:=by
 have:=JY (o:=1) h (E F x);exact this
theorem Dc.drewN(h:Dc W R s I)(n:Nat):Dc (W.drewN n) R s I:=h
theorem IL(h:Dc W R s I){cs:Array Value}{t:TypeId}{m:Nat × Nat}{b:Nat}(a:W.heap[b]?=some (.cells cs t m))(c:t≠130):b≠R:=by
 intro e;subst e;have:=a.symm.trans h;simp only[Ag,Bu]at this;exact c this.2.1
theorem ON(h:Dc W R s I)(g:W.grownBy W' (some R)):∀k v ds,Row k W v ds->Row k W' v ds:=by
 intro k v ds c;obtain⟨a,cap,e,_⟩:=id c;subst e;refine c.grown g λp d hl=>?_;obtain⟨b,off,f,cs,m,i⟩:=c.typ hl;rw[f]at d;cases d;exact IL h i (by cases k<;>(show _≠_;decide))
end
theorem Hc{W:B}{R:Nat}{s:ByteArray}{I:Nat}(h:Dc W R s I):Ez W R=I:=by
 unfold Ez;rw[h.c1];simp[intOf]
theorem Rn(c:UInt8)(w:B):Calls Tryz.prog 171 #[E .u8 (c.toNat:Int)] w λr e=>r=.returned (.bool (Da c))/\e=w:=by
 by_cases b:48<=c.toNat
 . have f:decide ((48:Int)<=(c.toNat:Int))=true:=BK Y;by_cases d:c.toNat<=57
   . have a:=J (show Da c=true by simp[Da,b,d]);go_enter Tryz.func171,Tryz.ntmps171
     go_wp2;go_ret;exact⟨by rw[a.o];simp;omega,rfl⟩
   . have a:=J (show Da c=false by simp[Da,d]);go_enter Tryz.func171,Tryz.ntmps171
     go_wp2;go_ret;exact⟨by rw[a.o];simp;omega,rfl⟩
 . have a:=J (show Da c=false by simp[Da,b]);go_enter Tryz.func171,Tryz.ntmps171
   go_wp2;go_ret;exact⟨by rw[a.o];rfl,rfl⟩
theorem MV(R:Nat)(s:ByteArray)(I:Nat)(w:B)(h:Dc w R s I)(D:I<=s.size)(hs:s.size<=300):
 Calls Tryz.prog 126 #[G (some ⟨R,0,none⟩)] w λr q=>r=.returned (.bool (decide (DU (Je s) I=s.size)))/\Dc q R s (DU (Je s) I:Nat)/\w.grownBy q (some R):=by
 have t:=J h;clear h;go_enter Tryz.func126,Tryz.ntmps126
 go_wp2;go_loopw [] (λwr=>∃j:Nat,I<=j/\j<=s.size/\Hid (Dc wr R s j/\w.grownBy wr (some R)/\∀k (c:k<s.size),I<=k->k<j->s[k]=32)) λwr=>s.size-Ez wr R
 case atStart=>exact⟨I,Aa _,D,J ⟨t.o,YH _ _,λk _ o p=>by omega⟩⟩
 case round=>
  obtain⟨j,o,p,a⟩:=hrel;obtain⟨c0,c1⟩:=a.o.1.cp;have f1:=a.o.1.f 1;by_cases L:j<s.size
  . have P:(j:Int)<(s.size:Int):=Y
    have N:(0:Int)<=(j:Int):=Y
    by_cases b:s[j]=32
    . have K:((s[j].toNat:Int)==32)=true:=by rw[b];rfl
      have y:=J b;clear b;go_wp2_with fail
      go_quiet (fail)
      go_wp2;go_roundw
      case rel=>
       refine⟨j+1,Y,Y,J ⟨?_,Jh (Jh a.o.2.1 (JI _ _ _)) (JD _ R 1 _),λk c g i=>?_⟩⟩
       . have:=(a.o.1.drewN nq).set1 ((j:Int)+1);rw[show((j:Int)+1)=((j+1:Nat):Int)from by omega]at this;exact this
       . by_cases e:k=j
         . subst e;exact y.o
         . exact a.o.2.2 k c g Y
      case measure=>
       have z:=Hc a.o.1;have A:Ez ((wr.drewN nq).setCell ⟨R,1,none⟩ (E F ((j:Int)+1))) R=j+1:=by
        have:=(a.o.1.drewN nq).set1 ((j:Int)+1);rw[show((j:Int)+1)=((j+1:Nat):Int)from by omega]at this ⊢;exact Hc this
       show s.size-Ez ((wr.drewN nq).setCell ⟨R,1,none⟩ (E F ((j:Int)+1))) R<s.size-Ez wr R;rw[z,A];omega
    . have K:((s[j].toNat:Int)==32)=false:=MQ (d:=32) b;have f:=J (show DU (Je s) I=j from MR o p (λk c g i=>by rw[a.o.2.2 k c g i];rfl) λ_=>BH.2 b);have u:¬j=s.size:=Y
      have x:((j:Int)==(s.size:Int))=false:=by rw[BH];omega
      clear b;go_wp2_with fail
      go_quiet (fail)
      go_wp2;have m:=J (show w.grownBy (wr.drewN nq) (some R)from Jh a.o.2.1 (JI _ _ _));have l:=J (a.o.1.drewN nq);go_quiet (fail)
      go_wp2;go_ret;exact⟨by rw[f.o];simp[u],by rw[f.o];exact l.o.drewN _,Jh m.o (JI _ _ _)⟩
  . have n:j=s.size:=Y
    have M:decide (j<s.size)=false:=BI Y;have f:=J (show DU (Je s) I=j from MR o p (λk c g i=>by rw[a.o.2.2 k c g i];rfl) λh=>by omega);have x:((j:Int)==(s.size:Int))=true:=by rw[n];exact beq_self_eq_true _
    have v:=J n;clear L n;go_wp2_with fail
    go_quiet (fail)
    go_wp2;have m:=J (show w.grownBy (wr.drewN nq) (some R)from Jh a.o.2.1 (JI _ _ _));have l:=J (a.o.1.drewN nq);go_quiet (fail)
    go_wp2;go_ret;exact⟨by rw[f.o];simp[v.o],by rw[f.o];exact l.o.drewN _,Jh m.o (JI _ _ _)⟩
end
attribute [local go_sem] Oper.semAt_some
def Gd(e p:Int):Value:=.iface 97 (.agg #[E F e,E F p])
theorem K8(v:Value)(e p:Int)(w:B):Calls Tryz.prog 127 #[v,E F e,E F p] w λr a=>r=.panicked [{ v:=Gd e p,recovered:=false }]/\a=w:=by
 go_enter Tryz.func127,Tryz.ntmps127
 go_wp2;exact⟨rfl,rfl,rfl⟩
def F4(w V:B)(R:Nat)(s:ByteArray)(I:Int):Prop:=Dc V R s I/\w.grownBy V (some R)
theorem F4.below{w V V':B}{R:Nat}{s:ByteArray}{I:Int}(h:F4 w V R s I)(a:Bl V V'):F4 w V' R s I:=⟨h.1.below a,Jh h.2 (J4 a _)⟩
theorem Xs(R:Nat)(s:ByteArray)(I:Nat)(c:UInt8)(w:B)(h:Dc w R s I)(hI:I<=s.size)(hs:s.size<=300)(b:Bool)(L:b=JP (Je s) (DU (Je s) I) c):
 Calls Tryz.prog 124 #[G (some ⟨R,0,none⟩),E .u8 (c.toNat:Int)] w λr w'=>r=.returned (.bool b)/\Dc w' R s ((DU (Je s) I+(if b then 1 else 0):Nat):Int)/\w.grownBy w' (some R):=by
 have Qg:Tryz.prog.follows .mixedOrders=true:=by kernel_rfl
 have N:=J λ(V:B) (hh:Dc V R s I)=>MV R s I V hh hI hs;obtain⟨j,hj⟩:=ex (DU (Je s) I);have af:j<=s.size:=by rw[<-hj,<-Ji];exact Ys (by rw[Ji];exact hI)
 rw[hj]at N L ⊢;have HH:=J h;clear h hj;by_cases P:j=s.size
 . obtain rfl:b=false:=by rw[L];exact Rb Y
   rw[show decide (j=s.size)=true from BK P]at N;clear L P;go_enter Tryz.func124,Tryz.ntmps124
   go_wp2_with fail
   have T:F4 w w.drew R s I:=⟨HH.o,rfl,rfl,rfl,Aa _,λ_ _ _=>rfl⟩;refine Jl Qg [[],[0],[1,1],[2],[3,2],[4,2],[5,2],[2],[7,2],[8,2],[9,2],[6,10,2],[2],[11,12,2],[2,13]] (by kernel_rfl) DQ
    (λD y V=>∃(l m n tp tq ta tb o p q t u v x k:Value),y={ tmps:=#[G (some ⟨R,0,none⟩),E .u8 ↑c.toNat,H,H,.bool false,l,m,n,tp,tq,ta,tb,o,p,q,t,u,v,x,k,H,H,H,H,H,H,H],defers:=[] }/\Hid ((D 0=true->l=G (some ⟨R,0,none⟩))/\(D 1=true->m=.bool true)/\(D 2=true->n=.bool true)/\(D 3=true->True)/\(D 4=true->True)/\(D 5=true->True)/\(D 6=true->True)/\(D 7=true->True)/\(D 8=true->True)/\(D 9=true->True)/\(D 10=true->True)/\(D 11=true->True)/\(D 12=true->True)/\(D 13=true->True)/\(D 14=true->k=.bool true))/\Hid ((D 1=false->F4 w V R s I)/\(D 1=true->F4 w V R s (j:Int))))
    (E8 ⟨_,_,_,_,_,_,_,rfl,J O,J ⟨λ_=>T,O⟩⟩) ?step1 ?fin1
   case step1=>
    rintro D y V i ds W A d U ⟨l,m,n,tp,tq,ta,tb,o,p,q,t,u,v,x,k,rfl,a,f⟩;have Qj:i<15:=(Ac.1 A).1;obtain rfl|rfl|rfl|rfl|rfl|rfl|rfl|rfl|rfl|rfl|rfl|rfl|rfl|rfl|rfl:=IU i Y
    all_goals
     simp only[Af,Ae,Ag]at A;subst A
    . clear d;refine DT ?_;exact⟨(Dg a),f⟩
    . have M:=f.o.1 U;obtain rfl:=a.o.1 (d 0 O);clear d;have Q:=J (N.o V M.1);refine Jb rfl rfl λK hK=>?_;go_simp;go_wp2_with(go_at_call 126;refine Q.o.mono ?_;rintro e w5 ⟨rfl,ae,X⟩)
      exact E8 ⟨_,_,_,_,_,_,_,rfl,(Do (Dg a)),J ⟨λh=>by simp at h,λ_=>⟨ae,Jh M.2 X⟩⟩⟩
    . obtain rfl:=a.o.2.1 (d 1 O);clear d;refine DT ?_;exact⟨(Df (Do a)),f⟩
    . obtain rfl:=a.o.2.2.1 (d 2 O);clear d;refine Yl rfl rfl ?_;exact E8 ⟨_,_,_,_,_,_,_,rfl,(Dj (Df a) λ_=>trivial),f⟩
    . obtain rfl:=a.o.2.2.1 (d 2 O);clear d;refine Yl rfl rfl ?_;exact E8 ⟨_,_,_,_,_,_,_,rfl,(Dz (Df a) λ_=>trivial),f⟩
    . obtain rfl:=a.o.2.2.1 (d 2 O);clear d;refine Yl rfl rfl ?_;exact E8 ⟨_,_,_,_,_,_,_,rfl,(D0 (Df a) λ_=>trivial),f⟩
    . obtain rfl:=a.o.2.2.1 (d 2 O);clear d;refine Yl rfl rfl ?_;exact E8 ⟨_,_,_,_,_,_,_,rfl,(Dx (Df a) λ_=>trivial),f⟩
    . obtain rfl:=a.o.2.2.1 (d 2 O);clear d;refine Yl rfl rfl ?_;exact E8 ⟨_,_,_,_,_,_,_,rfl,(ED (Df a) λ_=>trivial),f⟩
    . obtain rfl:=a.o.2.2.1 (d 2 O);clear d;refine Yl rfl rfl ?_;exact E8 ⟨_,_,_,_,_,_,_,rfl,(EK (Df a) λ_=>trivial),f⟩
    . obtain rfl:=a.o.2.2.1 (d 2 O);clear d;refine Yl rfl rfl ?_;exact E8 ⟨_,_,_,_,_,_,_,rfl,(Es (Df a) λ_=>trivial),f⟩
    . obtain rfl:=a.o.2.2.1 (d 2 O);clear d;refine Yl rfl rfl ?_;exact E8 ⟨_,_,_,_,_,_,_,rfl,(D8 (Df a) λ_=>trivial),f⟩
    . obtain rfl:=a.o.2.2.1 (d 2 O);clear d;refine Yl rfl rfl ?_;exact E8 ⟨_,_,_,_,_,_,_,rfl,(D9 (Df a) λ_=>trivial),f⟩
    . obtain rfl:=a.o.2.2.1 (d 2 O);clear d;refine Yl rfl rfl ?_;exact E8 ⟨_,_,_,_,_,_,_,rfl,(EG (Df a) λ_=>trivial),f⟩
    . obtain rfl:=a.o.2.2.1 (d 2 O);clear d;refine Yl rfl rfl ?_;exact E8 ⟨_,_,_,_,_,_,_,rfl,(EP (Df a) λ_=>trivial),f⟩
    . obtain rfl:=a.o.2.2.1 (d 2 O);clear d;refine DT ?_;exact⟨(Gj (Df a)),f⟩
   case fin1=>
    rintro D y V z ⟨l,m,n,tp,tq,ta,tb,o,p,q,t,u,v,x,k,rfl,a,f⟩;have g:=J (f.o.2 (z 1 DQ));obtain rfl:=a.o.2.2.2.2.2.2.2.2.2.2.2.2.2.2 (z 14 DQ);clear a f z;go_wp2_with fail
    go_ret;exact⟨rfl,g.o.1,g.o.2⟩
 . have Qh:j<s.size:=Y
   have ah:(j:Int)<(s.size:Int):=Y
   rw[show decide (j=s.size)=false from BI P]at N;rw[Ra Qh]at L;obtain⟨nb,ad⟩:=ex (((s[j].toNat:Int) != (c.toNat:Int)));have Qf:=J (show nb=!b by
    rw[<-ad,L];by_cases e:s[j]=c
    . rw[e];simp
    . rw[show(s[j]==c)=false from BH.2 e,bne,MQ e])
   have Qi:=J ad;clear L P ad;go_enter Tryz.func124,Tryz.ntmps124
   go_wp2_with fail
   have T:F4 w w.drew R s I:=⟨HH.o,rfl,rfl,rfl,Aa _,λ_ _ _=>rfl⟩;refine Jl Qg [[],[0],[1,1],[2],[3,2],[4,2],[5,2],[2],[7,2],[8,2],[9,2],[6,10,2],[2],[11,12,2],[2,13]] (by kernel_rfl) DQ
    (λD y V=>∃(l m n tp tq ta tb o p q t u v x k:Value),y={ tmps:=#[G (some ⟨R,0,none⟩),E .u8 ↑c.toNat,H,H,.bool false,l,m,n,tp,tq,ta,tb,o,p,q,t,u,v,x,k,H,H,H,H,H,H,H],defers:=[] }/\Hid ((D 0=true->l=G (some ⟨R,0,none⟩))/\(D 1=true->m=.bool false)/\(D 2=true->n=.bool false)/\(D 3=true->tp=G (some ⟨R,0,none⟩))/\(D 4=true->tq=G (some ⟨R,0,none⟩))/\(D 5=true->ta=G (some ⟨R,0,none⟩))/\(D 6=true->tb=.string s)/\(D 7=true->o=G (some ⟨R,0,none⟩))/\(D 8=true->p=G (some ⟨R,0,none⟩))/\(D 9=true->q=G (some ⟨R,1,none⟩))/\(D 10=true->t=E F (j:Int))/\(D 11=true->u=E .u8 (s[j].toNat:Int))/\(D 12=true->v=E .u8 (c.toNat:Int))/\(D 13=true->x=.bool nb)/\(D 14=true->k=.bool nb))/\Hid ((D 1=false->F4 w V R s I)/\(D 1=true->F4 w V R s (j:Int))))
    (E8 ⟨_,_,_,_,_,_,_,rfl,J O,J ⟨λ_=>T,O⟩⟩) ?step2 ?fin2
   case step2=>
    rintro D y V i ds W A d U ⟨l,m,n,tp,tq,ta,tb,o,p,q,t,u,v,x,k,rfl,a,f⟩;have Qj:i<15:=(Ac.1 A).1;obtain rfl|rfl|rfl|rfl|rfl|rfl|rfl|rfl|rfl|rfl|rfl|rfl|rfl|rfl|rfl:=IU i Y
    all_goals
     simp only[Af,Ae,Ag]at A;subst A
    . clear d;refine DT ?_;exact⟨(Dg a),f⟩
    . have M:=f.o.1 U;obtain rfl:=a.o.1 (d 0 O);clear d;have Q:=J (N.o V M.1);refine Jb rfl rfl λK hK=>?_;go_simp;go_wp2_with(go_at_call 126;refine Q.o.mono ?_;rintro e w5 ⟨rfl,ae,X⟩)
      exact E8 ⟨_,_,_,_,_,_,_,rfl,(Do (Dg a)),J ⟨λh=>by simp at h,λ_=>⟨ae,Jh M.2 X⟩⟩⟩
    . obtain rfl:=a.o.2.1 (d 1 O);clear d;refine DT ?_;exact⟨(Df (Do a)),f⟩
    . obtain rfl:=a.o.2.2.1 (d 2 O);clear d;refine Et ?_;exact⟨(Dj (Df a)),f⟩
    . obtain rfl:=a.o.2.2.2.1 (d 3 O);obtain rfl:=a.o.2.2.1 (d 2 O);clear d;refine Et ?_;exact⟨(Dz (Dj (Df a))),f⟩
    . obtain rfl:=a.o.2.2.2.2.1 (d 4 O);obtain rfl:=a.o.2.2.1 (d 2 O);clear d;refine Et ?_;exact⟨(D0 (Dz (Df a))),f⟩
    . obtain rfl:=Dp a (d 5 O);obtain rfl:=a.o.2.2.1 (d 2 O);have S:D 1=true:=W 2 _ rfl (d 2 O) 1 O;have c0:=(f.o.2 S).1.c0;clear d;refine Et ?_;exact⟨(Dx (D0 (Df a))),f⟩
    . obtain rfl:=a.o.2.2.1 (d 2 O);clear d;refine Et ?_;exact⟨(ED (Df a)),f⟩
    . obtain rfl:=Du a (d 7 O);obtain rfl:=a.o.2.2.1 (d 2 O);clear d;refine Et ?_;exact⟨(EK (ED (Df a))),f⟩
    . obtain rfl:=D6 a (d 8 O);obtain rfl:=a.o.2.2.1 (d 2 O);clear d;refine Et ?_;exact⟨(Es (EK (Df a))),f⟩
    . obtain rfl:=EE a (d 9 O);obtain rfl:=a.o.2.2.1 (d 2 O);have S:D 1=true:=W 2 _ rfl (d 2 O) 1 O;have c1:=(f.o.2 S).1.c1;clear d;refine Et ?_;exact⟨(D8 (Es (Df a))),f⟩
    . obtain rfl:=Ds a (d 6 O);obtain rfl:=Dr a (d 10 O);obtain rfl:=a.o.2.2.1 (d 2 O);clear d;refine Et ?_;exact⟨(D9 (D8 (Dx (Df a)))),f⟩
    . obtain rfl:=a.o.2.2.1 (d 2 O);clear d;refine Et ?_;exact⟨(EG (Df a)),f⟩
    . obtain rfl:=Ee a (d 11 O);obtain rfl:=Ek a (d 12 O);obtain rfl:=a.o.2.2.1 (d 2 O);have ai:=Qi.o;clear d;refine Et ?_;exact⟨(EP (EG (D9 (Df a)))),f⟩
    . obtain rfl:=a.o.2.2.1 (d 2 O);obtain rfl:=GL a (d 13 O);clear d;refine DT ?_;exact⟨(Gj (EP (Df a))),f⟩
   case fin2=>
    rintro D y V z ⟨l,m,n,tp,tq,ta,tb,o,p,q,t,u,v,x,k,rfl,a,f⟩;have g:=J (f.o.2 (z 1 DQ));obtain rfl:=a.o.2.2.2.2.2.2.2.2.2.2.2.2.2.2 (z 14 DQ);clear a f z;have c1:=g.o.1.c1;have f1:=g.o.1.f 1;cases b with
    |true=>
     obtain rfl:nb=false:=Qf.o;go_wp2_with fail
     go_ret;exact⟨rfl,g.o.1.set1 _,Jh g.o.2 (JD _ R 1 _)⟩
    |false=>
     obtain rfl:nb=true:=Qf.o;go_wp2_with fail
     go_ret;exact⟨rfl,g.o.1,g.o.2⟩

