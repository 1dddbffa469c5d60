import Derived.Test.YteldjhhjnchdeaaGreatDoorU33
import Derived.WalkLawsBesides
open Go renaming World->B,undef->H
open Go.Value renaming slice->C,int->E,pointer->G
open Go.IntKind renaming i64->F
set_option maxRecDepth 100000
set_option maxHeartbeats 16000000
namespace Go.Proofs.YteldjhhjnchdeaaGreatDoor
open Go.RowKit Go.Shelf
section
attribute [local go_sem] Oper.semAt_some
variable{b:Bool}{S:List Rat}{l:List UInt8}{I e k m n p:Nat}{c:Rat}{a:B}
theorem Dd.add2{p q:Rat}(hp:Dd k p)(hq:Dd m q):Dd (k+m+1) (p+q):=by
 rw[<-QM];refine Dd.divInt ?_ ((hp.1.mul hq.2).add (by have:=hq.1.mul hp.2;rwa[C9]at this)) ((hp.2.mul hq.2).mono O);exact Co (by have:=p.den_nz;omega) (by have:=q.den_nz;omega)
theorem GG.sm(h:GG c):Dd 1 c:=by
 obtain⟨x,y,rfl,a,b,d⟩:=h;exact Dd.divInt O (by unfold Sm Z;omega) (by unfold Sm Z;omega)
theorem Dd.zero(k:Nat)(a:1<=k):Dd k 0:=⟨Sm.zero k,Sm.one k a⟩
theorem NF(n:Nat)(c:Rat)(i:Nat):cf (Dn n [c]) i=if i=n then c else 0:=by
 rw[KA];by_cases h:n<=i
 . rw[BG h];by_cases a:i=n
   . rw[BG a,a,A6,Y5]
   . rw[BC a,JZ si]
 . rw[BC h,BC O]
theorem Xo(h:GG c):DZ (Jc (Dn n [c])):=DZ.of λi=>by
 rw[JX,NF];split
 . exact Sq.of h.sm O
 . exact Sq.of (Dd.zero 1 O) O
theorem Xh(n:Nat)(c:Rat):(Jc (Dn n [c])).length<=n+1:=As (JG _) (by simp[Dn])
theorem Kr(c:Rat)(h:n<S.length):XV (Jc S) (Jc (Dn n [c]))=Jc (S.set n (cf S n+c)):=by
 unfold XV;refine YG λi=>?_;rw[XD,JX,JX,NF,XU _ _ _ _ h];split
 . rename_i h;rw[h]
 . grind
theorem Ks(c:Rat)(h:n<S.length):JP (Jc S) (Jc (Dn n [c]))=Jc (S.set n (cf S n-c)):=by
 unfold JP;refine YG λi=>?_;rw[XD,Xq,JX,JX,NF,XU _ _ _ _ h];split
 . rename_i h;rw[h];grind
 . grind
def Y1(S:List Rat)(m:Nat):Prop:=S.length=9/\∀i,Dd (2*m+1) (cf S i)
theorem Y1.start:Y1 (List.replicate 9 0) 0:=⟨rfl,λi=>by rw[JW];exact Dd.zero 1 O⟩
theorem Y1.sqs(h:Y1 S m)(a:m<=300):DZ (Jc S):=DZ.of λi=>by rw[JX];exact Sq.of (h.2 i) O
theorem Y1.next(h:Y1 S m)(a:GG c)(d:n<=8)(b:Bool):Y1 (S.set n (if b then cf S n-c else cf S n+c)) (m+1):=by
 refine⟨by rw[Cx];exact h.1,λi=>?_⟩;rw[XU _ _ _ _ (by rw[h.1];omega)];split
 . cases b
   . exact((h.2 n).add2 a.sm).mono O
   . rw[BG rfl,FH];exact((h.2 n).add2 a.sm.neg).mono O
 . exact(h.2 i).mono O
theorem Sl{j:Nat}{c d:UInt8}(a:JY l j c=true)(b:JY l j d=true):c=d:=by
 unfold JY at a b;rw[beq_iff_eq]at a b;exact Cm (a.symm.trans b)
theorem Kt{f:Nat}(h:J3 l I=.bad e p):EU l (f+1) b I S=.bad e p:=by
 rw[EU,h]
theorem Ku{f:Nat}(h:J3 l I=.ok (c,n) k):EU l (f+1) b I S =
 if JY l (DT l k) 43 then EU l f false (DT l k+1) (S.set n (if b then cf S n-c else cf S n+c))else if JY l (DT l k) 45 then EU l f true (DT l k+1) (S.set n (if b then cf S n-c else cf S n+c))else if DT l k=l.length then .ok (S.set n (if b then cf S n-c else cf S n+c)) (DT l k)else .bad 2 (DT l k):=by
 rw[EU,h]
theorem Sn(l:List UInt8)(i:Nat):(J3 l i).pos:=by
 intro e p h;rw[Ir]at h;split at h
 . rename_i b c a;cases h;exact Sh l i _ _ a
 . split at h
   . split at h
     . rename_i b c a;cases h;exact dI _ _ _ _ a
     . cases h
   . cases h
def XP(l:List UInt8):Rd (List Rat):=if JY l (DT l 0) 45 then EU l (l.length+1) true (DT l 0+1) (List.replicate 9 0)else EU l (l.length+1) false (DT l 0) (List.replicate 9 0)
def Kv(r:Rd (List Rat)):List Rat × Nat × Nat:=match r with|.bad e p=>([],e,p)|.ok s _=>(Jc s,0,0)
theorem Lf(h:¬300<l.length):J0 l=Kv (XP l):=by
 unfold J0 XP Kv;rw[BC h];split<;>(rename_i a;rw[a])
def GA(l:List UInt8)(a:B)(u:Value)(e p:Int):Prop:=e=((J0 l).2.1:Int)/\p=((J0 l).2.2:Int)/\RowK false a u (J0 l).1/\(J0 l).1.length<=9/\∀i,Dd 601 (cf (J0 l).1 i)
theorem GA.bad(h:J0 l=([],e,p)):GA l a (C none 0 0) e p:=by
 rw[GA,h];exact⟨rfl,rfl,RowK.nil _ _,Y,λi=>by rw[YI];exact Dd.zero _ O⟩
theorem GA.ok{u:Value}(h:J0 l=(Jc S,0,0))(hs:Y1 S m)(c:m<=300)(b:RowK false a u (Jc S)):GA l a u 0 0:=by
 rw[GA,h];exact⟨rfl,rfl,b,As (JG _) (by rw[hs.1];exact Aa _),λi=>by rw[JX];exact(hs.2 i).mono O⟩
theorem below_drewN{w W:B}(h:Bl w W)(k:Nat):Bl w (W.drewN k):=h.grown (JO W k none) h.size (λk e=>by cases e)
theorem DX.new(w:B)(s:ByteArray):DX (w.alloc (.cells #[.string s,E F 0,E F 0,E F 0] 106)) w.heap.size s 0 0 0:=BE w _
theorem dS(s:ByteArray)(bt:s.size<=140737488351232)(w:B):
 Calls Tryz.prog 29 #[.string s] w λr w'=>∃(u:Value) (e p:Int),r=.returned (.tuple #[u,E F e,E F p])/\GA (Jf s) w' u e p/\Bl w w':=by
 by_cases bg:300<s.size
 . have bn:(300:Int)<(s.size:Int):=O
   have HP:=J (show J0 (Jf s)=([],1,0)by unfold J0;rw[BG (by rw[Jj];exact bg)]);go_enter Tryz.func29,Tryz.ntmps29
   go_wp2;exact BA (v:=.tuple #[C none 0 0,E F 1,E F 0]) (by simp[results,Tryz.results29,go_sem]) rfl ⟨_,_,_,rfl,GA.bad HP.o,BB _ _⟩
 . have bn:¬(300:Int)<(s.size:Int):=O
   have hs:s.size<=300:=O
   have HP:=J (Lf (l:=Jf s) (by rw[Jj];exact bg));clear bg bt;have Uo:Bl w (w.alloc (.cells #[.string s,E F 0,E F 0,E F 0] 106)):=Ba w _;have Un:=DX.new w s;obtain⟨W0,bc⟩:=ex (w.alloc (.cells #[.string s,E F 0,E F 0,E F 0] 106));rw[bc]at Uo Un;obtain⟨R,hR⟩:=ex (w.heap.size);rw[hR]at Un;obtain⟨t,Us,Uq⟩:=Di hR bc Uo;obtain⟨b0,bf⟩:∃b,b=(decide ((0:Int)=0)&&JY (Jf s) (DT (Jf s) 0) 45):=⟨_,rfl⟩;have Uv:=J (Yf R s 0 0 0 45 W0 Un O hs b0 bf);have HB:=J (show JY (Jf s) (DT (Jf s) 0) 45=b0 by rw[bf];simp);clear Uo Un bf hR bc;go_enter Tryz.func29,Tryz.ntmps29
   go_upto_region 4 with fail
   rw[Us.o,t.o];go_wp2_with(first
    |(go_at_call 61;refine Uv.o.mono ?_;clear Uv;rintro e w1 ⟨rfl,ay,aw⟩;have Ut:=J ay;have Qq:=J (below_grown Uq.o aw (by rw[t.o];exact Aa _));clear ay aw))
   go_loopw [6,7,8] (λmv pv _ wr=>∃(b:Bool) (I f m:Nat) (S:List Rat) (a:Option Addr) (la ca:Nat),mv=.bool b/\pv=C a la ca/\I<=s.size/\Hid (DX wr R s (I:Int) 0 0)/\Hid (RowK false wr (C a la ca) (Jc S))/\Hid (Y1 S m)/\Hid (m<=I/\s.size-I<f/\EU (Jf s) f b I S=XP (Jf s))/\Hid (Bl w wr)) λ_ _ _ wr=>s.size-F4 wr R
   case atStart=>
    have Uw:DT (Jf s) 0<=s.size:=by rw[<-Jj];exact YK O
    refine⟨b0,DT (Jf s) 0+(if b0 then 1 else 0),s.size+1,0,List.replicate 9 0,none,0,0,rfl,rfl,?_,J Ut.o,J ?_,J Y1.start,J ⟨O,O,?_⟩,J Qq.o⟩
    . cases hb:b0
      . simpa using Uw
      . have h1:=HB.o;rw[hb]at h1;have h2:=J2 h1;rw[Jj]at h2;simp;omega
    . rw[L5 λi=>JW 9 i];exact RowK.nil _ _
    . unfold XP;rw[HB.o,Jj];cases b0<;>rfl
   case round=>
    clear Ut Qq HB Uq Us;obtain⟨b,I,f,m,S,a,la,ca,rfl,rfl,hI,aq,bm,T,HT,HG⟩:=hrel;have Uu:=J (dR R s I 0 0 wr aq.o hI hs);go_upto_if 19 with(first
     |(go_at_call 62;refine Uu.o.mono ?_;clear Uu;rintro e w1 ⟨u,c,n,N,rfl,hu,bj,hF,an,ay,bk,aw⟩;have Ql:=J (bm.o.rd aq.o aw);have Qn:=J ay;have HU:=J hu;have HF:=J hF;have Ur:=J (bk rfl);have Qq:=J (below_grown HG.o aw (by rw[t.o];exact Aa _));obtain⟨a2,l2,c2,rfl⟩:=hu.form;clear ay hu hF bk aw))
    obtain⟨d,az⟩:=ex (DT (Jf s) N);have Qr:=J az;have Qh:d<=s.size:=by rw[<-az,<-Jj];exact YK (by rw[Jj];exact an)
    have L:=J (show DT (Jf s) d=d by rw[<-az];exact KW _ _);clear az;obtain⟨f,rfl⟩:∃g,f=g+1:=⟨f-1,by have:=HT.o.2.1;omega⟩;cases b with
    |false=>
     have Uj:=J (show Y1 (S.set n (if false then cf S n-c else cf S n+c)) (m+1)from T.o.next HF.o bj false);by_cases ah:EP (J3 (Jf s) I) 0=0
     . obtain⟨_,⟨c0,n0⟩,k,hk⟩:=ND (Sn _ _) ah;obtain⟨rfl,rfl,rfl⟩:=Ur.o c0 n0 k hk;rw[ah,(F9 hk 0 0).2]at Qn;have Ua:=J (show m<=I/\I<N/\N<=d/\d<=s.size/\s.size-I<f+1 from⟨HT.o.1,(Kb (by rw[Jj];exact hI) hk).1,by rw[<-Qr.o];exact GY _ _,Qh,HT.o.2.1⟩);have Ue:=J (Ku (f:=f) (b:=false) (S:=S) hk);rw[Qr.o,HT.o.2.2]at Ue;clear ah hk;cases aj:JY (Jf s) d 43 with
       |true=>
        obtain⟨Qv,Qk,Uk⟩:=Di aj (show JY (Jf s) d 45=false from Bool.eq_false_iff.2 λh=>absurd (Sl aj h) DP) (show EU (Jf s) f false (d+1) (S.set n (if false then cf S n-c else cf S n+c))=XP (Jf s)by rw[Ue.o,BG aj]);have Ub:d+1<=s.size:=by have:=J2 aj;rw[Jj]at this;omega
        clear aj;have Qm:=J λ(V:B) (h1:RowK false V (C a la ca) (Jc S)) (h2:RowK false V (C a2 l2 c2) (Jc (Dn n [c])))=>Iq _ _ _ _ V h1 h2 (T.o.sqs (by have:=HT.o.1;omega)) (Xo HF.o) ⟨(by have:=JG S;have:=T.o.1;omega),(by have:=Xh n c;omega)⟩;have x:=J λ(V:B) (j:DX V R s (N:Int) 0 0)=>YX R s N 0 0 45 V j an hs;rw[show(decide ((0:Int)=0)&&JY (Jf s) (DT (Jf s) N) 45)=false from by rw[Qr.o];simp[Qk.o],Qr.o]at x;have y:=J λ(V:B) (j:DX V R s (d:Int) 0 0)=>Yf R s d 0 0 43 V j Qh hs true (by rw[L.o];simp[Qv.o]);rw[L.o]at y;go_wp2_with(first
         |(go_at_call 64;refine(Qm.o _ Ql.o HU.o).mono ?_;clear Qm;rintro e w2 ⟨u2,rfl,o,D⟩;rw[Kr c (by rw[T.o.1];omega)]at o;obtain⟨a3,l3,c3,rfl⟩:=o.form;have Qd:=J o;have W:=J (Qn.o.below D);have Qt:=J (Bt Qq.o D);clear o D)
         |(go_at_call 65;refine(x.o _ W.o).mono ?_;clear x;rintro e w3 ⟨rfl,ad,z⟩;have Qf:=J (Qd.o.rd W.o z);have X:=J ad;have Qu:=J (below_grown Qt.o z (by rw[t.o];exact Aa _));clear ad z)
         |(go_at_call 61;refine(y.o _ X.o).mono ?_;clear y;rintro e w4 ⟨rfl,ae,A⟩;have Qg:=J (Qf.o.rd X.o A);have U:=J ae;have Qx:=J (below_grown Qu.o A (by rw[t.o];exact Aa _));clear ae A))
        go_roundw
        case rel=>exact⟨_,d+1,f,m+1,_,_,_,_,rfl,rfl,Ub,J U.o,J Qg.o,J Uj.o,J ⟨by have:=Ua.o;omega,by have:=Ua.o;omega,Uk.o⟩,J Qx.o⟩
        case measure=>
         have e1:=Gf (I:=d+1) U.o;have e2:=Gf aq.o;rw[e1,e2];have:=Ua.o;omega
       |false=>
        have Qv:=J aj;cases ak:JY (Jf s) d 45 with
        |true=>
         have Qk:=J ak;have Uk:=J (show EU (Jf s) f true (d+1) (S.set n (if false then cf S n-c else cf S n+c))=XP (Jf s)by rw[Ue.o,BC (show ¬JY (Jf s) d 43=true by rw[aj];decide),BG ak]);have Ub:d+1<=s.size:=by have:=J2 ak;rw[Jj]at this;omega
         clear aj ak;have Qm:=J λ(V:B) (h1:RowK false V (C a la ca) (Jc S)) (h2:RowK false V (C a2 l2 c2) (Jc (Dn n [c])))=>Iq _ _ _ _ V h1 h2 (T.o.sqs (by have:=HT.o.1;omega)) (Xo HF.o) ⟨(by have:=JG S;have:=T.o.1;omega),(by have:=Xh n c;omega)⟩;have x:=J λ(V:B) (j:DX V R s (N:Int) 0 0)=>YX R s N 0 0 45 V j an hs;rw[show(decide ((0:Int)=0)&&JY (Jf s) (DT (Jf s) N) 45)=true from by rw[Qr.o];simp[Qk.o],Qr.o]at x;have y:=J λ(V:B) (j:DX V R s (d:Int) 0 0)=>Yf R s d 0 0 43 V j Qh hs false (by rw[L.o];simp[Qv.o]);rw[L.o]at y;have P:=J λ(V:B) (j:DX V R s (d:Int) 0 0)=>Yf R s d 0 0 45 V j Qh hs true (by rw[L.o];simp[Qk.o]);rw[L.o]at P;go_wp2_with(first
          |(go_at_call 64;refine(Qm.o _ Ql.o HU.o).mono ?_;clear Qm;rintro e w2 ⟨u2,rfl,o,D⟩;rw[Kr c (by rw[T.o.1];omega)]at o;obtain⟨a3,l3,c3,rfl⟩:=o.form;have Qd:=J o;have W:=J (Qn.o.below D);have Qt:=J (Bt Qq.o D);clear o D)
          |(go_at_call 65;refine(x.o _ W.o).mono ?_;clear x;rintro e w3 ⟨rfl,ad,z⟩;have Qf:=J (Qd.o.rd W.o z);have X:=J ad;have Qu:=J (below_grown Qt.o z (by rw[t.o];exact Aa _));clear ad z)
          |(go_at_call 61;refine(y.o _ X.o).mono ?_;clear y;rintro e w4 ⟨rfl,ae,A⟩;have Qg:=J (Qf.o.rd X.o A);have U:=J ae;have Qx:=J (below_grown Qu.o A (by rw[t.o];exact Aa _));clear ae A)
          |(go_at_call 61;refine(P.o _ U.o).mono ?_;clear P;rintro e w5 ⟨rfl,ai,Q⟩;have Qj:=J (Qg.o.rd U.o Q);have Qi:=J ai;have Qy:=J (below_grown Qx.o Q (by rw[t.o];exact Aa _));clear ai Q))
         go_roundw
         case rel=>exact⟨_,d+1,f,m+1,_,_,_,_,rfl,rfl,Ub,J Qi.o,J Qj.o,J Uj.o,J ⟨by have:=Ua.o;omega,by have:=Ua.o;omega,Uk.o⟩,J Qy.o⟩
         case measure=>
          have e1:=Gf (I:=d+1) Qi.o;have e2:=Gf aq.o;rw[e1,e2];have:=Ua.o;omega
        |false=>
         have Qk:=J ak;by_cases bh:d<s.size
         . have Qp:=J (show J0 (Jf s)=([],2,d)by rw[HP.o,Ue.o,BC (show ¬JY (Jf s) d 43=true by rw[aj];decide),BC (show ¬JY (Jf s) d 45=true by rw[ak];decide),BC (by rw[Jj];omega)];rfl);clear aj ak;have Qm:=J λ(V:B) (h1:RowK false V (C a la ca) (Jc S)) (h2:RowK false V (C a2 l2 c2) (Jc (Dn n [c])))=>Iq _ _ _ _ V h1 h2 (T.o.sqs (by have:=HT.o.1;omega)) (Xo HF.o) ⟨(by have:=JG S;have:=T.o.1;omega),(by have:=Xh n c;omega)⟩;have x:=J λ(V:B) (j:DX V R s (N:Int) 0 0)=>YX R s N 0 0 45 V j an hs;rw[show(decide ((0:Int)=0)&&JY (Jf s) (DT (Jf s) N) 45)=false from by rw[Qr.o];simp[Qk.o],Qr.o]at x;have y:=J λ(V:B) (j:DX V R s (d:Int) 0 0)=>Yf R s d 0 0 43 V j Qh hs false (by rw[L.o];simp[Qv.o]);rw[L.o]at y;have P:=J λ(V:B) (j:DX V R s (d:Int) 0 0)=>Yf R s d 0 0 45 V j Qh hs false (by rw[L.o];simp[Qk.o]);rw[L.o]at P;have H8:=J λ(V:B) (j:DX V R s (d:Int) 0 0)=>YX R s d 0 0 32 V j Qh hs;rw[L.o]at H8;have Uf:=J λ(V:B) (j:DX V R s (d:Int) 0 0)=>KV R s (d:Int) 0 0 2 (d:Int) V j;have bi:(d:Int)<(s.size:Int):=O
           go_wp2_with(first
            |(go_at_call 64;refine(Qm.o _ Ql.o HU.o).mono ?_;clear Qm;rintro e w2 ⟨u2,rfl,o,D⟩;rw[Kr c (by rw[T.o.1];omega)]at o;obtain⟨a3,l3,c3,rfl⟩:=o.form;have Qd:=J o;have W:=J (Qn.o.below D);have Qt:=J (Bt Qq.o D);clear o D)
            |(go_at_call 65;refine(x.o _ W.o).mono ?_;clear x;rintro e w3 ⟨rfl,ad,z⟩;have Qf:=J (Qd.o.rd W.o z);have X:=J ad;have Qu:=J (below_grown Qt.o z (by rw[t.o];exact Aa _));clear ad z)
            |(go_at_call 61;refine(y.o _ X.o).mono ?_;clear y;rintro e w4 ⟨rfl,ae,A⟩;have Qg:=J (Qf.o.rd X.o A);have U:=J ae;have Qx:=J (below_grown Qu.o A (by rw[t.o];exact Aa _));clear ae A)
            |(go_at_call 61;refine(P.o _ U.o).mono ?_;clear P;rintro e w5 ⟨rfl,ai,Q⟩;have Qj:=J (Qg.o.rd U.o Q);have Qi:=J ai;have Qy:=J (below_grown Qx.o Q (by rw[t.o];exact Aa _));clear ai Q)
            |(go_at_call 65;refine(H8.o _ Qi.o).mono ?_;clear H8;rintro e w6 ⟨rfl,K,af⟩;have Qo:=J (Qj.o.rd Qi.o af);have Qs:=J K;have Uc:=K.c1;have Ug:=K.c2;have Ud:=K.c3;have Qz:=J (below_grown Qy.o af (by rw[t.o];exact Aa _));clear K af)
            |(go_at_call 66;refine(Uf.o _ Qs.o).mono ?_;clear Uf;rintro e w7 ⟨rfl,am,ap⟩;clear Uc Ug Ud;have Ul:w7.cell? ⟨R,2,none⟩=some (E F 2):=am.c2;have Um:w7.cell? ⟨R,3,none⟩=some (E F (d:Int)):=am.c3;have Ui:=J (below_grown Qz.o ap (by rw[t.o];exact Aa _));clear am ap))
           go_quiet (fail)
           go_wp2_with fail
           exact BA (v:=.tuple #[C none 0 0,E F 2,E F (d:Int)]) (by simp[results,Tryz.results29,go_sem]) rfl ⟨_,_,_,rfl,GA.bad (e:=2) Qp.o,below_drewN Ui.o _⟩
         . have Qp:=J (show J0 (Jf s)=(Jc (S.set n (if false then cf S n-c else cf S n+c)),0,0)by rw[HP.o,Ue.o,BC (show ¬JY (Jf s) d 43=true by rw[aj];decide),BC (show ¬JY (Jf s) d 45=true by rw[ak];decide),BG (by rw[Jj];omega)];rfl);clear aj ak;have Qm:=J λ(V:B) (h1:RowK false V (C a la ca) (Jc S)) (h2:RowK false V (C a2 l2 c2) (Jc (Dn n [c])))=>Iq _ _ _ _ V h1 h2 (T.o.sqs (by have:=HT.o.1;omega)) (Xo HF.o) ⟨(by have:=JG S;have:=T.o.1;omega),(by have:=Xh n c;omega)⟩;have x:=J λ(V:B) (j:DX V R s (N:Int) 0 0)=>YX R s N 0 0 45 V j an hs;rw[show(decide ((0:Int)=0)&&JY (Jf s) (DT (Jf s) N) 45)=false from by rw[Qr.o];simp[Qk.o],Qr.o]at x;have y:=J λ(V:B) (j:DX V R s (d:Int) 0 0)=>Yf R s d 0 0 43 V j Qh hs false (by rw[L.o];simp[Qv.o]);rw[L.o]at y;have P:=J λ(V:B) (j:DX V R s (d:Int) 0 0)=>Yf R s d 0 0 45 V j Qh hs false (by rw[L.o];simp[Qk.o]);rw[L.o]at P;have H8:=J λ(V:B) (j:DX V R s (d:Int) 0 0)=>YX R s d 0 0 32 V j Qh hs;rw[L.o]at H8;go_wp2_with(first
            |(go_at_call 64;refine(Qm.o _ Ql.o HU.o).mono ?_;clear Qm;rintro e w2 ⟨u2,rfl,o,D⟩;rw[Kr c (by rw[T.o.1];omega)]at o;obtain⟨a3,l3,c3,rfl⟩:=o.form;have Qd:=J o;have W:=J (Qn.o.below D);have Qt:=J (Bt Qq.o D);clear o D)
            |(go_at_call 65;refine(x.o _ W.o).mono ?_;clear x;rintro e w3 ⟨rfl,ad,z⟩;have Qf:=J (Qd.o.rd W.o z);have X:=J ad;have Qu:=J (below_grown Qt.o z (by rw[t.o];exact Aa _));clear ad z)
            |(go_at_call 61;refine(y.o _ X.o).mono ?_;clear y;rintro e w4 ⟨rfl,ae,A⟩;have Qg:=J (Qf.o.rd X.o A);have U:=J ae;have Qx:=J (below_grown Qu.o A (by rw[t.o];exact Aa _));clear ae A)
            |(go_at_call 61;refine(P.o _ U.o).mono ?_;clear P;rintro e w5 ⟨rfl,ai,Q⟩;have Qj:=J (Qg.o.rd U.o Q);have Qi:=J ai;have Qy:=J (below_grown Qx.o Q (by rw[t.o];exact Aa _));clear ai Q)
            |(go_at_call 65;refine(H8.o _ Qi.o).mono ?_;clear H8;rintro e w6 ⟨rfl,K,af⟩;have Qo:=J (Qj.o.rd Qi.o af);have Qs:=J K;have Uc:=K.c1;have Ug:=K.c2;have Ud:=K.c3;have Qz:=J (below_grown Qy.o af (by rw[t.o];exact Aa _));clear K af))
           exact BA (v:=.tuple #[C a3 l3 c3,E F 0,E F 0]) (by simp[results,Tryz.results29,go_sem]) rfl ⟨_,_,_,rfl,GA.ok Qp.o Uj.o (by have:=Ua.o;omega) Qo.o,Qz.o⟩
     . obtain⟨q,hE⟩:=ex (EP (J3 (Jf s) I) 0);obtain⟨M,hA⟩:=ex (Eh (J3 (Jf s) I) 0 0);have Qw:∃e p:Nat,J3 (Jf s) I=.bad e p:=by
        cases hk:J3 (Jf s) I with
        |bad e p=>exact⟨e,p,rfl⟩
        |ok a k=>exact absurd (F9 hk 0 0).1 ah
       obtain⟨e0,p0,Qw⟩:=Qw;have Uh:=J (show q=(e0:Int)/\M=(p0:Int)by rw[<-hE,<-hA,Qw];exact⟨rfl,rfl⟩);have Qp:=J (show J0 (Jf s)=([],e0,p0)by rw[HP.o,<-HT.o.2.2,Kt Qw];rfl);rw[hE,hA]at Qn;rw[hE]at ah;have Up:(q==0)=false:=by rw[BH];exact ah
       clear hE hA Qw;by_cases bh:d<s.size
       . skip
         have Qm:=J λ(V:B) (h1:RowK false V (C a la ca) (Jc S)) (h2:RowK false V (C a2 l2 c2) (Jc (Dn n [c])))=>Iq _ _ _ _ V h1 h2 (T.o.sqs (by have:=HT.o.1;omega)) (Xo HF.o) ⟨(by have:=JG S;have:=T.o.1;omega),(by have:=Xh n c;omega)⟩;have x:=J λ(V:B) (j:DX V R s (N:Int) q M)=>YX R s N q M 45 V j an hs;rw[show(decide ((q:Int)=0)&&JY (Jf s) (DT (Jf s) N) 45)=false from by simp[ah],Qr.o]at x;have y:=J λ(V:B) (j:DX V R s (d:Int) q M)=>Yf R s d q M 43 V j Qh hs false (by simp[ah]);rw[L.o]at y;have P:=J λ(V:B) (j:DX V R s (d:Int) q M)=>Yf R s d q M 45 V j Qh hs false (by simp[ah]);rw[L.o]at P;have H8:=J λ(V:B) (j:DX V R s (d:Int) q M)=>YX R s d q M 32 V j Qh hs;rw[L.o]at H8;have Uf:=J λ(V:B) (j:DX V R s (d:Int) q M)=>KV R s (d:Int) q M 2 (d:Int) V j;have bi:(d:Int)<(s.size:Int):=O
         go_wp2_with(first
          |(go_at_call 64;refine(Qm.o _ Ql.o HU.o).mono ?_;clear Qm;rintro e w2 ⟨u2,rfl,o,D⟩;rw[Kr c (by rw[T.o.1];omega)]at o;obtain⟨a3,l3,c3,rfl⟩:=o.form;have Qd:=J o;have W:=J (Qn.o.below D);have Qt:=J (Bt Qq.o D);clear o D)
          |(go_at_call 65;refine(x.o _ W.o).mono ?_;clear x;rintro e w3 ⟨rfl,ad,z⟩;have Qf:=J (Qd.o.rd W.o z);have X:=J ad;have Qu:=J (below_grown Qt.o z (by rw[t.o];exact Aa _));clear ad z)
          |(go_at_call 61;refine(y.o _ X.o).mono ?_;clear y;rintro e w4 ⟨rfl,ae,A⟩;have Qg:=J (Qf.o.rd X.o A);have U:=J ae;have Qx:=J (below_grown Qu.o A (by rw[t.o];exact Aa _));clear ae A)
          |(go_at_call 61;refine(P.o _ U.o).mono ?_;clear P;rintro e w5 ⟨rfl,ai,Q⟩;have Qj:=J (Qg.o.rd U.o Q);have Qi:=J ai;have Qy:=J (below_grown Qx.o Q (by rw[t.o];exact Aa _));clear ai Q)
          |(go_at_call 65;refine(H8.o _ Qi.o).mono ?_;clear H8;rintro e w6 ⟨rfl,K,af⟩;have Qo:=J (Qj.o.rd Qi.o af);have Qs:=J K;have Uc:=K.c1;have Ug:=K.c2;have Ud:=K.c3;have Qz:=J (below_grown Qy.o af (by rw[t.o];exact Aa _));clear K af)
          |(go_at_call 66;refine(Uf.o _ Qs.o).mono ?_;clear Uf;rintro e w7 ⟨rfl,am,ap⟩;clear Uc Ug Ud;have Ul:=am.c2;have Um:=am.c3;rw[BC ah]at Ul;rw[BC ah]at Um;have Ui:=J (below_grown Qz.o ap (by rw[t.o];exact Aa _));clear am ap))
         go_quiet (fail)
         go_wp2_with fail
         exact BA (v:=.tuple #[C none 0 0,E F q,E F M]) (by simp[results,Tryz.results29,go_sem]) rfl ⟨_,_,_,rfl,by rw[Uh.o.1,Uh.o.2];exact GA.bad Qp.o,below_drewN Ui.o _⟩
       . skip
         have Qm:=J λ(V:B) (h1:RowK false V (C a la ca) (Jc S)) (h2:RowK false V (C a2 l2 c2) (Jc (Dn n [c])))=>Iq _ _ _ _ V h1 h2 (T.o.sqs (by have:=HT.o.1;omega)) (Xo HF.o) ⟨(by have:=JG S;have:=T.o.1;omega),(by have:=Xh n c;omega)⟩;have x:=J λ(V:B) (j:DX V R s (N:Int) q M)=>YX R s N q M 45 V j an hs;rw[show(decide ((q:Int)=0)&&JY (Jf s) (DT (Jf s) N) 45)=false from by simp[ah],Qr.o]at x;have y:=J λ(V:B) (j:DX V R s (d:Int) q M)=>Yf R s d q M 43 V j Qh hs false (by simp[ah]);rw[L.o]at y;have P:=J λ(V:B) (j:DX V R s (d:Int) q M)=>Yf R s d q M 45 V j Qh hs false (by simp[ah]);rw[L.o]at P;have H8:=J λ(V:B) (j:DX V R s (d:Int) q M)=>YX R s d q M 32 V j Qh hs;rw[L.o]at H8;go_wp2_with(first
          |(go_at_call 64;refine(Qm.o _ Ql.o HU.o).mono ?_;clear Qm;rintro e w2 ⟨u2,rfl,o,D⟩;rw[Kr c (by rw[T.o.1];omega)]at o;obtain⟨a3,l3,c3,rfl⟩:=o.form;have Qd:=J o;have W:=J (Qn.o.below D);have Qt:=J (Bt Qq.o D);clear o D)
          |(go_at_call 65;refine(x.o _ W.o).mono ?_;clear x;rintro e w3 ⟨rfl,ad,z⟩;have Qf:=J (Qd.o.rd W.o z);have X:=J ad;have Qu:=J (below_grown Qt.o z (by rw[t.o];exact Aa _));clear ad z)
          |(go_at_call 61;refine(y.o _ X.o).mono ?_;clear y;rintro e w4 ⟨rfl,ae,A⟩;have Qg:=J (Qf.o.rd X.o A);have U:=J ae;have Qx:=J (below_grown Qu.o A (by rw[t.o];exact Aa _));clear ae A)
          |(go_at_call 61;refine(P.o _ U.o).mono ?_;clear P;rintro e w5 ⟨rfl,ai,Q⟩;have Qj:=J (Qg.o.rd U.o Q);have Qi:=J ai;have Qy:=J (below_grown Qx.o Q (by rw[t.o];exact Aa _));clear ai Q)
          |(go_at_call 65;refine(H8.o _ Qi.o).mono ?_;clear H8;rintro e w6 ⟨rfl,K,af⟩;have Qo:=J (Qj.o.rd Qi.o af);have Qs:=J K;have Uc:=K.c1;have Ug:=K.c2;have Ud:=K.c3;have Qz:=J (below_grown Qy.o af (by rw[t.o];exact Aa _));clear K af))
         go_quiet (fail)
         go_wp2_with fail
         exact BA (v:=.tuple #[C none 0 0,E F q,E F M]) (by simp[results,Tryz.results29,go_sem]) rfl ⟨_,_,_,rfl,by rw[Uh.o.1,Uh.o.2];exact GA.bad Qp.o,below_drewN Qz.o _⟩
    |true=>
     have Uj:=J (show Y1 (S.set n (if true then cf S n-c else cf S n+c)) (m+1)from T.o.next HF.o bj true);by_cases ah:EP (J3 (Jf s) I) 0=0
     . obtain⟨_,⟨c0,n0⟩,k,hk⟩:=ND (Sn _ _) ah;obtain⟨rfl,rfl,rfl⟩:=Ur.o c0 n0 k hk;rw[ah,(F9 hk 0 0).2]at Qn;have Ua:=J (show m<=I/\I<N/\N<=d/\d<=s.size/\s.size-I<f+1 from⟨HT.o.1,(Kb (by rw[Jj];exact hI) hk).1,by rw[<-Qr.o];exact GY _ _,Qh,HT.o.2.1⟩);have Ue:=J (Ku (f:=f) (b:=true) (S:=S) hk);rw[Qr.o,HT.o.2.2]at Ue;clear ah hk;cases aj:JY (Jf s) d 43 with
       |true=>
        obtain⟨Qv,Qk,Uk⟩:=Di aj (show JY (Jf s) d 45=false from Bool.eq_false_iff.2 λh=>absurd (Sl aj h) DP) (show EU (Jf s) f false (d+1) (S.set n (if true then cf S n-c else cf S n+c))=XP (Jf s)by rw[Ue.o,BG aj]);have Ub:d+1<=s.size:=by have:=J2 aj;rw[Jj]at this;omega
        clear aj;have Qm:=J λ(V:B) (h1:RowK false V (C a la ca) (Jc S)) (h2:RowK false V (C a2 l2 c2) (Jc (Dn n [c])))=>KU _ _ _ _ V h1 h2 (T.o.sqs (by have:=HT.o.1;omega)) (Xo HF.o) ⟨(by have:=JG S;have:=T.o.1;omega),(by have:=Xh n c;omega)⟩;have x:=J λ(V:B) (j:DX V R s (N:Int) 0 0)=>YX R s N 0 0 45 V j an hs;rw[show(decide ((0:Int)=0)&&JY (Jf s) (DT (Jf s) N) 45)=false from by rw[Qr.o];simp[Qk.o],Qr.o]at x;have y:=J λ(V:B) (j:DX V R s (d:Int) 0 0)=>Yf R s d 0 0 43 V j Qh hs true (by rw[L.o];simp[Qv.o]);rw[L.o]at y;go_wp2_with(first
         |(go_at_call 63;refine(Qm.o _ Ql.o HU.o).mono ?_;clear Qm;rintro e w2 ⟨u2,rfl,o,D⟩;rw[Ks c (by rw[T.o.1];omega)]at o;obtain⟨a3,l3,c3,rfl⟩:=o.form;have Qd:=J o;have W:=J (Qn.o.below D);have Qt:=J (Bt Qq.o D);clear o D)
         |(go_at_call 65;refine(x.o _ W.o).mono ?_;clear x;rintro e w3 ⟨rfl,ad,z⟩;have Qf:=J (Qd.o.rd W.o z);have X:=J ad;have Qu:=J (below_grown Qt.o z (by rw[t.o];exact Aa _));clear ad z)
         |(go_at_call 61;refine(y.o _ X.o).mono ?_;clear y;rintro e w4 ⟨rfl,ae,A⟩;have Qg:=J (Qf.o.rd X.o A);have U:=J ae;have Qx:=J (below_grown Qu.o A (by rw[t.o];exact Aa _));clear ae A))
        go_roundw
        case rel=>exact⟨_,d+1,f,m+1,_,_,_,_,rfl,rfl,Ub,J U.o,J Qg.o,J Uj.o,J ⟨by have:=Ua.o;omega,by have:=Ua.o;omega,Uk.o⟩,J Qx.o⟩
        case measure=>
         have e1:=Gf (I:=d+1) U.o;have e2:=Gf aq.o;rw[e1,e2];have:=Ua.o;omega
       |false=>
        have Qv:=J aj;cases ak:JY (Jf s) d 45 with
        |true=>
         have Qk:=J ak;have Uk:=J (show EU (Jf s) f true (d+1) (S.set n (if true then cf S n-c else cf S n+c))=XP (Jf s)by rw[Ue.o,BC (show ¬JY (Jf s) d 43=true by rw[aj];decide),BG ak]);have Ub:d+1<=s.size:=by have:=J2 ak;rw[Jj]at this;omega
         clear aj ak;have Qm:=J λ(V:B) (h1:RowK false V (C a la ca) (Jc S)) (h2:RowK false V (C a2 l2 c2) (Jc (Dn n [c])))=>KU _ _ _ _ V h1 h2 (T.o.sqs (by have:=HT.o.1;omega)) (Xo HF.o) ⟨(by have:=JG S;have:=T.o.1;omega),(by have:=Xh n c;omega)⟩;have x:=J λ(V:B) (j:DX V R s (N:Int) 0 0)=>YX R s N 0 0 45 V j an hs;rw[show(decide ((0:Int)=0)&&JY (Jf s) (DT (Jf s) N) 45)=true from by rw[Qr.o];simp[Qk.o],Qr.o]at x;have y:=J λ(V:B) (j:DX V R s (d:Int) 0 0)=>Yf R s d 0 0 43 V j Qh hs false (by rw[L.o];simp[Qv.o]);rw[L.o]at y;have P:=J λ(V:B) (j:DX V R s (d:Int) 0 0)=>Yf R s d 0 0 45 V j Qh hs true (by rw[L.o];simp[Qk.o]);rw[L.o]at P;go_wp2_with(first
          |(go_at_call 63;refine(Qm.o _ Ql.o HU.o).mono ?_;clear Qm;rintro e w2 ⟨u2,rfl,o,D⟩;rw[Ks c (by rw[T.o.1];omega)]at o;obtain⟨a3,l3,c3,rfl⟩:=o.form;have Qd:=J o;have W:=J (Qn.o.below D);have Qt:=J (Bt Qq.o D);clear o D)
          |(go_at_call 65;refine(x.o _ W.o).mono ?_;clear x;rintro e w3 ⟨rfl,ad,z⟩;have Qf:=J (Qd.o.rd W.o z);have X:=J ad;have Qu:=J (below_grown Qt.o z (by rw[t.o];exact Aa _));clear ad z)
          |(go_at_call 61;refine(y.o _ X.o).mono ?_;clear y;rintro e w4 ⟨rfl,ae,A⟩;have Qg:=J (Qf.o.rd X.o A);have U:=J ae;have Qx:=J (below_grown Qu.o A (by rw[t.o];exact Aa _));clear ae A)
          |(go_at_call 61;refine(P.o _ U.o).mono ?_;clear P;rintro e w5 ⟨rfl,ai,Q⟩;have Qj:=J (Qg.o.rd U.o Q);have Qi:=J ai;have Qy:=J (below_grown Qx.o Q (by rw[t.o];exact Aa _));clear ai Q))
         go_roundw
         case rel=>exact⟨_,d+1,f,m+1,_,_,_,_,rfl,rfl,Ub,J Qi.o,J Qj.o,J Uj.o,J ⟨by have:=Ua.o;omega,by have:=Ua.o;omega,Uk.o⟩,J Qy.o⟩
         case measure=>
          have e1:=Gf (I:=d+1) Qi.o;have e2:=Gf aq.o;rw[e1,e2];have:=Ua.o;omega
        |false=>
         have Qk:=J ak;by_cases bh:d<s.size
         . have Qp:=J (show J0 (Jf s)=([],2,d)by rw[HP.o,Ue.o,BC (show ¬JY (Jf s) d 43=true by rw[aj];decide),BC (show ¬JY (Jf s) d 45=true by rw[ak];decide),BC (by rw[Jj];omega)];rfl);clear aj ak;have Qm:=J λ(V:B) (h1:RowK false V (C a la ca) (Jc S)) (h2:RowK false V (C a2 l2 c2) (Jc (Dn n [c])))=>KU _ _ _ _ V h1 h2 (T.o.sqs (by have:=HT.o.1;omega)) (Xo HF.o) ⟨(by have:=JG S;have:=T.o.1;omega),(by have:=Xh n c;omega)⟩;have x:=J λ(V:B) (j:DX V R s (N:Int) 0 0)=>YX R s N 0 0 45 V j an hs;rw[show(decide ((0:Int)=0)&&JY (Jf s) (DT (Jf s) N) 45)=false from by rw[Qr.o];simp[Qk.o],Qr.o]at x;have y:=J λ(V:B) (j:DX V R s (d:Int) 0 0)=>Yf R s d 0 0 43 V j Qh hs false (by rw[L.o];simp[Qv.o]);rw[L.o]at y;have P:=J λ(V:B) (j:DX V R s (d:Int) 0 0)=>Yf R s d 0 0 45 V j Qh hs false (by rw[L.o];simp[Qk.o]);rw[L.o]at P;have H8:=J λ(V:B) (j:DX V R s (d:Int) 0 0)=>YX R s d 0 0 32 V j Qh hs;rw[L.o]at H8;have Uf:=J λ(V:B) (j:DX V R s (d:Int) 0 0)=>KV R s (d:Int) 0 0 2 (d:Int) V j;have bi:(d:Int)<(s.size:Int):=O
           go_wp2_with(first
            |(go_at_call 63;refine(Qm.o _ Ql.o HU.o).mono ?_;clear Qm;rintro e w2 ⟨u2,rfl,o,D⟩;rw[Ks c (by rw[T.o.1];omega)]at o;obtain⟨a3,l3,c3,rfl⟩:=o.form;have Qd:=J o;have W:=J (Qn.o.below D);have Qt:=J (Bt Qq.o D);clear o D)
            |(go_at_call 65;refine(x.o _ W.o).mono ?_;clear x;rintro e w3 ⟨rfl,ad,z⟩;have Qf:=J (Qd.o.rd W.o z);have X:=J ad;have Qu:=J (below_grown Qt.o z (by rw[t.o];exact Aa _));clear ad z)
            |(go_at_call 61;refine(y.o _ X.o).mono ?_;clear y;rintro e w4 ⟨rfl,ae,A⟩;have Qg:=J (Qf.o.rd X.o A);have U:=J ae;have Qx:=J (below_grown Qu.o A (by rw[t.o];exact Aa _));clear ae A)
            |(go_at_call 61;refine(P.o _ U.o).mono ?_;clear P;rintro e w5 ⟨rfl,ai,Q⟩;have Qj:=J (Qg.o.rd U.o Q);have Qi:=J ai;have Qy:=J (below_grown Qx.o Q (by rw[t.o];exact Aa _));clear ai Q)
            |(go_at_call 65;refine(H8.o _ Qi.o).mono ?_;clear H8;rintro e w6 ⟨rfl,K,af⟩;have Qo:=J (Qj.o.rd Qi.o af);have Qs:=J K;have Uc:=K.c1;have Ug:=K.c2;have Ud:=K.c3;have Qz:=J (below_grown Qy.o af (by rw[t.o];exact Aa _));clear K af)
            |(go_at_call 66;refine(Uf.o _ Qs.o).mono ?_;clear Uf;rintro e w7 ⟨rfl,am,ap⟩;clear Uc Ug Ud;have Ul:w7.cell? ⟨R,2,none⟩=some (E F 2):=am.c2;have Um:w7.cell? ⟨R,3,none⟩=some (E F (d:Int)):=am.c3;have Ui:=J (below_grown Qz.o ap (by rw[t.o];exact Aa _));clear am ap))
           go_quiet (fail)
           go_wp2_with fail
           exact BA (v:=.tuple #[C none 0 0,E F 2,E F (d:Int)]) (by simp[results,Tryz.results29,go_sem]) rfl ⟨_,_,_,rfl,GA.bad (e:=2) Qp.o,below_drewN Ui.o _⟩
         . have Qp:=J (show J0 (Jf s)=(Jc (S.set n (if true then cf S n-c else cf S n+c)),0,0)by rw[HP.o,Ue.o,BC (show ¬JY (Jf s) d 43=true by rw[aj];decide),BC (show ¬JY (Jf s) d 45=true by rw[ak];decide),BG (by rw[Jj];omega)];rfl);clear aj ak;have Qm:=J λ(V:B) (h1:RowK false V (C a la ca) (Jc S)) (h2:RowK false V (C a2 l2 c2) (Jc (Dn n [c])))=>KU _ _ _ _ V h1 h2 (T.o.sqs (by have:=HT.o.1;omega)) (Xo HF.o) ⟨(by have:=JG S;have:=T.o.1;omega),(by have:=Xh n c;omega)⟩;have x:=J λ(V:B) (j:DX V R s (N:Int) 0 0)=>YX R s N 0 0 45 V j an hs;rw[show(decide ((0:Int)=0)&&JY (Jf s) (DT (Jf s) N) 45)=false from by rw[Qr.o];simp[Qk.o],Qr.o]at x;have y:=J λ(V:B) (j:DX V R s (d:Int) 0 0)=>Yf R s d 0 0 43 V j Qh hs false (by rw[L.o];simp[Qv.o]);rw[L.o]at y;have P:=J λ(V:B) (j:DX V R s (d:Int) 0 0)=>Yf R s d 0 0 45 V j Qh hs false (by rw[L.o];simp[Qk.o]);rw[L.o]at P;have H8:=J λ(V:B) (j:DX V R s (d:Int) 0 0)=>YX R s d 0 0 32 V j Qh hs;rw[L.o]at H8;go_wp2_with(first
            |(go_at_call 63;refine(Qm.o _ Ql.o HU.o).mono ?_;clear Qm;rintro e w2 ⟨u2,rfl,o,D⟩;rw[Ks c (by rw[T.o.1];omega)]at o;obtain⟨a3,l3,c3,rfl⟩:=o.form;have Qd:=J o;have W:=J (Qn.o.below D);have Qt:=J (Bt Qq.o D);clear o D)
            |(go_at_call 65;refine(x.o _ W.o).mono ?_;clear x;rintro e w3 ⟨rfl,ad,z⟩;have Qf:=J (Qd.o.rd W.o z);have X:=J ad;have Qu:=J (below_grown Qt.o z (by rw[t.o];exact Aa _));clear ad z)
            |(go_at_call 61;refine(y.o _ X.o).mono ?_;clear y;rintro e w4 ⟨rfl,ae,A⟩;have Qg:=J (Qf.o.rd X.o A);have U:=J ae;have Qx:=J (below_grown Qu.o A (by rw[t.o];exact Aa _));clear ae A)
            |(go_at_call 61;refine(P.o _ U.o).mono ?_;clear P;rintro e w5 ⟨rfl,ai,Q⟩;have Qj:=J (Qg.o.rd U.o Q);have Qi:=J ai;have Qy:=J (below_grown Qx.o Q (by rw[t.o];exact Aa _));clear ai Q)
            |(go_at_call 65;refine(H8.o _ Qi.o).mono ?_;clear H8;rintro e w6 ⟨rfl,K,af⟩;have Qo:=J (Qj.o.rd Qi.o af);have Qs:=J K;have Uc:=K.c1;have Ug:=K.c2;have Ud:=K.c3;have Qz:=J (below_grown Qy.o af (by rw[t.o];exact Aa _));clear K af))
           exact BA (v:=.tuple #[C a3 l3 c3,E F 0,E F 0]) (by simp[results,Tryz.results29,go_sem]) rfl ⟨_,_,_,rfl,GA.ok Qp.o Uj.o (by have:=Ua.o;omega) Qo.o,Qz.o⟩
     . obtain⟨q,hE⟩:=ex (EP (J3 (Jf s) I) 0);obtain⟨M,hA⟩:=ex (Eh (J3 (Jf s) I) 0 0);have Qw:∃e p:Nat,J3 (Jf s) I=.bad e p:=by
        cases hk:J3 (Jf s) I with
        |bad e p=>exact⟨e,p,rfl⟩
        |ok a k=>exact absurd (F9 hk 0 0).1 ah
       obtain⟨e0,p0,Qw⟩:=Qw;have Uh:=J (show q=(e0:Int)/\M=(p0:Int)by rw[<-hE,<-hA,Qw];exact⟨rfl,rfl⟩);have Qp:=J (show J0 (Jf s)=([],e0,p0)by rw[HP.o,<-HT.o.2.2,Kt Qw];rfl);rw[hE,hA]at Qn;rw[hE]at ah;have Up:(q==0)=false:=by rw[BH];exact ah
       clear hE hA Qw;by_cases bh:d<s.size
       . skip
         have Qm:=J λ(V:B) (h1:RowK false V (C a la ca) (Jc S)) (h2:RowK false V (C a2 l2 c2) (Jc (Dn n [c])))=>KU _ _ _ _ V h1 h2 (T.o.sqs (by have:=HT.o.1;omega)) (Xo HF.o) ⟨(by have:=JG S;have:=T.o.1;omega),(by have:=Xh n c;omega)⟩;have x:=J λ(V:B) (j:DX V R s (N:Int) q M)=>YX R s N q M 45 V j an hs;rw[show(decide ((q:Int)=0)&&JY (Jf s) (DT (Jf s) N) 45)=false from by simp[ah],Qr.o]at x;have y:=J λ(V:B) (j:DX V R s (d:Int) q M)=>Yf R s d q M 43 V j Qh hs false (by simp[ah]);rw[L.o]at y;have P:=J λ(V:B) (j:DX V R s (d:Int) q M)=>Yf R s d q M 45 V j Qh hs false (by simp[ah]);rw[L.o]at P;have H8:=J λ(V:B) (j:DX V R s (d:Int) q M)=>YX R s d q M 32 V j Qh hs;rw[L.o]at H8;have Uf:=J λ(V:B) (j:DX V R s (d:Int) q M)=>KV R s (d:Int) q M 2 (d:Int) V j;have bi:(d:Int)<(s.size:Int):=O
         go_wp2_with(first
          |(go_at_call 63;refine(Qm.o _ Ql.o HU.o).mono ?_;clear Qm;rintro e w2 ⟨u2,rfl,o,D⟩;rw[Ks c (by rw[T.o.1];omega)]at o;obtain⟨a3,l3,c3,rfl⟩:=o.form;have Qd:=J o;have W:=J (Qn.o.below D);have Qt:=J (Bt Qq.o D);clear o D)
          |(go_at_call 65;refine(x.o _ W.o).mono ?_;clear x;rintro e w3 ⟨rfl,ad,z⟩;have Qf:=J (Qd.o.rd W.o z);have X:=J ad;have Qu:=J (below_grown Qt.o z (by rw[t.o];exact Aa _));clear ad z)
          |(go_at_call 61;refine(y.o _ X.o).mono ?_;clear y;rintro e w4 ⟨rfl,ae,A⟩;have Qg:=J (Qf.o.rd X.o A);have U:=J ae;have Qx:=J (below_grown Qu.o A (by rw[t.o];exact Aa _));clear ae A)
          |(go_at_call 61;refine(P.o _ U.o).mono ?_;clear P;rintro e w5 ⟨rfl,ai,Q⟩;have Qj:=J (Qg.o.rd U.o Q);have Qi:=J ai;have Qy:=J (below_grown Qx.o Q (by rw[t.o];exact Aa _));clear ai Q)
          |(go_at_call 65;refine(H8.o _ Qi.o).mono ?_;clear H8;rintro e w6 ⟨rfl,K,af⟩;have Qo:=J (Qj.o.rd Qi.o af);have Qs:=J K;have Uc:=K.c1;have Ug:=K.c2;have Ud:=K.c3;have Qz:=J (below_grown Qy.o af (by rw[t.o];exact Aa _));clear K af)
          |(go_at_call 66;refine(Uf.o _ Qs.o).mono ?_;clear Uf;rintro e w7 ⟨rfl,am,ap⟩;clear Uc Ug Ud;have Ul:=am.c2;have Um:=am.c3;rw[BC ah]at Ul;rw[BC ah]at Um;have Ui:=J (below_grown Qz.o ap (by rw[t.o];exact Aa _));clear am ap))
         go_quiet (fail)
         go_wp2_with fail
         exact BA (v:=.tuple #[C none 0 0,E F q,E F M]) (by simp[results,Tryz.results29,go_sem]) rfl ⟨_,_,_,rfl,by rw[Uh.o.1,Uh.o.2];exact GA.bad Qp.o,below_drewN Ui.o _⟩
       . skip
         have Qm:=J λ(V:B) (h1:RowK false V (C a la ca) (Jc S)) (h2:RowK false V (C a2 l2 c2) (Jc (Dn n [c])))=>KU _ _ _ _ V h1 h2 (T.o.sqs (by have:=HT.o.1;omega)) (Xo HF.o) ⟨(by have:=JG S;have:=T.o.1;omega),(by have:=Xh n c;omega)⟩;have x:=J λ(V:B) (j:DX V R s (N:Int) q M)=>YX R s N q M 45 V j an hs;rw[show(decide ((q:Int)=0)&&JY (Jf s) (DT (Jf s) N) 45)=false from by simp[ah],Qr.o]at x;have y:=J λ(V:B) (j:DX V R s (d:Int) q M)=>Yf R s d q M 43 V j Qh hs false (by simp[ah]);rw[L.o]at y;have P:=J λ(V:B) (j:DX V R s (d:Int) q M)=>Yf R s d q M 45 V j Qh hs false (by simp[ah]);rw[L.o]at P;have H8:=J λ(V:B) (j:DX V R s (d:Int) q M)=>YX R s d q M 32 V j Qh hs;rw[L.o]at H8;go_wp2_with(first
          |(go_at_call 63;refine(Qm.o _ Ql.o HU.o).mono ?_;clear Qm;rintro e w2 ⟨u2,rfl,o,D⟩;rw[Ks c (by rw[T.o.1];omega)]at o;obtain⟨a3,l3,c3,rfl⟩:=o.form;have Qd:=J o;have W:=J (Qn.o.below D);have Qt:=J (Bt Qq.o D);clear o D)
          |(go_at_call 65;refine(x.o _ W.o).mono ?_;clear x;rintro e w3 ⟨rfl,ad,z⟩;have Qf:=J (Qd.o.rd W.o z);have X:=J ad;have Qu:=J (below_grown Qt.o z (by rw[t.o];exact Aa _));clear ad z)
          |(go_at_call 61;refine(y.o _ X.o).mono ?_;clear y;rintro e w4 ⟨rfl,ae,A⟩;have Qg:=J (Qf.o.rd X.o A);have U:=J ae;have Qx:=J (below_grown Qu.o A (by rw[t.o];exact Aa _));clear ae A)
          |(go_at_call 61;refine(P.o _ U.o).mono ?_;clear P;rintro e w5 ⟨rfl,ai,Q⟩;have Qj:=J (Qg.o.rd U.o Q);have Qi:=J ai;have Qy:=J (below_grown Qx.o Q (by rw[t.o];exact Aa _));clear ai Q)
          |(go_at_call 65;refine(H8.o _ Qi.o).mono ?_;clear H8;rintro e w6 ⟨rfl,K,af⟩;have Qo:=J (Qj.o.rd Qi.o af);have Qs:=J K;have Uc:=K.c1;have Ug:=K.c2;have Ud:=K.c3;have Qz:=J (below_grown Qy.o af (by rw[t.o];exact Aa _));clear K af))
         go_quiet (fail)
         go_wp2_with fail
         exact BA (v:=.tuple #[C none 0 0,E F q,E F M]) (by simp[results,Tryz.results29,go_sem]) rfl ⟨_,_,_,rfl,by rw[Uh.o.1,Uh.o.2];exact GA.bad Qp.o,below_drewN Qz.o _⟩
def Dc(W:B)(R:Nat)(s:ByteArray)(I:Int):Prop:=W.heap[R]?=some (.cells #[.string s,E F I] 130 (0,0))
section
variable {W W':World} {R:Nat} {s:ByteArray} {I:Int}
theorem Dc.lt(h:Dc W R s I):R<W.heap.size:=(Ab.1 h).1
theorem Dc.c0(h:Dc W R s I):W.cell? ⟨R,0,none⟩=some (.string s):=by simp[World.cell?,show W.heap[R]?=_ from h]
theorem Dc.c1(h:Dc W R s I):W.cell? ⟨R,1,none⟩=some (E F I):=by simp[World.cell?,show W.heap[R]?=_ from h]
theorem Dc.cp(h:Dc W R s I):type_of% (And.intro h.c0 h.c1):=⟨h.c0,h.c1⟩
theorem Dc.f(h:Dc W R s I)(o:Nat):W.frozen? ⟨R,o,none⟩=false:=by simp[World.frozen?,show W.heap[R]?=_ from h]
theorem Dc.below(h:Dc W R s I)(a:Bl W W'):Dc W' R s I:=(a.block R h.lt).trans h
theorem Dc.set1(h:Dc W R s I)(x:Int):Dc (W.setCell ⟨R,1,none⟩ (E F x)) R s x:=by
 have:=J9 (o:=1) h (E F x);exact this
theorem Dc.drewN(h:Dc W R s I)(n:Nat):Dc (W.drewN n) R s I:=h
theorem Is(h:Dc W R s I){cs:Array Value}{t:TypeId}{m:Nat × Nat}{b:Nat}(a:W.heap[b]?=some (.cells cs t m))(c:t≠130):b≠R:=by
 intro e;subst e;have:=a.symm.trans h;simp only[Ag,Bn]at this;exact c this.2.1
theorem O2(h:Dc W R s I)(g:W.grownBy W' (some R)):∀k v ds,Row k W v ds->Row k W' v ds:=by
 intro k v ds c;obtain⟨a,cap,e,_⟩:=id c;subst e;refine c.grown g λp d hl=>?_;obtain⟨b,off,f,cs,m,i⟩:=c.typ hl;rw[f]at d;cases d;exact Is h i (by cases k<;>(show _≠_;decide))
end
theorem IA{W:B}{R:Nat}{s:ByteArray}{I:Nat}(h:Dc W R s I):F4 W R=I:=by
 unfold F4;rw[h.c1];simp[intOf]
theorem So(c:UInt8)(w:B):Calls Tryz.prog 171 #[E .u8 (c.toNat:Int)] w λr e=>r=.returned (.bool (Da c))/\e=w:=by
 by_cases b:48<=c.toNat
 . have g1:decide ((48:Int)<=(c.toNat:Int))=true:=BK O;by_cases d:c.toNat<=57
   . have a:=J (show Da c=true by simp[Da,b,d]);go_enter Tryz.func171,Tryz.ntmps171
     go_wp2;go_ret;exact⟨by rw[a.o];simp;omega,rfl⟩
   . have a:=J (show Da c=false by simp[Da,d]);go_enter Tryz.func171,Tryz.ntmps171
     go_wp2;go_ret;exact⟨by rw[a.o];simp;omega,rfl⟩
 . have a:=J (show Da c=false by simp[Da,b]);go_enter Tryz.func171,Tryz.ntmps171
   go_wp2;go_ret;exact⟨by rw[a.o];rfl,rfl⟩
theorem NG(R:Nat)(s:ByteArray)(I:Nat)(w:B)(h:Dc w R s I)(z:I<=s.size)(hs:s.size<=300):
 Calls Tryz.prog 126 #[G (some ⟨R,0,none⟩)] w λr o=>r=.returned (.bool (decide (DT (Jf s) I=s.size)))/\Dc o R s (DT (Jf s) I:Nat)/\w.grownBy o (some R):=by
 have p:=J h;clear h;go_enter Tryz.func126,Tryz.ntmps126
 go_wp2;go_loopw [] (λwr=>∃j:Nat,I<=j/\j<=s.size/\Hid (Dc wr R s j/\w.grownBy wr (some R)/\∀k (c:k<s.size),I<=k->k<j->s[k]=32)) λwr=>s.size-F4 wr R
 case atStart=>exact⟨I,Aa _,z,J ⟨p.o,YW _ _,λk _ m n=>by omega⟩⟩
 case round=>
  obtain⟨j,m,n,a⟩:=hrel;obtain⟨c0,c1⟩:=a.o.1.cp;have f1:=a.o.1.f 1;by_cases D:j<s.size
  . have M:(j:Int)<(s.size:Int):=O
    have L:(0:Int)<=(j:Int):=O
    by_cases b:s[j]=32
    . have A:((s[j].toNat:Int)==32)=true:=by rw[b];rfl
      have v:=J b;clear b;go_wp2_with fail
      go_quiet (fail)
      go_wp2;go_roundw
      case rel=>
       refine⟨j+1,O,O,J ⟨?_,Ji (Ji a.o.2.1 (JO _ _ _)) (JI _ R 1 _),λk c g1 g2=>?_⟩⟩
       . have:=(a.o.1.drewN nq).set1 ((j:Int)+1);rw[show((j:Int)+1)=((j+1:Nat):Int)from by omega]at this;exact this
       . by_cases e:k=j
         . subst e;exact v.o
         . exact a.o.2.2 k c g1 O
      case measure=>
       have x:=IA a.o.1;have y:F4 ((wr.drewN nq).setCell ⟨R,1,none⟩ (E F ((j:Int)+1))) R=j+1:=by
        have:=(a.o.1.drewN nq).set1 ((j:Int)+1);rw[show((j:Int)+1)=((j+1:Nat):Int)from by omega]at this ⊢;exact IA this
       show s.size-F4 ((wr.drewN nq).setCell ⟨R,1,none⟩ (E F ((j:Int)+1))) R<s.size-F4 wr R;rw[x,y];omega
    . have A:((s[j].toNat:Int)==32)=false:=NB (d:=32) b;have f:=J (show DT (Jf s) I=j from NC m n (λk c g1 g2=>by rw[a.o.2.2 k c g1 g2];rfl) λ_=>BH.2 b);have q:¬j=s.size:=O
      have u:((j:Int)==(s.size:Int))=false:=by rw[BH];omega
      clear b;go_wp2_with fail
      go_quiet (fail)
      go_wp2;have i:=J (show w.grownBy (wr.drewN nq) (some R)from Ji a.o.2.1 (JO _ _ _));have g:=J (a.o.1.drewN nq);go_quiet (fail)
      go_wp2;go_ret;exact⟨by rw[f.o];simp[q],by rw[f.o];exact g.o.drewN _,Ji i.o (JO _ _ _)⟩
  . have l:j=s.size:=O
    have K:decide (j<s.size)=false:=BI O;have f:=J (show DT (Jf s) I=j from NC m n (λk c g1 g2=>by rw[a.o.2.2 k c g1 g2];rfl) λh=>by omega);have u:((j:Int)==(s.size:Int))=true:=by rw[l];exact beq_self_eq_true _
    have t:=J l;clear D l;go_wp2_with fail
    go_quiet (fail)
    go_wp2;have i:=J (show w.grownBy (wr.drewN nq) (some R)from Ji a.o.2.1 (JO _ _ _));have g:=J (a.o.1.drewN nq);go_quiet (fail)
    go_wp2;go_ret;exact⟨by rw[f.o];simp[t.o],by rw[f.o];exact g.o.drewN _,Ji i.o (JO _ _ _)⟩
end
attribute [local go_sem] Oper.semAt_some
def Gu(e p:Int):Value:=.iface 97 (.agg #[E F e,E F p])
theorem Lg(v:Value)(e p:Int)(w:B):Calls Tryz.prog 127 #[v,E F e,E F p] w λr a=>r=.panicked [{ v:=Gu e p,recovered:=false }]/\a=w:=by
 go_enter Tryz.func127,Tryz.ntmps127
 go_wp2;exact⟨rfl,rfl,rfl⟩
def GH(w V:B)(R:Nat)(s:ByteArray)(I:Int):Prop:=Dc V R s I/\w.grownBy V (some R)
theorem GH.below{w V V':B}{R:Nat}{s:ByteArray}{I:Int}(h:GH w V R s I)(a:Bl V V'):GH w V' R s I:=⟨h.1.below a,Ji h.2 (Yb a _)⟩
theorem XJ(R:Nat)(s:ByteArray)(I:Nat)(c:UInt8)(w:B)(h:Dc w R s I)(hI:I<=s.size)(hs:s.size<=300)(b:Bool)(A:b=JY (Jf s) (DT (Jf s) I) c):
 Calls Tryz.prog 124 #[G (some ⟨R,0,none⟩),E .u8 (c.toNat:Int)] w λr w'=>r=.returned (.bool b)/\Dc w' R s ((DT (Jf s) I+(if b then 1 else 0):Nat):Int)/\w.grownBy w' (some R):=by
 have Qg:Tryz.prog.follows .mixedOrders=true:=by kernel_rfl
 have M:=J λ(V:B) (hh:Dc V R s I)=>NG R s I V hh hI hs;obtain⟨j,X⟩:=ex (DT (Jf s) I);have af:j<=s.size:=by rw[<-X,<-Jj];exact YK (by rw[Jj];exact hI)
 rw[X]at M A ⊢;have HH:=J h;clear h X;by_cases N:j=s.size
 . obtain rfl:b=false:=by rw[A];exact Sc O
   rw[show decide (j=s.size)=true from BK N]at M;clear A N;go_enter Tryz.func124,Tryz.ntmps124
   go_wp2_with fail
   have S:GH w w.drew R s I:=⟨HH.o,rfl,rfl,rfl,Aa _,λ_ _ _=>rfl⟩;refine Jl Qg [[],[0],[1,1],[2],[3,2],[4,2],[5,2],[2],[7,2],[8,2],[9,2],[6,10,2],[2],[11,12,2],[2,13]] (by kernel_rfl) DP
    (λD x V=>∃(l m n tp tq ta tb o p q tf t u v k:Value),x={ tmps:=#[G (some ⟨R,0,none⟩),E .u8 ↑c.toNat,H,H,.bool false,l,m,n,tp,tq,ta,tb,o,p,q,tf,t,u,v,k,H,H,H,H,H,H,H],defers:=[] }/\Hid ((D 0=true->l=G (some ⟨R,0,none⟩))/\(D 1=true->m=.bool true)/\(D 2=true->n=.bool true)/\(D 3=true->True)/\(D 4=true->True)/\(D 5=true->True)/\(D 6=true->True)/\(D 7=true->True)/\(D 8=true->True)/\(D 9=true->True)/\(D 10=true->True)/\(D 11=true->True)/\(D 12=true->True)/\(D 13=true->True)/\(D 14=true->k=.bool true))/\Hid ((D 1=false->GH w V R s I)/\(D 1=true->GH w V R s (j:Int))))
    (E8 ⟨_,_,_,_,_,_,_,rfl,J Y,J ⟨λ_=>S,Y⟩⟩) ?step1 ?fin1
   case step1=>
    rintro D x V i ds U z d T ⟨l,m,n,tp,tq,ta,tb,o,p,q,tf,t,u,v,k,rfl,a,f⟩;have Qj:i<15:=(Ac.1 z).1;obtain rfl|rfl|rfl|rfl|rfl|rfl|rfl|rfl|rfl|rfl|rfl|rfl|rfl|rfl|rfl:=I6 i O
    all_goals
     simp only[Af,Ae,Ag]at z;subst z
    . clear d;refine DS ?_;exact⟨(Dh a),f⟩
    . have L:=f.o.1 T;obtain rfl:=a.o.1 (d 0 Y);clear d;have P:=J (M.o V L.1);refine Jb rfl rfl λK hK=>?_;go_simp;go_wp2_with(go_at_call 126;refine P.o.mono ?_;rintro e w5 ⟨rfl,ae,W⟩)
      exact E8 ⟨_,_,_,_,_,_,_,rfl,(Dp (Dh a)),J ⟨λh=>by simp at h,λ_=>⟨ae,Ji L.2 W⟩⟩⟩
    . obtain rfl:=a.o.2.1 (d 1 Y);clear d;refine DS ?_;exact⟨(Dg (Dp a)),f⟩
    . obtain rfl:=a.o.2.2.1 (d 2 Y);clear d;refine Yz rfl rfl ?_;exact E8 ⟨_,_,_,_,_,_,_,rfl,(Dl (Dg a) λ_=>trivial),f⟩
    . obtain rfl:=a.o.2.2.1 (d 2 Y);clear d;refine Yz rfl rfl ?_;exact E8 ⟨_,_,_,_,_,_,_,rfl,(Dz (Dg a) λ_=>trivial),f⟩
    . obtain rfl:=a.o.2.2.1 (d 2 Y);clear d;refine Yz rfl rfl ?_;exact E8 ⟨_,_,_,_,_,_,_,rfl,(D0 (Dg a) λ_=>trivial),f⟩
    . obtain rfl:=a.o.2.2.1 (d 2 Y);clear d;refine Yz rfl rfl ?_;exact E8 ⟨_,_,_,_,_,_,_,rfl,(Dx (Dg a) λ_=>trivial),f⟩
    . obtain rfl:=a.o.2.2.1 (d 2 Y);clear d;refine Yz rfl rfl ?_;exact E8 ⟨_,_,_,_,_,_,_,rfl,(EC (Dg a) λ_=>trivial),f⟩
    . obtain rfl:=a.o.2.2.1 (d 2 Y);clear d;refine Yz rfl rfl ?_;exact E8 ⟨_,_,_,_,_,_,_,rfl,(EK (Dg a) λ_=>trivial),f⟩
    . obtain rfl:=a.o.2.2.1 (d 2 Y);clear d;refine Yz rfl rfl ?_;exact E8 ⟨_,_,_,_,_,_,_,rfl,(Es (Dg a) λ_=>trivial),f⟩
    . obtain rfl:=a.o.2.2.1 (d 2 Y);clear d;refine Yz rfl rfl ?_;exact E8 ⟨_,_,_,_,_,_,_,rfl,(D7 (Dg a) λ_=>trivial),f⟩
    . obtain rfl:=a.o.2.2.1 (d 2 Y);clear d;refine Yz rfl rfl ?_;exact E8 ⟨_,_,_,_,_,_,_,rfl,(D8 (Dg a) λ_=>trivial),f⟩
    . obtain rfl:=a.o.2.2.1 (d 2 Y);clear d;refine Yz rfl rfl ?_;exact E8 ⟨_,_,_,_,_,_,_,rfl,(EH (Dg a) λ_=>trivial),f⟩
    . obtain rfl:=a.o.2.2.1 (d 2 Y);clear d;refine Yz rfl rfl ?_;exact E8 ⟨_,_,_,_,_,_,_,rfl,(ES (Dg a) λ_=>trivial),f⟩
    . obtain rfl:=a.o.2.2.1 (d 2 Y);clear d;refine DS ?_;exact⟨(He (Dg a)),f⟩
   case fin1=>
    rintro D x V y ⟨l,m,n,tp,tq,ta,tb,o,p,q,tf,t,u,v,k,rfl,a,f⟩;have g:=J (f.o.2 (y 1 DP));obtain rfl:=a.o.2.2.2.2.2.2.2.2.2.2.2.2.2.2 (y 14 DP);clear a f y;go_wp2_with fail
    go_ret;exact⟨rfl,g.o.1,g.o.2⟩
 . have Qh:j<s.size:=O
   have ah:(j:Int)<(s.size:Int):=O
   rw[show decide (j=s.size)=false from BI N]at M;rw[Sb Qh]at A;obtain⟨nb,ad⟩:=ex (((s[j].toNat:Int) != (c.toNat:Int)));have Qf:=J (show nb=!b by
    rw[<-ad,A];by_cases e:s[j]=c
    . rw[e];simp
    . rw[show(s[j]==c)=false from BH.2 e,bne,NB e])
   have Qi:=J ad;clear A N ad;go_enter Tryz.func124,Tryz.ntmps124
   go_wp2_with fail
   have S:GH w w.drew R s I:=⟨HH.o,rfl,rfl,rfl,Aa _,λ_ _ _=>rfl⟩;refine Jl Qg [[],[0],[1,1],[2],[3,2],[4,2],[5,2],[2],[7,2],[8,2],[9,2],[6,10,2],[2],[11,12,2],[2,13]] (by kernel_rfl) DP
    (λD x V=>∃(l m n tp tq ta tb o p q tf t u v k:Value),x={ tmps:=#[G (some ⟨R,0,none⟩),E .u8 ↑c.toNat,H,H,.bool false,l,m,n,tp,tq,ta,tb,o,p,q,tf,t,u,v,k,H,H,H,H,H,H,H],defers:=[] }/\Hid ((D 0=true->l=G (some ⟨R,0,none⟩))/\(D 1=true->m=.bool false)/\(D 2=true->n=.bool false)/\(D 3=true->tp=G (some ⟨R,0,none⟩))/\(D 4=true->tq=G (some ⟨R,0,none⟩))/\(D 5=true->ta=G (some ⟨R,0,none⟩))/\(D 6=true->tb=.string s)/\(D 7=true->o=G (some ⟨R,0,none⟩))/\(D 8=true->p=G (some ⟨R,0,none⟩))/\(D 9=true->q=G (some ⟨R,1,none⟩))/\(D 10=true->tf=E F (j:Int))/\(D 11=true->t=E .u8 (s[j].toNat:Int))/\(D 12=true->u=E .u8 (c.toNat:Int))/\(D 13=true->v=.bool nb)/\(D 14=true->k=.bool nb))/\Hid ((D 1=false->GH w V R s I)/\(D 1=true->GH w V R s (j:Int))))
    (E8 ⟨_,_,_,_,_,_,_,rfl,J Y,J ⟨λ_=>S,Y⟩⟩) ?step2 ?fin2
   case step2=>
    rintro D x V i ds U z d T ⟨l,m,n,tp,tq,ta,tb,o,p,q,tf,t,u,v,k,rfl,a,f⟩;have Qj:i<15:=(Ac.1 z).1;obtain rfl|rfl|rfl|rfl|rfl|rfl|rfl|rfl|rfl|rfl|rfl|rfl|rfl|rfl|rfl:=I6 i O
    all_goals
     simp only[Af,Ae,Ag]at z;subst z
    . clear d;refine DS ?_;exact⟨(Dh a),f⟩
    . have L:=f.o.1 T;obtain rfl:=a.o.1 (d 0 Y);clear d;have P:=J (M.o V L.1);refine Jb rfl rfl λK hK=>?_;go_simp;go_wp2_with(go_at_call 126;refine P.o.mono ?_;rintro e w5 ⟨rfl,ae,W⟩)
      exact E8 ⟨_,_,_,_,_,_,_,rfl,(Dp (Dh a)),J ⟨λh=>by simp at h,λ_=>⟨ae,Ji L.2 W⟩⟩⟩
    . obtain rfl:=a.o.2.1 (d 1 Y);clear d;refine DS ?_;exact⟨(Dg (Dp a)),f⟩
    . obtain rfl:=a.o.2.2.1 (d 2 Y);clear d;refine Et ?_;exact⟨(Dl (Dg a)),f⟩
    . obtain rfl:=a.o.2.2.2.1 (d 3 Y);obtain rfl:=a.o.2.2.1 (d 2 Y);clear d;refine Et ?_;exact⟨(Dz (Dl (Dg a))),f⟩
    . obtain rfl:=a.o.2.2.2.2.1 (d 4 Y);obtain rfl:=a.o.2.2.1 (d 2 Y);clear d;refine Et ?_;exact⟨(D0 (Dz (Dg a))),f⟩
    . obtain rfl:=Dq a (d 5 Y);obtain rfl:=a.o.2.2.1 (d 2 Y);have Q:D 1=true:=U 2 _ rfl (d 2 Y) 1 Y;have c0:=(f.o.2 Q).1.c0;clear d;refine Et ?_;exact⟨(Dx (D0 (Dg a))),f⟩
    . obtain rfl:=a.o.2.2.1 (d 2 Y);clear d;refine Et ?_;exact⟨(EC (Dg a)),f⟩
    . obtain rfl:=Du a (d 7 Y);obtain rfl:=a.o.2.2.1 (d 2 Y);clear d;refine Et ?_;exact⟨(EK (EC (Dg a))),f⟩
    . obtain rfl:=D5 a (d 8 Y);obtain rfl:=a.o.2.2.1 (d 2 Y);clear d;refine Et ?_;exact⟨(Es (EK (Dg a))),f⟩
    . obtain rfl:=ED a (d 9 Y);obtain rfl:=a.o.2.2.1 (d 2 Y);have Q:D 1=true:=U 2 _ rfl (d 2 Y) 1 Y;have c1:=(f.o.2 Q).1.c1;clear d;refine Et ?_;exact⟨(D7 (Es (Dg a))),f⟩
    . obtain rfl:=Ds a (d 6 Y);obtain rfl:=Dr a (d 10 Y);obtain rfl:=a.o.2.2.1 (d 2 Y);clear d;refine Et ?_;exact⟨(D8 (D7 (Dx (Dg a)))),f⟩
    . obtain rfl:=a.o.2.2.1 (d 2 Y);clear d;refine Et ?_;exact⟨(EH (Dg a)),f⟩
    . obtain rfl:=Ee a (d 11 Y);obtain rfl:=Em a (d 12 Y);obtain rfl:=a.o.2.2.1 (d 2 Y);have ai:=Qi.o;clear d;refine Et ?_;exact⟨(ES (EH (D8 (Dg a)))),f⟩
    . obtain rfl:=a.o.2.2.1 (d 2 Y);obtain rfl:=Gb a (d 13 Y);clear d;refine DS ?_;exact⟨(He (ES (Dg a))),f⟩
   case fin2=>
    rintro D x V y ⟨l,m,n,tp,tq,ta,tb,o,p,q,tf,t,u,v,k,rfl,a,f⟩;have g:=J (f.o.2 (y 1 DP));obtain rfl:=a.o.2.2.2.2.2.2.2.2.2.2.2.2.2.2 (y 14 DP);clear a f y;have c1:=g.o.1.c1;have f1:=g.o.1.f 1;cases b with
    |true=>
     obtain rfl:nb=false:=Qf.o;go_wp2_with fail
     go_ret;exact⟨rfl,g.o.1.set1 _,Ji g.o.2 (JI _ R 1 _)⟩
    |false=>
     obtain rfl:nb=true:=Qf.o;go_wp2_with fail
     go_ret;exact⟨rfl,g.o.1,g.o.2⟩

