import Derived.Test.YtcahejkcdcjjgaaGreatDoorT33
import Derived.WalkLawsBesides
open Go renaming World->B,undef->H
open Go.Value renaming slice->C,int->E,pointer->G
open Go.IntKind renaming i64->F
set_option maxRecDepth 100000
set_option maxHeartbeats 16000000
namespace Go.Proofs.YtcahejkcdcjjgaaGreatDoor
open Go.RowKit Go.Shelf
section
attribute [local go_sem] Oper.semAt_some
section
variable{b:Bool}{S:List Rat}{l:List UInt8}{I e f k m n p:Nat}{c:Rat}{a:B}
theorem DX.add2{p q:Rat}(b:DX k p)(a:DX m q):DX (k+m+1) (p+q):=by
 rw[<-Lf];refine DX.divInt ?_ ((b.1.mul a.2).add (by have:=a.1.mul b.2;rwa[CW]at this)) ((b.2.mul a.2).mono om);exact Cs (by have:=p.den_nz;omega) (by have:=q.den_nz;omega)
theorem Ek.sm(h:Ek c):DX 1 c:=by
 obtain⟨x,y,rfl,d,b,a⟩:=h;exact DX.divInt om (by unfold Sm DN;omega) (by unfold Sm DN;omega)
theorem DX.zero(k:Nat)(a:1<=k):DX k 0:=⟨Sm.zero k,Sm.one k a⟩
theorem Ku(n:Nat)(c:Rat)(i:Nat):cf (Dg n [c]) i=if i=n then c else 0:=by
 rw[GR];by_cases h:n<=i
 . rw[BI h];by_cases a:i=n
   . rw[BI a,a,A0,Yo]
   . rw[BE a,J4 si]
 . rw[BE h,BE om]
theorem YR(h:Ek c):Dc (Jh (Dg n [c])):=Dc.of λi=>by
 rw[J9,Ku];split
 . exact Sq.of h.sm om
 . exact Sq.of (DX.zero 1 om) om
theorem YL(n:Nat)(c:Rat):(Jh (Dg n [c])).length<=n+1:=AE (Jz _) (by simp[Dg])
theorem Hs(c:Rat)(h:n<S.length):EP (Jh S) (Jh (Dg n [c]))=Jh (S.set n (cf S n+c)):=by
 unfold EP;refine YD λi=>?_;rw[Xf,J9,J9,Ku,X1 _ _ _ _ h];split
 . rename_i h;rw[h]
 . grind
theorem Ht(c:Rat)(h:n<S.length):Ew (Jh S) (Jh (Dg n [c]))=Jh (S.set n (cf S n-c)):=by
 unfold Ew;refine YD λi=>?_;rw[Xf,Y4,J9,J9,Ku,X1 _ _ _ _ h];split
 . rename_i h;rw[h];grind
 . grind
def YA(S:List Rat)(m:Nat):Prop:=S.length=9/\∀i,DX (2*m+1) (cf S i)
theorem YA.start:YA (List.replicate 9 0) 0:=⟨rfl,λi=>by rw[J3];exact DX.zero 1 om⟩
theorem YA.sqs(h:YA S m)(a:m<=300):Dc (Jh S):=Dc.of λi=>by rw[J9];exact Sq.of (h.2 i) om
theorem YA.next(h:YA S m)(a:Ek c)(d:n<=8)(b:Bool):YA (S.set n (if b then cf S n-c else cf S n+c)) (m+1):=by
 refine⟨by rw[Ct];exact h.1,λi=>?_⟩;rw[X1 _ _ _ _ (by rw[h.1];omega)];split
 . cases b
   . exact((h.2 n).add2 a.sm).mono om
   . rw[BI rfl,Rat.sub_eq_add_neg];exact((h.2 n).add2 a.sm.neg).mono om
 . exact(h.2 i).mono om
theorem PT{j:Nat}{c d:UInt8}(b:JM l j c=true)(a:JM l j d=true):c=d:=by
 unfold JM at b a;rw[beq_iff_eq]at b a;exact A6 (b.symm.trans a)
theorem Il(h:JR l I=.bad e p):X9 l (f+1) b I S=.bad e p:=by
 rw[X9,h]
theorem Im(h:JR l I=.ok (c,n) k):X9 l (f+1) b I S =
 if JM l (DS l k) 43 then X9 l f false (DS l k+1) (S.set n (if b then cf S n-c else cf S n+c))else if JM l (DS l k) 45 then X9 l f true (DS l k+1) (S.set n (if b then cf S n-c else cf S n+c))else if DS l k=l.length then .ok (S.set n (if b then cf S n-c else cf S n+c)) (DS l k)else .bad 2 (DS l k):=by
 rw[X9,h]
theorem PU(l:List UInt8)(i:Nat):(JR l i).pos:=by
 intro e p h;rw[X0]at h;split at h
 . rename_i b c a;cases h;exact PO l i _ _ a
 . split at h
   . split at h
     . rename_i b c a;cases h;exact VZ _ _ _ _ a
     . cases h
   . cases h
def XD(l:List UInt8):Rd (List Rat):=if JM l (DS l 0) 45 then X9 l (l.length+1) true (DS l 0+1) (List.replicate 9 0)else X9 l (l.length+1) false (DS l 0) (List.replicate 9 0)
def Io(r:Rd (List Rat)):List Rat × Nat × Nat:=match r with|.bad e p=>([],e,p)|.ok s _=>(Jh s,0,0)
theorem Kv(h:¬300<l.length):JV l=Io (XD l):=by
 unfold JV XD Io;rw[BE h];split<;>(rename_i a;rw[a])
def X8(l:List UInt8)(a:B)(u:Value)(e p:Int):Prop:=e=((JV l).2.1:Int)/\p=((JV l).2.2:Int)/\RowK false a u (JV l).1/\(JV l).1.length<=9/\∀i,DX 601 (cf (JV l).1 i)
theorem X8.bad(h:JV l=([],e,p)):X8 l a (C none 0 0) e p:=by
 rw[X8,h];exact⟨rfl,rfl,RowK.nil _ _,DO,λi=>by rw[Xb];exact DX.zero _ om⟩
theorem X8.ok{u:Value}(h:JV l=(Jh S,0,0))(hs:YA S m)(c:m<=300)(b:RowK false a u (Jh S)):X8 l a u 0 0:=by
 rw[X8,h];exact⟨rfl,rfl,b,AE (Jz _) (by rw[hs.1];exact Aa _),λi=>by rw[J9];exact(hs.2 i).mono om⟩
theorem below_drewN{w W:B}(h:Bl w W)(k:Nat):Bl w (W.drewN k):=h.grown (JA W k none) h.size (λk e=>by cases e)
theorem DW.new(w:B)(s:ByteArray):DW (w.alloc (.cells #[.string s,E F 0,E F 0,E F 0] 82)) w.heap.size s 0 0 0:=BC w _
theorem Vj(s:ByteArray)(bk:s.size<=140737488351232)(w:B):
 Calls Tryz.prog 10 #[.string s] w λr w'=>∃(u:Value) (e p:Int),r=.returned (.tuple #[u,E F e,E F p])/\X8 (Jd s) w' u e p/\Bl w w':=by
 by_cases bc:300<s.size
 . have bj:(300:Int)<(s.size:Int):=om
   have HP:=Ja (show JV (Jd s)=([],1,0)by unfold JV;rw[BI (by rw[Jg];exact bc)]);go_enter Tryz.func10,Tryz.ntmps10
   go_wp2;exact BA (v:=.tuple #[C none 0 0,E F 1,E F 0]) (by simp[results,Tryz.results10,go_sem]) rfl ⟨_,_,_,rfl,X8.bad HP.o,BB _ _⟩
 . have bj:¬(300:Int)<(s.size:Int):=om
   have hs:s.size<=300:=om
   have HP:=Ja (Kv (l:=Jd s) (by rw[Jg];exact bc));clear bc bk;have Uq:Bl w (w.alloc (.cells #[.string s,E F 0,E F 0,E F 0] 82)):=Ba w _;have Um:=DW.new w s;obtain⟨W0,az⟩:=ex (w.alloc (.cells #[.string s,E F 0,E F 0,E F 0] 82));rw[az]at Uq Um;obtain⟨R,hR⟩:=ex (w.heap.size);rw[hR]at Um;obtain⟨q,Us,Uu,Ux⟩:=D3 hR az Uq Um;obtain⟨b0,bd⟩:∃b,b=(decide ((0:Int)=0)&&JM (Jd s) (DS (Jd s) 0) 45):=⟨_,rfl⟩;have Ur:=Ja (J0 R s 0 0 0 45 W0 Um om hs b0 bd);have HB:=Ja (show JM (Jd s) (DS (Jd s) 0) 45=b0 by rw[bd];simp);clear Uq Um bd hR az;go_enter Tryz.func10,Tryz.ntmps10
   go_upto_region 4 with fail
   rw[Us.o,q.o];go_wp2_with(first
    |(go_at_call 45;refine Ur.o.mono ?_;clear Ur;rintro e w1 ⟨rfl,aw,av⟩;have Uv:=Ja aw;have Qq:=Ja (below_grown Uu.o av (by rw[q.o];exact Aa _));clear aw av))
   go_loopw [6,7,8] (λmv pv _ wr=>∃(b:Bool) (I f m:Nat) (S:List Rat) (a:Option Addr) (la ca:Nat),mv=.bool b/\pv=C a la ca/\I<=s.size/\Hid (DW wr R s (I:Int) 0 0)/\Hid (RowK false wr (C a la ca) (Jh S))/\Hid (YA S m)/\Hid (m<=I/\s.size-I<f/\X9 (Jd s) f b I S=XD (Jd s))/\Hid (Bl w wr)) (λ_ _ _ wr=>s.size-Eb wr R)
   case atStart=>
    have Uy:DS (Jd s) 0<=s.size:=by rw[<-Jg];exact Yp om
    refine⟨b0,DS (Jd s) 0+(if b0 then 1 else 0),s.size+1,0,List.replicate 9 0,none,0,0,rfl,rfl,?_,Ja Uv.o,Ja ?_,Ja YA.start,Ja ⟨om,om,?_⟩,Ja Qq.o⟩
    . cases hb:b0
      . simpa using Uy
      . have h1:=HB.o;rw[hb]at h1;have h2:=JZ h1;rw[Jg]at h2;simp;omega
    . rw[Iy (λi=>J3 9 i)];exact RowK.nil _ _
    . unfold XD;rw[HB.o,Jg];cases b0<;>rfl
   case round=>
    clear Uv Qq HB Uu Ux Us;obtain⟨b,I,f,m,S,a,la,ca,rfl,rfl,hI,aq,bi,P,HT,HG⟩:=hrel;have Uw:=Ja (Vi R s I 0 0 wr aq.o hI hs);go_upto_if 19 with(first
     |(go_at_call 46;refine Uw.o.mono ?_;clear Uw;rintro e w1 ⟨u,c,n,M,rfl,hu,bh,hF,ak,aw,bg,av⟩;have Ql:=Ja (bi.o.rd aq.o av);have Qn:=Ja aw;have HU:=Ja hu;have HF:=Ja hF;have Ut:=Ja (bg rfl);have Qq:=Ja (below_grown HG.o av (by rw[q.o];exact Aa _));obtain⟨a2,l2,c2,rfl⟩:=hu.form;clear aw hu hF bg av))
    obtain⟨d,ay⟩:=ex (DS (Jd s) M);have Qr:=Ja ay;have Z:d<=s.size:=by rw[<-ay,<-Jg];exact Yp (by rw[Jg];exact ak)
    have K:=Ja (show DS (Jd s) d=d by rw[<-ay];exact Gs _ _);clear ay;obtain⟨f,rfl⟩:∃g,f=g+1:=⟨f-1,by have:=HT.o.2.1;omega⟩;cases b with
    |false=>
     have Uj:=Ja (show YA (S.set n (if false then cf S n-c else cf S n+c)) (m+1)from P.o.next HF.o bh false);by_cases ae:D6 (JR (Jd s) I) 0=0
     . obtain⟨_,⟨c0,n0⟩,k,hk⟩:=Ks (PU _ _) ae;obtain⟨rfl,rfl,rfl⟩:=Ut.o c0 n0 k hk;rw[ae,(X7 hk 0 0).2]at Qn;have Qz:=Ja (show m<=I/\I<M/\M<=d/\d<=s.size/\s.size-I<f+1 from⟨HT.o.1,(IJ (by rw[Jg];exact hI) hk).1,by rw[<-Qr.o];exact F2 _ _,Z,HT.o.2.1⟩);have Uf:=Ja (Im (f:=f) (b:=false) (S:=S) hk);rw[Qr.o,HT.o.2.2]at Uf;clear ae hk;cases ah:JM (Jd s) d 43 with
       |true=>
        obtain⟨Qt,Qk,Uk⟩:=Dm ah (show JM (Jd s) d 45=false from Bool.eq_false_iff.2 (λh=>absurd (PT ah h) DR)) (show X9 (Jd s) f false (d+1) (S.set n (if false then cf S n-c else cf S n+c))=XD (Jd s)by rw[Uf.o,BI ah]);have Ua:d+1<=s.size:=by have:=JZ ah;rw[Jg]at this;omega
        clear ah;have Q:=Ja (λ(V:B) (h1:RowK false V (C a la ca) (Jh S)) (h2:RowK false V (C a2 l2 c2) (Jh (Dg n [c])))=>GK _ _ _ _ V h1 h2 (P.o.sqs (by have:=HT.o.1;omega)) (YR HF.o) ⟨(by have:=Jz S;have:=P.o.1;omega),(by have:=YL n c;omega)⟩);have A:=Ja (λ(V:B) (j:DW V R s (M:Int) 0 0)=>Yy R s M 0 0 45 V j ak hs);rw[show(decide ((0:Int)=0)&&JM (Jd s) (DS (Jd s) M) 45)=false from by rw[Qr.o];simp[Qk.o],Qr.o]at A;have z:=Ja (λ(V:B) (j:DW V R s (d:Int) 0 0)=>J0 R s d 0 0 43 V j Z hs true (by rw[K.o];simp[Qt.o]));rw[K.o]at z;go_wp2_with(first
         |(go_at_call 30;refine(Q.o _ Ql.o HU.o).mono ?_;clear Q;rintro e w2 ⟨u2,rfl,o,y⟩;rw[Hs c (by rw[P.o.1];omega)]at o;obtain⟨a3,l3,c3,rfl⟩:=o.form;have Qb:=Ja o;have X:=Ja (Qn.o.below y);have Qw:=Ja (Bt Qq.o y);clear o y)
         |(go_at_call 47;refine(A.o _ X.o).mono ?_;clear A;rintro e w3 ⟨rfl,T,D⟩;have Qc:=Ja (Qb.o.rd X.o D);have Y:=Ja T;have Qu:=Ja (below_grown Qw.o D (by rw[q.o];exact Aa _));clear T D)
         |(go_at_call 45;refine(z.o _ Y.o).mono ?_;clear z;rintro e w4 ⟨rfl,U,x⟩;have Qg:=Ja (Qc.o.rd Y.o x);have W:=Ja U;have Qs:=Ja (below_grown Qu.o x (by rw[q.o];exact Aa _));clear U x))
        go_roundw
        case rel=>exact⟨_,d+1,f,m+1,_,_,_,_,rfl,rfl,Ua,Ja W.o,Ja Qg.o,Ja Uj.o,Ja ⟨by have:=Qz.o;omega,by have:=Qz.o;omega,Uk.o⟩,Ja Qs.o⟩
        case measure=>
         have e1:=XP (I:=d+1) W.o;have e2:=XP aq.o;rw[e1,e2];have:=Qz.o;omega
       |false=>
        have Qt:=Ja ah;cases ai:JM (Jd s) d 45 with
        |true=>
         have Qk:=Ja ai;have Uk:=Ja (show X9 (Jd s) f true (d+1) (S.set n (if false then cf S n-c else cf S n+c))=XD (Jd s)by rw[Uf.o,BE (show ¬JM (Jd s) d 43=true by rw[ah];decide),BI ai]);have Ua:d+1<=s.size:=by have:=JZ ai;rw[Jg]at this;omega
         clear ah ai;have Q:=Ja (λ(V:B) (h1:RowK false V (C a la ca) (Jh S)) (h2:RowK false V (C a2 l2 c2) (Jh (Dg n [c])))=>GK _ _ _ _ V h1 h2 (P.o.sqs (by have:=HT.o.1;omega)) (YR HF.o) ⟨(by have:=Jz S;have:=P.o.1;omega),(by have:=YL n c;omega)⟩);have A:=Ja (λ(V:B) (j:DW V R s (M:Int) 0 0)=>Yy R s M 0 0 45 V j ak hs);rw[show(decide ((0:Int)=0)&&JM (Jd s) (DS (Jd s) M) 45)=true from by rw[Qr.o];simp[Qk.o],Qr.o]at A;have z:=Ja (λ(V:B) (j:DW V R s (d:Int) 0 0)=>J0 R s d 0 0 43 V j Z hs false (by rw[K.o];simp[Qt.o]));rw[K.o]at z;have N:=Ja (λ(V:B) (j:DW V R s (d:Int) 0 0)=>J0 R s d 0 0 45 V j Z hs true (by rw[K.o];simp[Qk.o]));rw[K.o]at N;go_wp2_with(first
          |(go_at_call 30;refine(Q.o _ Ql.o HU.o).mono ?_;clear Q;rintro e w2 ⟨u2,rfl,o,y⟩;rw[Hs c (by rw[P.o.1];omega)]at o;obtain⟨a3,l3,c3,rfl⟩:=o.form;have Qb:=Ja o;have X:=Ja (Qn.o.below y);have Qw:=Ja (Bt Qq.o y);clear o y)
          |(go_at_call 47;refine(A.o _ X.o).mono ?_;clear A;rintro e w3 ⟨rfl,T,D⟩;have Qc:=Ja (Qb.o.rd X.o D);have Y:=Ja T;have Qu:=Ja (below_grown Qw.o D (by rw[q.o];exact Aa _));clear T D)
          |(go_at_call 45;refine(z.o _ Y.o).mono ?_;clear z;rintro e w4 ⟨rfl,U,x⟩;have Qg:=Ja (Qc.o.rd Y.o x);have W:=Ja U;have Qs:=Ja (below_grown Qu.o x (by rw[q.o];exact Aa _));clear U x)
          |(go_at_call 45;refine(N.o _ W.o).mono ?_;clear N;rintro e w5 ⟨rfl,af,O⟩;have Qi:=Ja (Qg.o.rd W.o O);have Qj:=Ja af;have Qy:=Ja (below_grown Qs.o O (by rw[q.o];exact Aa _));clear af O))
         go_roundw
         case rel=>exact⟨_,d+1,f,m+1,_,_,_,_,rfl,rfl,Ua,Ja Qj.o,Ja Qi.o,Ja Uj.o,Ja ⟨by have:=Qz.o;omega,by have:=Qz.o;omega,Uk.o⟩,Ja Qy.o⟩
         case measure=>
          have e1:=XP (I:=d+1) Qj.o;have e2:=XP aq.o;rw[e1,e2];have:=Qz.o;omega
        |false=>
         have Qk:=Ja ai;by_cases ap:d<s.size
         . have Qp:=Ja (show JV (Jd s)=([],2,d)by rw[HP.o,Uf.o,BE (show ¬JM (Jd s) d 43=true by rw[ah];decide),BE (show ¬JM (Jd s) d 45=true by rw[ai];decide),BE (by rw[Jg];omega)];rfl);clear ah ai;have Q:=Ja (λ(V:B) (h1:RowK false V (C a la ca) (Jh S)) (h2:RowK false V (C a2 l2 c2) (Jh (Dg n [c])))=>GK _ _ _ _ V h1 h2 (P.o.sqs (by have:=HT.o.1;omega)) (YR HF.o) ⟨(by have:=Jz S;have:=P.o.1;omega),(by have:=YL n c;omega)⟩);have A:=Ja (λ(V:B) (j:DW V R s (M:Int) 0 0)=>Yy R s M 0 0 45 V j ak hs);rw[show(decide ((0:Int)=0)&&JM (Jd s) (DS (Jd s) M) 45)=false from by rw[Qr.o];simp[Qk.o],Qr.o]at A;have z:=Ja (λ(V:B) (j:DW V R s (d:Int) 0 0)=>J0 R s d 0 0 43 V j Z hs false (by rw[K.o];simp[Qt.o]));rw[K.o]at z;have N:=Ja (λ(V:B) (j:DW V R s (d:Int) 0 0)=>J0 R s d 0 0 45 V j Z hs false (by rw[K.o];simp[Qk.o]));rw[K.o]at N;have H8:=Ja (λ(V:B) (j:DW V R s (d:Int) 0 0)=>Yy R s d 0 0 32 V j Z hs);rw[K.o]at H8;have Uc:=Ja (λ(V:B) (j:DW V R s (d:Int) 0 0)=>Gr R s (d:Int) 0 0 2 (d:Int) V j);have bf:(d:Int)<(s.size:Int):=om
           go_wp2_with(first
            |(go_at_call 30;refine(Q.o _ Ql.o HU.o).mono ?_;clear Q;rintro e w2 ⟨u2,rfl,o,y⟩;rw[Hs c (by rw[P.o.1];omega)]at o;obtain⟨a3,l3,c3,rfl⟩:=o.form;have Qb:=Ja o;have X:=Ja (Qn.o.below y);have Qw:=Ja (Bt Qq.o y);clear o y)
            |(go_at_call 47;refine(A.o _ X.o).mono ?_;clear A;rintro e w3 ⟨rfl,T,D⟩;have Qc:=Ja (Qb.o.rd X.o D);have Y:=Ja T;have Qu:=Ja (below_grown Qw.o D (by rw[q.o];exact Aa _));clear T D)
            |(go_at_call 45;refine(z.o _ Y.o).mono ?_;clear z;rintro e w4 ⟨rfl,U,x⟩;have Qg:=Ja (Qc.o.rd Y.o x);have W:=Ja U;have Qs:=Ja (below_grown Qu.o x (by rw[q.o];exact Aa _));clear U x)
            |(go_at_call 45;refine(N.o _ W.o).mono ?_;clear N;rintro e w5 ⟨rfl,af,O⟩;have Qi:=Ja (Qg.o.rd W.o O);have Qj:=Ja af;have Qy:=Ja (below_grown Qs.o O (by rw[q.o];exact Aa _));clear af O)
            |(go_at_call 47;refine(H8.o _ Qj.o).mono ?_;clear H8;rintro e w6 ⟨rfl,J,ad⟩;have Qo:=Ja (Qi.o.rd Qj.o ad);have Qv:=Ja J;have Ue:=J.c1;have Ud:=J.c2;have Ug:=J.c3;have Ub:=Ja (below_grown Qy.o ad (by rw[q.o];exact Aa _));clear J ad)
            |(go_at_call 48;refine(Uc.o _ Qv.o).mono ?_;clear Uc;rintro e w7 ⟨rfl,aj,an⟩;clear Ue Ud Ug;have Ul:w7.cell? ⟨R,2,none⟩=some (E F 2):=aj.c2;have Un:w7.cell? ⟨R,3,none⟩=some (E F (d:Int)):=aj.c3;have Ui:=Ja (below_grown Ub.o an (by rw[q.o];exact Aa _));clear aj an))
           go_quiet (fail)
           go_wp2_with fail
           exact BA (v:=.tuple #[C none 0 0,E F 2,E F (d:Int)]) (by simp[results,Tryz.results10,go_sem]) rfl ⟨_,_,_,rfl,X8.bad (e:=2) Qp.o,below_drewN Ui.o _⟩
         . have Qp:=Ja (show JV (Jd s)=(Jh (S.set n (if false then cf S n-c else cf S n+c)),0,0)by rw[HP.o,Uf.o,BE (show ¬JM (Jd s) d 43=true by rw[ah];decide),BE (show ¬JM (Jd s) d 45=true by rw[ai];decide),BI (by rw[Jg];omega)];rfl);clear ah ai;have Q:=Ja (λ(V:B) (h1:RowK false V (C a la ca) (Jh S)) (h2:RowK false V (C a2 l2 c2) (Jh (Dg n [c])))=>GK _ _ _ _ V h1 h2 (P.o.sqs (by have:=HT.o.1;omega)) (YR HF.o) ⟨(by have:=Jz S;have:=P.o.1;omega),(by have:=YL n c;omega)⟩);have A:=Ja (λ(V:B) (j:DW V R s (M:Int) 0 0)=>Yy R s M 0 0 45 V j ak hs);rw[show(decide ((0:Int)=0)&&JM (Jd s) (DS (Jd s) M) 45)=false from by rw[Qr.o];simp[Qk.o],Qr.o]at A;have z:=Ja (λ(V:B) (j:DW V R s (d:Int) 0 0)=>J0 R s d 0 0 43 V j Z hs false (by rw[K.o];simp[Qt.o]));rw[K.o]at z;have N:=Ja (λ(V:B) (j:DW V R s (d:Int) 0 0)=>J0 R s d 0 0 45 V j Z hs false (by rw[K.o];simp[Qk.o]));rw[K.o]at N;have H8:=Ja (λ(V:B) (j:DW V R s (d:Int) 0 0)=>Yy R s d 0 0 32 V j Z hs);rw[K.o]at H8;have Uo:decide (d<s.size)=false:=BF ap;go_wp2_with(first
            |(go_at_call 30;refine(Q.o _ Ql.o HU.o).mono ?_;clear Q;rintro e w2 ⟨u2,rfl,o,y⟩;rw[Hs c (by rw[P.o.1];omega)]at o;obtain⟨a3,l3,c3,rfl⟩:=o.form;have Qb:=Ja o;have X:=Ja (Qn.o.below y);have Qw:=Ja (Bt Qq.o y);clear o y)
            |(go_at_call 47;refine(A.o _ X.o).mono ?_;clear A;rintro e w3 ⟨rfl,T,D⟩;have Qc:=Ja (Qb.o.rd X.o D);have Y:=Ja T;have Qu:=Ja (below_grown Qw.o D (by rw[q.o];exact Aa _));clear T D)
            |(go_at_call 45;refine(z.o _ Y.o).mono ?_;clear z;rintro e w4 ⟨rfl,U,x⟩;have Qg:=Ja (Qc.o.rd Y.o x);have W:=Ja U;have Qs:=Ja (below_grown Qu.o x (by rw[q.o];exact Aa _));clear U x)
            |(go_at_call 45;refine(N.o _ W.o).mono ?_;clear N;rintro e w5 ⟨rfl,af,O⟩;have Qi:=Ja (Qg.o.rd W.o O);have Qj:=Ja af;have Qy:=Ja (below_grown Qs.o O (by rw[q.o];exact Aa _));clear af O)
            |(go_at_call 47;refine(H8.o _ Qj.o).mono ?_;clear H8;rintro e w6 ⟨rfl,J,ad⟩;have Qo:=Ja (Qi.o.rd Qj.o ad);have Qv:=Ja J;have Ue:=J.c1;have Ud:=J.c2;have Ug:=J.c3;have Ub:=Ja (below_grown Qy.o ad (by rw[q.o];exact Aa _));clear J ad))
           exact BA (v:=.tuple #[C a3 l3 c3,E F 0,E F 0]) (by simp[results,Tryz.results10,go_sem]) rfl ⟨_,_,_,rfl,X8.ok Qp.o Uj.o (by have:=Qz.o;omega) Qo.o,Ub.o⟩
     . obtain⟨t,hE⟩:=ex (D6 (JR (Jd s) I) 0);obtain⟨L,hA⟩:=ex (EM (JR (Jd s) I) 0 0);have Qx:∃e p:Nat,JR (Jd s) I=.bad e p:=by
        cases hk:JR (Jd s) I with
        |bad e p=>exact⟨e,p,rfl⟩
        |ok a k=>exact absurd (X7 hk 0 0).1 ae
       obtain⟨e0,p0,Qx⟩:=Qx;have Uh:=Ja (show t=(e0:Int)/\L=(p0:Int)by rw[<-hE,<-hA,Qx];exact⟨rfl,rfl⟩);have Qp:=Ja (show JV (Jd s)=([],e0,p0)by rw[HP.o,<-HT.o.2.2,Il Qx];rfl);rw[hE,hA]at Qn;rw[hE]at ae;have Up:(t==0)=false:=by rw[BH];exact ae
       clear hE hA Qx;by_cases ap:d<s.size
       . skip
         have Q:=Ja (λ(V:B) (h1:RowK false V (C a la ca) (Jh S)) (h2:RowK false V (C a2 l2 c2) (Jh (Dg n [c])))=>GK _ _ _ _ V h1 h2 (P.o.sqs (by have:=HT.o.1;omega)) (YR HF.o) ⟨(by have:=Jz S;have:=P.o.1;omega),(by have:=YL n c;omega)⟩);have A:=Ja (λ(V:B) (j:DW V R s (M:Int) t L)=>Yy R s M t L 45 V j ak hs);rw[show(decide ((t:Int)=0)&&JM (Jd s) (DS (Jd s) M) 45)=false from by simp[ae],Qr.o]at A;have z:=Ja (λ(V:B) (j:DW V R s (d:Int) t L)=>J0 R s d t L 43 V j Z hs false (by simp[ae]));rw[K.o]at z;have N:=Ja (λ(V:B) (j:DW V R s (d:Int) t L)=>J0 R s d t L 45 V j Z hs false (by simp[ae]));rw[K.o]at N;have H8:=Ja (λ(V:B) (j:DW V R s (d:Int) t L)=>Yy R s d t L 32 V j Z hs);rw[K.o]at H8;have Uc:=Ja (λ(V:B) (j:DW V R s (d:Int) t L)=>Gr R s (d:Int) t L 2 (d:Int) V j);have bf:(d:Int)<(s.size:Int):=om
         go_wp2_with(first
          |(go_at_call 30;refine(Q.o _ Ql.o HU.o).mono ?_;clear Q;rintro e w2 ⟨u2,rfl,o,y⟩;rw[Hs c (by rw[P.o.1];omega)]at o;obtain⟨a3,l3,c3,rfl⟩:=o.form;have Qb:=Ja o;have X:=Ja (Qn.o.below y);have Qw:=Ja (Bt Qq.o y);clear o y)
          |(go_at_call 47;refine(A.o _ X.o).mono ?_;clear A;rintro e w3 ⟨rfl,T,D⟩;have Qc:=Ja (Qb.o.rd X.o D);have Y:=Ja T;have Qu:=Ja (below_grown Qw.o D (by rw[q.o];exact Aa _));clear T D)
          |(go_at_call 45;refine(z.o _ Y.o).mono ?_;clear z;rintro e w4 ⟨rfl,U,x⟩;have Qg:=Ja (Qc.o.rd Y.o x);have W:=Ja U;have Qs:=Ja (below_grown Qu.o x (by rw[q.o];exact Aa _));clear U x)
          |(go_at_call 45;refine(N.o _ W.o).mono ?_;clear N;rintro e w5 ⟨rfl,af,O⟩;have Qi:=Ja (Qg.o.rd W.o O);have Qj:=Ja af;have Qy:=Ja (below_grown Qs.o O (by rw[q.o];exact Aa _));clear af O)
          |(go_at_call 47;refine(H8.o _ Qj.o).mono ?_;clear H8;rintro e w6 ⟨rfl,J,ad⟩;have Qo:=Ja (Qi.o.rd Qj.o ad);have Qv:=Ja J;have Ue:=J.c1;have Ud:=J.c2;have Ug:=J.c3;have Ub:=Ja (below_grown Qy.o ad (by rw[q.o];exact Aa _));clear J ad)
          |(go_at_call 48;refine(Uc.o _ Qv.o).mono ?_;clear Uc;rintro e w7 ⟨rfl,aj,an⟩;clear Ue Ud Ug;have Ul:=aj.c2;have Un:=aj.c3;rw[BE ae]at Ul;rw[BE ae]at Un;have Ui:=Ja (below_grown Ub.o an (by rw[q.o];exact Aa _));clear aj an))
         go_quiet (fail)
         go_wp2_with fail
         exact BA (v:=.tuple #[C none 0 0,E F t,E F L]) (by simp[results,Tryz.results10,go_sem]) rfl ⟨_,_,_,rfl,by rw[Uh.o.1,Uh.o.2];exact X8.bad Qp.o,below_drewN Ui.o _⟩
       . skip
         have Q:=Ja (λ(V:B) (h1:RowK false V (C a la ca) (Jh S)) (h2:RowK false V (C a2 l2 c2) (Jh (Dg n [c])))=>GK _ _ _ _ V h1 h2 (P.o.sqs (by have:=HT.o.1;omega)) (YR HF.o) ⟨(by have:=Jz S;have:=P.o.1;omega),(by have:=YL n c;omega)⟩);have A:=Ja (λ(V:B) (j:DW V R s (M:Int) t L)=>Yy R s M t L 45 V j ak hs);rw[show(decide ((t:Int)=0)&&JM (Jd s) (DS (Jd s) M) 45)=false from by simp[ae],Qr.o]at A;have z:=Ja (λ(V:B) (j:DW V R s (d:Int) t L)=>J0 R s d t L 43 V j Z hs false (by simp[ae]));rw[K.o]at z;have N:=Ja (λ(V:B) (j:DW V R s (d:Int) t L)=>J0 R s d t L 45 V j Z hs false (by simp[ae]));rw[K.o]at N;have H8:=Ja (λ(V:B) (j:DW V R s (d:Int) t L)=>Yy R s d t L 32 V j Z hs);rw[K.o]at H8;have Uo:decide (d<s.size)=false:=BF ap;go_wp2_with(first
          |(go_at_call 30;refine(Q.o _ Ql.o HU.o).mono ?_;clear Q;rintro e w2 ⟨u2,rfl,o,y⟩;rw[Hs c (by rw[P.o.1];omega)]at o;obtain⟨a3,l3,c3,rfl⟩:=o.form;have Qb:=Ja o;have X:=Ja (Qn.o.below y);have Qw:=Ja (Bt Qq.o y);clear o y)
          |(go_at_call 47;refine(A.o _ X.o).mono ?_;clear A;rintro e w3 ⟨rfl,T,D⟩;have Qc:=Ja (Qb.o.rd X.o D);have Y:=Ja T;have Qu:=Ja (below_grown Qw.o D (by rw[q.o];exact Aa _));clear T D)
          |(go_at_call 45;refine(z.o _ Y.o).mono ?_;clear z;rintro e w4 ⟨rfl,U,x⟩;have Qg:=Ja (Qc.o.rd Y.o x);have W:=Ja U;have Qs:=Ja (below_grown Qu.o x (by rw[q.o];exact Aa _));clear U x)
          |(go_at_call 45;refine(N.o _ W.o).mono ?_;clear N;rintro e w5 ⟨rfl,af,O⟩;have Qi:=Ja (Qg.o.rd W.o O);have Qj:=Ja af;have Qy:=Ja (below_grown Qs.o O (by rw[q.o];exact Aa _));clear af O)
          |(go_at_call 47;refine(H8.o _ Qj.o).mono ?_;clear H8;rintro e w6 ⟨rfl,J,ad⟩;have Qo:=Ja (Qi.o.rd Qj.o ad);have Qv:=Ja J;have Ue:=J.c1;have Ud:=J.c2;have Ug:=J.c3;have Ub:=Ja (below_grown Qy.o ad (by rw[q.o];exact Aa _));clear J ad))
         go_quiet (fail)
         go_wp2_with fail
         exact BA (v:=.tuple #[C none 0 0,E F t,E F L]) (by simp[results,Tryz.results10,go_sem]) rfl ⟨_,_,_,rfl,by rw[Uh.o.1,Uh.o.2];exact X8.bad Qp.o,below_drewN Ub.o _⟩
    |true=>
     have Uj:=Ja (show YA (S.set n (if true then cf S n-c else cf S n+c)) (m+1)from P.o.next HF.o bh true);by_cases ae:D6 (JR (Jd s) I) 0=0
     . obtain⟨_,⟨c0,n0⟩,k,hk⟩:=Ks (PU _ _) ae;obtain⟨rfl,rfl,rfl⟩:=Ut.o c0 n0 k hk;rw[ae,(X7 hk 0 0).2]at Qn;have Qz:=Ja (show m<=I/\I<M/\M<=d/\d<=s.size/\s.size-I<f+1 from⟨HT.o.1,(IJ (by rw[Jg];exact hI) hk).1,by rw[<-Qr.o];exact F2 _ _,Z,HT.o.2.1⟩);have Uf:=Ja (Im (f:=f) (b:=true) (S:=S) hk);rw[Qr.o,HT.o.2.2]at Uf;clear ae hk;cases ah:JM (Jd s) d 43 with
       |true=>
        obtain⟨Qt,Qk,Uk⟩:=Dm ah (show JM (Jd s) d 45=false from Bool.eq_false_iff.2 (λh=>absurd (PT ah h) DR)) (show X9 (Jd s) f false (d+1) (S.set n (if true then cf S n-c else cf S n+c))=XD (Jd s)by rw[Uf.o,BI ah]);have Ua:d+1<=s.size:=by have:=JZ ah;rw[Jg]at this;omega
        clear ah;have Q:=Ja (λ(V:B) (h1:RowK false V (C a la ca) (Jh S)) (h2:RowK false V (C a2 l2 c2) (Jh (Dg n [c])))=>Hq _ _ _ _ V h1 h2 (P.o.sqs (by have:=HT.o.1;omega)) (YR HF.o) ⟨(by have:=Jz S;have:=P.o.1;omega),(by have:=YL n c;omega)⟩);have A:=Ja (λ(V:B) (j:DW V R s (M:Int) 0 0)=>Yy R s M 0 0 45 V j ak hs);rw[show(decide ((0:Int)=0)&&JM (Jd s) (DS (Jd s) M) 45)=false from by rw[Qr.o];simp[Qk.o],Qr.o]at A;have z:=Ja (λ(V:B) (j:DW V R s (d:Int) 0 0)=>J0 R s d 0 0 43 V j Z hs true (by rw[K.o];simp[Qt.o]));rw[K.o]at z;go_wp2_with(first
         |(go_at_call 31;refine(Q.o _ Ql.o HU.o).mono ?_;clear Q;rintro e w2 ⟨u2,rfl,o,y⟩;rw[Ht c (by rw[P.o.1];omega)]at o;obtain⟨a3,l3,c3,rfl⟩:=o.form;have Qb:=Ja o;have X:=Ja (Qn.o.below y);have Qw:=Ja (Bt Qq.o y);clear o y)
         |(go_at_call 47;refine(A.o _ X.o).mono ?_;clear A;rintro e w3 ⟨rfl,T,D⟩;have Qc:=Ja (Qb.o.rd X.o D);have Y:=Ja T;have Qu:=Ja (below_grown Qw.o D (by rw[q.o];exact Aa _));clear T D)
         |(go_at_call 45;refine(z.o _ Y.o).mono ?_;clear z;rintro e w4 ⟨rfl,U,x⟩;have Qg:=Ja (Qc.o.rd Y.o x);have W:=Ja U;have Qs:=Ja (below_grown Qu.o x (by rw[q.o];exact Aa _));clear U x))
        go_roundw
        case rel=>exact⟨_,d+1,f,m+1,_,_,_,_,rfl,rfl,Ua,Ja W.o,Ja Qg.o,Ja Uj.o,Ja ⟨by have:=Qz.o;omega,by have:=Qz.o;omega,Uk.o⟩,Ja Qs.o⟩
        case measure=>
         have e1:=XP (I:=d+1) W.o;have e2:=XP aq.o;rw[e1,e2];have:=Qz.o;omega
       |false=>
        have Qt:=Ja ah;cases ai:JM (Jd s) d 45 with
        |true=>
         have Qk:=Ja ai;have Uk:=Ja (show X9 (Jd s) f true (d+1) (S.set n (if true then cf S n-c else cf S n+c))=XD (Jd s)by rw[Uf.o,BE (show ¬JM (Jd s) d 43=true by rw[ah];decide),BI ai]);have Ua:d+1<=s.size:=by have:=JZ ai;rw[Jg]at this;omega
         clear ah ai;have Q:=Ja (λ(V:B) (h1:RowK false V (C a la ca) (Jh S)) (h2:RowK false V (C a2 l2 c2) (Jh (Dg n [c])))=>Hq _ _ _ _ V h1 h2 (P.o.sqs (by have:=HT.o.1;omega)) (YR HF.o) ⟨(by have:=Jz S;have:=P.o.1;omega),(by have:=YL n c;omega)⟩);have A:=Ja (λ(V:B) (j:DW V R s (M:Int) 0 0)=>Yy R s M 0 0 45 V j ak hs);rw[show(decide ((0:Int)=0)&&JM (Jd s) (DS (Jd s) M) 45)=true from by rw[Qr.o];simp[Qk.o],Qr.o]at A;have z:=Ja (λ(V:B) (j:DW V R s (d:Int) 0 0)=>J0 R s d 0 0 43 V j Z hs false (by rw[K.o];simp[Qt.o]));rw[K.o]at z;have N:=Ja (λ(V:B) (j:DW V R s (d:Int) 0 0)=>J0 R s d 0 0 45 V j Z hs true (by rw[K.o];simp[Qk.o]));rw[K.o]at N;go_wp2_with(first
          |(go_at_call 31;refine(Q.o _ Ql.o HU.o).mono ?_;clear Q;rintro e w2 ⟨u2,rfl,o,y⟩;rw[Ht c (by rw[P.o.1];omega)]at o;obtain⟨a3,l3,c3,rfl⟩:=o.form;have Qb:=Ja o;have X:=Ja (Qn.o.below y);have Qw:=Ja (Bt Qq.o y);clear o y)
          |(go_at_call 47;refine(A.o _ X.o).mono ?_;clear A;rintro e w3 ⟨rfl,T,D⟩;have Qc:=Ja (Qb.o.rd X.o D);have Y:=Ja T;have Qu:=Ja (below_grown Qw.o D (by rw[q.o];exact Aa _));clear T D)
          |(go_at_call 45;refine(z.o _ Y.o).mono ?_;clear z;rintro e w4 ⟨rfl,U,x⟩;have Qg:=Ja (Qc.o.rd Y.o x);have W:=Ja U;have Qs:=Ja (below_grown Qu.o x (by rw[q.o];exact Aa _));clear U x)
          |(go_at_call 45;refine(N.o _ W.o).mono ?_;clear N;rintro e w5 ⟨rfl,af,O⟩;have Qi:=Ja (Qg.o.rd W.o O);have Qj:=Ja af;have Qy:=Ja (below_grown Qs.o O (by rw[q.o];exact Aa _));clear af O))
         go_roundw
         case rel=>exact⟨_,d+1,f,m+1,_,_,_,_,rfl,rfl,Ua,Ja Qj.o,Ja Qi.o,Ja Uj.o,Ja ⟨by have:=Qz.o;omega,by have:=Qz.o;omega,Uk.o⟩,Ja Qy.o⟩
         case measure=>
          have e1:=XP (I:=d+1) Qj.o;have e2:=XP aq.o;rw[e1,e2];have:=Qz.o;omega
        |false=>
         have Qk:=Ja ai;by_cases ap:d<s.size
         . have Qp:=Ja (show JV (Jd s)=([],2,d)by rw[HP.o,Uf.o,BE (show ¬JM (Jd s) d 43=true by rw[ah];decide),BE (show ¬JM (Jd s) d 45=true by rw[ai];decide),BE (by rw[Jg];omega)];rfl);clear ah ai;have Q:=Ja (λ(V:B) (h1:RowK false V (C a la ca) (Jh S)) (h2:RowK false V (C a2 l2 c2) (Jh (Dg n [c])))=>Hq _ _ _ _ V h1 h2 (P.o.sqs (by have:=HT.o.1;omega)) (YR HF.o) ⟨(by have:=Jz S;have:=P.o.1;omega),(by have:=YL n c;omega)⟩);have A:=Ja (λ(V:B) (j:DW V R s (M:Int) 0 0)=>Yy R s M 0 0 45 V j ak hs);rw[show(decide ((0:Int)=0)&&JM (Jd s) (DS (Jd s) M) 45)=false from by rw[Qr.o];simp[Qk.o],Qr.o]at A;have z:=Ja (λ(V:B) (j:DW V R s (d:Int) 0 0)=>J0 R s d 0 0 43 V j Z hs false (by rw[K.o];simp[Qt.o]));rw[K.o]at z;have N:=Ja (λ(V:B) (j:DW V R s (d:Int) 0 0)=>J0 R s d 0 0 45 V j Z hs false (by rw[K.o];simp[Qk.o]));rw[K.o]at N;have H8:=Ja (λ(V:B) (j:DW V R s (d:Int) 0 0)=>Yy R s d 0 0 32 V j Z hs);rw[K.o]at H8;have Uc:=Ja (λ(V:B) (j:DW V R s (d:Int) 0 0)=>Gr R s (d:Int) 0 0 2 (d:Int) V j);have bf:(d:Int)<(s.size:Int):=om
           go_wp2_with(first
            |(go_at_call 31;refine(Q.o _ Ql.o HU.o).mono ?_;clear Q;rintro e w2 ⟨u2,rfl,o,y⟩;rw[Ht c (by rw[P.o.1];omega)]at o;obtain⟨a3,l3,c3,rfl⟩:=o.form;have Qb:=Ja o;have X:=Ja (Qn.o.below y);have Qw:=Ja (Bt Qq.o y);clear o y)
            |(go_at_call 47;refine(A.o _ X.o).mono ?_;clear A;rintro e w3 ⟨rfl,T,D⟩;have Qc:=Ja (Qb.o.rd X.o D);have Y:=Ja T;have Qu:=Ja (below_grown Qw.o D (by rw[q.o];exact Aa _));clear T D)
            |(go_at_call 45;refine(z.o _ Y.o).mono ?_;clear z;rintro e w4 ⟨rfl,U,x⟩;have Qg:=Ja (Qc.o.rd Y.o x);have W:=Ja U;have Qs:=Ja (below_grown Qu.o x (by rw[q.o];exact Aa _));clear U x)
            |(go_at_call 45;refine(N.o _ W.o).mono ?_;clear N;rintro e w5 ⟨rfl,af,O⟩;have Qi:=Ja (Qg.o.rd W.o O);have Qj:=Ja af;have Qy:=Ja (below_grown Qs.o O (by rw[q.o];exact Aa _));clear af O)
            |(go_at_call 47;refine(H8.o _ Qj.o).mono ?_;clear H8;rintro e w6 ⟨rfl,J,ad⟩;have Qo:=Ja (Qi.o.rd Qj.o ad);have Qv:=Ja J;have Ue:=J.c1;have Ud:=J.c2;have Ug:=J.c3;have Ub:=Ja (below_grown Qy.o ad (by rw[q.o];exact Aa _));clear J ad)
            |(go_at_call 48;refine(Uc.o _ Qv.o).mono ?_;clear Uc;rintro e w7 ⟨rfl,aj,an⟩;clear Ue Ud Ug;have Ul:w7.cell? ⟨R,2,none⟩=some (E F 2):=aj.c2;have Un:w7.cell? ⟨R,3,none⟩=some (E F (d:Int)):=aj.c3;have Ui:=Ja (below_grown Ub.o an (by rw[q.o];exact Aa _));clear aj an))
           go_quiet (fail)
           go_wp2_with fail
           exact BA (v:=.tuple #[C none 0 0,E F 2,E F (d:Int)]) (by simp[results,Tryz.results10,go_sem]) rfl ⟨_,_,_,rfl,X8.bad (e:=2) Qp.o,below_drewN Ui.o _⟩
         . have Qp:=Ja (show JV (Jd s)=(Jh (S.set n (if true then cf S n-c else cf S n+c)),0,0)by rw[HP.o,Uf.o,BE (show ¬JM (Jd s) d 43=true by rw[ah];decide),BE (show ¬JM (Jd s) d 45=true by rw[ai];decide),BI (by rw[Jg];omega)];rfl);clear ah ai;have Q:=Ja (λ(V:B) (h1:RowK false V (C a la ca) (Jh S)) (h2:RowK false V (C a2 l2 c2) (Jh (Dg n [c])))=>Hq _ _ _ _ V h1 h2 (P.o.sqs (by have:=HT.o.1;omega)) (YR HF.o) ⟨(by have:=Jz S;have:=P.o.1;omega),(by have:=YL n c;omega)⟩);have A:=Ja (λ(V:B) (j:DW V R s (M:Int) 0 0)=>Yy R s M 0 0 45 V j ak hs);rw[show(decide ((0:Int)=0)&&JM (Jd s) (DS (Jd s) M) 45)=false from by rw[Qr.o];simp[Qk.o],Qr.o]at A;have z:=Ja (λ(V:B) (j:DW V R s (d:Int) 0 0)=>J0 R s d 0 0 43 V j Z hs false (by rw[K.o];simp[Qt.o]));rw[K.o]at z;have N:=Ja (λ(V:B) (j:DW V R s (d:Int) 0 0)=>J0 R s d 0 0 45 V j Z hs false (by rw[K.o];simp[Qk.o]));rw[K.o]at N;have H8:=Ja (λ(V:B) (j:DW V R s (d:Int) 0 0)=>Yy R s d 0 0 32 V j Z hs);rw[K.o]at H8;have Uo:decide (d<s.size)=false:=BF ap;go_wp2_with(first
            |(go_at_call 31;refine(Q.o _ Ql.o HU.o).mono ?_;clear Q;rintro e w2 ⟨u2,rfl,o,y⟩;rw[Ht c (by rw[P.o.1];omega)]at o;obtain⟨a3,l3,c3,rfl⟩:=o.form;have Qb:=Ja o;have X:=Ja (Qn.o.below y);have Qw:=Ja (Bt Qq.o y);clear o y)
            |(go_at_call 47;refine(A.o _ X.o).mono ?_;clear A;rintro e w3 ⟨rfl,T,D⟩;have Qc:=Ja (Qb.o.rd X.o D);have Y:=Ja T;have Qu:=Ja (below_grown Qw.o D (by rw[q.o];exact Aa _));clear T D)
            |(go_at_call 45;refine(z.o _ Y.o).mono ?_;clear z;rintro e w4 ⟨rfl,U,x⟩;have Qg:=Ja (Qc.o.rd Y.o x);have W:=Ja U;have Qs:=Ja (below_grown Qu.o x (by rw[q.o];exact Aa _));clear U x)
            |(go_at_call 45;refine(N.o _ W.o).mono ?_;clear N;rintro e w5 ⟨rfl,af,O⟩;have Qi:=Ja (Qg.o.rd W.o O);have Qj:=Ja af;have Qy:=Ja (below_grown Qs.o O (by rw[q.o];exact Aa _));clear af O)
            |(go_at_call 47;refine(H8.o _ Qj.o).mono ?_;clear H8;rintro e w6 ⟨rfl,J,ad⟩;have Qo:=Ja (Qi.o.rd Qj.o ad);have Qv:=Ja J;have Ue:=J.c1;have Ud:=J.c2;have Ug:=J.c3;have Ub:=Ja (below_grown Qy.o ad (by rw[q.o];exact Aa _));clear J ad))
           exact BA (v:=.tuple #[C a3 l3 c3,E F 0,E F 0]) (by simp[results,Tryz.results10,go_sem]) rfl ⟨_,_,_,rfl,X8.ok Qp.o Uj.o (by have:=Qz.o;omega) Qo.o,Ub.o⟩
     . obtain⟨t,hE⟩:=ex (D6 (JR (Jd s) I) 0);obtain⟨L,hA⟩:=ex (EM (JR (Jd s) I) 0 0);have Qx:∃e p:Nat,JR (Jd s) I=.bad e p:=by
        cases hk:JR (Jd s) I with
        |bad e p=>exact⟨e,p,rfl⟩
        |ok a k=>exact absurd (X7 hk 0 0).1 ae
       obtain⟨e0,p0,Qx⟩:=Qx;have Uh:=Ja (show t=(e0:Int)/\L=(p0:Int)by rw[<-hE,<-hA,Qx];exact⟨rfl,rfl⟩);have Qp:=Ja (show JV (Jd s)=([],e0,p0)by rw[HP.o,<-HT.o.2.2,Il Qx];rfl);rw[hE,hA]at Qn;rw[hE]at ae;have Up:(t==0)=false:=by rw[BH];exact ae
       clear hE hA Qx;by_cases ap:d<s.size
       . skip
         have Q:=Ja (λ(V:B) (h1:RowK false V (C a la ca) (Jh S)) (h2:RowK false V (C a2 l2 c2) (Jh (Dg n [c])))=>Hq _ _ _ _ V h1 h2 (P.o.sqs (by have:=HT.o.1;omega)) (YR HF.o) ⟨(by have:=Jz S;have:=P.o.1;omega),(by have:=YL n c;omega)⟩);have A:=Ja (λ(V:B) (j:DW V R s (M:Int) t L)=>Yy R s M t L 45 V j ak hs);rw[show(decide ((t:Int)=0)&&JM (Jd s) (DS (Jd s) M) 45)=false from by simp[ae],Qr.o]at A;have z:=Ja (λ(V:B) (j:DW V R s (d:Int) t L)=>J0 R s d t L 43 V j Z hs false (by simp[ae]));rw[K.o]at z;have N:=Ja (λ(V:B) (j:DW V R s (d:Int) t L)=>J0 R s d t L 45 V j Z hs false (by simp[ae]));rw[K.o]at N;have H8:=Ja (λ(V:B) (j:DW V R s (d:Int) t L)=>Yy R s d t L 32 V j Z hs);rw[K.o]at H8;have Uc:=Ja (λ(V:B) (j:DW V R s (d:Int) t L)=>Gr R s (d:Int) t L 2 (d:Int) V j);have bf:(d:Int)<(s.size:Int):=om
         go_wp2_with(first
          |(go_at_call 31;refine(Q.o _ Ql.o HU.o).mono ?_;clear Q;rintro e w2 ⟨u2,rfl,o,y⟩;rw[Ht c (by rw[P.o.1];omega)]at o;obtain⟨a3,l3,c3,rfl⟩:=o.form;have Qb:=Ja o;have X:=Ja (Qn.o.below y);have Qw:=Ja (Bt Qq.o y);clear o y)
          |(go_at_call 47;refine(A.o _ X.o).mono ?_;clear A;rintro e w3 ⟨rfl,T,D⟩;have Qc:=Ja (Qb.o.rd X.o D);have Y:=Ja T;have Qu:=Ja (below_grown Qw.o D (by rw[q.o];exact Aa _));clear T D)
          |(go_at_call 45;refine(z.o _ Y.o).mono ?_;clear z;rintro e w4 ⟨rfl,U,x⟩;have Qg:=Ja (Qc.o.rd Y.o x);have W:=Ja U;have Qs:=Ja (below_grown Qu.o x (by rw[q.o];exact Aa _));clear U x)
          |(go_at_call 45;refine(N.o _ W.o).mono ?_;clear N;rintro e w5 ⟨rfl,af,O⟩;have Qi:=Ja (Qg.o.rd W.o O);have Qj:=Ja af;have Qy:=Ja (below_grown Qs.o O (by rw[q.o];exact Aa _));clear af O)
          |(go_at_call 47;refine(H8.o _ Qj.o).mono ?_;clear H8;rintro e w6 ⟨rfl,J,ad⟩;have Qo:=Ja (Qi.o.rd Qj.o ad);have Qv:=Ja J;have Ue:=J.c1;have Ud:=J.c2;have Ug:=J.c3;have Ub:=Ja (below_grown Qy.o ad (by rw[q.o];exact Aa _));clear J ad)
          |(go_at_call 48;refine(Uc.o _ Qv.o).mono ?_;clear Uc;rintro e w7 ⟨rfl,aj,an⟩;clear Ue Ud Ug;have Ul:=aj.c2;have Un:=aj.c3;rw[BE ae]at Ul;rw[BE ae]at Un;have Ui:=Ja (below_grown Ub.o an (by rw[q.o];exact Aa _));clear aj an))
         go_quiet (fail)
         go_wp2_with fail
         exact BA (v:=.tuple #[C none 0 0,E F t,E F L]) (by simp[results,Tryz.results10,go_sem]) rfl ⟨_,_,_,rfl,by rw[Uh.o.1,Uh.o.2];exact X8.bad Qp.o,below_drewN Ui.o _⟩
       . skip
         have Q:=Ja (λ(V:B) (h1:RowK false V (C a la ca) (Jh S)) (h2:RowK false V (C a2 l2 c2) (Jh (Dg n [c])))=>Hq _ _ _ _ V h1 h2 (P.o.sqs (by have:=HT.o.1;omega)) (YR HF.o) ⟨(by have:=Jz S;have:=P.o.1;omega),(by have:=YL n c;omega)⟩);have A:=Ja (λ(V:B) (j:DW V R s (M:Int) t L)=>Yy R s M t L 45 V j ak hs);rw[show(decide ((t:Int)=0)&&JM (Jd s) (DS (Jd s) M) 45)=false from by simp[ae],Qr.o]at A;have z:=Ja (λ(V:B) (j:DW V R s (d:Int) t L)=>J0 R s d t L 43 V j Z hs false (by simp[ae]));rw[K.o]at z;have N:=Ja (λ(V:B) (j:DW V R s (d:Int) t L)=>J0 R s d t L 45 V j Z hs false (by simp[ae]));rw[K.o]at N;have H8:=Ja (λ(V:B) (j:DW V R s (d:Int) t L)=>Yy R s d t L 32 V j Z hs);rw[K.o]at H8;have Uo:decide (d<s.size)=false:=BF ap;go_wp2_with(first
          |(go_at_call 31;refine(Q.o _ Ql.o HU.o).mono ?_;clear Q;rintro e w2 ⟨u2,rfl,o,y⟩;rw[Ht c (by rw[P.o.1];omega)]at o;obtain⟨a3,l3,c3,rfl⟩:=o.form;have Qb:=Ja o;have X:=Ja (Qn.o.below y);have Qw:=Ja (Bt Qq.o y);clear o y)
          |(go_at_call 47;refine(A.o _ X.o).mono ?_;clear A;rintro e w3 ⟨rfl,T,D⟩;have Qc:=Ja (Qb.o.rd X.o D);have Y:=Ja T;have Qu:=Ja (below_grown Qw.o D (by rw[q.o];exact Aa _));clear T D)
          |(go_at_call 45;refine(z.o _ Y.o).mono ?_;clear z;rintro e w4 ⟨rfl,U,x⟩;have Qg:=Ja (Qc.o.rd Y.o x);have W:=Ja U;have Qs:=Ja (below_grown Qu.o x (by rw[q.o];exact Aa _));clear U x)
          |(go_at_call 45;refine(N.o _ W.o).mono ?_;clear N;rintro e w5 ⟨rfl,af,O⟩;have Qi:=Ja (Qg.o.rd W.o O);have Qj:=Ja af;have Qy:=Ja (below_grown Qs.o O (by rw[q.o];exact Aa _));clear af O)
          |(go_at_call 47;refine(H8.o _ Qj.o).mono ?_;clear H8;rintro e w6 ⟨rfl,J,ad⟩;have Qo:=Ja (Qi.o.rd Qj.o ad);have Qv:=Ja J;have Ue:=J.c1;have Ud:=J.c2;have Ug:=J.c3;have Ub:=Ja (below_grown Qy.o ad (by rw[q.o];exact Aa _));clear J ad))
         go_quiet (fail)
         go_wp2_with fail
         exact BA (v:=.tuple #[C none 0 0,E F t,E F L]) (by simp[results,Tryz.results10,go_sem]) rfl ⟨_,_,_,rfl,by rw[Uh.o.1,Uh.o.2];exact X8.bad Qp.o,below_drewN Ub.o _⟩
def Db(W:B)(R:Nat)(s:ByteArray)(I:Int):Prop:=W.heap[R]?=some (.cells #[.string s,E F I] 124 (0,0))
end
section
variable {W W':World} {R:Nat} {s:ByteArray} {I:Int}
theorem Db.lt(h:Db W R s I):R<W.heap.size:=(Ac.1 h).1
theorem Db.c0(h:Db W R s I):W.cell? ⟨R,0,none⟩=some (.string s):=by simp[World.cell?,show W.heap[R]?=_ from h]
theorem Db.c1(h:Db W R s I):W.cell? ⟨R,1,none⟩=some (E F I):=by simp[World.cell?,show W.heap[R]?=_ from h]
theorem Db.cp(h:Db W R s I):type_of% (And.intro h.c0 h.c1):=⟨h.c0,h.c1⟩
theorem Db.f(h:Db W R s I)(o:Nat):W.frozen? ⟨R,o,none⟩=false:=by simp[World.frozen?,show W.heap[R]?=_ from h]
theorem Db.below(h:Db W R s I)(a:Bl W W'):Db W' R s I:=(a.block R h.lt).trans h
theorem Db.set1(h:Db W R s I)(x:Int):Db (W.setCell ⟨R,1,none⟩ (E F x)) R s x:=by
 have:=JN (o:=1) h (E F x);exact this
theorem Db.drewN(h:Db W R s I)(n:Nat):Db (W.drewN n) R s I:=h
theorem GL(h:Db W R s I){cs:Array Value}{t:TypeId}{m:Nat × Nat}{b:Nat}(c:W.heap[b]?=some (.cells cs t m))(a:t≠124):b≠R:=by
 intro e;subst e;have:=c.symm.trans h;simp only[Ak,DI]at this;exact a this.2.1
theorem MX(h:Db W R s I)(f:W.grownBy W' (some R)):∀k v ds,Row k W v ds->Row k W' v ds:=by
 intro k v ds c;obtain⟨a,cap,e,_⟩:=id c;subst e;refine c.grown f (λp d hl=>?_);obtain⟨b,off,i,cs,m,g⟩:=c.typ hl;rw[i]at d;cases d;exact GL h g (by cases k<;>(show _≠_;decide))
end
theorem FW{W:B}{R:Nat}{s:ByteArray}{I:Nat}(h:Db W R s I):Eb W R=I:=by
 unfold Eb;rw[h.c1];simp[intOf]
theorem PV(c:UInt8)(w:B):Calls Tryz.prog 181 #[E .u8 (c.toNat:Int)] w λr e=>r=.returned (.bool (DY c))/\e=w:=by
 by_cases b:48<=c.toNat
 . have f:decide ((48:Int)<=(c.toNat:Int))=true:=BJ om;by_cases d:c.toNat<=57
   . have a:=Ja (show DY c=true by simp[DY,b,d]);go_enter Tryz.func181,Tryz.ntmps181
     go_wp2;go_ret;exact⟨by rw[a.o];simp;omega,rfl⟩
   . have a:=Ja (show DY c=false by simp[DY,d]);go_enter Tryz.func181,Tryz.ntmps181
     go_wp2;go_ret;exact⟨by rw[a.o];simp;omega,rfl⟩
 . have a:=Ja (show DY c=false by simp[DY,b]);go_enter Tryz.func181,Tryz.ntmps181
   go_wp2;go_ret;exact⟨by rw[a.o];rfl,rfl⟩
theorem Kw(R:Nat)(s:ByteArray)(I:Nat)(w:B)(h:Db w R s I)(K:I<=s.size)(hs:s.size<=300):
 Calls Tryz.prog 122 #[G (some ⟨R,0,none⟩)] w λr q=>r=.returned (.bool (decide (DS (Jd s) I=s.size)))/\Db q R s (DS (Jd s) I:Nat)/\w.grownBy q (some R):=by
 have D:=Ja h;clear h;go_enter Tryz.func122,Tryz.ntmps122
 go_wp2;go_loopw [] (λwr=>∃j:Nat,I<=j/\j<=s.size/\Hid (Db wr R s j/\w.grownBy wr (some R)/\∀k (c:k<s.size),I<=k->k<j->s[k]=32)) (λwr=>s.size-Eb wr R)
 case atStart=>exact⟨I,Aa _,K,Ja ⟨D.o,Yw _ _,λk _ m p=>by omega⟩⟩
 case round=>
  obtain⟨j,m,p,a⟩:=hrel;obtain⟨c0,c1⟩:=a.o.1.cp;have f1:=a.o.1.f 1;by_cases A:j<s.size
  . have L:(j:Int)<(s.size:Int):=om
    have M:(0:Int)<=(j:Int):=om
    by_cases b:s[j]=32
    . have x:((s[j].toNat:Int)==32)=true:=by rw[b];rfl
      have t:=Ja b;clear b;go_wp2_with fail
      go_quiet (fail)
      go_wp2;go_roundw
      case rel=>
       refine⟨j+1,om,om,Ja ⟨?_,Jf (Jf a.o.2.1 (JA _ _ _)) (JD _ R 1 _),λk c f i=>?_⟩⟩
       . have:=(a.o.1.drewN nq).set1 ((j:Int)+1);rw[show((j:Int)+1)=((j+1:Nat):Int)from by omega]at this;exact this
       . by_cases e:k=j
         . subst e;exact t.o
         . exact a.o.2.2 k c f om
      case measure=>
       have u:=FW a.o.1;have y:Eb ((wr.drewN nq).setCell ⟨R,1,none⟩ (E F ((j:Int)+1))) R=j+1:=by
        have:=(a.o.1.drewN nq).set1 ((j:Int)+1);rw[show((j:Int)+1)=((j+1:Nat):Int)from by omega]at this ⊢;exact FW this
       show s.size-Eb ((wr.drewN nq).setCell ⟨R,1,none⟩ (E F ((j:Int)+1))) R<s.size-Eb wr R;rw[u,y];omega
    . have x:((s[j].toNat:Int)==32)=false:=Kq (d:=32) b;have g:=Ja (show DS (Jd s) I=j from Kr m p (λk c f i=>by rw[a.o.2.2 k c f i];rfl) (λ_=>BH.2 b));have J:¬j=s.size:=om
      have v:((j:Int)==(s.size:Int))=false:=by rw[BH];omega
      clear b;go_wp2_with fail
      go_quiet (fail)
      go_wp2;have o:=Ja (show w.grownBy (wr.drewN nq) (some R)from Jf a.o.2.1 (JA _ _ _));have n:=Ja (a.o.1.drewN nq);go_quiet (fail)
      go_wp2;go_ret;exact⟨by rw[g.o];simp[J],by rw[g.o];exact n.o.drewN _,Jf o.o (JA _ _ _)⟩
  . have l:j=s.size:=om
    have N:decide (j<s.size)=false:=BF om;have g:=Ja (show DS (Jd s) I=j from Kr m p (λk c f i=>by rw[a.o.2.2 k c f i];rfl) (λh=>by omega));have v:((j:Int)==(s.size:Int))=true:=by rw[l];exact beq_self_eq_true _
    have z:=Ja l;clear A l;go_wp2_with fail
    go_quiet (fail)
    go_wp2;have o:=Ja (show w.grownBy (wr.drewN nq) (some R)from Jf a.o.2.1 (JA _ _ _));have n:=Ja (a.o.1.drewN nq);go_quiet (fail)
    go_wp2;go_ret;exact⟨by rw[g.o];simp[z.o],by rw[g.o];exact n.o.drewN _,Jf o.o (JA _ _ _)⟩
end
attribute [local go_sem] Oper.semAt_some
def X5(e p:Int):Value:=.iface 77 (.agg #[E F e,E F p])
theorem Ip(v:Value)(e p:Int)(w:B):Calls Tryz.prog 123 #[v,E F e,E F p] w λr a=>r=.panicked [{ v:=X5 e p,recovered:=false }]/\a=w:=by
 go_enter Tryz.func123,Tryz.ntmps123
 go_wp2;exact⟨rfl,rfl,rfl⟩
def El(w V:B)(R:Nat)(s:ByteArray)(I:Int):Prop:=Db V R s I/\w.grownBy V (some R)
theorem El.below{w V V':B}{R:Nat}{s:ByteArray}{I:Int}(h:El w V R s I)(a:Bl V V'):El w V' R s I:=⟨h.1.below a,Jf h.2 (JS a _)⟩
theorem Y7(R:Nat)(s:ByteArray)(I:Nat)(c:UInt8)(w:B)(h:Db w R s I)(hI:I<=s.size)(hs:s.size<=300)(b:Bool)(O:b=JM (Jd s) (DS (Jd s) I) c):
 Calls Tryz.prog 120 #[G (some ⟨R,0,none⟩),E .u8 (c.toNat:Int)] w λr w'=>r=.returned (.bool b)/\Db w' R s ((DS (Jd s) I+(if b then 1 else 0):Nat):Int)/\w.grownBy w' (some R):=by
 have Qg:Tryz.prog.follows .mixedOrders=true:=by kernel_rfl
 have P:=Ja (λ(V:B) (hh:Db V R s I)=>Kw R s I V hh hI hs);obtain⟨j,U⟩:=ex (DS (Jd s) I);have ah:j<=s.size:=by rw[<-U,<-Jg];exact Yp (by rw[Jg];exact hI)
 rw[U]at P O ⊢;have HH:=Ja h;clear h U;by_cases S:j=s.size
 . obtain rfl:b=false:=by rw[O];exact PJ om
   rw[show decide (j=s.size)=true from BJ S]at P;clear O S;go_enter Tryz.func120,Tryz.ntmps120
   go_wp2_with fail
   have T:El w w.drew R s I:=⟨HH.o,rfl,rfl,rfl,Aa _,λ_ _ _=>rfl⟩;refine Jn Qg [[],[0],[1,1],[2],[3,2],[4,2],[5,2],[2],[7,2],[8,2],[9,2],[6,10,2],[2],[11,12,2],[2,13]] (by kernel_rfl) DR
    (λD M V=>∃(m g n o J A u q y x z v t p k:Value),M={ tmps:=#[G (some ⟨R,0,none⟩),E .u8 ↑c.toNat,H,H,.bool false,m,g,n,o,J,A,u,q,y,x,z,v,t,p,k,H,H,H,H,H,H,H],defers:=[] }/\Hid ((D 0=true->m=G (some ⟨R,0,none⟩))/\(D 1=true->g=.bool true)/\(D 2=true->n=.bool true)/\(D 3=true->True)/\(D 4=true->True)/\(D 5=true->True)/\(D 6=true->True)/\(D 7=true->True)/\(D 8=true->True)/\(D 9=true->True)/\(D 10=true->True)/\(D 11=true->True)/\(D 12=true->True)/\(D 13=true->True)/\(D 14=true->k=.bool true))/\Hid ((D 1=false->El w V R s I)/\(D 1=true->El w V R s (j:Int))))
    (E8 ⟨_,_,_,_,_,_,_,rfl,Ja DO,Ja ⟨λ_=>T,DO⟩⟩) ?step1 ?fin1
   case step1=>
    rintro D M V i ds X L d ad ⟨m,g,n,o,J,A,u,q,y,x,z,v,t,p,k,rfl,a,f⟩;have Qj:i<15:=(Ad.1 L).1;obtain rfl|rfl|rfl|rfl|rfl|rfl|rfl|rfl|rfl|rfl|rfl|rfl|rfl|rfl|rfl:=IE i om
    all_goals
     simp only[Ah,Ae,Ak]at L;subst L
    . clear d;refine DT ?_;exact⟨(Di a),f⟩
    . have Q:=f.o.1 ad;obtain rfl:=a.o.1 (d 0 DO);clear d;have Y:=Ja (P.o V Q.1);refine Jb rfl rfl λK hK=>?_;go_simp;go_wp2_with(go_at_call 122;refine Y.o.mono ?_;rintro e w5 ⟨rfl,af,ae⟩)
      exact E8 ⟨_,_,_,_,_,_,_,rfl,(Dv (Di a)),Ja ⟨λh=>by simp at h,λ_=>⟨af,Jf Q.2 ae⟩⟩⟩
    . obtain rfl:=a.o.2.1 (d 1 DO);clear d;refine DT ?_;exact⟨(Df (Dv a)),f⟩
    . obtain rfl:=a.o.2.2.1 (d 2 DO);clear d;refine Yh rfl rfl ?_;exact E8 ⟨_,_,_,_,_,_,_,rfl,(Dh (Df a) λ_=>trivial),f⟩
    . obtain rfl:=a.o.2.2.1 (d 2 DO);clear d;refine Yh rfl rfl ?_;exact E8 ⟨_,_,_,_,_,_,_,rfl,(Dx (Df a) λ_=>trivial),f⟩
    . obtain rfl:=a.o.2.2.1 (d 2 DO);clear d;refine Yh rfl rfl ?_;exact E8 ⟨_,_,_,_,_,_,_,rfl,(D0 (Df a) λ_=>trivial),f⟩
    . obtain rfl:=a.o.2.2.1 (d 2 DO);clear d;refine Yh rfl rfl ?_;exact E8 ⟨_,_,_,_,_,_,_,rfl,(D4 (Df a) λ_=>trivial),f⟩
    . obtain rfl:=a.o.2.2.1 (d 2 DO);clear d;refine Yh rfl rfl ?_;exact E8 ⟨_,_,_,_,_,_,_,rfl,(ED (Df a) λ_=>trivial),f⟩
    . obtain rfl:=a.o.2.2.1 (d 2 DO);clear d;refine Yh rfl rfl ?_;exact E8 ⟨_,_,_,_,_,_,_,rfl,(ET (Df a) λ_=>trivial),f⟩
    . obtain rfl:=a.o.2.2.1 (d 2 DO);clear d;refine Yh rfl rfl ?_;exact E8 ⟨_,_,_,_,_,_,_,rfl,(Eo (Df a) λ_=>trivial),f⟩
    . obtain rfl:=a.o.2.2.1 (d 2 DO);clear d;refine Yh rfl rfl ?_;exact E8 ⟨_,_,_,_,_,_,_,rfl,(D7 (Df a) λ_=>trivial),f⟩
    . obtain rfl:=a.o.2.2.1 (d 2 DO);clear d;refine Yh rfl rfl ?_;exact E8 ⟨_,_,_,_,_,_,_,rfl,(EB (Df a) λ_=>trivial),f⟩
    . obtain rfl:=a.o.2.2.1 (d 2 DO);clear d;refine Yh rfl rfl ?_;exact E8 ⟨_,_,_,_,_,_,_,rfl,(EN (Df a) λ_=>trivial),f⟩
    . obtain rfl:=a.o.2.2.1 (d 2 DO);clear d;refine Yh rfl rfl ?_;exact E8 ⟨_,_,_,_,_,_,_,rfl,(EU (Df a) λ_=>trivial),f⟩
    . obtain rfl:=a.o.2.2.1 (d 2 DO);clear d;refine DT ?_;exact⟨(GX (Df a)),f⟩
   case fin1=>
    rintro D M V N ⟨m,g,n,o,J,A,u,q,y,x,z,v,t,p,k,rfl,a,f⟩;have l:=Ja (f.o.2 (N 1 DR));obtain rfl:=a.o.2.2.2.2.2.2.2.2.2.2.2.2.2.2 (N 14 DR);clear a f N;go_wp2_with fail
    go_ret;exact⟨rfl,l.o.1,l.o.2⟩
 . have Qh:j<s.size:=om
   have aj:(j:Int)<(s.size:Int):=om
   rw[show decide (j=s.size)=false from BF S]at P;rw[PI Qh]at O;obtain⟨nb,Z⟩:=ex (((s[j].toNat:Int) != (c.toNat:Int)));have Qf:=Ja (show nb=!b by
    rw[<-Z,O];by_cases e:s[j]=c
    . rw[e];simp
    . rw[show(s[j]==c)=false from BH.2 e,bne,Kq e])
   have Qi:=Ja Z;clear O S Z;go_enter Tryz.func120,Tryz.ntmps120
   go_wp2_with fail
   have T:El w w.drew R s I:=⟨HH.o,rfl,rfl,rfl,Aa _,λ_ _ _=>rfl⟩;refine Jn Qg [[],[0],[1,1],[2],[3,2],[4,2],[5,2],[2],[7,2],[8,2],[9,2],[6,10,2],[2],[11,12,2],[2,13]] (by kernel_rfl) DR
    (λD M V=>∃(m g n o J A u q y x z v t p k:Value),M={ tmps:=#[G (some ⟨R,0,none⟩),E .u8 ↑c.toNat,H,H,.bool false,m,g,n,o,J,A,u,q,y,x,z,v,t,p,k,H,H,H,H,H,H,H],defers:=[] }/\Hid ((D 0=true->m=G (some ⟨R,0,none⟩))/\(D 1=true->g=.bool false)/\(D 2=true->n=.bool false)/\(D 3=true->o=G (some ⟨R,0,none⟩))/\(D 4=true->J=G (some ⟨R,0,none⟩))/\(D 5=true->A=G (some ⟨R,0,none⟩))/\(D 6=true->u=.string s)/\(D 7=true->q=G (some ⟨R,0,none⟩))/\(D 8=true->y=G (some ⟨R,0,none⟩))/\(D 9=true->x=G (some ⟨R,1,none⟩))/\(D 10=true->z=E F (j:Int))/\(D 11=true->v=E .u8 (s[j].toNat:Int))/\(D 12=true->t=E .u8 (c.toNat:Int))/\(D 13=true->p=.bool nb)/\(D 14=true->k=.bool nb))/\Hid ((D 1=false->El w V R s I)/\(D 1=true->El w V R s (j:Int))))
    (E8 ⟨_,_,_,_,_,_,_,rfl,Ja DO,Ja ⟨λ_=>T,DO⟩⟩) ?step2 ?fin2
   case step2=>
    rintro D M V i ds X L d ad ⟨m,g,n,o,J,A,u,q,y,x,z,v,t,p,k,rfl,a,f⟩;have Qj:i<15:=(Ad.1 L).1;obtain rfl|rfl|rfl|rfl|rfl|rfl|rfl|rfl|rfl|rfl|rfl|rfl|rfl|rfl|rfl:=IE i om
    all_goals
     simp only[Ah,Ae,Ak]at L;subst L
    . clear d;refine DT ?_;exact⟨(Di a),f⟩
    . have Q:=f.o.1 ad;obtain rfl:=a.o.1 (d 0 DO);clear d;have Y:=Ja (P.o V Q.1);refine Jb rfl rfl λK hK=>?_;go_simp;go_wp2_with(go_at_call 122;refine Y.o.mono ?_;rintro e w5 ⟨rfl,af,ae⟩)
      exact E8 ⟨_,_,_,_,_,_,_,rfl,(Dv (Di a)),Ja ⟨λh=>by simp at h,λ_=>⟨af,Jf Q.2 ae⟩⟩⟩
    . obtain rfl:=a.o.2.1 (d 1 DO);clear d;refine DT ?_;exact⟨(Df (Dv a)),f⟩
    . obtain rfl:=a.o.2.2.1 (d 2 DO);clear d;refine EQ ?_;exact⟨(Dh (Df a)),f⟩
    . obtain rfl:=a.o.2.2.2.1 (d 3 DO);obtain rfl:=a.o.2.2.1 (d 2 DO);clear d;refine EQ ?_;exact⟨(Dx (Dh (Df a))),f⟩
    . obtain rfl:=a.o.2.2.2.2.1 (d 4 DO);obtain rfl:=a.o.2.2.1 (d 2 DO);clear d;refine EQ ?_;exact⟨(D0 (Dx (Df a))),f⟩
    . obtain rfl:=Dk a (d 5 DO);obtain rfl:=a.o.2.2.1 (d 2 DO);have W:D 1=true:=X 2 _ rfl (d 2 DO) 1 DO;have c0:=(f.o.2 W).1.c0;clear d;refine EQ ?_;exact⟨(D4 (D0 (Df a))),f⟩
    . obtain rfl:=a.o.2.2.1 (d 2 DO);clear d;refine EQ ?_;exact⟨(ED (Df a)),f⟩
    . obtain rfl:=Dq a (d 7 DO);obtain rfl:=a.o.2.2.1 (d 2 DO);clear d;refine EQ ?_;exact⟨(ET (ED (Df a))),f⟩
    . obtain rfl:=Ds a (d 8 DO);obtain rfl:=a.o.2.2.1 (d 2 DO);clear d;refine EQ ?_;exact⟨(Eo (ET (Df a))),f⟩
    . obtain rfl:=Dt a (d 9 DO);obtain rfl:=a.o.2.2.1 (d 2 DO);have W:D 1=true:=X 2 _ rfl (d 2 DO) 1 DO;have c1:=(f.o.2 W).1.c1;clear d;refine EQ ?_;exact⟨(D7 (Eo (Df a))),f⟩
    . obtain rfl:=Dn a (d 6 DO);obtain rfl:=Do a (d 10 DO);obtain rfl:=a.o.2.2.1 (d 2 DO);clear d;refine EQ ?_;exact⟨(EB (D7 (D4 (Df a)))),f⟩
    . obtain rfl:=a.o.2.2.1 (d 2 DO);clear d;refine EQ ?_;exact⟨(EN (Df a)),f⟩
    . obtain rfl:=Eg a (d 11 DO);obtain rfl:=E9 a (d 12 DO);obtain rfl:=a.o.2.2.1 (d 2 DO);have ai:=Qi.o;clear d;refine EQ ?_;exact⟨(EU (EN (EB (Df a)))),f⟩
    . obtain rfl:=a.o.2.2.1 (d 2 DO);obtain rfl:=GZ a (d 13 DO);clear d;refine DT ?_;exact⟨(GX (EU (Df a))),f⟩
   case fin2=>
    rintro D M V N ⟨m,g,n,o,J,A,u,q,y,x,z,v,t,p,k,rfl,a,f⟩;have l:=Ja (f.o.2 (N 1 DR));obtain rfl:=a.o.2.2.2.2.2.2.2.2.2.2.2.2.2.2 (N 14 DR);clear a f N;have c1:=l.o.1.c1;have f1:=l.o.1.f 1;cases b with
    |true=>
     obtain rfl:nb=false:=Qf.o;go_wp2_with fail
     go_ret;exact⟨rfl,l.o.1.set1 _,Jf l.o.2 (JD _ R 1 _)⟩
    |false=>
     obtain rfl:nb=true:=Qf.o;go_wp2_with fail
     go_ret;exact⟨rfl,l.o.1,l.o.2⟩

