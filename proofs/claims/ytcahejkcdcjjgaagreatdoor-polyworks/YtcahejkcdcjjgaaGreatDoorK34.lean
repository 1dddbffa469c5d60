import Derived.Test.YtcahejkcdcjjgaaGreatDoorK33
import Derived.WalkLawsBesides
set_option maxRecDepth 100000
set_option maxHeartbeats 16000000
namespace Go.Proofs.YtcahejkcdcjjgaaGreatDoor
open Go.RowKit Go.Shelf
attribute [local go_sem] Oper.semAt_some
theorem SmQ.add2{k m:Nat}{p q:Rat}(hp:SmQ k p)(hq:SmQ m q):SmQ (k+m+1) (p+q):=by
 rw[←Jl4];refine SmQ.divInt ?_ ((hp.1.mul hq.2).add (by have:=hq.1.mul hp.2;rwa[CQ]at this)) ((hp.2.mul hq.2).mono (by omega));exact CU (by have:=p.den_nz;omega) (by have:=q.den_nz;omega)
theorem Jdz.sm{c:Rat}(h:Jdz c):SmQ 1 c:=by
 obtain⟨x,y,rfl,h1,h2,h3⟩:=h;exact SmQ.divInt (by omega) (by unfold Sm B64;omega) (by unfold Sm B64;omega)
theorem SmQ.zero(k:Nat)(hk:1≤k):SmQ k 0:=⟨Sm.zero k,Sm.one k hk⟩
theorem Jf4(n:Nat)(c:Rat)(i:Nat):cf (upR n [c]) i=if i=n then c else 0:=by
 rw[Jdo];by_cases h:n≤i
 · rw[if_pos h];by_cases h2:i=n
   · rw[if_pos h2,h2,A0,Y7]
   · rw[if_neg h2,J4 (by simp;omega)]
 · rw[if_neg h,if_neg (by omega)]
theorem YN{n:Nat}{c:Rat}(h:Jdz c):Sqs (Jh (upR n [c])):=Sqs.of fun i=>by
 rw[J8,Jf4];split
 · exact Sq.of h.sm (by omega)
 · exact Sq.of (SmQ.zero 1 (by omega)) (by omega)
theorem YI(n:Nat)(c:Rat):(Jh (upR n [c])).length≤n+1:=Aw (Jz _) (by simp[upR])
theorem Jbk{S:List Rat}{n:Nat}(c:Rat)(h:n<S.length):XV (Jh S) (Jh (upR n [c]))=Jh (S.set n (cf S n+c)):=by
 unfold XV;refine YD fun i=>?_;rw[Y8,J8,J8,Jf4,XC _ _ _ _ h];split
 · rename_i h;rw[h]
 · grind
theorem Jbl{S:List Rat}{n:Nat}(c:Rat)(h:n<S.length):XR (Jh S) (Jh (upR n [c]))=Jh (S.set n (cf S n-c)):=by
 unfold XR;refine YD fun i=>?_;rw[Y8,YX,J8,J8,Jf4,XC _ _ _ _ h];split
 · rename_i h;rw[h];grind
 · grind
def Yv(S:List Rat)(m:Nat):Prop:=S.length=9∧∀i,SmQ (2*m+1) (cf S i)
theorem Yv.start:Yv (List.replicate 9 0) 0:=⟨rfl,fun i=>by rw[J3];exact SmQ.zero 1 (by omega)⟩
theorem Yv.sqs{S:List Rat}{m:Nat}(h:Yv S m)(hm:m≤300):Sqs (Jh S):=Sqs.of fun i=>by rw[J8];exact Sq.of (h.2 i) (by omega)
theorem Yv.next{S:List Rat}{m n:Nat}{c:Rat}(h:Yv S m)(hc:Jdz c)(hn:n≤8)(b:Bool):Yv (S.set n (if b then cf S n-c else cf S n+c)) (m+1):=by
 refine⟨by rw[Cs];exact h.1,fun i=>?_⟩;rw[XC _ _ _ _ (by rw[h.1];omega)];split
 · cases b
   · exact((h.2 n).add2 hc.sm).mono (by omega)
   · rw[if_pos rfl,Rat.sub_eq_add_neg];exact((h.2 n).add2 hc.sm.neg).mono (by omega)
 · exact(h.2 i).mono (by omega)
theorem Jk8{l:List UInt8}{j:Nat}{c d:UInt8}(h1:JL l j c=true)(h2:JL l j d=true):c=d:=by
 unfold JL at h1 h2;rw[beq_iff_eq]at h1 h2;exact Cb (h1.symm.trans h2)
theorem Jcs{l:List UInt8}{f:Nat}{b:Bool}{I:Nat}{S:List Rat}{e p:Nat}(h:JR l I=.bad e p):X3 l (f+1) b I S=.bad e p:=by
 rw[X3,h]
theorem Jet{l:List UInt8}{f:Nat}{b:Bool}{I:Nat}{S:List Rat}{c:Rat}{n k:Nat}(h:JR l I=.ok (c,n) k):X3 l (f+1) b I S =
 if JL l (skB l k) 43 then X3 l f false (skB l k+1) (S.set n (if b then cf S n-c else cf S n+c))else if JL l (skB l k) 45 then X3 l f true (skB l k+1) (S.set n (if b then cf S n-c else cf S n+c))else if skB l k=l.length then .ok (S.set n (if b then cf S n-c else cf S n+c)) (skB l k)else .bad 2 (skB l k):=by
 rw[X3,h]
theorem Jiq(l:List UInt8)(i:Nat):(JR l i).pos:=by
 intro e p h;rw[XT]at h;split at h
 · rename_i e' p' h1;cases h;exact Jio l i _ _ h1
 · split at h
   · split at h
     · rename_i e' p' h1;cases h;exact Jrb _ _ _ _ h1
     · cases h
   · cases h
def Xx(l:List UInt8):Rd (List Rat):=if JL l (skB l 0) 45 then X3 l (l.length+1) true (skB l 0+1) (List.replicate 9 0)else X3 l (l.length+1) false (skB l 0) (List.replicate 9 0)
def Jrl(r:Rd (List Rat)):List Rat × Nat × Nat:=match r with|.bad e p=>([],e,p)|.ok s _=>(Jh s,0,0)
theorem Jdh{l:List UInt8}(h:¬300<l.length):JT l=Jrl (Xx l):=by
 unfold JT Xx Jrl;rw[if_neg h];split<;>(rename_i heq;rw[heq])
def X2(l:List UInt8)(w':World)(u:Value)(e p:Int):Prop:=e=((JT l).2.1:Int)∧p=((JT l).2.2:Int)∧RowK false w' u (JT l).1∧(JT l).1.length≤9∧∀i,SmQ 601 (cf (JT l).1 i)
theorem X2.bad{l:List UInt8}{w':World}{e p:Nat}(h:JT l=([],e,p)):X2 l w' (.slice none 0 0) e p:=by
 rw[X2,h];exact⟨rfl,rfl,RowK.nil _ _,by simp,fun i=>by rw[Y2];exact SmQ.zero _ (by omega)⟩
theorem X2.ok{l:List UInt8}{w':World}{u:Value}{S:List Rat}{m:Nat}(h:JT l=(Jh S,0,0))(hs:Yv S m)(hm:m≤300)(hu:RowK false w' u (Jh S)):X2 l w' u 0 0:=by
 rw[X2,h];exact⟨rfl,rfl,hu,Aw (Jz _) (by rw[hs.1];exact Aa _),fun i=>by rw[J8];exact(hs.2 i).mono (by omega)⟩
theorem below_drewN{w W:World}(h:Below w.heap.size w W)(k:Nat):Below w.heap.size w (W.drewN k):=h.grown (JB W k none) h.size (fun k e=>by cases e)
theorem RdB.new(w:World)(s:ByteArray):RdB (w.alloc (.cells #[.string s,.int .i64 0,.int .i64 0,.int .i64 0] 82)) w.heap.size s 0 0 0:=World.alloc_heap_new w _
theorem Jrm(s:ByteArray)(hs0:s.size≤140737488351232)(w:World):
 Calls Tryz.prog 10 #[.string s] w fun r w'=>∃(u:Value) (e p:Int),r=.returned (.tuple #[u,.int .i64 e,.int .i64 p])∧X2 (Jd s) w' u e p∧Below w.heap.size w w':=by
 by_cases hlong:300<s.size
 · have hlong':(300:Int)<(s.size:Int):=by omega
   have HP:=Ja (show JT (Jd s)=([],1,0)by unfold JT;rw[if_pos (by rw[Jg];exact hlong)]);go_enter Tryz.func10,Tryz.ntmps10
   go_wp2;exact bodyPost_ret (v:=.tuple #[.slice none 0 0,.int .i64 1,.int .i64 0]) (by simp[results,Tryz.results10,go_sem]) rfl ⟨_,_,_,rfl,X2.bad HP.o,Below.refl _ _⟩
 · have hlong':¬(300:Int)<(s.size:Int):=by omega
   have hs:s.size≤300:=by omega
   have HP:=Ja (Jdh (l:=Jd s) (by rw[Jg];exact hlong));clear hlong hs0;have Up:Below w.heap.size w (w.alloc (.cells #[.string s,.int .i64 0,.int .i64 0,.int .i64 0] 82)):=(Below.refl _ w).alloc (Aa _) _;have Um:=RdB.new w s;obtain⟨W0,hW0⟩:=ex (w.alloc (.cells #[.string s,.int .i64 0,.int .i64 0,.int .i64 0] 82));rw[hW0]at Up Um;obtain⟨R,hR⟩:=ex (w.heap.size);rw[hR]at Um;have HR:=Ja hR;have Us:=Ja hW0;have Ut:=Ja Up;have Ux:=Ja Um;obtain⟨b0,hb0⟩:∃b,b=(decide ((0:Int)=0)&&JL (Jd s) (skB (Jd s) 0) 45):=⟨_,rfl⟩;have Uu:=Ja (J0 R s 0 0 0 45 W0 Um (by omega) hs b0 hb0);have HB:=Ja (show JL (Jd s) (skB (Jd s) 0) 45=b0 by rw[hb0];simp);clear Up Um hb0 hR hW0;go_enter Tryz.func10,Tryz.ntmps10
   go_upto_region 4 with fail
   rw[Us.o,HR.o];go_wp2_with(first
    |(go_at_call 45;refine Uu.o.mono ?_;clear Uu;rintro e w1 ⟨rfl,hr1,hg1⟩;have Ur:=Ja hr1;have Qq:=Ja (below_grown Ut.o hg1 (by rw[HR.o];exact Aa _));clear hr1 hg1))
   go_loopw [6,7,8] (fun mv pv _ wr=>∃(b:Bool) (I f m:Nat) (S:List Rat) (a:Option Addr) (la ca:Nat),mv=.bool b∧pv=.slice a la ca∧I≤s.size∧Hid (RdB wr R s (I:Int) 0 0)∧Hid (RowK false wr (.slice a la ca) (Jh S))∧Hid (Yv S m)∧Hid (m≤I∧s.size-I<f∧X3 (Jd s) f b I S=Xx (Jd s))∧Hid (Below w.heap.size w wr)) (fun _ _ _ wr=>s.size-rdI wr R)
   case atStart=>
    have Uy:skB (Jd s) 0≤s.size:=by rw[←Jg];exact Yj (by omega)
    refine⟨b0,skB (Jd s) 0+(if b0 then 1 else 0),s.size+1,0,List.replicate 9 0,none,0,0,rfl,rfl,?_,Ja Ur.o,Ja ?_,Ja Yv.start,Ja ⟨by omega,by omega,?_⟩,Ja Qq.o⟩
    · cases hb:b0
      · simpa using Uy
      · have h1:=HB.o;rw[hb]at h1;have h2:=JZ h1;rw[Jg]at h2;simp;omega
    · rw[Jcy (fun i=>J3 9 i)];exact RowK.nil _ _
    · unfold Xx;rw[HB.o,Jg];cases b0<;>rfl
   case round=>
    clear Ur Qq HB Ut Ux Us;obtain⟨b,I,f,m,S,a,la,ca,rfl,rfl,hI,HRr,HRow,HS,HT,HG⟩:=hrel;have Uv:=Ja (Jrk R s I 0 0 wr HRr.o hI hs);go_upto_if 19 with(first
     |(go_at_call 46;refine Uv.o.mono ?_;clear Uv;rintro e w1 ⟨u,c,n,I1,rfl,hu,hn8,hF,hI1,hr1,hok,hg1⟩;have Ql:=Ja (HRow.o.rd HRr.o hg1);have Qn:=Ja hr1;have HU:=Ja hu;have HF:=Ja hF;have Uw:=Ja (hok rfl);have Qq:=Ja (below_grown HG.o hg1 (by rw[HR.o];exact Aa _));obtain⟨a2,l2,c2,rfl⟩:=hu.form;clear hr1 hu hF hok hg1))
    obtain⟨I5,hI5⟩:=ex (skB (Jd s) I1);have Qr:=Ja hI5;have Qh:I5≤s.size:=by rw[←hI5,←Jg];exact Yj (by rw[Jg];exact hI1)
    have Qa:=Ja (show skB (Jd s) I5=I5 by rw[←hI5];exact Jak _ _);clear hI5;obtain⟨f,rfl⟩:∃g,f=g+1:=⟨f-1,by have:=HT.o.2.1;omega⟩;cases b with
    |false=>
     have Ui:=Ja (show Yv (S.set n (if false then cf S n-c else cf S n+c)) (m+1)from HS.o.next HF.o hn8 false);by_cases hE1:rdE (JR (Jd s) I) 0=0
     · obtain⟨_,⟨c0,n0⟩,k,hk⟩:=Jf3 (Jiq _ _) hE1;obtain⟨rfl,rfl,rfl⟩:=Uw.o c0 n0 k hk;rw[hE1,(X1 hk 0 0).2]at Qn;have Ua:=Ja (show m≤I∧I<I1∧I1≤I5∧I5≤s.size∧s.size-I<f+1 from⟨HT.o.1,(Jb9 (by rw[Jg];exact hI) hk).1,by rw[←Qr.o];exact Jbt _ _,Qh,HT.o.2.1⟩);have Ud:=Ja (Jet (f:=f) (b:=false) (S:=S) hk);rw[Qr.o,HT.o.2.2]at Ud;clear hE1 hk;cases hc43:JL (Jd s) I5 43 with
       |true=>
        have Qs:=Ja hc43;have Qk:=Ja (show JL (Jd s) I5 45=false from Bool.eq_false_iff.2 (fun h=>absurd (Jk8 hc43 h) (by decide)));have Uj:=Ja (show X3 (Jd s) f false (I5+1) (S.set n (if false then cf S n-c else cf S n+c))=Xx (Jd s)by rw[Ud.o,if_pos hc43]);have Qz:I5+1≤s.size:=by have:=JZ hc43;rw[Jg]at this;omega
        clear hc43;have Qm:=Ja (fun(V:World) (h1:RowK false V (.slice a la ca) (Jh S)) (h2:RowK false V (.slice a2 l2 c2) (Jh (upR n [c])))=>Ja3 _ _ _ _ V h1 h2 (HS.o.sqs (by have:=HT.o.1;omega)) (YN HF.o) ⟨(by have:=Jz S;have:=HS.o.1;omega),(by have:=YI n c;omega)⟩);have H5:=Ja (fun(V:World) (hh:RdB V R s (I1:Int) 0 0)=>Ys R s I1 0 0 45 V hh hI1 hs);rw[show(decide ((0:Int)=0)&&JL (Jd s) (skB (Jd s) I1) 45)=false from by rw[Qr.o];simp[Qk.o],Qr.o]at H5;have H6:=Ja (fun(V:World) (hh:RdB V R s (I5:Int) 0 0)=>J0 R s I5 0 0 43 V hh Qh hs true (by rw[Qa.o];simp[Qs.o]));rw[Qa.o]at H6;go_wp2_with(first
         |(go_at_call 30;refine(Qm.o _ Ql.o HU.o).mono ?_;clear Qm;rintro e w2 ⟨u2,rfl,hu2,hq2⟩;rw[Jbk c (by rw[HS.o.1];omega)]at hu2;obtain⟨a3,l3,c3,rfl⟩:=hu2.form;have Qe:=Ja hu2;have Qb:=Ja (Qn.o.below hq2);have Qv:=Ja (Qq.o.trans (hq2.mono Qq.o.size));clear hu2 hq2)
         |(go_at_call 47;refine(H5.o _ Qb.o).mono ?_;clear H5;rintro e w3 ⟨rfl,hr3,hg3⟩;have Qd:=Ja (Qe.o.rd Qb.o hg3);have Qf:=Ja hr3;have Qx:=Ja (below_grown Qv.o hg3 (by rw[HR.o];exact Aa _));clear hr3 hg3)
         |(go_at_call 45;refine(H6.o _ Qf.o).mono ?_;clear H6;rintro e w4 ⟨rfl,hr4,hg4⟩;have Qg:=Ja (Qd.o.rd Qf.o hg4);have Qc:=Ja hr4;have Qu:=Ja (below_grown Qx.o hg4 (by rw[HR.o];exact Aa _));clear hr4 hg4))
        go_roundw
        case rel=>exact⟨_,I5+1,f,m+1,_,_,_,_,rfl,rfl,Qz,Ja Qc.o,Ja Qg.o,Ja Ui.o,Ja ⟨by have:=Ua.o;omega,by have:=Ua.o;omega,Uj.o⟩,Ja Qu.o⟩
        case measure=>
         have e1:=XL (I:=I5+1) Qc.o;have e2:=XL HRr.o;rw[e1,e2];have:=Ua.o;omega
       |false=>
        have Qs:=Ja hc43;cases hc45:JL (Jd s) I5 45 with
        |true=>
         have Qk:=Ja hc45;have Uj:=Ja (show X3 (Jd s) f true (I5+1) (S.set n (if false then cf S n-c else cf S n+c))=Xx (Jd s)by rw[Ud.o,if_neg (show ¬JL (Jd s) I5 43=true by rw[hc43];decide),if_pos hc45]);have Qz:I5+1≤s.size:=by have:=JZ hc45;rw[Jg]at this;omega
         clear hc43 hc45;have Qm:=Ja (fun(V:World) (h1:RowK false V (.slice a la ca) (Jh S)) (h2:RowK false V (.slice a2 l2 c2) (Jh (upR n [c])))=>Ja3 _ _ _ _ V h1 h2 (HS.o.sqs (by have:=HT.o.1;omega)) (YN HF.o) ⟨(by have:=Jz S;have:=HS.o.1;omega),(by have:=YI n c;omega)⟩);have H5:=Ja (fun(V:World) (hh:RdB V R s (I1:Int) 0 0)=>Ys R s I1 0 0 45 V hh hI1 hs);rw[show(decide ((0:Int)=0)&&JL (Jd s) (skB (Jd s) I1) 45)=true from by rw[Qr.o];simp[Qk.o],Qr.o]at H5;have H6:=Ja (fun(V:World) (hh:RdB V R s (I5:Int) 0 0)=>J0 R s I5 0 0 43 V hh Qh hs false (by rw[Qa.o];simp[Qs.o]));rw[Qa.o]at H6;have H7:=Ja (fun(V:World) (hh:RdB V R s (I5:Int) 0 0)=>J0 R s I5 0 0 45 V hh Qh hs true (by rw[Qa.o];simp[Qk.o]));rw[Qa.o]at H7;go_wp2_with(first
          |(go_at_call 30;refine(Qm.o _ Ql.o HU.o).mono ?_;clear Qm;rintro e w2 ⟨u2,rfl,hu2,hq2⟩;rw[Jbk c (by rw[HS.o.1];omega)]at hu2;obtain⟨a3,l3,c3,rfl⟩:=hu2.form;have Qe:=Ja hu2;have Qb:=Ja (Qn.o.below hq2);have Qv:=Ja (Qq.o.trans (hq2.mono Qq.o.size));clear hu2 hq2)
          |(go_at_call 47;refine(H5.o _ Qb.o).mono ?_;clear H5;rintro e w3 ⟨rfl,hr3,hg3⟩;have Qd:=Ja (Qe.o.rd Qb.o hg3);have Qf:=Ja hr3;have Qx:=Ja (below_grown Qv.o hg3 (by rw[HR.o];exact Aa _));clear hr3 hg3)
          |(go_at_call 45;refine(H6.o _ Qf.o).mono ?_;clear H6;rintro e w4 ⟨rfl,hr4,hg4⟩;have Qg:=Ja (Qd.o.rd Qf.o hg4);have Qc:=Ja hr4;have Qu:=Ja (below_grown Qx.o hg4 (by rw[HR.o];exact Aa _));clear hr4 hg4)
          |(go_at_call 45;refine(H7.o _ Qc.o).mono ?_;clear H7;rintro e w5 ⟨rfl,hr5,hg5⟩;have Qi:=Ja (Qg.o.rd Qc.o hg5);have Qj:=Ja hr5;have Qy:=Ja (below_grown Qu.o hg5 (by rw[HR.o];exact Aa _));clear hr5 hg5))
         go_roundw
         case rel=>exact⟨_,I5+1,f,m+1,_,_,_,_,rfl,rfl,Qz,Ja Qj.o,Ja Qi.o,Ja Ui.o,Ja ⟨by have:=Ua.o;omega,by have:=Ua.o;omega,Uj.o⟩,Ja Qy.o⟩
         case measure=>
          have e1:=XL (I:=I5+1) Qj.o;have e2:=XL HRr.o;rw[e1,e2];have:=Ua.o;omega
        |false=>
         have Qk:=Ja hc45;by_cases hlt5:I5<s.size
         · have Qp:=Ja (show JT (Jd s)=([],2,I5)by rw[HP.o,Ud.o,if_neg (show ¬JL (Jd s) I5 43=true by rw[hc43];decide),if_neg (show ¬JL (Jd s) I5 45=true by rw[hc45];decide),if_neg (by rw[Jg];omega)];rfl);clear hc43 hc45;have Qm:=Ja (fun(V:World) (h1:RowK false V (.slice a la ca) (Jh S)) (h2:RowK false V (.slice a2 l2 c2) (Jh (upR n [c])))=>Ja3 _ _ _ _ V h1 h2 (HS.o.sqs (by have:=HT.o.1;omega)) (YN HF.o) ⟨(by have:=Jz S;have:=HS.o.1;omega),(by have:=YI n c;omega)⟩);have H5:=Ja (fun(V:World) (hh:RdB V R s (I1:Int) 0 0)=>Ys R s I1 0 0 45 V hh hI1 hs);rw[show(decide ((0:Int)=0)&&JL (Jd s) (skB (Jd s) I1) 45)=false from by rw[Qr.o];simp[Qk.o],Qr.o]at H5;have H6:=Ja (fun(V:World) (hh:RdB V R s (I5:Int) 0 0)=>J0 R s I5 0 0 43 V hh Qh hs false (by rw[Qa.o];simp[Qs.o]));rw[Qa.o]at H6;have H7:=Ja (fun(V:World) (hh:RdB V R s (I5:Int) 0 0)=>J0 R s I5 0 0 45 V hh Qh hs false (by rw[Qa.o];simp[Qk.o]));rw[Qa.o]at H7;have H8:=Ja (fun(V:World) (hh:RdB V R s (I5:Int) 0 0)=>Ys R s I5 0 0 32 V hh Qh hs);rw[Qa.o]at H8;have Ue:=Ja (fun(V:World) (hh:RdB V R s (I5:Int) 0 0)=>Jaj R s (I5:Int) 0 0 2 (I5:Int) V hh);have hlt5':(I5:Int)<(s.size:Int):=by omega
           go_wp2_with(first
            |(go_at_call 30;refine(Qm.o _ Ql.o HU.o).mono ?_;clear Qm;rintro e w2 ⟨u2,rfl,hu2,hq2⟩;rw[Jbk c (by rw[HS.o.1];omega)]at hu2;obtain⟨a3,l3,c3,rfl⟩:=hu2.form;have Qe:=Ja hu2;have Qb:=Ja (Qn.o.below hq2);have Qv:=Ja (Qq.o.trans (hq2.mono Qq.o.size));clear hu2 hq2)
            |(go_at_call 47;refine(H5.o _ Qb.o).mono ?_;clear H5;rintro e w3 ⟨rfl,hr3,hg3⟩;have Qd:=Ja (Qe.o.rd Qb.o hg3);have Qf:=Ja hr3;have Qx:=Ja (below_grown Qv.o hg3 (by rw[HR.o];exact Aa _));clear hr3 hg3)
            |(go_at_call 45;refine(H6.o _ Qf.o).mono ?_;clear H6;rintro e w4 ⟨rfl,hr4,hg4⟩;have Qg:=Ja (Qd.o.rd Qf.o hg4);have Qc:=Ja hr4;have Qu:=Ja (below_grown Qx.o hg4 (by rw[HR.o];exact Aa _));clear hr4 hg4)
            |(go_at_call 45;refine(H7.o _ Qc.o).mono ?_;clear H7;rintro e w5 ⟨rfl,hr5,hg5⟩;have Qi:=Ja (Qg.o.rd Qc.o hg5);have Qj:=Ja hr5;have Qy:=Ja (below_grown Qu.o hg5 (by rw[HR.o];exact Aa _));clear hr5 hg5)
            |(go_at_call 47;refine(H8.o _ Qj.o).mono ?_;clear H8;rintro e w6 ⟨rfl,hr6,hg6⟩;have Qo:=Ja (Qi.o.rd Qj.o hg6);have Qt:=Ja hr6;have Ug:=hr6.c1;have Uc:=hr6.c2;have Uf:=hr6.c3;have Ub:=Ja (below_grown Qy.o hg6 (by rw[HR.o];exact Aa _));clear hr6 hg6)
            |(go_at_call 48;refine(Ue.o _ Qt.o).mono ?_;clear Ue;rintro e w7 ⟨rfl,hr7,hg7⟩;clear Ug Uc Uf;have Un:w7.cell? ⟨R,2,none⟩=some (.int .i64 2):=hr7.c2;have Ul:w7.cell? ⟨R,3,none⟩=some (.int .i64 (I5:Int)):=hr7.c3;have Uk:=Ja (below_grown Ub.o hg7 (by rw[HR.o];exact Aa _));clear hr7 hg7))
           go_quiet (fail)
           go_wp2_with fail
           exact bodyPost_ret (v:=.tuple #[.slice none 0 0,.int .i64 2,.int .i64 (I5:Int)]) (by simp[results,Tryz.results10,go_sem]) rfl ⟨_,_,_,rfl,X2.bad (e:=2) Qp.o,below_drewN Uk.o _⟩
         · have Qp:=Ja (show JT (Jd s)=(Jh (S.set n (if false then cf S n-c else cf S n+c)),0,0)by rw[HP.o,Ud.o,if_neg (show ¬JL (Jd s) I5 43=true by rw[hc43];decide),if_neg (show ¬JL (Jd s) I5 45=true by rw[hc45];decide),if_pos (by rw[Jg];omega)];rfl);clear hc43 hc45;have Qm:=Ja (fun(V:World) (h1:RowK false V (.slice a la ca) (Jh S)) (h2:RowK false V (.slice a2 l2 c2) (Jh (upR n [c])))=>Ja3 _ _ _ _ V h1 h2 (HS.o.sqs (by have:=HT.o.1;omega)) (YN HF.o) ⟨(by have:=Jz S;have:=HS.o.1;omega),(by have:=YI n c;omega)⟩);have H5:=Ja (fun(V:World) (hh:RdB V R s (I1:Int) 0 0)=>Ys R s I1 0 0 45 V hh hI1 hs);rw[show(decide ((0:Int)=0)&&JL (Jd s) (skB (Jd s) I1) 45)=false from by rw[Qr.o];simp[Qk.o],Qr.o]at H5;have H6:=Ja (fun(V:World) (hh:RdB V R s (I5:Int) 0 0)=>J0 R s I5 0 0 43 V hh Qh hs false (by rw[Qa.o];simp[Qs.o]));rw[Qa.o]at H6;have H7:=Ja (fun(V:World) (hh:RdB V R s (I5:Int) 0 0)=>J0 R s I5 0 0 45 V hh Qh hs false (by rw[Qa.o];simp[Qk.o]));rw[Qa.o]at H7;have H8:=Ja (fun(V:World) (hh:RdB V R s (I5:Int) 0 0)=>Ys R s I5 0 0 32 V hh Qh hs);rw[Qa.o]at H8;have Uq:decide (I5<s.size)=false:=decide_eq_false hlt5;go_wp2_with(first
            |(go_at_call 30;refine(Qm.o _ Ql.o HU.o).mono ?_;clear Qm;rintro e w2 ⟨u2,rfl,hu2,hq2⟩;rw[Jbk c (by rw[HS.o.1];omega)]at hu2;obtain⟨a3,l3,c3,rfl⟩:=hu2.form;have Qe:=Ja hu2;have Qb:=Ja (Qn.o.below hq2);have Qv:=Ja (Qq.o.trans (hq2.mono Qq.o.size));clear hu2 hq2)
            |(go_at_call 47;refine(H5.o _ Qb.o).mono ?_;clear H5;rintro e w3 ⟨rfl,hr3,hg3⟩;have Qd:=Ja (Qe.o.rd Qb.o hg3);have Qf:=Ja hr3;have Qx:=Ja (below_grown Qv.o hg3 (by rw[HR.o];exact Aa _));clear hr3 hg3)
            |(go_at_call 45;refine(H6.o _ Qf.o).mono ?_;clear H6;rintro e w4 ⟨rfl,hr4,hg4⟩;have Qg:=Ja (Qd.o.rd Qf.o hg4);have Qc:=Ja hr4;have Qu:=Ja (below_grown Qx.o hg4 (by rw[HR.o];exact Aa _));clear hr4 hg4)
            |(go_at_call 45;refine(H7.o _ Qc.o).mono ?_;clear H7;rintro e w5 ⟨rfl,hr5,hg5⟩;have Qi:=Ja (Qg.o.rd Qc.o hg5);have Qj:=Ja hr5;have Qy:=Ja (below_grown Qu.o hg5 (by rw[HR.o];exact Aa _));clear hr5 hg5)
            |(go_at_call 47;refine(H8.o _ Qj.o).mono ?_;clear H8;rintro e w6 ⟨rfl,hr6,hg6⟩;have Qo:=Ja (Qi.o.rd Qj.o hg6);have Qt:=Ja hr6;have Ug:=hr6.c1;have Uc:=hr6.c2;have Uf:=hr6.c3;have Ub:=Ja (below_grown Qy.o hg6 (by rw[HR.o];exact Aa _));clear hr6 hg6))
           exact bodyPost_ret (v:=.tuple #[.slice a3 l3 c3,.int .i64 0,.int .i64 0]) (by simp[results,Tryz.results10,go_sem]) rfl ⟨_,_,_,rfl,X2.ok Qp.o Ui.o (by have:=Ua.o;omega) Qo.o,Ub.o⟩
     · obtain⟨E1,hE⟩:=ex (rdE (JR (Jd s) I) 0);obtain⟨A1,hA⟩:=ex (rdA (JR (Jd s) I) 0 0);have Qw:∃e p:Nat,JR (Jd s) I=.bad e p:=by
        cases hk:JR (Jd s) I with
        |bad e p=>exact⟨e,p,rfl⟩
        |ok a k=>exact absurd (X1 hk 0 0).1 hE1
       obtain⟨e0,p0,Qw⟩:=Qw;have Uh:=Ja (show E1=(e0:Int)∧A1=(p0:Int)by rw[←hE,←hA,Qw];exact⟨rfl,rfl⟩);have Qp:=Ja (show JT (Jd s)=([],e0,p0)by rw[HP.o,←HT.o.2.2,Jcs Qw];rfl);rw[hE,hA]at Qn;rw[hE]at hE1;have Uo:(E1==0)=false:=by rw[beq_eq_false_iff_ne];exact hE1
       clear hE hA Qw;by_cases hlt5:I5<s.size
       · skip
         have Qm:=Ja (fun(V:World) (h1:RowK false V (.slice a la ca) (Jh S)) (h2:RowK false V (.slice a2 l2 c2) (Jh (upR n [c])))=>Ja3 _ _ _ _ V h1 h2 (HS.o.sqs (by have:=HT.o.1;omega)) (YN HF.o) ⟨(by have:=Jz S;have:=HS.o.1;omega),(by have:=YI n c;omega)⟩);have H5:=Ja (fun(V:World) (hh:RdB V R s (I1:Int) E1 A1)=>Ys R s I1 E1 A1 45 V hh hI1 hs);rw[show(decide ((E1:Int)=0)&&JL (Jd s) (skB (Jd s) I1) 45)=false from by simp[hE1],Qr.o]at H5;have H6:=Ja (fun(V:World) (hh:RdB V R s (I5:Int) E1 A1)=>J0 R s I5 E1 A1 43 V hh Qh hs false (by simp[hE1]));rw[Qa.o]at H6;have H7:=Ja (fun(V:World) (hh:RdB V R s (I5:Int) E1 A1)=>J0 R s I5 E1 A1 45 V hh Qh hs false (by simp[hE1]));rw[Qa.o]at H7;have H8:=Ja (fun(V:World) (hh:RdB V R s (I5:Int) E1 A1)=>Ys R s I5 E1 A1 32 V hh Qh hs);rw[Qa.o]at H8;have Ue:=Ja (fun(V:World) (hh:RdB V R s (I5:Int) E1 A1)=>Jaj R s (I5:Int) E1 A1 2 (I5:Int) V hh);have hlt5':(I5:Int)<(s.size:Int):=by omega
         go_wp2_with(first
          |(go_at_call 30;refine(Qm.o _ Ql.o HU.o).mono ?_;clear Qm;rintro e w2 ⟨u2,rfl,hu2,hq2⟩;rw[Jbk c (by rw[HS.o.1];omega)]at hu2;obtain⟨a3,l3,c3,rfl⟩:=hu2.form;have Qe:=Ja hu2;have Qb:=Ja (Qn.o.below hq2);have Qv:=Ja (Qq.o.trans (hq2.mono Qq.o.size));clear hu2 hq2)
          |(go_at_call 47;refine(H5.o _ Qb.o).mono ?_;clear H5;rintro e w3 ⟨rfl,hr3,hg3⟩;have Qd:=Ja (Qe.o.rd Qb.o hg3);have Qf:=Ja hr3;have Qx:=Ja (below_grown Qv.o hg3 (by rw[HR.o];exact Aa _));clear hr3 hg3)
          |(go_at_call 45;refine(H6.o _ Qf.o).mono ?_;clear H6;rintro e w4 ⟨rfl,hr4,hg4⟩;have Qg:=Ja (Qd.o.rd Qf.o hg4);have Qc:=Ja hr4;have Qu:=Ja (below_grown Qx.o hg4 (by rw[HR.o];exact Aa _));clear hr4 hg4)
          |(go_at_call 45;refine(H7.o _ Qc.o).mono ?_;clear H7;rintro e w5 ⟨rfl,hr5,hg5⟩;have Qi:=Ja (Qg.o.rd Qc.o hg5);have Qj:=Ja hr5;have Qy:=Ja (below_grown Qu.o hg5 (by rw[HR.o];exact Aa _));clear hr5 hg5)
          |(go_at_call 47;refine(H8.o _ Qj.o).mono ?_;clear H8;rintro e w6 ⟨rfl,hr6,hg6⟩;have Qo:=Ja (Qi.o.rd Qj.o hg6);have Qt:=Ja hr6;have Ug:=hr6.c1;have Uc:=hr6.c2;have Uf:=hr6.c3;have Ub:=Ja (below_grown Qy.o hg6 (by rw[HR.o];exact Aa _));clear hr6 hg6)
          |(go_at_call 48;refine(Ue.o _ Qt.o).mono ?_;clear Ue;rintro e w7 ⟨rfl,hr7,hg7⟩;clear Ug Uc Uf;have Un:=hr7.c2;have Ul:=hr7.c3;rw[if_neg hE1]at Un;rw[if_neg hE1]at Ul;have Uk:=Ja (below_grown Ub.o hg7 (by rw[HR.o];exact Aa _));clear hr7 hg7))
         go_quiet (fail)
         go_wp2_with fail
         exact bodyPost_ret (v:=.tuple #[.slice none 0 0,.int .i64 E1,.int .i64 A1]) (by simp[results,Tryz.results10,go_sem]) rfl ⟨_,_,_,rfl,by rw[Uh.o.1,Uh.o.2];exact X2.bad Qp.o,below_drewN Uk.o _⟩
       · skip
         have Qm:=Ja (fun(V:World) (h1:RowK false V (.slice a la ca) (Jh S)) (h2:RowK false V (.slice a2 l2 c2) (Jh (upR n [c])))=>Ja3 _ _ _ _ V h1 h2 (HS.o.sqs (by have:=HT.o.1;omega)) (YN HF.o) ⟨(by have:=Jz S;have:=HS.o.1;omega),(by have:=YI n c;omega)⟩);have H5:=Ja (fun(V:World) (hh:RdB V R s (I1:Int) E1 A1)=>Ys R s I1 E1 A1 45 V hh hI1 hs);rw[show(decide ((E1:Int)=0)&&JL (Jd s) (skB (Jd s) I1) 45)=false from by simp[hE1],Qr.o]at H5;have H6:=Ja (fun(V:World) (hh:RdB V R s (I5:Int) E1 A1)=>J0 R s I5 E1 A1 43 V hh Qh hs false (by simp[hE1]));rw[Qa.o]at H6;have H7:=Ja (fun(V:World) (hh:RdB V R s (I5:Int) E1 A1)=>J0 R s I5 E1 A1 45 V hh Qh hs false (by simp[hE1]));rw[Qa.o]at H7;have H8:=Ja (fun(V:World) (hh:RdB V R s (I5:Int) E1 A1)=>Ys R s I5 E1 A1 32 V hh Qh hs);rw[Qa.o]at H8;have Uq:decide (I5<s.size)=false:=decide_eq_false hlt5;go_wp2_with(first
          |(go_at_call 30;refine(Qm.o _ Ql.o HU.o).mono ?_;clear Qm;rintro e w2 ⟨u2,rfl,hu2,hq2⟩;rw[Jbk c (by rw[HS.o.1];omega)]at hu2;obtain⟨a3,l3,c3,rfl⟩:=hu2.form;have Qe:=Ja hu2;have Qb:=Ja (Qn.o.below hq2);have Qv:=Ja (Qq.o.trans (hq2.mono Qq.o.size));clear hu2 hq2)
          |(go_at_call 47;refine(H5.o _ Qb.o).mono ?_;clear H5;rintro e w3 ⟨rfl,hr3,hg3⟩;have Qd:=Ja (Qe.o.rd Qb.o hg3);have Qf:=Ja hr3;have Qx:=Ja (below_grown Qv.o hg3 (by rw[HR.o];exact Aa _));clear hr3 hg3)
          |(go_at_call 45;refine(H6.o _ Qf.o).mono ?_;clear H6;rintro e w4 ⟨rfl,hr4,hg4⟩;have Qg:=Ja (Qd.o.rd Qf.o hg4);have Qc:=Ja hr4;have Qu:=Ja (below_grown Qx.o hg4 (by rw[HR.o];exact Aa _));clear hr4 hg4)
          |(go_at_call 45;refine(H7.o _ Qc.o).mono ?_;clear H7;rintro e w5 ⟨rfl,hr5,hg5⟩;have Qi:=Ja (Qg.o.rd Qc.o hg5);have Qj:=Ja hr5;have Qy:=Ja (below_grown Qu.o hg5 (by rw[HR.o];exact Aa _));clear hr5 hg5)
          |(go_at_call 47;refine(H8.o _ Qj.o).mono ?_;clear H8;rintro e w6 ⟨rfl,hr6,hg6⟩;have Qo:=Ja (Qi.o.rd Qj.o hg6);have Qt:=Ja hr6;have Ug:=hr6.c1;have Uc:=hr6.c2;have Uf:=hr6.c3;have Ub:=Ja (below_grown Qy.o hg6 (by rw[HR.o];exact Aa _));clear hr6 hg6))
         go_quiet (fail)
         go_wp2_with fail
         exact bodyPost_ret (v:=.tuple #[.slice none 0 0,.int .i64 E1,.int .i64 A1]) (by simp[results,Tryz.results10,go_sem]) rfl ⟨_,_,_,rfl,by rw[Uh.o.1,Uh.o.2];exact X2.bad Qp.o,below_drewN Ub.o _⟩
    |true=>
     have Ui:=Ja (show Yv (S.set n (if true then cf S n-c else cf S n+c)) (m+1)from HS.o.next HF.o hn8 true);by_cases hE1:rdE (JR (Jd s) I) 0=0
     · obtain⟨_,⟨c0,n0⟩,k,hk⟩:=Jf3 (Jiq _ _) hE1;obtain⟨rfl,rfl,rfl⟩:=Uw.o c0 n0 k hk;rw[hE1,(X1 hk 0 0).2]at Qn;have Ua:=Ja (show m≤I∧I<I1∧I1≤I5∧I5≤s.size∧s.size-I<f+1 from⟨HT.o.1,(Jb9 (by rw[Jg];exact hI) hk).1,by rw[←Qr.o];exact Jbt _ _,Qh,HT.o.2.1⟩);have Ud:=Ja (Jet (f:=f) (b:=true) (S:=S) hk);rw[Qr.o,HT.o.2.2]at Ud;clear hE1 hk;cases hc43:JL (Jd s) I5 43 with
       |true=>
        have Qs:=Ja hc43;have Qk:=Ja (show JL (Jd s) I5 45=false from Bool.eq_false_iff.2 (fun h=>absurd (Jk8 hc43 h) (by decide)));have Uj:=Ja (show X3 (Jd s) f false (I5+1) (S.set n (if true then cf S n-c else cf S n+c))=Xx (Jd s)by rw[Ud.o,if_pos hc43]);have Qz:I5+1≤s.size:=by have:=JZ hc43;rw[Jg]at this;omega
        clear hc43;have Qm:=Ja (fun(V:World) (h1:RowK false V (.slice a la ca) (Jh S)) (h2:RowK false V (.slice a2 l2 c2) (Jh (upR n [c])))=>X7 _ _ _ _ V h1 h2 (HS.o.sqs (by have:=HT.o.1;omega)) (YN HF.o) ⟨(by have:=Jz S;have:=HS.o.1;omega),(by have:=YI n c;omega)⟩);have H5:=Ja (fun(V:World) (hh:RdB V R s (I1:Int) 0 0)=>Ys R s I1 0 0 45 V hh hI1 hs);rw[show(decide ((0:Int)=0)&&JL (Jd s) (skB (Jd s) I1) 45)=false from by rw[Qr.o];simp[Qk.o],Qr.o]at H5;have H6:=Ja (fun(V:World) (hh:RdB V R s (I5:Int) 0 0)=>J0 R s I5 0 0 43 V hh Qh hs true (by rw[Qa.o];simp[Qs.o]));rw[Qa.o]at H6;go_wp2_with(first
         |(go_at_call 31;refine(Qm.o _ Ql.o HU.o).mono ?_;clear Qm;rintro e w2 ⟨u2,rfl,hu2,hq2⟩;rw[Jbl c (by rw[HS.o.1];omega)]at hu2;obtain⟨a3,l3,c3,rfl⟩:=hu2.form;have Qe:=Ja hu2;have Qb:=Ja (Qn.o.below hq2);have Qv:=Ja (Qq.o.trans (hq2.mono Qq.o.size));clear hu2 hq2)
         |(go_at_call 47;refine(H5.o _ Qb.o).mono ?_;clear H5;rintro e w3 ⟨rfl,hr3,hg3⟩;have Qd:=Ja (Qe.o.rd Qb.o hg3);have Qf:=Ja hr3;have Qx:=Ja (below_grown Qv.o hg3 (by rw[HR.o];exact Aa _));clear hr3 hg3)
         |(go_at_call 45;refine(H6.o _ Qf.o).mono ?_;clear H6;rintro e w4 ⟨rfl,hr4,hg4⟩;have Qg:=Ja (Qd.o.rd Qf.o hg4);have Qc:=Ja hr4;have Qu:=Ja (below_grown Qx.o hg4 (by rw[HR.o];exact Aa _));clear hr4 hg4))
        go_roundw
        case rel=>exact⟨_,I5+1,f,m+1,_,_,_,_,rfl,rfl,Qz,Ja Qc.o,Ja Qg.o,Ja Ui.o,Ja ⟨by have:=Ua.o;omega,by have:=Ua.o;omega,Uj.o⟩,Ja Qu.o⟩
        case measure=>
         have e1:=XL (I:=I5+1) Qc.o;have e2:=XL HRr.o;rw[e1,e2];have:=Ua.o;omega
       |false=>
        have Qs:=Ja hc43;cases hc45:JL (Jd s) I5 45 with
        |true=>
         have Qk:=Ja hc45;have Uj:=Ja (show X3 (Jd s) f true (I5+1) (S.set n (if true then cf S n-c else cf S n+c))=Xx (Jd s)by rw[Ud.o,if_neg (show ¬JL (Jd s) I5 43=true by rw[hc43];decide),if_pos hc45]);have Qz:I5+1≤s.size:=by have:=JZ hc45;rw[Jg]at this;omega
         clear hc43 hc45;have Qm:=Ja (fun(V:World) (h1:RowK false V (.slice a la ca) (Jh S)) (h2:RowK false V (.slice a2 l2 c2) (Jh (upR n [c])))=>X7 _ _ _ _ V h1 h2 (HS.o.sqs (by have:=HT.o.1;omega)) (YN HF.o) ⟨(by have:=Jz S;have:=HS.o.1;omega),(by have:=YI n c;omega)⟩);have H5:=Ja (fun(V:World) (hh:RdB V R s (I1:Int) 0 0)=>Ys R s I1 0 0 45 V hh hI1 hs);rw[show(decide ((0:Int)=0)&&JL (Jd s) (skB (Jd s) I1) 45)=true from by rw[Qr.o];simp[Qk.o],Qr.o]at H5;have H6:=Ja (fun(V:World) (hh:RdB V R s (I5:Int) 0 0)=>J0 R s I5 0 0 43 V hh Qh hs false (by rw[Qa.o];simp[Qs.o]));rw[Qa.o]at H6;have H7:=Ja (fun(V:World) (hh:RdB V R s (I5:Int) 0 0)=>J0 R s I5 0 0 45 V hh Qh hs true (by rw[Qa.o];simp[Qk.o]));rw[Qa.o]at H7;go_wp2_with(first
          |(go_at_call 31;refine(Qm.o _ Ql.o HU.o).mono ?_;clear Qm;rintro e w2 ⟨u2,rfl,hu2,hq2⟩;rw[Jbl c (by rw[HS.o.1];omega)]at hu2;obtain⟨a3,l3,c3,rfl⟩:=hu2.form;have Qe:=Ja hu2;have Qb:=Ja (Qn.o.below hq2);have Qv:=Ja (Qq.o.trans (hq2.mono Qq.o.size));clear hu2 hq2)
          |(go_at_call 47;refine(H5.o _ Qb.o).mono ?_;clear H5;rintro e w3 ⟨rfl,hr3,hg3⟩;have Qd:=Ja (Qe.o.rd Qb.o hg3);have Qf:=Ja hr3;have Qx:=Ja (below_grown Qv.o hg3 (by rw[HR.o];exact Aa _));clear hr3 hg3)
          |(go_at_call 45;refine(H6.o _ Qf.o).mono ?_;clear H6;rintro e w4 ⟨rfl,hr4,hg4⟩;have Qg:=Ja (Qd.o.rd Qf.o hg4);have Qc:=Ja hr4;have Qu:=Ja (below_grown Qx.o hg4 (by rw[HR.o];exact Aa _));clear hr4 hg4)
          |(go_at_call 45;refine(H7.o _ Qc.o).mono ?_;clear H7;rintro e w5 ⟨rfl,hr5,hg5⟩;have Qi:=Ja (Qg.o.rd Qc.o hg5);have Qj:=Ja hr5;have Qy:=Ja (below_grown Qu.o hg5 (by rw[HR.o];exact Aa _));clear hr5 hg5))
         go_roundw
         case rel=>exact⟨_,I5+1,f,m+1,_,_,_,_,rfl,rfl,Qz,Ja Qj.o,Ja Qi.o,Ja Ui.o,Ja ⟨by have:=Ua.o;omega,by have:=Ua.o;omega,Uj.o⟩,Ja Qy.o⟩
         case measure=>
          have e1:=XL (I:=I5+1) Qj.o;have e2:=XL HRr.o;rw[e1,e2];have:=Ua.o;omega
        |false=>
         have Qk:=Ja hc45;by_cases hlt5:I5<s.size
         · have Qp:=Ja (show JT (Jd s)=([],2,I5)by rw[HP.o,Ud.o,if_neg (show ¬JL (Jd s) I5 43=true by rw[hc43];decide),if_neg (show ¬JL (Jd s) I5 45=true by rw[hc45];decide),if_neg (by rw[Jg];omega)];rfl);clear hc43 hc45;have Qm:=Ja (fun(V:World) (h1:RowK false V (.slice a la ca) (Jh S)) (h2:RowK false V (.slice a2 l2 c2) (Jh (upR n [c])))=>X7 _ _ _ _ V h1 h2 (HS.o.sqs (by have:=HT.o.1;omega)) (YN HF.o) ⟨(by have:=Jz S;have:=HS.o.1;omega),(by have:=YI n c;omega)⟩);have H5:=Ja (fun(V:World) (hh:RdB V R s (I1:Int) 0 0)=>Ys R s I1 0 0 45 V hh hI1 hs);rw[show(decide ((0:Int)=0)&&JL (Jd s) (skB (Jd s) I1) 45)=false from by rw[Qr.o];simp[Qk.o],Qr.o]at H5;have H6:=Ja (fun(V:World) (hh:RdB V R s (I5:Int) 0 0)=>J0 R s I5 0 0 43 V hh Qh hs false (by rw[Qa.o];simp[Qs.o]));rw[Qa.o]at H6;have H7:=Ja (fun(V:World) (hh:RdB V R s (I5:Int) 0 0)=>J0 R s I5 0 0 45 V hh Qh hs false (by rw[Qa.o];simp[Qk.o]));rw[Qa.o]at H7;have H8:=Ja (fun(V:World) (hh:RdB V R s (I5:Int) 0 0)=>Ys R s I5 0 0 32 V hh Qh hs);rw[Qa.o]at H8;have Ue:=Ja (fun(V:World) (hh:RdB V R s (I5:Int) 0 0)=>Jaj R s (I5:Int) 0 0 2 (I5:Int) V hh);have hlt5':(I5:Int)<(s.size:Int):=by omega
           go_wp2_with(first
            |(go_at_call 31;refine(Qm.o _ Ql.o HU.o).mono ?_;clear Qm;rintro e w2 ⟨u2,rfl,hu2,hq2⟩;rw[Jbl c (by rw[HS.o.1];omega)]at hu2;obtain⟨a3,l3,c3,rfl⟩:=hu2.form;have Qe:=Ja hu2;have Qb:=Ja (Qn.o.below hq2);have Qv:=Ja (Qq.o.trans (hq2.mono Qq.o.size));clear hu2 hq2)
            |(go_at_call 47;refine(H5.o _ Qb.o).mono ?_;clear H5;rintro e w3 ⟨rfl,hr3,hg3⟩;have Qd:=Ja (Qe.o.rd Qb.o hg3);have Qf:=Ja hr3;have Qx:=Ja (below_grown Qv.o hg3 (by rw[HR.o];exact Aa _));clear hr3 hg3)
            |(go_at_call 45;refine(H6.o _ Qf.o).mono ?_;clear H6;rintro e w4 ⟨rfl,hr4,hg4⟩;have Qg:=Ja (Qd.o.rd Qf.o hg4);have Qc:=Ja hr4;have Qu:=Ja (below_grown Qx.o hg4 (by rw[HR.o];exact Aa _));clear hr4 hg4)
            |(go_at_call 45;refine(H7.o _ Qc.o).mono ?_;clear H7;rintro e w5 ⟨rfl,hr5,hg5⟩;have Qi:=Ja (Qg.o.rd Qc.o hg5);have Qj:=Ja hr5;have Qy:=Ja (below_grown Qu.o hg5 (by rw[HR.o];exact Aa _));clear hr5 hg5)
            |(go_at_call 47;refine(H8.o _ Qj.o).mono ?_;clear H8;rintro e w6 ⟨rfl,hr6,hg6⟩;have Qo:=Ja (Qi.o.rd Qj.o hg6);have Qt:=Ja hr6;have Ug:=hr6.c1;have Uc:=hr6.c2;have Uf:=hr6.c3;have Ub:=Ja (below_grown Qy.o hg6 (by rw[HR.o];exact Aa _));clear hr6 hg6)
            |(go_at_call 48;refine(Ue.o _ Qt.o).mono ?_;clear Ue;rintro e w7 ⟨rfl,hr7,hg7⟩;clear Ug Uc Uf;have Un:w7.cell? ⟨R,2,none⟩=some (.int .i64 2):=hr7.c2;have Ul:w7.cell? ⟨R,3,none⟩=some (.int .i64 (I5:Int)):=hr7.c3;have Uk:=Ja (below_grown Ub.o hg7 (by rw[HR.o];exact Aa _));clear hr7 hg7))
           go_quiet (fail)
           go_wp2_with fail
           exact bodyPost_ret (v:=.tuple #[.slice none 0 0,.int .i64 2,.int .i64 (I5:Int)]) (by simp[results,Tryz.results10,go_sem]) rfl ⟨_,_,_,rfl,X2.bad (e:=2) Qp.o,below_drewN Uk.o _⟩
         · have Qp:=Ja (show JT (Jd s)=(Jh (S.set n (if true then cf S n-c else cf S n+c)),0,0)by rw[HP.o,Ud.o,if_neg (show ¬JL (Jd s) I5 43=true by rw[hc43];decide),if_neg (show ¬JL (Jd s) I5 45=true by rw[hc45];decide),if_pos (by rw[Jg];omega)];rfl);clear hc43 hc45;have Qm:=Ja (fun(V:World) (h1:RowK false V (.slice a la ca) (Jh S)) (h2:RowK false V (.slice a2 l2 c2) (Jh (upR n [c])))=>X7 _ _ _ _ V h1 h2 (HS.o.sqs (by have:=HT.o.1;omega)) (YN HF.o) ⟨(by have:=Jz S;have:=HS.o.1;omega),(by have:=YI n c;omega)⟩);have H5:=Ja (fun(V:World) (hh:RdB V R s (I1:Int) 0 0)=>Ys R s I1 0 0 45 V hh hI1 hs);rw[show(decide ((0:Int)=0)&&JL (Jd s) (skB (Jd s) I1) 45)=false from by rw[Qr.o];simp[Qk.o],Qr.o]at H5;have H6:=Ja (fun(V:World) (hh:RdB V R s (I5:Int) 0 0)=>J0 R s I5 0 0 43 V hh Qh hs false (by rw[Qa.o];simp[Qs.o]));rw[Qa.o]at H6;have H7:=Ja (fun(V:World) (hh:RdB V R s (I5:Int) 0 0)=>J0 R s I5 0 0 45 V hh Qh hs false (by rw[Qa.o];simp[Qk.o]));rw[Qa.o]at H7;have H8:=Ja (fun(V:World) (hh:RdB V R s (I5:Int) 0 0)=>Ys R s I5 0 0 32 V hh Qh hs);rw[Qa.o]at H8;have Uq:decide (I5<s.size)=false:=decide_eq_false hlt5;go_wp2_with(first
            |(go_at_call 31;refine(Qm.o _ Ql.o HU.o).mono ?_;clear Qm;rintro e w2 ⟨u2,rfl,hu2,hq2⟩;rw[Jbl c (by rw[HS.o.1];omega)]at hu2;obtain⟨a3,l3,c3,rfl⟩:=hu2.form;have Qe:=Ja hu2;have Qb:=Ja (Qn.o.below hq2);have Qv:=Ja (Qq.o.trans (hq2.mono Qq.o.size));clear hu2 hq2)
            |(go_at_call 47;refine(H5.o _ Qb.o).mono ?_;clear H5;rintro e w3 ⟨rfl,hr3,hg3⟩;have Qd:=Ja (Qe.o.rd Qb.o hg3);have Qf:=Ja hr3;have Qx:=Ja (below_grown Qv.o hg3 (by rw[HR.o];exact Aa _));clear hr3 hg3)
            |(go_at_call 45;refine(H6.o _ Qf.o).mono ?_;clear H6;rintro e w4 ⟨rfl,hr4,hg4⟩;have Qg:=Ja (Qd.o.rd Qf.o hg4);have Qc:=Ja hr4;have Qu:=Ja (below_grown Qx.o hg4 (by rw[HR.o];exact Aa _));clear hr4 hg4)
            |(go_at_call 45;refine(H7.o _ Qc.o).mono ?_;clear H7;rintro e w5 ⟨rfl,hr5,hg5⟩;have Qi:=Ja (Qg.o.rd Qc.o hg5);have Qj:=Ja hr5;have Qy:=Ja (below_grown Qu.o hg5 (by rw[HR.o];exact Aa _));clear hr5 hg5)
            |(go_at_call 47;refine(H8.o _ Qj.o).mono ?_;clear H8;rintro e w6 ⟨rfl,hr6,hg6⟩;have Qo:=Ja (Qi.o.rd Qj.o hg6);have Qt:=Ja hr6;have Ug:=hr6.c1;have Uc:=hr6.c2;have Uf:=hr6.c3;have Ub:=Ja (below_grown Qy.o hg6 (by rw[HR.o];exact Aa _));clear hr6 hg6))
           exact bodyPost_ret (v:=.tuple #[.slice a3 l3 c3,.int .i64 0,.int .i64 0]) (by simp[results,Tryz.results10,go_sem]) rfl ⟨_,_,_,rfl,X2.ok Qp.o Ui.o (by have:=Ua.o;omega) Qo.o,Ub.o⟩
     · obtain⟨E1,hE⟩:=ex (rdE (JR (Jd s) I) 0);obtain⟨A1,hA⟩:=ex (rdA (JR (Jd s) I) 0 0);have Qw:∃e p:Nat,JR (Jd s) I=.bad e p:=by
        cases hk:JR (Jd s) I with
        |bad e p=>exact⟨e,p,rfl⟩
        |ok a k=>exact absurd (X1 hk 0 0).1 hE1
       obtain⟨e0,p0,Qw⟩:=Qw;have Uh:=Ja (show E1=(e0:Int)∧A1=(p0:Int)by rw[←hE,←hA,Qw];exact⟨rfl,rfl⟩);have Qp:=Ja (show JT (Jd s)=([],e0,p0)by rw[HP.o,←HT.o.2.2,Jcs Qw];rfl);rw[hE,hA]at Qn;rw[hE]at hE1;have Uo:(E1==0)=false:=by rw[beq_eq_false_iff_ne];exact hE1
       clear hE hA Qw;by_cases hlt5:I5<s.size
       · skip
         have Qm:=Ja (fun(V:World) (h1:RowK false V (.slice a la ca) (Jh S)) (h2:RowK false V (.slice a2 l2 c2) (Jh (upR n [c])))=>X7 _ _ _ _ V h1 h2 (HS.o.sqs (by have:=HT.o.1;omega)) (YN HF.o) ⟨(by have:=Jz S;have:=HS.o.1;omega),(by have:=YI n c;omega)⟩);have H5:=Ja (fun(V:World) (hh:RdB V R s (I1:Int) E1 A1)=>Ys R s I1 E1 A1 45 V hh hI1 hs);rw[show(decide ((E1:Int)=0)&&JL (Jd s) (skB (Jd s) I1) 45)=false from by simp[hE1],Qr.o]at H5;have H6:=Ja (fun(V:World) (hh:RdB V R s (I5:Int) E1 A1)=>J0 R s I5 E1 A1 43 V hh Qh hs false (by simp[hE1]));rw[Qa.o]at H6;have H7:=Ja (fun(V:World) (hh:RdB V R s (I5:Int) E1 A1)=>J0 R s I5 E1 A1 45 V hh Qh hs false (by simp[hE1]));rw[Qa.o]at H7;have H8:=Ja (fun(V:World) (hh:RdB V R s (I5:Int) E1 A1)=>Ys R s I5 E1 A1 32 V hh Qh hs);rw[Qa.o]at H8;have Ue:=Ja (fun(V:World) (hh:RdB V R s (I5:Int) E1 A1)=>Jaj R s (I5:Int) E1 A1 2 (I5:Int) V hh);have hlt5':(I5:Int)<(s.size:Int):=by omega
         go_wp2_with(first
          |(go_at_call 31;refine(Qm.o _ Ql.o HU.o).mono ?_;clear Qm;rintro e w2 ⟨u2,rfl,hu2,hq2⟩;rw[Jbl c (by rw[HS.o.1];omega)]at hu2;obtain⟨a3,l3,c3,rfl⟩:=hu2.form;have Qe:=Ja hu2;have Qb:=Ja (Qn.o.below hq2);have Qv:=Ja (Qq.o.trans (hq2.mono Qq.o.size));clear hu2 hq2)
          |(go_at_call 47;refine(H5.o _ Qb.o).mono ?_;clear H5;rintro e w3 ⟨rfl,hr3,hg3⟩;have Qd:=Ja (Qe.o.rd Qb.o hg3);have Qf:=Ja hr3;have Qx:=Ja (below_grown Qv.o hg3 (by rw[HR.o];exact Aa _));clear hr3 hg3)
          |(go_at_call 45;refine(H6.o _ Qf.o).mono ?_;clear H6;rintro e w4 ⟨rfl,hr4,hg4⟩;have Qg:=Ja (Qd.o.rd Qf.o hg4);have Qc:=Ja hr4;have Qu:=Ja (below_grown Qx.o hg4 (by rw[HR.o];exact Aa _));clear hr4 hg4)
          |(go_at_call 45;refine(H7.o _ Qc.o).mono ?_;clear H7;rintro e w5 ⟨rfl,hr5,hg5⟩;have Qi:=Ja (Qg.o.rd Qc.o hg5);have Qj:=Ja hr5;have Qy:=Ja (below_grown Qu.o hg5 (by rw[HR.o];exact Aa _));clear hr5 hg5)
          |(go_at_call 47;refine(H8.o _ Qj.o).mono ?_;clear H8;rintro e w6 ⟨rfl,hr6,hg6⟩;have Qo:=Ja (Qi.o.rd Qj.o hg6);have Qt:=Ja hr6;have Ug:=hr6.c1;have Uc:=hr6.c2;have Uf:=hr6.c3;have Ub:=Ja (below_grown Qy.o hg6 (by rw[HR.o];exact Aa _));clear hr6 hg6)
          |(go_at_call 48;refine(Ue.o _ Qt.o).mono ?_;clear Ue;rintro e w7 ⟨rfl,hr7,hg7⟩;clear Ug Uc Uf;have Un:=hr7.c2;have Ul:=hr7.c3;rw[if_neg hE1]at Un;rw[if_neg hE1]at Ul;have Uk:=Ja (below_grown Ub.o hg7 (by rw[HR.o];exact Aa _));clear hr7 hg7))
         go_quiet (fail)
         go_wp2_with fail
         exact bodyPost_ret (v:=.tuple #[.slice none 0 0,.int .i64 E1,.int .i64 A1]) (by simp[results,Tryz.results10,go_sem]) rfl ⟨_,_,_,rfl,by rw[Uh.o.1,Uh.o.2];exact X2.bad Qp.o,below_drewN Uk.o _⟩
       · skip
         have Qm:=Ja (fun(V:World) (h1:RowK false V (.slice a la ca) (Jh S)) (h2:RowK false V (.slice a2 l2 c2) (Jh (upR n [c])))=>X7 _ _ _ _ V h1 h2 (HS.o.sqs (by have:=HT.o.1;omega)) (YN HF.o) ⟨(by have:=Jz S;have:=HS.o.1;omega),(by have:=YI n c;omega)⟩);have H5:=Ja (fun(V:World) (hh:RdB V R s (I1:Int) E1 A1)=>Ys R s I1 E1 A1 45 V hh hI1 hs);rw[show(decide ((E1:Int)=0)&&JL (Jd s) (skB (Jd s) I1) 45)=false from by simp[hE1],Qr.o]at H5;have H6:=Ja (fun(V:World) (hh:RdB V R s (I5:Int) E1 A1)=>J0 R s I5 E1 A1 43 V hh Qh hs false (by simp[hE1]));rw[Qa.o]at H6;have H7:=Ja (fun(V:World) (hh:RdB V R s (I5:Int) E1 A1)=>J0 R s I5 E1 A1 45 V hh Qh hs false (by simp[hE1]));rw[Qa.o]at H7;have H8:=Ja (fun(V:World) (hh:RdB V R s (I5:Int) E1 A1)=>Ys R s I5 E1 A1 32 V hh Qh hs);rw[Qa.o]at H8;have Uq:decide (I5<s.size)=false:=decide_eq_false hlt5;go_wp2_with(first
          |(go_at_call 31;refine(Qm.o _ Ql.o HU.o).mono ?_;clear Qm;rintro e w2 ⟨u2,rfl,hu2,hq2⟩;rw[Jbl c (by rw[HS.o.1];omega)]at hu2;obtain⟨a3,l3,c3,rfl⟩:=hu2.form;have Qe:=Ja hu2;have Qb:=Ja (Qn.o.below hq2);have Qv:=Ja (Qq.o.trans (hq2.mono Qq.o.size));clear hu2 hq2)
          |(go_at_call 47;refine(H5.o _ Qb.o).mono ?_;clear H5;rintro e w3 ⟨rfl,hr3,hg3⟩;have Qd:=Ja (Qe.o.rd Qb.o hg3);have Qf:=Ja hr3;have Qx:=Ja (below_grown Qv.o hg3 (by rw[HR.o];exact Aa _));clear hr3 hg3)
          |(go_at_call 45;refine(H6.o _ Qf.o).mono ?_;clear H6;rintro e w4 ⟨rfl,hr4,hg4⟩;have Qg:=Ja (Qd.o.rd Qf.o hg4);have Qc:=Ja hr4;have Qu:=Ja (below_grown Qx.o hg4 (by rw[HR.o];exact Aa _));clear hr4 hg4)
          |(go_at_call 45;refine(H7.o _ Qc.o).mono ?_;clear H7;rintro e w5 ⟨rfl,hr5,hg5⟩;have Qi:=Ja (Qg.o.rd Qc.o hg5);have Qj:=Ja hr5;have Qy:=Ja (below_grown Qu.o hg5 (by rw[HR.o];exact Aa _));clear hr5 hg5)
          |(go_at_call 47;refine(H8.o _ Qj.o).mono ?_;clear H8;rintro e w6 ⟨rfl,hr6,hg6⟩;have Qo:=Ja (Qi.o.rd Qj.o hg6);have Qt:=Ja hr6;have Ug:=hr6.c1;have Uc:=hr6.c2;have Uf:=hr6.c3;have Ub:=Ja (below_grown Qy.o hg6 (by rw[HR.o];exact Aa _));clear hr6 hg6))
         go_quiet (fail)
         go_wp2_with fail
         exact bodyPost_ret (v:=.tuple #[.slice none 0 0,.int .i64 E1,.int .i64 A1]) (by simp[results,Tryz.results10,go_sem]) rfl ⟨_,_,_,rfl,by rw[Uh.o.1,Uh.o.2];exact X2.bad Qp.o,below_drewN Ub.o _⟩
def RcB(W:World)(R:Nat)(s:ByteArray)(I:Int):Prop:=W.heap[R]?=some (.cells #[.string s,.int .i64 I] 124 (0,0))
section
variable {W W':World} {R:Nat} {s:ByteArray} {I:Int}
theorem RcB.lt(h:RcB W R s I):R<W.heap.size:=(Ac.1 h).1
theorem RcB.c0(h:RcB W R s I):W.cell? ⟨R,0,none⟩=some (.string s):=by simp[World.cell?,show W.heap[R]?=_ from h]
theorem RcB.c1(h:RcB W R s I):W.cell? ⟨R,1,none⟩=some (.int .i64 I):=by simp[World.cell?,show W.heap[R]?=_ from h]
theorem RcB.f(h:RcB W R s I)(o:Nat):W.frozen? ⟨R,o,none⟩=false:=by simp[World.frozen?,show W.heap[R]?=_ from h]
theorem RcB.below(h:RcB W R s I)(hb:Below W.heap.size W W'):RcB W' R s I:=(hb.block R h.lt).trans h
theorem RcB.set1(h:RcB W R s I)(x:Int):RcB (W.setCell ⟨R,1,none⟩ (.int .i64 x)) R s x:=by
 have:=JQ (o:=1) h (.int .i64 x);exact this
theorem RcB.drewN(h:RcB W R s I)(n:Nat):RcB (W.drewN n) R s I:=h
theorem Jct(h:RcB W R s I){cs:Array Value}{t:TypeId}{m:Nat × Nat}{b:Nat}(hb:W.heap[b]?=some (.cells cs t m))(ht:t≠124):b≠R:=by
 intro e;subst e;have:=hb.symm.trans h;simp only[Ak,Obj.cells.injEq]at this;exact ht this.2.1
theorem Jmr(h:RcB W R s I)(hg:W.grownBy W' (some R)):∀k v ds,Row k W v ds→Row k W' v ds:=by
 intro k v ds hr;obtain⟨a,cap,e,_⟩:=id hr;subst e;refine hr.grown hg (fun p ep hl=>?_);obtain⟨b,off,ea,cs,m,ht⟩:=hr.typ hl;rw[ea]at ep;cases ep;exact Jct h ht (by cases k<;>(show _≠_;decide))
end
theorem Ja4{W:World}{R:Nat}{s:ByteArray}{I:Nat}(h:RcB W R s I):rdI W R=I:=by
 unfold rdI;rw[h.c1];simp[intOf]
theorem Jhe(c:UInt8)(w:World):Calls Tryz.prog 181 #[.int .u8 (c.toNat:Int)] w fun r w'=>r=.returned (.bool (isD c))∧w'=w:=by
 by_cases h1:48≤c.toNat
 · have g1:decide ((48:Int)≤(c.toNat:Int))=true:=decide_eq_true (by omega);by_cases h2:c.toNat≤57
   · have HD:=Ja (show isD c=true by simp[isD,h1,h2]);go_enter Tryz.func181,Tryz.ntmps181
     go_wp2;go_ret;exact⟨by rw[HD.o];simp;omega,rfl⟩
   · have HD:=Ja (show isD c=false by simp[isD,h2]);go_enter Tryz.func181,Tryz.ntmps181
     go_wp2;go_ret;exact⟨by rw[HD.o];simp;omega,rfl⟩
 · have HD:=Ja (show isD c=false by simp[isD,h1]);go_enter Tryz.func181,Tryz.ntmps181
   go_wp2;go_ret;exact⟨by rw[HD.o];rfl,rfl⟩
theorem Jf5(R:Nat)(s:ByteArray)(I:Nat)(w:World)(h:RcB w R s I)(hI:I≤s.size)(hs:s.size≤300):
 Calls Tryz.prog 122 #[.pointer (some ⟨R,0,none⟩)] w fun r w'=>r=.returned (.bool (decide (skB (Jd s) I=s.size)))∧RcB w' R s (skB (Jd s) I:Nat)∧w.grownBy w' (some R):=by
 have HH:=Ja h;clear h;go_enter Tryz.func122,Tryz.ntmps122
 go_wp2;go_loopw [] (fun wr=>∃j:Nat,I≤j∧j≤s.size∧Hid (RcB wr R s j∧w.grownBy wr (some R)∧∀k (hk:k<s.size),I≤k→k<j→s[k]=32)) (fun wr=>s.size-rdI wr R)
 case atStart=>exact⟨I,Aa _,hI,Ja ⟨HH.o,Yr _ _,fun k _ h1 h2=>by omega⟩⟩
 case round=>
  obtain⟨j,h1,h2,HR⟩:=hrel;have c0:=HR.o.1.c0;have c1:=HR.o.1.c1;have f1:=HR.o.1.f 1;by_cases hlt:j<s.size
  · have hlt2:(j:Int)<(s.size:Int):=by omega
    have hj0:(0:Int)≤(j:Int):=by omega
    by_cases h32:s[j]=32
    · have hb:((s[j].toNat:Int)==32)=true:=by rw[h32];rfl
      have Qe:=Ja h32;clear h32;go_wp2_with fail
      go_quiet (fail)
      go_wp2;go_roundw
      case rel=>
       refine⟨j+1,by omega,by omega,Ja ⟨?_,Jf (Jf HR.o.2.1 (JB _ _ _)) (JE _ R 1 _),fun k hk g1 g2=>?_⟩⟩
       · have:=(HR.o.1.drewN nq).set1 ((j:Int)+1);rw[show((j:Int)+1)=((j+1:Nat):Int)from by omega]at this;exact this
       · by_cases e:k=j
         · subst e;exact Qe.o
         · exact HR.o.2.2 k hk g1 (by omega)
      case measure=>
       have e1:=Ja4 HR.o.1;have e2:rdI ((wr.drewN nq).setCell ⟨R,1,none⟩ (.int .i64 ((j:Int)+1))) R=j+1:=by
        have:=(HR.o.1.drewN nq).set1 ((j:Int)+1);rw[show((j:Int)+1)=((j+1:Nat):Int)from by omega]at this ⊢;exact Ja4 this
       show s.size-rdI ((wr.drewN nq).setCell ⟨R,1,none⟩ (.int .i64 ((j:Int)+1))) R<s.size-rdI wr R;rw[e1,e2];omega
    · have hb:((s[j].toNat:Int)==32)=false:=Jf2 (d:=32) h32;have Qa:=Ja (show skB (Jd s) I=j from Jdg h1 h2 (fun k hk g1 g2=>by rw[HR.o.2.2 k hk g1 g2];rfl) (fun _=>beq_eq_false_iff_ne.2 h32));have Qf:¬j=s.size:=by omega
      have Qd:((j:Int)==(s.size:Int))=false:=by rw[beq_eq_false_iff_ne];omega
      clear h32;go_wp2_with fail
      go_quiet (fail)
      go_wp2;have HG:=Ja (show w.grownBy (wr.drewN nq) (some R)from Jf HR.o.2.1 (JB _ _ _));have HD:=Ja (HR.o.1.drewN nq);go_quiet (fail)
      go_wp2;go_ret;exact⟨by rw[Qa.o];simp[Qf],by rw[Qa.o];exact HD.o.drewN _,Jf HG.o (JB _ _ _)⟩
  · have Qb:j=s.size:=by omega
    have hd:decide (j<s.size)=false:=decide_eq_false (by omega);have Qa:=Ja (show skB (Jd s) I=j from Jdg h1 h2 (fun k hk g1 g2=>by rw[HR.o.2.2 k hk g1 g2];rfl) (fun h=>by omega));have Qd:((j:Int)==(s.size:Int))=true:=by rw[Qb];exact beq_self_eq_true _
    have Qc:=Ja Qb;clear hlt Qb;go_wp2_with fail
    go_quiet (fail)
    go_wp2;have HG:=Ja (show w.grownBy (wr.drewN nq) (some R)from Jf HR.o.2.1 (JB _ _ _));have HD:=Ja (HR.o.1.drewN nq);go_quiet (fail)
    go_wp2;go_ret;exact⟨by rw[Qa.o];simp[Qc.o],by rw[Qa.o];exact HD.o.drewN _,Jf HG.o (JB _ _ _)⟩
end Go.Proofs.YtcahejkcdcjjgaaGreatDoor
namespace Go.Proofs.YtcahejkcdcjjgaaGreatDoor
open Go.RowKit Go.Shelf
attribute [local go_sem] Oper.semAt_some
def XZ(e p:Int):Value:=.iface 77 (.agg #[.int .i64 e,.int .i64 p])
theorem Jeu(v:Value)(e p:Int)(w:World):Calls Tryz.prog 123 #[v,.int .i64 e,.int .i64 p] w fun r w'=>r=.panicked [{ v:=XZ e p,recovered:=false }]∧w'=w:=by
 go_enter Tryz.func123,Tryz.ntmps123
 go_wp2;exact⟨rfl,rfl,rfl⟩
def FdS(w V:World)(R:Nat)(s:ByteArray)(I:Int):Prop:=RcB V R s I∧w.grownBy V (some R)
theorem FdS.below{w V V':World}{R:Nat}{s:ByteArray}{I:Int}(h:FdS w V R s I)(hb:Below V.heap.size V V'):FdS w V' R s I:=⟨h.1.below hb,Jf h.2 (JU hb _)⟩
theorem Y0(R:Nat)(s:ByteArray)(I:Nat)(c:UInt8)(w:World)(h:RcB w R s I)(hI:I≤s.size)(hs:s.size≤300)(b:Bool)(hb:b=JL (Jd s) (skB (Jd s) I) c):
 Calls Tryz.prog 120 #[.pointer (some ⟨R,0,none⟩),.int .u8 (c.toNat:Int)] w fun r w'=>r=.returned (.bool b)∧RcB w' R s ((skB (Jd s) I+(if b then 1 else 0):Nat):Int)∧w.grownBy w' (some R):=by
 have Qg:Tryz.prog.follows .mixedOrders=true:=by kernel_rfl
 have Qb:=Ja (fun(V:World) (hh:RcB V R s I)=>Jf5 R s I V hh hI hs);obtain⟨j,hj⟩:=ex (skB (Jd s) I);have hjs:j≤s.size:=by rw[←hj,←Jg];exact Yj (by rw[Jg];exact hI)
 rw[hj]at Qb hb ⊢;have HH:=Ja h;clear h hj;by_cases hje:j=s.size
 · obtain rfl:b=false:=by rw[hb];exact Jk5 (by omega)
   rw[show decide (j=s.size)=true from decide_eq_true hje]at Qb;clear hb hje;go_enter Tryz.func120,Tryz.ntmps120
   go_wp2_with fail
   have Qd:FdS w w.drew R s I:=⟨HH.o,rfl,rfl,rfl,Aa _,fun _ _ _=>rfl⟩;refine Jr Qg [[],[0],[1,1],[2],[3,2],[4,2],[5,2],[2],[7,2],[8,2],[9,2],[6,10,2],[2],[11,12,2],[2,13]] (by kernel_rfl) (by decide)
    (fun D act V=>∃(tl tm tn tp tq ta tb tc td te tf tg ti tj tk:Value),act={ tmps:=#[.pointer (some ⟨R,0,none⟩),.int .u8 ↑c.toNat,undef,undef,.bool false,tl,tm,tn,tp,tq,ta,tb,tc,td,te,tf,tg,ti,tj,tk,undef,undef,undef,undef,undef,undef,undef],defers:=[] }∧Hid ((D 0=true→tl=.pointer (some ⟨R,0,none⟩))∧(D 1=true→tm=.bool true)∧(D 2=true→tn=.bool true)∧(D 3=true→True)∧(D 4=true→True)∧(D 5=true→True)∧(D 6=true→True)∧(D 7=true→True)∧(D 8=true→True)∧(D 9=true→True)∧(D 10=true→True)∧(D 11=true→True)∧(D 12=true→True)∧(D 13=true→True)∧(D 14=true→tk=.bool true))∧Hid ((D 1=false→FdS w V R s I)∧(D 1=true→FdS w V R s (j:Int))))
    (E8 ⟨_,_,_,_,_,_,_,rfl,Ja (by simp),Ja ⟨fun _=>Qd,by simp⟩⟩) ?step1 ?fin1
   case step1=>
    rintro D act V i ds hcl hi hds hDi ⟨tl,tm,tn,tp,tq,ta,tb,tc,td,te,tf,tg,ti,tj,tk,rfl,GG,SS0⟩;have Qj:i<15:=(Ad.1 hi).1;obtain rfl|rfl|rfl|rfl|rfl|rfl|rfl|rfl|rfl|rfl|rfl|rfl|rfl|rfl|rfl:=Lt15 i (by omega)
    all_goals
     simp only[Aj,Ah,Ak]at hi;subst hi
    · clear hds;refine Jb rfl rfl fun K hK=>?_;go_simp;obtain⟨_,G1⟩:=GG.o;exact hK _ _ (E8 ⟨_,_,_,_,_,_,_,rfl,Ja ⟨fun _=>rfl,G1⟩,SS0⟩)
    · have Qa:=SS0.o.1 hDi;obtain rfl:=GG.o.1 (hds 0 (by simp));clear hds;have HC:=Ja (Qb.o V Qa.1);refine Jb rfl rfl fun K hK=>?_;go_simp;go_wp2_with(go_at_call 122;refine HC.o.mono ?_;rintro e w5 ⟨rfl,hr5,hg5⟩)
      obtain⟨_,_,G2⟩:=GG.o;exact E8 ⟨_,_,_,_,_,_,_,rfl,Ja ⟨fun _=>rfl,fun _=>rfl,G2⟩,Ja ⟨fun h=>by simp at h,fun _=>⟨hr5,Jf Qa.2 hg5⟩⟩⟩
    · obtain rfl:=GG.o.2.1 (hds 1 (by simp));clear hds;refine Jb rfl rfl fun K hK=>?_;go_simp;obtain⟨G0,_,_,G3⟩:=GG.o;exact hK _ _ (E8 ⟨_,_,_,_,_,_,_,rfl,Ja ⟨G0,fun _=>rfl,fun _=>rfl,G3⟩,SS0⟩)
    · obtain rfl:=GG.o.2.2.1 (hds 2 (by simp));clear hds;refine Yb rfl rfl ?_;obtain⟨G0,G1,_,_,G4⟩:=GG.o;exact E8 ⟨_,_,_,_,_,_,_,rfl,Ja ⟨G0,G1,fun _=>rfl,fun _=>trivial,G4⟩,SS0⟩
    · obtain rfl:=GG.o.2.2.1 (hds 2 (by simp));clear hds;refine Yb rfl rfl ?_;obtain⟨G0,G1,_,G3,_,G5⟩:=GG.o;exact E8 ⟨_,_,_,_,_,_,_,rfl,Ja ⟨G0,G1,fun _=>rfl,G3,fun _=>trivial,G5⟩,SS0⟩
    · obtain rfl:=GG.o.2.2.1 (hds 2 (by simp));clear hds;refine Yb rfl rfl ?_;obtain⟨G0,G1,_,G3,G4,_,G6⟩:=GG.o;exact E8 ⟨_,_,_,_,_,_,_,rfl,Ja ⟨G0,G1,fun _=>rfl,G3,G4,fun _=>trivial,G6⟩,SS0⟩
    · obtain rfl:=GG.o.2.2.1 (hds 2 (by simp));clear hds;refine Yb rfl rfl ?_;obtain⟨G0,G1,_,G3,G4,G5,_,G7⟩:=GG.o;exact E8 ⟨_,_,_,_,_,_,_,rfl,Ja ⟨G0,G1,fun _=>rfl,G3,G4,G5,fun _=>trivial,G7⟩,SS0⟩
    · obtain rfl:=GG.o.2.2.1 (hds 2 (by simp));clear hds;refine Yb rfl rfl ?_;obtain⟨G0,G1,_,G3,G4,G5,G6,_,G8⟩:=GG.o;exact E8 ⟨_,_,_,_,_,_,_,rfl,Ja ⟨G0,G1,fun _=>rfl,G3,G4,G5,G6,fun _=>trivial,G8⟩,SS0⟩
    · obtain rfl:=GG.o.2.2.1 (hds 2 (by simp));clear hds;refine Yb rfl rfl ?_;obtain⟨G0,G1,_,G3,G4,G5,G6,G7,_,G9⟩:=GG.o;exact E8 ⟨_,_,_,_,_,_,_,rfl,Ja ⟨G0,G1,fun _=>rfl,G3,G4,G5,G6,G7,fun _=>trivial,G9⟩,SS0⟩
    · obtain rfl:=GG.o.2.2.1 (hds 2 (by simp));clear hds;refine Yb rfl rfl ?_;obtain⟨G0,G1,_,G3,G4,G5,G6,G7,G8,_,G10⟩:=GG.o;exact E8 ⟨_,_,_,_,_,_,_,rfl,Ja ⟨G0,G1,fun _=>rfl,G3,G4,G5,G6,G7,G8,fun _=>trivial,G10⟩,SS0⟩
    · obtain rfl:=GG.o.2.2.1 (hds 2 (by simp));clear hds;refine Yb rfl rfl ?_;obtain⟨G0,G1,_,G3,G4,G5,G6,G7,G8,G9,_,G11⟩:=GG.o;exact E8 ⟨_,_,_,_,_,_,_,rfl,Ja ⟨G0,G1,fun _=>rfl,G3,G4,G5,G6,G7,G8,G9,fun _=>trivial,G11⟩,SS0⟩
    · obtain rfl:=GG.o.2.2.1 (hds 2 (by simp));clear hds;refine Yb rfl rfl ?_;obtain⟨G0,G1,_,G3,G4,G5,G6,G7,G8,G9,G10,_,G12⟩:=GG.o;exact E8 ⟨_,_,_,_,_,_,_,rfl,Ja ⟨G0,G1,fun _=>rfl,G3,G4,G5,G6,G7,G8,G9,G10,fun _=>trivial,G12⟩,SS0⟩
    · obtain rfl:=GG.o.2.2.1 (hds 2 (by simp));clear hds;refine Yb rfl rfl ?_;obtain⟨G0,G1,_,G3,G4,G5,G6,G7,G8,G9,G10,G11,_,G13⟩:=GG.o;exact E8 ⟨_,_,_,_,_,_,_,rfl,Ja ⟨G0,G1,fun _=>rfl,G3,G4,G5,G6,G7,G8,G9,G10,G11,fun _=>trivial,G13⟩,SS0⟩
    · obtain rfl:=GG.o.2.2.1 (hds 2 (by simp));clear hds;refine Yb rfl rfl ?_;obtain⟨G0,G1,_,G3,G4,G5,G6,G7,G8,G9,G10,G11,G12,_,G14⟩:=GG.o;exact E8 ⟨_,_,_,_,_,_,_,rfl,Ja ⟨G0,G1,fun _=>rfl,G3,G4,G5,G6,G7,G8,G9,G10,G11,G12,fun _=>trivial,G14⟩,SS0⟩
    · obtain rfl:=GG.o.2.2.1 (hds 2 (by simp));clear hds;refine Jb rfl rfl fun K hK=>?_;go_simp;obtain⟨G0,G1,_,G3,G4,G5,G6,G7,G8,G9,G10,G11,G12,G13,_⟩:=GG.o;exact hK _ _ (E8 ⟨_,_,_,_,_,_,_,rfl,Ja ⟨G0,G1,fun _=>rfl,G3,G4,G5,G6,G7,G8,G9,G10,G11,G12,G13,fun _=>rfl⟩,SS0⟩)
   case fin1=>
    rintro D act V hDD ⟨tl,tm,tn,tp,tq,ta,tb,tc,td,te,tf,tg,ti,tj,tk,rfl,GG,SS0⟩;have HF:=Ja (SS0.o.2 (hDD 1 (by decide)));obtain rfl:=GG.o.2.2.2.2.2.2.2.2.2.2.2.2.2.2 (hDD 14 (by decide));clear GG SS0 hDD;go_wp2_with fail
    go_ret;exact⟨rfl,HF.o.1,HF.o.2⟩
 · have Qi:j<s.size:=by omega
   have hlt2:(j:Int)<(s.size:Int):=by omega
   rw[show decide (j=s.size)=false from decide_eq_false hje]at Qb;rw[Jhc Qi]at hb;obtain⟨nb,hnb⟩:=ex (((s[j].toNat:Int) != (c.toNat:Int)));have Qf:=Ja (show nb=!b by
    rw[←hnb,hb];by_cases e:s[j]=c
    · rw[e];simp
    · rw[show(s[j]==c)=false from beq_eq_false_iff_ne.2 e,bne,Jf2 e])
   have Qh:=Ja hnb;clear hb hje hnb;go_enter Tryz.func120,Tryz.ntmps120
   go_wp2_with fail
   have Qd:FdS w w.drew R s I:=⟨HH.o,rfl,rfl,rfl,Aa _,fun _ _ _=>rfl⟩;refine Jr Qg [[],[0],[1,1],[2],[3,2],[4,2],[5,2],[2],[7,2],[8,2],[9,2],[6,10,2],[2],[11,12,2],[2,13]] (by kernel_rfl) (by decide)
    (fun D act V=>∃(tl tm tn tp tq ta tb tc td te tf tg ti tj tk:Value),act={ tmps:=#[.pointer (some ⟨R,0,none⟩),.int .u8 ↑c.toNat,undef,undef,.bool false,tl,tm,tn,tp,tq,ta,tb,tc,td,te,tf,tg,ti,tj,tk,undef,undef,undef,undef,undef,undef,undef],defers:=[] }∧Hid ((D 0=true→tl=.pointer (some ⟨R,0,none⟩))∧(D 1=true→tm=.bool false)∧(D 2=true→tn=.bool false)∧(D 3=true→tp=.pointer (some ⟨R,0,none⟩))∧(D 4=true→tq=.pointer (some ⟨R,0,none⟩))∧(D 5=true→ta=.pointer (some ⟨R,0,none⟩))∧(D 6=true→tb=.string s)∧(D 7=true→tc=.pointer (some ⟨R,0,none⟩))∧(D 8=true→td=.pointer (some ⟨R,0,none⟩))∧(D 9=true→te=.pointer (some ⟨R,1,none⟩))∧(D 10=true→tf=.int .i64 (j:Int))∧(D 11=true→tg=.int .u8 (s[j].toNat:Int))∧(D 12=true→ti=.int .u8 (c.toNat:Int))∧(D 13=true→tj=.bool nb)∧(D 14=true→tk=.bool nb))∧Hid ((D 1=false→FdS w V R s I)∧(D 1=true→FdS w V R s (j:Int))))
    (E8 ⟨_,_,_,_,_,_,_,rfl,Ja (by simp),Ja ⟨fun _=>Qd,by simp⟩⟩) ?step2 ?fin2
   case step2=>
    rintro D act V i ds hcl hi hds hDi ⟨tl,tm,tn,tp,tq,ta,tb,tc,td,te,tf,tg,ti,tj,tk,rfl,GG,SS0⟩;have Qj:i<15:=(Ad.1 hi).1;obtain rfl|rfl|rfl|rfl|rfl|rfl|rfl|rfl|rfl|rfl|rfl|rfl|rfl|rfl|rfl:=Lt15 i (by omega)
    all_goals
     simp only[Aj,Ah,Ak]at hi;subst hi
    · clear hds;refine Jb rfl rfl fun K hK=>?_;go_simp;obtain⟨_,G1⟩:=GG.o;exact hK _ _ (E8 ⟨_,_,_,_,_,_,_,rfl,Ja ⟨fun _=>rfl,G1⟩,SS0⟩)
    · have Qa:=SS0.o.1 hDi;obtain rfl:=GG.o.1 (hds 0 (by simp));clear hds;have HC:=Ja (Qb.o V Qa.1);refine Jb rfl rfl fun K hK=>?_;go_simp;go_wp2_with(go_at_call 122;refine HC.o.mono ?_;rintro e w5 ⟨rfl,hr5,hg5⟩)
      obtain⟨_,_,G2⟩:=GG.o;exact E8 ⟨_,_,_,_,_,_,_,rfl,Ja ⟨fun _=>rfl,fun _=>rfl,G2⟩,Ja ⟨fun h=>by simp at h,fun _=>⟨hr5,Jf Qa.2 hg5⟩⟩⟩
    · obtain rfl:=GG.o.2.1 (hds 1 (by simp));clear hds;refine Jb rfl rfl fun K hK=>?_;go_simp;obtain⟨G0,_,_,G3⟩:=GG.o;exact hK _ _ (E8 ⟨_,_,_,_,_,_,_,rfl,Ja ⟨G0,fun _=>rfl,fun _=>rfl,G3⟩,SS0⟩)
    · obtain rfl:=GG.o.2.2.1 (hds 2 (by simp));clear hds;refine J2 rfl rfl fun K hK=>?_;go_simp;obtain⟨G0,G1,_,_,G4⟩:=GG.o;exact hK _ _ (E8 ⟨_,_,_,_,_,_,_,rfl,Ja ⟨G0,G1,fun _=>rfl,fun _=>rfl,G4⟩,SS0⟩)
    · obtain rfl:=GG.o.2.2.2.1 (hds 3 (by simp));obtain rfl:=GG.o.2.2.1 (hds 2 (by simp));clear hds;refine J2 rfl rfl fun K hK=>?_;go_simp;obtain⟨G0,G1,_,_,_,G5⟩:=GG.o;exact hK _ _ (E8 ⟨_,_,_,_,_,_,_,rfl,Ja ⟨G0,G1,fun _=>rfl,fun _=>rfl,fun _=>rfl,G5⟩,SS0⟩)
    · obtain rfl:=GG.o.2.2.2.2.1 (hds 4 (by simp));obtain rfl:=GG.o.2.2.1 (hds 2 (by simp));clear hds;refine J2 rfl rfl fun K hK=>?_;go_simp;obtain⟨G0,G1,_,G3,_,_,G6⟩:=GG.o;exact hK _ _ (E8 ⟨_,_,_,_,_,_,_,rfl,Ja ⟨G0,G1,fun _=>rfl,G3,fun _=>rfl,fun _=>rfl,G6⟩,SS0⟩)
    · obtain rfl:=GG.o.2.2.2.2.2.1 (hds 5 (by simp));obtain rfl:=GG.o.2.2.1 (hds 2 (by simp));have Qe:D 1=true:=hcl 2 _ rfl (hds 2 (by simp)) 1 (by simp);have c0:=(SS0.o.2 Qe).1.c0;clear hds;refine J2 rfl rfl fun K hK=>?_;go_simp;obtain⟨G0,G1,_,G3,G4,_,_,G7⟩:=GG.o;exact hK _ _ (E8 ⟨_,_,_,_,_,_,_,rfl,Ja ⟨G0,G1,fun _=>rfl,G3,G4,fun _=>rfl,fun _=>rfl,G7⟩,SS0⟩)
    · obtain rfl:=GG.o.2.2.1 (hds 2 (by simp));clear hds;refine J2 rfl rfl fun K hK=>?_;go_simp;obtain⟨G0,G1,_,G3,G4,G5,G6,_,G8⟩:=GG.o;exact hK _ _ (E8 ⟨_,_,_,_,_,_,_,rfl,Ja ⟨G0,G1,fun _=>rfl,G3,G4,G5,G6,fun _=>rfl,G8⟩,SS0⟩)
    · obtain rfl:=GG.o.2.2.2.2.2.2.2.1 (hds 7 (by simp));obtain rfl:=GG.o.2.2.1 (hds 2 (by simp));clear hds;refine J2 rfl rfl fun K hK=>?_;go_simp;obtain⟨G0,G1,_,G3,G4,G5,G6,_,_,G9⟩:=GG.o;exact hK _ _ (E8 ⟨_,_,_,_,_,_,_,rfl,Ja ⟨G0,G1,fun _=>rfl,G3,G4,G5,G6,fun _=>rfl,fun _=>rfl,G9⟩,SS0⟩)
    · obtain rfl:=GG.o.2.2.2.2.2.2.2.2.1 (hds 8 (by simp));obtain rfl:=GG.o.2.2.1 (hds 2 (by simp));clear hds;refine J2 rfl rfl fun K hK=>?_;go_simp;obtain⟨G0,G1,_,G3,G4,G5,G6,G7,_,_,G10⟩:=GG.o;exact hK _ _ (E8 ⟨_,_,_,_,_,_,_,rfl,Ja ⟨G0,G1,fun _=>rfl,G3,G4,G5,G6,G7,fun _=>rfl,fun _=>rfl,G10⟩,SS0⟩)
    · obtain rfl:=GG.o.2.2.2.2.2.2.2.2.2.1 (hds 9 (by simp));obtain rfl:=GG.o.2.2.1 (hds 2 (by simp));have Qe:D 1=true:=hcl 2 _ rfl (hds 2 (by simp)) 1 (by simp);have c1:=(SS0.o.2 Qe).1.c1;clear hds;refine J2 rfl rfl fun K hK=>?_;go_simp;obtain⟨G0,G1,_,G3,G4,G5,G6,G7,G8,_,_,G11⟩:=GG.o;exact hK _ _ (E8 ⟨_,_,_,_,_,_,_,rfl,Ja ⟨G0,G1,fun _=>rfl,G3,G4,G5,G6,G7,G8,fun _=>rfl,fun _=>rfl,G11⟩,SS0⟩)
    · obtain rfl:=GG.o.2.2.2.2.2.2.1 (hds 6 (by simp));obtain rfl:=GG.o.2.2.2.2.2.2.2.2.2.2.1 (hds 10 (by simp));obtain rfl:=GG.o.2.2.1 (hds 2 (by simp));clear hds;refine J2 rfl rfl fun K hK=>?_;go_simp;obtain⟨G0,G1,_,G3,G4,G5,_,G7,G8,G9,_,_,G12⟩:=GG.o;exact hK _ _ (E8 ⟨_,_,_,_,_,_,_,rfl,Ja ⟨G0,G1,fun _=>rfl,G3,G4,G5,fun _=>rfl,G7,G8,G9,fun _=>rfl,fun _=>rfl,G12⟩,SS0⟩)
    · obtain rfl:=GG.o.2.2.1 (hds 2 (by simp));clear hds;refine J2 rfl rfl fun K hK=>?_;go_simp;obtain⟨G0,G1,_,G3,G4,G5,G6,G7,G8,G9,G10,G11,_,G13⟩:=GG.o;exact hK _ _ (E8 ⟨_,_,_,_,_,_,_,rfl,Ja ⟨G0,G1,fun _=>rfl,G3,G4,G5,G6,G7,G8,G9,G10,G11,fun _=>rfl,G13⟩,SS0⟩)
    · obtain rfl:=GG.o.2.2.2.2.2.2.2.2.2.2.2.1 (hds 11 (by simp));obtain rfl:=GG.o.2.2.2.2.2.2.2.2.2.2.2.2.1 (hds 12 (by simp));obtain rfl:=GG.o.2.2.1 (hds 2 (by simp));have hne:=Qh.o;clear hds;refine J2 rfl rfl fun K hK=>?_;go_simp;obtain⟨G0,G1,_,G3,G4,G5,G6,G7,G8,G9,G10,_,_,_,G14⟩:=GG.o;exact hK _ _ (E8 ⟨_,_,_,_,_,_,_,rfl,Ja ⟨G0,G1,fun _=>rfl,G3,G4,G5,G6,G7,G8,G9,G10,fun _=>rfl,fun _=>rfl,fun _=>rfl,G14⟩,SS0⟩)
    · obtain rfl:=GG.o.2.2.1 (hds 2 (by simp));obtain rfl:=GG.o.2.2.2.2.2.2.2.2.2.2.2.2.2.1 (hds 13 (by simp));clear hds;refine Jb rfl rfl fun K hK=>?_;go_simp;obtain⟨G0,G1,_,G3,G4,G5,G6,G7,G8,G9,G10,G11,G12,_,_⟩:=GG.o;exact hK _ _ (E8 ⟨_,_,_,_,_,_,_,rfl,Ja ⟨G0,G1,fun _=>rfl,G3,G4,G5,G6,G7,G8,G9,G10,G11,G12,fun _=>rfl,fun _=>rfl⟩,SS0⟩)
   case fin2=>
    rintro D act V hDD ⟨tl,tm,tn,tp,tq,ta,tb,tc,td,te,tf,tg,ti,tj,tk,rfl,GG,SS0⟩;have HF:=Ja (SS0.o.2 (hDD 1 (by decide)));obtain rfl:=GG.o.2.2.2.2.2.2.2.2.2.2.2.2.2.2 (hDD 14 (by decide));clear GG SS0 hDD;have c1:=HF.o.1.c1;have f1:=HF.o.1.f 1;cases b with
    |true=>
     obtain rfl:nb=false:=Qf.o;go_wp2_with fail
     go_ret;exact⟨rfl,HF.o.1.set1 _,Jf HF.o.2 (JE _ R 1 _)⟩
    |false=>
     obtain rfl:nb=true:=Qf.o;go_wp2_with fail
     go_ret;exact⟨rfl,HF.o.1,HF.o.2⟩
