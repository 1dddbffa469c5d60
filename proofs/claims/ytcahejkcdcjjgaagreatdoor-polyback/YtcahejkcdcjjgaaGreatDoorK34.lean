import Derived.Test.YtcahejkcdcjjgaaGreatDoorK33
import Derived.WalkLawsBesides
import Derived.Test.YtcahejkcdcjjgaaGreatDoorK09
import Derived.Test.YtcahejkcdcjjgaaGreatDoorK20
import Derived.Test.YtcahejkcdcjjgaaGreatDoorK24
set_option maxRecDepth 100000
set_option maxHeartbeats 16000000
namespace Go.Proofs.YtcahejkcdcjjgaaGreatDoor
open Go.RowKit Go.Shelf
attribute [local go_sem] Oper.semAt_some
theorem SmQ.add2 {k m:Nat} {p q:Rat} (hp:SmQ k p) (hq:SmQ m q):SmQ (k+m+1) (p+q):=by
 rw [←Jkc];refine SmQ.divInt ?_ ((hp.1.mul hq.2).add (by have:=hq.1.mul hp.2;rwa [Nat.add_comm] at this)) ((hp.2.mul hq.2).mono (by omega));exact Int.mul_ne_zero (by have:=p.den_nz;omega) (by have:=q.den_nz;omega)
theorem Jcw.sm {c:Rat} (h:Jcw c):SmQ 1 c:=by
 obtain ⟨x,y,rfl,h1,h2,h3⟩:=h;exact SmQ.divInt (by omega) (by unfold Sm B64;omega) (by unfold Sm B64;omega)
theorem SmQ.zero (k:Nat) (hk:1≤k):SmQ k 0:=⟨Sm.zero k,Sm.one k hk⟩
theorem Jia (n:Nat) (c:Rat) (i:Nat):cf (upR n [c]) i=if i=n then c else 0:=by
 rw [Jhh];by_cases h:n≤i
 · rw [if_pos h];by_cases h2:i=n
   · rw [if_pos h2,h2,Nat.sub_self,Jat]
   · rw [if_neg h2,XG (by simp;omega)]
 · rw [if_neg h,if_neg (by omega)]
theorem YA {n:Nat} {c:Rat} (h:Jcw c):Sqs (Jr (upR n [c])):=Sqs.of fun i=>by
 rw [YV,Jia];split
 · exact Sq.of h.sm (by omega)
 · exact Sq.of (SmQ.zero 1 (by omega)) (by omega)
theorem YB (n:Nat) (c:Rat):(Jr (upR n [c])).length≤n+1:=Nat.le_trans (JE _) (by simp [upR])
theorem Jal {S:List Rat} {n:Nat} (c:Rat) (h:n<S.length):Jns (Jr S) (Jr (upR n [c]))=Jr (S.set n (cf S n+c)):=by
 unfold Jns;refine Yy fun i=>?_;rw [Jb1,YV,YV,Jia,Jau _ _ _ _ h];split
 · rename_i h;rw [h]
 · grind
theorem Jam {S:List Rat} {n:Nat} (c:Rat) (h:n<S.length):Jqb (Jr S) (Jr (upR n [c]))=Jr (S.set n (cf S n - c)):=by
 unfold Jqb;refine Yy fun i=>?_;rw [Jb1,Jb2,YV,YV,Jia,Jau _ _ _ _ h];split
 · rename_i h;rw [h];grind
 · grind
def Ym (S:List Rat) (m:Nat):Prop:=S.length=9∧∀ i,SmQ (2*m+1) (cf S i)
theorem Ym.start:Ym (List.replicate 9 0) 0:=⟨rfl,fun i=>by rw [Yw];exact SmQ.zero 1 (by omega)⟩
theorem Ym.sqs {S:List Rat} {m:Nat} (h:Ym S m) (hm:m≤300):Sqs (Jr S):=Sqs.of fun i=>by rw [YV];exact Sq.of (h.2 i) (by omega)
theorem Ym.next {S:List Rat} {m n:Nat} {c:Rat} (h:Ym S m) (hc:Jcw c) (hn:n≤8) (b:Bool):Ym (S.set n (if b then cf S n - c else cf S n+c)) (m+1):=by
 refine ⟨by rw [List.length_set];exact h.1,fun i=>?_⟩;rw [Jau _ _ _ _ (by rw [h.1];omega)];split
 · cases b
   · exact ((h.2 n).add2 hc.sm).mono (by omega)
   · rw [if_pos rfl,Rat.sub_eq_add_neg];exact ((h.2 n).add2 hc.sm.neg).mono (by omega)
 · exact (h.2 i).mono (by omega)
theorem Jjl {l:List UInt8} {j:Nat} {c d:UInt8} (h1:JK l j c=true) (h2:JK l j d=true):c=d:=by
 unfold JK at h1 h2;rw [beq_iff_eq] at h1 h2;exact Option.some.inj (h1.symm.trans h2)
theorem Xy {l:List UInt8} {f:Nat} {b:Bool} {I:Nat} {S:List Rat} {e p:Nat} (h:JN l I=.bad e p):Xu l (f+1) b I S=.bad e p:=by
 rw [Xu,h]
theorem Jba {l:List UInt8} {f:Nat} {b:Bool} {I:Nat} {S:List Rat} {c:Rat} {n k:Nat} (h:JN l I=.ok (c,n) k):Xu l (f+1) b I S =
 if JK l (skB l k) 43 then Xu l f false (skB l k+1) (S.set n (if b then cf S n - c else cf S n+c)) else if JK l (skB l k) 45 then Xu l f true (skB l k+1) (S.set n (if b then cf S n - c else cf S n+c)) else if skB l k=l.length then .ok (S.set n (if b then cf S n - c else cf S n+c)) (skB l k) else .bad 2 (skB l k):=by
 rw [Xu,h]
theorem Jcf (l:List UInt8) (i:Nat):(JN l i).pos:=by
 intro e p h;rw [Xe] at h;split at h
 · rename_i e' p' h1;cases h;exact Jg6 l i _ _ h1
 · split at h
   · split at h
     · rename_i e' p' h1;cases h;exact Jpi _ _ _ _ h1
     · cases h
   · cases h
def YU (l:List UInt8):Rd (List Rat):=if JK l (skB l 0) 45 then Xu l (l.length+1) true (skB l 0+1) (List.replicate 9 0) else Xu l (l.length+1) false (skB l 0) (List.replicate 9 0)
def Jps (r:Rd (List Rat)):List Rat × Nat × Nat:=match r with | .bad e p=>([],e,p) | .ok s _=>(Jr s,0,0)
theorem Jan {l:List UInt8} (h:¬ 300<l.length):Js l=Jps (YU l):=by
 unfold Js YU Jps;rw [if_neg h];split <;> (rename_i heq;rw [heq])
def Xk (l:List UInt8) (w':World) (u:Value) (e p:Int):Prop:=e=((Js l).2.1:Int)∧p=((Js l).2.2:Int)∧RowK false w' u (Js l).1∧(Js l).1.length≤9∧∀ i,SmQ 601 (cf (Js l).1 i)
theorem Xk.bad {l:List UInt8} {w':World} {e p:Nat} (h:Js l=([],e,p)):Xk l w' (.slice none 0 0) e p:=by
 rw [Xk,h];exact ⟨rfl,rfl,RowK.nil _ _,by simp,fun i=>by rw [Jas];exact SmQ.zero _ (by omega)⟩
theorem Xk.ok {l:List UInt8} {w':World} {u:Value} {S:List Rat} {m:Nat} (h:Js l=(Jr S,0,0)) (hs:Ym S m) (hm:m≤300) (hu:RowK false w' u (Jr S)):Xk l w' u 0 0:=by
 rw [Xk,h];exact ⟨rfl,rfl,hu,Nat.le_trans (JE _) (by rw [hs.1];exact Nat.le_refl _),fun i=>by rw [YV];exact (hs.2 i).mono (by omega)⟩
theorem below_drewN {w W:World} (h:Below w.heap.size w W) (k:Nat):Below w.heap.size w (W.drewN k):=h.grown (Jv W k none) h.size (fun k e=>by cases e)
theorem RdB.new (w:World) (s:ByteArray):RdB (w.alloc (.cells #[.string s,.int .i64 0,.int .i64 0,.int .i64 0] 82)) w.heap.size s 0 0 0:=World.alloc_heap_new w _
theorem Jjm (s:ByteArray) (hs0:s.size≤140737488351232) (w:World) :
 Calls Tryz.prog 10 #[.string s] w fun r w'=>∃ (u:Value) (e p:Int),r=.returned (.tuple #[u,.int .i64 e,.int .i64 p])∧Xk (Jc s) w' u e p∧Below w.heap.size w w':=by
 by_cases hlong:300<s.size
 · have hlong':(300:Int)<(s.size:Int):=by omega
   have HP:=Ja (show Js (Jc s)=([],1,0) by unfold Js;rw [if_pos (by rw [Jg];exact hlong)]);go_enter Tryz.func10,Tryz.ntmps10
   go_wp2;exact bodyPost_ret (v:=.tuple #[.slice none 0 0,.int .i64 1,.int .i64 0]) (by simp [results,Tryz.results10,go_sem]) rfl ⟨_,_,_,rfl,Xk.bad HP.out,Below.refl _ _⟩
 · have hlong':¬ (300:Int)<(s.size:Int):=by omega
   have hs:s.size≤300:=by omega
   have HP:=Ja (Jan (l:=Jc s) (by rw [Jg];exact hlong));clear hlong hs0;have hB0:Below w.heap.size w (w.alloc (.cells #[.string s,.int .i64 0,.int .i64 0,.int .i64 0] 82)):=(Below.refl _ w).alloc (Nat.le_refl _) _;have hR0:=RdB.new w s;obtain ⟨W0,hW0⟩:∃ W0,w.alloc (.cells #[.string s,.int .i64 0,.int .i64 0,.int .i64 0] 82)=W0:=⟨_,rfl⟩;rw [hW0] at hB0 hR0;obtain ⟨R,hR⟩:∃ R,w.heap.size=R:=⟨_,rfl⟩;rw [hR] at hR0;have HR:=Ja hR;have HW0:=Ja hW0;have HB0:=Ja hB0;have HR0:=Ja hR0;obtain ⟨b0,hb0⟩:∃ b,b=(decide ((0:Int)=0) && JK (Jc s) (skB (Jc s) 0) 45):=⟨_,rfl⟩;have HHS:=Ja (JX R s 0 0 0 45 W0 hR0 (by omega) hs b0 hb0);have HB:=Ja (show JK (Jc s) (skB (Jc s) 0) 45=b0 by rw [hb0];simp);clear hB0 hR0 hb0 hR hW0;go_enter Tryz.func10,Tryz.ntmps10
   go_upto_region 4 with fail
   rw [HW0.out,HR.out];go_wp2_with (first
    | (go_at_call 45;refine HHS.out.mono ?_;clear HHS;rintro e w1 ⟨rfl,hr1,hg1⟩;have HR1:=Ja hr1;have HG1:=Ja (below_grown HB0.out hg1 (by rw [HR.out];exact Nat.le_refl _));clear hr1 hg1))
   go_loopw [6,7,8] (fun mv pv _ wr=>∃ (b:Bool) (I f m:Nat) (S:List Rat) (a:Option Addr) (la ca:Nat),mv=.bool b∧pv=.slice a la ca∧I≤s.size∧Hid (RdB wr R s (I:Int) 0 0)∧Hid (RowK false wr (.slice a la ca) (Jr S))∧Hid (Ym S m)∧Hid (m≤I∧s.size - I<f∧Xu (Jc s) f b I S=YU (Jc s))∧Hid (Below w.heap.size w wr)) (fun _ _ _ wr=>s.size - rdI wr R)
   case atStart=>
    have hsk:skB (Jc s) 0≤s.size:=by rw [←Jg];exact J8 (by omega)
    refine ⟨b0,skB (Jc s) 0+(if b0 then 1 else 0),s.size+1,0,List.replicate 9 0,none,0,0,rfl,rfl,?_,Ja HR1.out,Ja ?_,Ja Ym.start,Ja ⟨by omega,by omega,?_⟩,Ja HG1.out⟩
    · cases hb:b0
      · simpa using hsk
      · have h1:=HB.out;rw [hb] at h1;have h2:=JQ h1;rw [Jg] at h2;simp;omega
    · rw [Jb0 (fun i=>Yw 9 i)];exact RowK.nil _ _
    · unfold YU;rw [HB.out,Jg];cases b0 <;> rfl
   case round=>
    clear HR1 HG1 HB HB0 HR0 HW0;obtain ⟨b,I,f,m,S,a,la,ca,rfl,rfl,hI,HRr,HRow,HS,HT,HG⟩:=hrel;have HTM:=Ja (Jpr R s I 0 0 wr HRr.out hI hs);go_upto_if 19 with (first
     | (go_at_call 46;refine HTM.out.mono ?_;clear HTM;rintro e w1 ⟨u,c,n,I1,rfl,hu,hn8,hF,hI1,hr1,hok,hg1⟩;have HRow1:=Ja (HRow.out.rd HRr.out hg1);have HRd1:=Ja hr1;have HU:=Ja hu;have HF:=Ja hF;have HOK:=Ja (hok rfl);have HG1:=Ja (below_grown HG.out hg1 (by rw [HR.out];exact Nat.le_refl _));obtain ⟨a2,l2,c2,rfl⟩:=hu.form;clear hr1 hu hF hok hg1))
    obtain ⟨I5,hI5⟩:∃ x,skB (Jc s) I1=x:=⟨_,rfl⟩;have HI5:=Ja hI5;have hI5s:I5≤s.size:=by rw [←hI5,←Jg];exact J8 (by rw [Jg];exact hI1)
    have HI55:=Ja (show skB (Jc s) I5=I5 by rw [←hI5];exact XR _ _);clear hI5;obtain ⟨f,rfl⟩:∃ g,f=g+1:=⟨f - 1,by have:=HT.out.2.1;omega⟩;cases b with
    | false=>
     have HS1:=Ja (show Ym (S.set n (if false then cf S n - c else cf S n+c)) (m+1) from HS.out.next HF.out hn8 false);by_cases hE1:rdE (JN (Jc s) I) 0=0
     · obtain ⟨_,⟨c0,n0⟩,k,hk⟩:=Jel (Jcf _ _) hE1;obtain ⟨rfl,rfl,rfl⟩:=HOK.out c0 n0 k hk;rw [hE1,(XE hk 0 0).2] at HRd1;have HLT:=Ja (show m≤I∧I<I1∧I1≤I5∧I5≤s.size∧s.size - I<f+1 from ⟨HT.out.1,(Xv (by rw [Jg];exact hI) hk).1,by rw [←HI5.out];exact X6 _ _,hI5s,HT.out.2.1⟩);have HSE:=Ja (Jba (f:=f) (b:=false) (S:=S) hk);rw [HI5.out,HT.out.2.2] at HSE;clear hE1 hk;cases hc43:JK (Jc s) I5 43 with
       | true=>
        have HC43:=Ja hc43;have HC45:=Ja (show JK (Jc s) I5 45=false from Bool.eq_false_iff.2 (fun h=>absurd (Jjl hc43 h) (by decide)));have HTT:=Ja (show Xu (Jc s) f false (I5+1) (S.set n (if false then cf S n - c else cf S n+c))=YU (Jc s) by rw [HSE.out,if_pos hc43]);have hI51:I5+1≤s.size:=by have:=JQ hc43;rw [Jg] at this;omega
        clear hc43;have HSM:=Ja (fun (V:World) (h1:RowK false V (.slice a la ca) (Jr S)) (h2:RowK false V (.slice a2 l2 c2) (Jr (upR n [c])))=>Jcu _ _ _ _ V h1 h2 (HS.out.sqs (by have:=HT.out.1;omega)) (YA HF.out) ⟨(by have:=JE S;have:=HS.out.1;omega),(by have:=YB n c;omega)⟩);have H5:=Ja (fun (V:World) (hh:RdB V R s (I1:Int) 0 0)=>Yj R s I1 0 0 45 V hh hI1 hs);rw [show (decide ((0:Int)=0) && JK (Jc s) (skB (Jc s) I1) 45)=false from by rw [HI5.out];simp [HC45.out],HI5.out] at H5;have H6:=Ja (fun (V:World) (hh:RdB V R s (I5:Int) 0 0)=>JX R s I5 0 0 43 V hh hI5s hs true (by rw [HI55.out];simp [HC43.out]));rw [HI55.out] at H6;go_wp2_with (first
         | (go_at_call 30;refine (HSM.out _ HRow1.out HU.out).mono ?_;clear HSM;rintro e w2 ⟨u2,rfl,hu2,hq2⟩;rw [Jal c (by rw [HS.out.1];omega)] at hu2;obtain ⟨a3,l3,c3,rfl⟩:=hu2.form;have HRow2:=Ja hu2;have HRd2:=Ja (HRd1.out.below hq2);have HG2:=Ja (HG1.out.trans (hq2.mono HG1.out.size));clear hu2 hq2)
         | (go_at_call 47;refine (H5.out _ HRd2.out).mono ?_;clear H5;rintro e w3 ⟨rfl,hr3,hg3⟩;have HRow3:=Ja (HRow2.out.rd HRd2.out hg3);have HRd3:=Ja hr3;have HG3:=Ja (below_grown HG2.out hg3 (by rw [HR.out];exact Nat.le_refl _));clear hr3 hg3)
         | (go_at_call 45;refine (H6.out _ HRd3.out).mono ?_;clear H6;rintro e w4 ⟨rfl,hr4,hg4⟩;have HRow4:=Ja (HRow3.out.rd HRd3.out hg4);have HRd4:=Ja hr4;have HG4:=Ja (below_grown HG3.out hg4 (by rw [HR.out];exact Nat.le_refl _));clear hr4 hg4))
        go_roundw
        case rel=>exact ⟨_,I5+1,f,m+1,_,_,_,_,rfl,rfl,hI51,Ja HRd4.out,Ja HRow4.out,Ja HS1.out,Ja ⟨by have:=HLT.out;omega,by have:=HLT.out;omega,HTT.out⟩,Ja HG4.out⟩
        case measure=>
         have e1:=Xo (I:=I5+1) HRd4.out;have e2:=Xo HRr.out;rw [e1,e2];have:=HLT.out;omega
       | false=>
        have HC43:=Ja hc43;cases hc45:JK (Jc s) I5 45 with
        | true=>
         have HC45:=Ja hc45;have HTT:=Ja (show Xu (Jc s) f true (I5+1) (S.set n (if false then cf S n - c else cf S n+c))=YU (Jc s) by rw [HSE.out,if_neg (show ¬ JK (Jc s) I5 43=true by rw [hc43];decide),if_pos hc45]);have hI51:I5+1≤s.size:=by have:=JQ hc45;rw [Jg] at this;omega
         clear hc43 hc45;have HSM:=Ja (fun (V:World) (h1:RowK false V (.slice a la ca) (Jr S)) (h2:RowK false V (.slice a2 l2 c2) (Jr (upR n [c])))=>Jcu _ _ _ _ V h1 h2 (HS.out.sqs (by have:=HT.out.1;omega)) (YA HF.out) ⟨(by have:=JE S;have:=HS.out.1;omega),(by have:=YB n c;omega)⟩);have H5:=Ja (fun (V:World) (hh:RdB V R s (I1:Int) 0 0)=>Yj R s I1 0 0 45 V hh hI1 hs);rw [show (decide ((0:Int)=0) && JK (Jc s) (skB (Jc s) I1) 45)=true from by rw [HI5.out];simp [HC45.out],HI5.out] at H5;have H6:=Ja (fun (V:World) (hh:RdB V R s (I5:Int) 0 0)=>JX R s I5 0 0 43 V hh hI5s hs false (by rw [HI55.out];simp [HC43.out]));rw [HI55.out] at H6;have H7:=Ja (fun (V:World) (hh:RdB V R s (I5:Int) 0 0)=>JX R s I5 0 0 45 V hh hI5s hs true (by rw [HI55.out];simp [HC45.out]));rw [HI55.out] at H7;go_wp2_with (first
          | (go_at_call 30;refine (HSM.out _ HRow1.out HU.out).mono ?_;clear HSM;rintro e w2 ⟨u2,rfl,hu2,hq2⟩;rw [Jal c (by rw [HS.out.1];omega)] at hu2;obtain ⟨a3,l3,c3,rfl⟩:=hu2.form;have HRow2:=Ja hu2;have HRd2:=Ja (HRd1.out.below hq2);have HG2:=Ja (HG1.out.trans (hq2.mono HG1.out.size));clear hu2 hq2)
          | (go_at_call 47;refine (H5.out _ HRd2.out).mono ?_;clear H5;rintro e w3 ⟨rfl,hr3,hg3⟩;have HRow3:=Ja (HRow2.out.rd HRd2.out hg3);have HRd3:=Ja hr3;have HG3:=Ja (below_grown HG2.out hg3 (by rw [HR.out];exact Nat.le_refl _));clear hr3 hg3)
          | (go_at_call 45;refine (H6.out _ HRd3.out).mono ?_;clear H6;rintro e w4 ⟨rfl,hr4,hg4⟩;have HRow4:=Ja (HRow3.out.rd HRd3.out hg4);have HRd4:=Ja hr4;have HG4:=Ja (below_grown HG3.out hg4 (by rw [HR.out];exact Nat.le_refl _));clear hr4 hg4)
          | (go_at_call 45;refine (H7.out _ HRd4.out).mono ?_;clear H7;rintro e w5 ⟨rfl,hr5,hg5⟩;have HRow5:=Ja (HRow4.out.rd HRd4.out hg5);have HRd5:=Ja hr5;have HG5:=Ja (below_grown HG4.out hg5 (by rw [HR.out];exact Nat.le_refl _));clear hr5 hg5))
         go_roundw
         case rel=>exact ⟨_,I5+1,f,m+1,_,_,_,_,rfl,rfl,hI51,Ja HRd5.out,Ja HRow5.out,Ja HS1.out,Ja ⟨by have:=HLT.out;omega,by have:=HLT.out;omega,HTT.out⟩,Ja HG5.out⟩
         case measure=>
          have e1:=Xo (I:=I5+1) HRd5.out;have e2:=Xo HRr.out;rw [e1,e2];have:=HLT.out;omega
        | false=>
         have HC45:=Ja hc45;by_cases hlt5:I5<s.size
         · have HFIN:=Ja (show Js (Jc s)=([],2,I5) by rw [HP.out,HSE.out,if_neg (show ¬ JK (Jc s) I5 43=true by rw [hc43];decide),if_neg (show ¬ JK (Jc s) I5 45=true by rw [hc45];decide),if_neg (by rw [Jg];omega)];rfl);clear hc43 hc45;have HSM:=Ja (fun (V:World) (h1:RowK false V (.slice a la ca) (Jr S)) (h2:RowK false V (.slice a2 l2 c2) (Jr (upR n [c])))=>Jcu _ _ _ _ V h1 h2 (HS.out.sqs (by have:=HT.out.1;omega)) (YA HF.out) ⟨(by have:=JE S;have:=HS.out.1;omega),(by have:=YB n c;omega)⟩);have H5:=Ja (fun (V:World) (hh:RdB V R s (I1:Int) 0 0)=>Yj R s I1 0 0 45 V hh hI1 hs);rw [show (decide ((0:Int)=0) && JK (Jc s) (skB (Jc s) I1) 45)=false from by rw [HI5.out];simp [HC45.out],HI5.out] at H5;have H6:=Ja (fun (V:World) (hh:RdB V R s (I5:Int) 0 0)=>JX R s I5 0 0 43 V hh hI5s hs false (by rw [HI55.out];simp [HC43.out]));rw [HI55.out] at H6;have H7:=Ja (fun (V:World) (hh:RdB V R s (I5:Int) 0 0)=>JX R s I5 0 0 45 V hh hI5s hs false (by rw [HI55.out];simp [HC45.out]));rw [HI55.out] at H7;have H8:=Ja (fun (V:World) (hh:RdB V R s (I5:Int) 0 0)=>Yj R s I5 0 0 32 V hh hI5s hs);rw [HI55.out] at H8;have HFF:=Ja (fun (V:World) (hh:RdB V R s (I5:Int) 0 0)=>XQ R s (I5:Int) 0 0 2 (I5:Int) V hh);have hlt5':(I5:Int)<(s.size:Int):=by omega
           go_wp2_with (first
            | (go_at_call 30;refine (HSM.out _ HRow1.out HU.out).mono ?_;clear HSM;rintro e w2 ⟨u2,rfl,hu2,hq2⟩;rw [Jal c (by rw [HS.out.1];omega)] at hu2;obtain ⟨a3,l3,c3,rfl⟩:=hu2.form;have HRow2:=Ja hu2;have HRd2:=Ja (HRd1.out.below hq2);have HG2:=Ja (HG1.out.trans (hq2.mono HG1.out.size));clear hu2 hq2)
            | (go_at_call 47;refine (H5.out _ HRd2.out).mono ?_;clear H5;rintro e w3 ⟨rfl,hr3,hg3⟩;have HRow3:=Ja (HRow2.out.rd HRd2.out hg3);have HRd3:=Ja hr3;have HG3:=Ja (below_grown HG2.out hg3 (by rw [HR.out];exact Nat.le_refl _));clear hr3 hg3)
            | (go_at_call 45;refine (H6.out _ HRd3.out).mono ?_;clear H6;rintro e w4 ⟨rfl,hr4,hg4⟩;have HRow4:=Ja (HRow3.out.rd HRd3.out hg4);have HRd4:=Ja hr4;have HG4:=Ja (below_grown HG3.out hg4 (by rw [HR.out];exact Nat.le_refl _));clear hr4 hg4)
            | (go_at_call 45;refine (H7.out _ HRd4.out).mono ?_;clear H7;rintro e w5 ⟨rfl,hr5,hg5⟩;have HRow5:=Ja (HRow4.out.rd HRd4.out hg5);have HRd5:=Ja hr5;have HG5:=Ja (below_grown HG4.out hg5 (by rw [HR.out];exact Nat.le_refl _));clear hr5 hg5)
            | (go_at_call 47;refine (H8.out _ HRd5.out).mono ?_;clear H8;rintro e w6 ⟨rfl,hr6,hg6⟩;have HRow6:=Ja (HRow5.out.rd HRd5.out hg6);have HRd6:=Ja hr6;have k61:=hr6.c1;have k62:=hr6.c2;have k63:=hr6.c3;have HG6:=Ja (below_grown HG5.out hg6 (by rw [HR.out];exact Nat.le_refl _));clear hr6 hg6)
            | (go_at_call 48;refine (HFF.out _ HRd6.out).mono ?_;clear HFF;rintro e w7 ⟨rfl,hr7,hg7⟩;clear k61 k62 k63;have k72:w7.cell? ⟨R,2,none⟩=some (.int .i64 2):=hr7.c2;have k73:w7.cell? ⟨R,3,none⟩=some (.int .i64 (I5:Int)):=hr7.c3;have HG7:=Ja (below_grown HG6.out hg7 (by rw [HR.out];exact Nat.le_refl _));clear hr7 hg7))
           go_quiet (fail)
           go_wp2_with fail
           exact bodyPost_ret (v:=.tuple #[.slice none 0 0,.int .i64 2,.int .i64 (I5:Int)]) (by simp [results,Tryz.results10,go_sem]) rfl ⟨_,_,_,rfl,Xk.bad (e:=2) HFIN.out,below_drewN HG7.out _⟩
         · have HFIN:=Ja (show Js (Jc s)=(Jr (S.set n (if false then cf S n - c else cf S n+c)),0,0) by rw [HP.out,HSE.out,if_neg (show ¬ JK (Jc s) I5 43=true by rw [hc43];decide),if_neg (show ¬ JK (Jc s) I5 45=true by rw [hc45];decide),if_pos (by rw [Jg];omega)];rfl);clear hc43 hc45;have HSM:=Ja (fun (V:World) (h1:RowK false V (.slice a la ca) (Jr S)) (h2:RowK false V (.slice a2 l2 c2) (Jr (upR n [c])))=>Jcu _ _ _ _ V h1 h2 (HS.out.sqs (by have:=HT.out.1;omega)) (YA HF.out) ⟨(by have:=JE S;have:=HS.out.1;omega),(by have:=YB n c;omega)⟩);have H5:=Ja (fun (V:World) (hh:RdB V R s (I1:Int) 0 0)=>Yj R s I1 0 0 45 V hh hI1 hs);rw [show (decide ((0:Int)=0) && JK (Jc s) (skB (Jc s) I1) 45)=false from by rw [HI5.out];simp [HC45.out],HI5.out] at H5;have H6:=Ja (fun (V:World) (hh:RdB V R s (I5:Int) 0 0)=>JX R s I5 0 0 43 V hh hI5s hs false (by rw [HI55.out];simp [HC43.out]));rw [HI55.out] at H6;have H7:=Ja (fun (V:World) (hh:RdB V R s (I5:Int) 0 0)=>JX R s I5 0 0 45 V hh hI5s hs false (by rw [HI55.out];simp [HC45.out]));rw [HI55.out] at H7;have H8:=Ja (fun (V:World) (hh:RdB V R s (I5:Int) 0 0)=>Yj R s I5 0 0 32 V hh hI5s hs);rw [HI55.out] at H8;have hd5:decide (I5<s.size)=false:=decide_eq_false hlt5;go_wp2_with (first
            | (go_at_call 30;refine (HSM.out _ HRow1.out HU.out).mono ?_;clear HSM;rintro e w2 ⟨u2,rfl,hu2,hq2⟩;rw [Jal c (by rw [HS.out.1];omega)] at hu2;obtain ⟨a3,l3,c3,rfl⟩:=hu2.form;have HRow2:=Ja hu2;have HRd2:=Ja (HRd1.out.below hq2);have HG2:=Ja (HG1.out.trans (hq2.mono HG1.out.size));clear hu2 hq2)
            | (go_at_call 47;refine (H5.out _ HRd2.out).mono ?_;clear H5;rintro e w3 ⟨rfl,hr3,hg3⟩;have HRow3:=Ja (HRow2.out.rd HRd2.out hg3);have HRd3:=Ja hr3;have HG3:=Ja (below_grown HG2.out hg3 (by rw [HR.out];exact Nat.le_refl _));clear hr3 hg3)
            | (go_at_call 45;refine (H6.out _ HRd3.out).mono ?_;clear H6;rintro e w4 ⟨rfl,hr4,hg4⟩;have HRow4:=Ja (HRow3.out.rd HRd3.out hg4);have HRd4:=Ja hr4;have HG4:=Ja (below_grown HG3.out hg4 (by rw [HR.out];exact Nat.le_refl _));clear hr4 hg4)
            | (go_at_call 45;refine (H7.out _ HRd4.out).mono ?_;clear H7;rintro e w5 ⟨rfl,hr5,hg5⟩;have HRow5:=Ja (HRow4.out.rd HRd4.out hg5);have HRd5:=Ja hr5;have HG5:=Ja (below_grown HG4.out hg5 (by rw [HR.out];exact Nat.le_refl _));clear hr5 hg5)
            | (go_at_call 47;refine (H8.out _ HRd5.out).mono ?_;clear H8;rintro e w6 ⟨rfl,hr6,hg6⟩;have HRow6:=Ja (HRow5.out.rd HRd5.out hg6);have HRd6:=Ja hr6;have k61:=hr6.c1;have k62:=hr6.c2;have k63:=hr6.c3;have HG6:=Ja (below_grown HG5.out hg6 (by rw [HR.out];exact Nat.le_refl _));clear hr6 hg6))
           exact bodyPost_ret (v:=.tuple #[.slice a3 l3 c3,.int .i64 0,.int .i64 0]) (by simp [results,Tryz.results10,go_sem]) rfl ⟨_,_,_,rfl,Xk.ok HFIN.out HS1.out (by have:=HLT.out;omega) HRow6.out,HG6.out⟩
     · obtain ⟨E1,hE⟩:∃ x,rdE (JN (Jc s) I) 0=x:=⟨_,rfl⟩;obtain ⟨A1,hA⟩:∃ x,rdA (JN (Jc s) I) 0 0=x:=⟨_,rfl⟩;have hbad:∃ e p:Nat,JN (Jc s) I=.bad e p:=by
        cases hk:JN (Jc s) I with
        | bad e p=>exact ⟨e,p,rfl⟩
        | ok a k=>exact absurd (XE hk 0 0).1 hE1
       obtain ⟨e0,p0,hbad⟩:=hbad;have HEA:=Ja (show E1=(e0:Int)∧A1=(p0:Int) by rw [←hE,←hA,hbad];exact ⟨rfl,rfl⟩);have HFIN:=Ja (show Js (Jc s)=([],e0,p0) by rw [HP.out,←HT.out.2.2,Xy hbad];rfl);rw [hE,hA] at HRd1;rw [hE] at hE1;have hE1b:(E1 == 0)=false:=by rw [beq_eq_false_iff_ne];exact hE1
       clear hE hA hbad;by_cases hlt5:I5<s.size
       · skip
         have HSM:=Ja (fun (V:World) (h1:RowK false V (.slice a la ca) (Jr S)) (h2:RowK false V (.slice a2 l2 c2) (Jr (upR n [c])))=>Jcu _ _ _ _ V h1 h2 (HS.out.sqs (by have:=HT.out.1;omega)) (YA HF.out) ⟨(by have:=JE S;have:=HS.out.1;omega),(by have:=YB n c;omega)⟩);have H5:=Ja (fun (V:World) (hh:RdB V R s (I1:Int) E1 A1)=>Yj R s I1 E1 A1 45 V hh hI1 hs);rw [show (decide ((E1:Int)=0) && JK (Jc s) (skB (Jc s) I1) 45)=false from by simp [hE1],HI5.out] at H5;have H6:=Ja (fun (V:World) (hh:RdB V R s (I5:Int) E1 A1)=>JX R s I5 E1 A1 43 V hh hI5s hs false (by simp [hE1]));rw [HI55.out] at H6;have H7:=Ja (fun (V:World) (hh:RdB V R s (I5:Int) E1 A1)=>JX R s I5 E1 A1 45 V hh hI5s hs false (by simp [hE1]));rw [HI55.out] at H7;have H8:=Ja (fun (V:World) (hh:RdB V R s (I5:Int) E1 A1)=>Yj R s I5 E1 A1 32 V hh hI5s hs);rw [HI55.out] at H8;have HFF:=Ja (fun (V:World) (hh:RdB V R s (I5:Int) E1 A1)=>XQ R s (I5:Int) E1 A1 2 (I5:Int) V hh);have hlt5':(I5:Int)<(s.size:Int):=by omega
         go_wp2_with (first
          | (go_at_call 30;refine (HSM.out _ HRow1.out HU.out).mono ?_;clear HSM;rintro e w2 ⟨u2,rfl,hu2,hq2⟩;rw [Jal c (by rw [HS.out.1];omega)] at hu2;obtain ⟨a3,l3,c3,rfl⟩:=hu2.form;have HRow2:=Ja hu2;have HRd2:=Ja (HRd1.out.below hq2);have HG2:=Ja (HG1.out.trans (hq2.mono HG1.out.size));clear hu2 hq2)
          | (go_at_call 47;refine (H5.out _ HRd2.out).mono ?_;clear H5;rintro e w3 ⟨rfl,hr3,hg3⟩;have HRow3:=Ja (HRow2.out.rd HRd2.out hg3);have HRd3:=Ja hr3;have HG3:=Ja (below_grown HG2.out hg3 (by rw [HR.out];exact Nat.le_refl _));clear hr3 hg3)
          | (go_at_call 45;refine (H6.out _ HRd3.out).mono ?_;clear H6;rintro e w4 ⟨rfl,hr4,hg4⟩;have HRow4:=Ja (HRow3.out.rd HRd3.out hg4);have HRd4:=Ja hr4;have HG4:=Ja (below_grown HG3.out hg4 (by rw [HR.out];exact Nat.le_refl _));clear hr4 hg4)
          | (go_at_call 45;refine (H7.out _ HRd4.out).mono ?_;clear H7;rintro e w5 ⟨rfl,hr5,hg5⟩;have HRow5:=Ja (HRow4.out.rd HRd4.out hg5);have HRd5:=Ja hr5;have HG5:=Ja (below_grown HG4.out hg5 (by rw [HR.out];exact Nat.le_refl _));clear hr5 hg5)
          | (go_at_call 47;refine (H8.out _ HRd5.out).mono ?_;clear H8;rintro e w6 ⟨rfl,hr6,hg6⟩;have HRow6:=Ja (HRow5.out.rd HRd5.out hg6);have HRd6:=Ja hr6;have k61:=hr6.c1;have k62:=hr6.c2;have k63:=hr6.c3;have HG6:=Ja (below_grown HG5.out hg6 (by rw [HR.out];exact Nat.le_refl _));clear hr6 hg6)
          | (go_at_call 48;refine (HFF.out _ HRd6.out).mono ?_;clear HFF;rintro e w7 ⟨rfl,hr7,hg7⟩;clear k61 k62 k63;have k72:=hr7.c2;have k73:=hr7.c3;rw [if_neg hE1] at k72;rw [if_neg hE1] at k73;have HG7:=Ja (below_grown HG6.out hg7 (by rw [HR.out];exact Nat.le_refl _));clear hr7 hg7))
         go_quiet (fail)
         go_wp2_with fail
         exact bodyPost_ret (v:=.tuple #[.slice none 0 0,.int .i64 E1,.int .i64 A1]) (by simp [results,Tryz.results10,go_sem]) rfl ⟨_,_,_,rfl,by rw [HEA.out.1,HEA.out.2];exact Xk.bad HFIN.out,below_drewN HG7.out _⟩
       · skip
         have HSM:=Ja (fun (V:World) (h1:RowK false V (.slice a la ca) (Jr S)) (h2:RowK false V (.slice a2 l2 c2) (Jr (upR n [c])))=>Jcu _ _ _ _ V h1 h2 (HS.out.sqs (by have:=HT.out.1;omega)) (YA HF.out) ⟨(by have:=JE S;have:=HS.out.1;omega),(by have:=YB n c;omega)⟩);have H5:=Ja (fun (V:World) (hh:RdB V R s (I1:Int) E1 A1)=>Yj R s I1 E1 A1 45 V hh hI1 hs);rw [show (decide ((E1:Int)=0) && JK (Jc s) (skB (Jc s) I1) 45)=false from by simp [hE1],HI5.out] at H5;have H6:=Ja (fun (V:World) (hh:RdB V R s (I5:Int) E1 A1)=>JX R s I5 E1 A1 43 V hh hI5s hs false (by simp [hE1]));rw [HI55.out] at H6;have H7:=Ja (fun (V:World) (hh:RdB V R s (I5:Int) E1 A1)=>JX R s I5 E1 A1 45 V hh hI5s hs false (by simp [hE1]));rw [HI55.out] at H7;have H8:=Ja (fun (V:World) (hh:RdB V R s (I5:Int) E1 A1)=>Yj R s I5 E1 A1 32 V hh hI5s hs);rw [HI55.out] at H8;have hd5:decide (I5<s.size)=false:=decide_eq_false hlt5;go_wp2_with (first
          | (go_at_call 30;refine (HSM.out _ HRow1.out HU.out).mono ?_;clear HSM;rintro e w2 ⟨u2,rfl,hu2,hq2⟩;rw [Jal c (by rw [HS.out.1];omega)] at hu2;obtain ⟨a3,l3,c3,rfl⟩:=hu2.form;have HRow2:=Ja hu2;have HRd2:=Ja (HRd1.out.below hq2);have HG2:=Ja (HG1.out.trans (hq2.mono HG1.out.size));clear hu2 hq2)
          | (go_at_call 47;refine (H5.out _ HRd2.out).mono ?_;clear H5;rintro e w3 ⟨rfl,hr3,hg3⟩;have HRow3:=Ja (HRow2.out.rd HRd2.out hg3);have HRd3:=Ja hr3;have HG3:=Ja (below_grown HG2.out hg3 (by rw [HR.out];exact Nat.le_refl _));clear hr3 hg3)
          | (go_at_call 45;refine (H6.out _ HRd3.out).mono ?_;clear H6;rintro e w4 ⟨rfl,hr4,hg4⟩;have HRow4:=Ja (HRow3.out.rd HRd3.out hg4);have HRd4:=Ja hr4;have HG4:=Ja (below_grown HG3.out hg4 (by rw [HR.out];exact Nat.le_refl _));clear hr4 hg4)
          | (go_at_call 45;refine (H7.out _ HRd4.out).mono ?_;clear H7;rintro e w5 ⟨rfl,hr5,hg5⟩;have HRow5:=Ja (HRow4.out.rd HRd4.out hg5);have HRd5:=Ja hr5;have HG5:=Ja (below_grown HG4.out hg5 (by rw [HR.out];exact Nat.le_refl _));clear hr5 hg5)
          | (go_at_call 47;refine (H8.out _ HRd5.out).mono ?_;clear H8;rintro e w6 ⟨rfl,hr6,hg6⟩;have HRow6:=Ja (HRow5.out.rd HRd5.out hg6);have HRd6:=Ja hr6;have k61:=hr6.c1;have k62:=hr6.c2;have k63:=hr6.c3;have HG6:=Ja (below_grown HG5.out hg6 (by rw [HR.out];exact Nat.le_refl _));clear hr6 hg6))
         go_quiet (fail)
         go_wp2_with fail
         exact bodyPost_ret (v:=.tuple #[.slice none 0 0,.int .i64 E1,.int .i64 A1]) (by simp [results,Tryz.results10,go_sem]) rfl ⟨_,_,_,rfl,by rw [HEA.out.1,HEA.out.2];exact Xk.bad HFIN.out,below_drewN HG6.out _⟩
    | true=>
     have HS1:=Ja (show Ym (S.set n (if true then cf S n - c else cf S n+c)) (m+1) from HS.out.next HF.out hn8 true);by_cases hE1:rdE (JN (Jc s) I) 0=0
     · obtain ⟨_,⟨c0,n0⟩,k,hk⟩:=Jel (Jcf _ _) hE1;obtain ⟨rfl,rfl,rfl⟩:=HOK.out c0 n0 k hk;rw [hE1,(XE hk 0 0).2] at HRd1;have HLT:=Ja (show m≤I∧I<I1∧I1≤I5∧I5≤s.size∧s.size - I<f+1 from ⟨HT.out.1,(Xv (by rw [Jg];exact hI) hk).1,by rw [←HI5.out];exact X6 _ _,hI5s,HT.out.2.1⟩);have HSE:=Ja (Jba (f:=f) (b:=true) (S:=S) hk);rw [HI5.out,HT.out.2.2] at HSE;clear hE1 hk;cases hc43:JK (Jc s) I5 43 with
       | true=>
        have HC43:=Ja hc43;have HC45:=Ja (show JK (Jc s) I5 45=false from Bool.eq_false_iff.2 (fun h=>absurd (Jjl hc43 h) (by decide)));have HTT:=Ja (show Xu (Jc s) f false (I5+1) (S.set n (if true then cf S n - c else cf S n+c))=YU (Jc s) by rw [HSE.out,if_pos hc43]);have hI51:I5+1≤s.size:=by have:=JQ hc43;rw [Jg] at this;omega
        clear hc43;have HSM:=Ja (fun (V:World) (h1:RowK false V (.slice a la ca) (Jr S)) (h2:RowK false V (.slice a2 l2 c2) (Jr (upR n [c])))=>Jcd _ _ _ _ V h1 h2 (HS.out.sqs (by have:=HT.out.1;omega)) (YA HF.out) ⟨(by have:=JE S;have:=HS.out.1;omega),(by have:=YB n c;omega)⟩);have H5:=Ja (fun (V:World) (hh:RdB V R s (I1:Int) 0 0)=>Yj R s I1 0 0 45 V hh hI1 hs);rw [show (decide ((0:Int)=0) && JK (Jc s) (skB (Jc s) I1) 45)=false from by rw [HI5.out];simp [HC45.out],HI5.out] at H5;have H6:=Ja (fun (V:World) (hh:RdB V R s (I5:Int) 0 0)=>JX R s I5 0 0 43 V hh hI5s hs true (by rw [HI55.out];simp [HC43.out]));rw [HI55.out] at H6;go_wp2_with (first
         | (go_at_call 31;refine (HSM.out _ HRow1.out HU.out).mono ?_;clear HSM;rintro e w2 ⟨u2,rfl,hu2,hq2⟩;rw [Jam c (by rw [HS.out.1];omega)] at hu2;obtain ⟨a3,l3,c3,rfl⟩:=hu2.form;have HRow2:=Ja hu2;have HRd2:=Ja (HRd1.out.below hq2);have HG2:=Ja (HG1.out.trans (hq2.mono HG1.out.size));clear hu2 hq2)
         | (go_at_call 47;refine (H5.out _ HRd2.out).mono ?_;clear H5;rintro e w3 ⟨rfl,hr3,hg3⟩;have HRow3:=Ja (HRow2.out.rd HRd2.out hg3);have HRd3:=Ja hr3;have HG3:=Ja (below_grown HG2.out hg3 (by rw [HR.out];exact Nat.le_refl _));clear hr3 hg3)
         | (go_at_call 45;refine (H6.out _ HRd3.out).mono ?_;clear H6;rintro e w4 ⟨rfl,hr4,hg4⟩;have HRow4:=Ja (HRow3.out.rd HRd3.out hg4);have HRd4:=Ja hr4;have HG4:=Ja (below_grown HG3.out hg4 (by rw [HR.out];exact Nat.le_refl _));clear hr4 hg4))
        go_roundw
        case rel=>exact ⟨_,I5+1,f,m+1,_,_,_,_,rfl,rfl,hI51,Ja HRd4.out,Ja HRow4.out,Ja HS1.out,Ja ⟨by have:=HLT.out;omega,by have:=HLT.out;omega,HTT.out⟩,Ja HG4.out⟩
        case measure=>
         have e1:=Xo (I:=I5+1) HRd4.out;have e2:=Xo HRr.out;rw [e1,e2];have:=HLT.out;omega
       | false=>
        have HC43:=Ja hc43;cases hc45:JK (Jc s) I5 45 with
        | true=>
         have HC45:=Ja hc45;have HTT:=Ja (show Xu (Jc s) f true (I5+1) (S.set n (if true then cf S n - c else cf S n+c))=YU (Jc s) by rw [HSE.out,if_neg (show ¬ JK (Jc s) I5 43=true by rw [hc43];decide),if_pos hc45]);have hI51:I5+1≤s.size:=by have:=JQ hc45;rw [Jg] at this;omega
         clear hc43 hc45;have HSM:=Ja (fun (V:World) (h1:RowK false V (.slice a la ca) (Jr S)) (h2:RowK false V (.slice a2 l2 c2) (Jr (upR n [c])))=>Jcd _ _ _ _ V h1 h2 (HS.out.sqs (by have:=HT.out.1;omega)) (YA HF.out) ⟨(by have:=JE S;have:=HS.out.1;omega),(by have:=YB n c;omega)⟩);have H5:=Ja (fun (V:World) (hh:RdB V R s (I1:Int) 0 0)=>Yj R s I1 0 0 45 V hh hI1 hs);rw [show (decide ((0:Int)=0) && JK (Jc s) (skB (Jc s) I1) 45)=true from by rw [HI5.out];simp [HC45.out],HI5.out] at H5;have H6:=Ja (fun (V:World) (hh:RdB V R s (I5:Int) 0 0)=>JX R s I5 0 0 43 V hh hI5s hs false (by rw [HI55.out];simp [HC43.out]));rw [HI55.out] at H6;have H7:=Ja (fun (V:World) (hh:RdB V R s (I5:Int) 0 0)=>JX R s I5 0 0 45 V hh hI5s hs true (by rw [HI55.out];simp [HC45.out]));rw [HI55.out] at H7;go_wp2_with (first
          | (go_at_call 31;refine (HSM.out _ HRow1.out HU.out).mono ?_;clear HSM;rintro e w2 ⟨u2,rfl,hu2,hq2⟩;rw [Jam c (by rw [HS.out.1];omega)] at hu2;obtain ⟨a3,l3,c3,rfl⟩:=hu2.form;have HRow2:=Ja hu2;have HRd2:=Ja (HRd1.out.below hq2);have HG2:=Ja (HG1.out.trans (hq2.mono HG1.out.size));clear hu2 hq2)
          | (go_at_call 47;refine (H5.out _ HRd2.out).mono ?_;clear H5;rintro e w3 ⟨rfl,hr3,hg3⟩;have HRow3:=Ja (HRow2.out.rd HRd2.out hg3);have HRd3:=Ja hr3;have HG3:=Ja (below_grown HG2.out hg3 (by rw [HR.out];exact Nat.le_refl _));clear hr3 hg3)
          | (go_at_call 45;refine (H6.out _ HRd3.out).mono ?_;clear H6;rintro e w4 ⟨rfl,hr4,hg4⟩;have HRow4:=Ja (HRow3.out.rd HRd3.out hg4);have HRd4:=Ja hr4;have HG4:=Ja (below_grown HG3.out hg4 (by rw [HR.out];exact Nat.le_refl _));clear hr4 hg4)
          | (go_at_call 45;refine (H7.out _ HRd4.out).mono ?_;clear H7;rintro e w5 ⟨rfl,hr5,hg5⟩;have HRow5:=Ja (HRow4.out.rd HRd4.out hg5);have HRd5:=Ja hr5;have HG5:=Ja (below_grown HG4.out hg5 (by rw [HR.out];exact Nat.le_refl _));clear hr5 hg5))
         go_roundw
         case rel=>exact ⟨_,I5+1,f,m+1,_,_,_,_,rfl,rfl,hI51,Ja HRd5.out,Ja HRow5.out,Ja HS1.out,Ja ⟨by have:=HLT.out;omega,by have:=HLT.out;omega,HTT.out⟩,Ja HG5.out⟩
         case measure=>
          have e1:=Xo (I:=I5+1) HRd5.out;have e2:=Xo HRr.out;rw [e1,e2];have:=HLT.out;omega
        | false=>
         have HC45:=Ja hc45;by_cases hlt5:I5<s.size
         · have HFIN:=Ja (show Js (Jc s)=([],2,I5) by rw [HP.out,HSE.out,if_neg (show ¬ JK (Jc s) I5 43=true by rw [hc43];decide),if_neg (show ¬ JK (Jc s) I5 45=true by rw [hc45];decide),if_neg (by rw [Jg];omega)];rfl);clear hc43 hc45;have HSM:=Ja (fun (V:World) (h1:RowK false V (.slice a la ca) (Jr S)) (h2:RowK false V (.slice a2 l2 c2) (Jr (upR n [c])))=>Jcd _ _ _ _ V h1 h2 (HS.out.sqs (by have:=HT.out.1;omega)) (YA HF.out) ⟨(by have:=JE S;have:=HS.out.1;omega),(by have:=YB n c;omega)⟩);have H5:=Ja (fun (V:World) (hh:RdB V R s (I1:Int) 0 0)=>Yj R s I1 0 0 45 V hh hI1 hs);rw [show (decide ((0:Int)=0) && JK (Jc s) (skB (Jc s) I1) 45)=false from by rw [HI5.out];simp [HC45.out],HI5.out] at H5;have H6:=Ja (fun (V:World) (hh:RdB V R s (I5:Int) 0 0)=>JX R s I5 0 0 43 V hh hI5s hs false (by rw [HI55.out];simp [HC43.out]));rw [HI55.out] at H6;have H7:=Ja (fun (V:World) (hh:RdB V R s (I5:Int) 0 0)=>JX R s I5 0 0 45 V hh hI5s hs false (by rw [HI55.out];simp [HC45.out]));rw [HI55.out] at H7;have H8:=Ja (fun (V:World) (hh:RdB V R s (I5:Int) 0 0)=>Yj R s I5 0 0 32 V hh hI5s hs);rw [HI55.out] at H8;have HFF:=Ja (fun (V:World) (hh:RdB V R s (I5:Int) 0 0)=>XQ R s (I5:Int) 0 0 2 (I5:Int) V hh);have hlt5':(I5:Int)<(s.size:Int):=by omega
           go_wp2_with (first
            | (go_at_call 31;refine (HSM.out _ HRow1.out HU.out).mono ?_;clear HSM;rintro e w2 ⟨u2,rfl,hu2,hq2⟩;rw [Jam c (by rw [HS.out.1];omega)] at hu2;obtain ⟨a3,l3,c3,rfl⟩:=hu2.form;have HRow2:=Ja hu2;have HRd2:=Ja (HRd1.out.below hq2);have HG2:=Ja (HG1.out.trans (hq2.mono HG1.out.size));clear hu2 hq2)
            | (go_at_call 47;refine (H5.out _ HRd2.out).mono ?_;clear H5;rintro e w3 ⟨rfl,hr3,hg3⟩;have HRow3:=Ja (HRow2.out.rd HRd2.out hg3);have HRd3:=Ja hr3;have HG3:=Ja (below_grown HG2.out hg3 (by rw [HR.out];exact Nat.le_refl _));clear hr3 hg3)
            | (go_at_call 45;refine (H6.out _ HRd3.out).mono ?_;clear H6;rintro e w4 ⟨rfl,hr4,hg4⟩;have HRow4:=Ja (HRow3.out.rd HRd3.out hg4);have HRd4:=Ja hr4;have HG4:=Ja (below_grown HG3.out hg4 (by rw [HR.out];exact Nat.le_refl _));clear hr4 hg4)
            | (go_at_call 45;refine (H7.out _ HRd4.out).mono ?_;clear H7;rintro e w5 ⟨rfl,hr5,hg5⟩;have HRow5:=Ja (HRow4.out.rd HRd4.out hg5);have HRd5:=Ja hr5;have HG5:=Ja (below_grown HG4.out hg5 (by rw [HR.out];exact Nat.le_refl _));clear hr5 hg5)
            | (go_at_call 47;refine (H8.out _ HRd5.out).mono ?_;clear H8;rintro e w6 ⟨rfl,hr6,hg6⟩;have HRow6:=Ja (HRow5.out.rd HRd5.out hg6);have HRd6:=Ja hr6;have k61:=hr6.c1;have k62:=hr6.c2;have k63:=hr6.c3;have HG6:=Ja (below_grown HG5.out hg6 (by rw [HR.out];exact Nat.le_refl _));clear hr6 hg6)
            | (go_at_call 48;refine (HFF.out _ HRd6.out).mono ?_;clear HFF;rintro e w7 ⟨rfl,hr7,hg7⟩;clear k61 k62 k63;have k72:w7.cell? ⟨R,2,none⟩=some (.int .i64 2):=hr7.c2;have k73:w7.cell? ⟨R,3,none⟩=some (.int .i64 (I5:Int)):=hr7.c3;have HG7:=Ja (below_grown HG6.out hg7 (by rw [HR.out];exact Nat.le_refl _));clear hr7 hg7))
           go_quiet (fail)
           go_wp2_with fail
           exact bodyPost_ret (v:=.tuple #[.slice none 0 0,.int .i64 2,.int .i64 (I5:Int)]) (by simp [results,Tryz.results10,go_sem]) rfl ⟨_,_,_,rfl,Xk.bad (e:=2) HFIN.out,below_drewN HG7.out _⟩
         · have HFIN:=Ja (show Js (Jc s)=(Jr (S.set n (if true then cf S n - c else cf S n+c)),0,0) by rw [HP.out,HSE.out,if_neg (show ¬ JK (Jc s) I5 43=true by rw [hc43];decide),if_neg (show ¬ JK (Jc s) I5 45=true by rw [hc45];decide),if_pos (by rw [Jg];omega)];rfl);clear hc43 hc45;have HSM:=Ja (fun (V:World) (h1:RowK false V (.slice a la ca) (Jr S)) (h2:RowK false V (.slice a2 l2 c2) (Jr (upR n [c])))=>Jcd _ _ _ _ V h1 h2 (HS.out.sqs (by have:=HT.out.1;omega)) (YA HF.out) ⟨(by have:=JE S;have:=HS.out.1;omega),(by have:=YB n c;omega)⟩);have H5:=Ja (fun (V:World) (hh:RdB V R s (I1:Int) 0 0)=>Yj R s I1 0 0 45 V hh hI1 hs);rw [show (decide ((0:Int)=0) && JK (Jc s) (skB (Jc s) I1) 45)=false from by rw [HI5.out];simp [HC45.out],HI5.out] at H5;have H6:=Ja (fun (V:World) (hh:RdB V R s (I5:Int) 0 0)=>JX R s I5 0 0 43 V hh hI5s hs false (by rw [HI55.out];simp [HC43.out]));rw [HI55.out] at H6;have H7:=Ja (fun (V:World) (hh:RdB V R s (I5:Int) 0 0)=>JX R s I5 0 0 45 V hh hI5s hs false (by rw [HI55.out];simp [HC45.out]));rw [HI55.out] at H7;have H8:=Ja (fun (V:World) (hh:RdB V R s (I5:Int) 0 0)=>Yj R s I5 0 0 32 V hh hI5s hs);rw [HI55.out] at H8;have hd5:decide (I5<s.size)=false:=decide_eq_false hlt5;go_wp2_with (first
            | (go_at_call 31;refine (HSM.out _ HRow1.out HU.out).mono ?_;clear HSM;rintro e w2 ⟨u2,rfl,hu2,hq2⟩;rw [Jam c (by rw [HS.out.1];omega)] at hu2;obtain ⟨a3,l3,c3,rfl⟩:=hu2.form;have HRow2:=Ja hu2;have HRd2:=Ja (HRd1.out.below hq2);have HG2:=Ja (HG1.out.trans (hq2.mono HG1.out.size));clear hu2 hq2)
            | (go_at_call 47;refine (H5.out _ HRd2.out).mono ?_;clear H5;rintro e w3 ⟨rfl,hr3,hg3⟩;have HRow3:=Ja (HRow2.out.rd HRd2.out hg3);have HRd3:=Ja hr3;have HG3:=Ja (below_grown HG2.out hg3 (by rw [HR.out];exact Nat.le_refl _));clear hr3 hg3)
            | (go_at_call 45;refine (H6.out _ HRd3.out).mono ?_;clear H6;rintro e w4 ⟨rfl,hr4,hg4⟩;have HRow4:=Ja (HRow3.out.rd HRd3.out hg4);have HRd4:=Ja hr4;have HG4:=Ja (below_grown HG3.out hg4 (by rw [HR.out];exact Nat.le_refl _));clear hr4 hg4)
            | (go_at_call 45;refine (H7.out _ HRd4.out).mono ?_;clear H7;rintro e w5 ⟨rfl,hr5,hg5⟩;have HRow5:=Ja (HRow4.out.rd HRd4.out hg5);have HRd5:=Ja hr5;have HG5:=Ja (below_grown HG4.out hg5 (by rw [HR.out];exact Nat.le_refl _));clear hr5 hg5)
            | (go_at_call 47;refine (H8.out _ HRd5.out).mono ?_;clear H8;rintro e w6 ⟨rfl,hr6,hg6⟩;have HRow6:=Ja (HRow5.out.rd HRd5.out hg6);have HRd6:=Ja hr6;have k61:=hr6.c1;have k62:=hr6.c2;have k63:=hr6.c3;have HG6:=Ja (below_grown HG5.out hg6 (by rw [HR.out];exact Nat.le_refl _));clear hr6 hg6))
           exact bodyPost_ret (v:=.tuple #[.slice a3 l3 c3,.int .i64 0,.int .i64 0]) (by simp [results,Tryz.results10,go_sem]) rfl ⟨_,_,_,rfl,Xk.ok HFIN.out HS1.out (by have:=HLT.out;omega) HRow6.out,HG6.out⟩
     · obtain ⟨E1,hE⟩:∃ x,rdE (JN (Jc s) I) 0=x:=⟨_,rfl⟩;obtain ⟨A1,hA⟩:∃ x,rdA (JN (Jc s) I) 0 0=x:=⟨_,rfl⟩;have hbad:∃ e p:Nat,JN (Jc s) I=.bad e p:=by
        cases hk:JN (Jc s) I with
        | bad e p=>exact ⟨e,p,rfl⟩
        | ok a k=>exact absurd (XE hk 0 0).1 hE1
       obtain ⟨e0,p0,hbad⟩:=hbad;have HEA:=Ja (show E1=(e0:Int)∧A1=(p0:Int) by rw [←hE,←hA,hbad];exact ⟨rfl,rfl⟩);have HFIN:=Ja (show Js (Jc s)=([],e0,p0) by rw [HP.out,←HT.out.2.2,Xy hbad];rfl);rw [hE,hA] at HRd1;rw [hE] at hE1;have hE1b:(E1 == 0)=false:=by rw [beq_eq_false_iff_ne];exact hE1
       clear hE hA hbad;by_cases hlt5:I5<s.size
       · skip
         have HSM:=Ja (fun (V:World) (h1:RowK false V (.slice a la ca) (Jr S)) (h2:RowK false V (.slice a2 l2 c2) (Jr (upR n [c])))=>Jcd _ _ _ _ V h1 h2 (HS.out.sqs (by have:=HT.out.1;omega)) (YA HF.out) ⟨(by have:=JE S;have:=HS.out.1;omega),(by have:=YB n c;omega)⟩);have H5:=Ja (fun (V:World) (hh:RdB V R s (I1:Int) E1 A1)=>Yj R s I1 E1 A1 45 V hh hI1 hs);rw [show (decide ((E1:Int)=0) && JK (Jc s) (skB (Jc s) I1) 45)=false from by simp [hE1],HI5.out] at H5;have H6:=Ja (fun (V:World) (hh:RdB V R s (I5:Int) E1 A1)=>JX R s I5 E1 A1 43 V hh hI5s hs false (by simp [hE1]));rw [HI55.out] at H6;have H7:=Ja (fun (V:World) (hh:RdB V R s (I5:Int) E1 A1)=>JX R s I5 E1 A1 45 V hh hI5s hs false (by simp [hE1]));rw [HI55.out] at H7;have H8:=Ja (fun (V:World) (hh:RdB V R s (I5:Int) E1 A1)=>Yj R s I5 E1 A1 32 V hh hI5s hs);rw [HI55.out] at H8;have HFF:=Ja (fun (V:World) (hh:RdB V R s (I5:Int) E1 A1)=>XQ R s (I5:Int) E1 A1 2 (I5:Int) V hh);have hlt5':(I5:Int)<(s.size:Int):=by omega
         go_wp2_with (first
          | (go_at_call 31;refine (HSM.out _ HRow1.out HU.out).mono ?_;clear HSM;rintro e w2 ⟨u2,rfl,hu2,hq2⟩;rw [Jam c (by rw [HS.out.1];omega)] at hu2;obtain ⟨a3,l3,c3,rfl⟩:=hu2.form;have HRow2:=Ja hu2;have HRd2:=Ja (HRd1.out.below hq2);have HG2:=Ja (HG1.out.trans (hq2.mono HG1.out.size));clear hu2 hq2)
          | (go_at_call 47;refine (H5.out _ HRd2.out).mono ?_;clear H5;rintro e w3 ⟨rfl,hr3,hg3⟩;have HRow3:=Ja (HRow2.out.rd HRd2.out hg3);have HRd3:=Ja hr3;have HG3:=Ja (below_grown HG2.out hg3 (by rw [HR.out];exact Nat.le_refl _));clear hr3 hg3)
          | (go_at_call 45;refine (H6.out _ HRd3.out).mono ?_;clear H6;rintro e w4 ⟨rfl,hr4,hg4⟩;have HRow4:=Ja (HRow3.out.rd HRd3.out hg4);have HRd4:=Ja hr4;have HG4:=Ja (below_grown HG3.out hg4 (by rw [HR.out];exact Nat.le_refl _));clear hr4 hg4)
          | (go_at_call 45;refine (H7.out _ HRd4.out).mono ?_;clear H7;rintro e w5 ⟨rfl,hr5,hg5⟩;have HRow5:=Ja (HRow4.out.rd HRd4.out hg5);have HRd5:=Ja hr5;have HG5:=Ja (below_grown HG4.out hg5 (by rw [HR.out];exact Nat.le_refl _));clear hr5 hg5)
          | (go_at_call 47;refine (H8.out _ HRd5.out).mono ?_;clear H8;rintro e w6 ⟨rfl,hr6,hg6⟩;have HRow6:=Ja (HRow5.out.rd HRd5.out hg6);have HRd6:=Ja hr6;have k61:=hr6.c1;have k62:=hr6.c2;have k63:=hr6.c3;have HG6:=Ja (below_grown HG5.out hg6 (by rw [HR.out];exact Nat.le_refl _));clear hr6 hg6)
          | (go_at_call 48;refine (HFF.out _ HRd6.out).mono ?_;clear HFF;rintro e w7 ⟨rfl,hr7,hg7⟩;clear k61 k62 k63;have k72:=hr7.c2;have k73:=hr7.c3;rw [if_neg hE1] at k72;rw [if_neg hE1] at k73;have HG7:=Ja (below_grown HG6.out hg7 (by rw [HR.out];exact Nat.le_refl _));clear hr7 hg7))
         go_quiet (fail)
         go_wp2_with fail
         exact bodyPost_ret (v:=.tuple #[.slice none 0 0,.int .i64 E1,.int .i64 A1]) (by simp [results,Tryz.results10,go_sem]) rfl ⟨_,_,_,rfl,by rw [HEA.out.1,HEA.out.2];exact Xk.bad HFIN.out,below_drewN HG7.out _⟩
       · skip
         have HSM:=Ja (fun (V:World) (h1:RowK false V (.slice a la ca) (Jr S)) (h2:RowK false V (.slice a2 l2 c2) (Jr (upR n [c])))=>Jcd _ _ _ _ V h1 h2 (HS.out.sqs (by have:=HT.out.1;omega)) (YA HF.out) ⟨(by have:=JE S;have:=HS.out.1;omega),(by have:=YB n c;omega)⟩);have H5:=Ja (fun (V:World) (hh:RdB V R s (I1:Int) E1 A1)=>Yj R s I1 E1 A1 45 V hh hI1 hs);rw [show (decide ((E1:Int)=0) && JK (Jc s) (skB (Jc s) I1) 45)=false from by simp [hE1],HI5.out] at H5;have H6:=Ja (fun (V:World) (hh:RdB V R s (I5:Int) E1 A1)=>JX R s I5 E1 A1 43 V hh hI5s hs false (by simp [hE1]));rw [HI55.out] at H6;have H7:=Ja (fun (V:World) (hh:RdB V R s (I5:Int) E1 A1)=>JX R s I5 E1 A1 45 V hh hI5s hs false (by simp [hE1]));rw [HI55.out] at H7;have H8:=Ja (fun (V:World) (hh:RdB V R s (I5:Int) E1 A1)=>Yj R s I5 E1 A1 32 V hh hI5s hs);rw [HI55.out] at H8;have hd5:decide (I5<s.size)=false:=decide_eq_false hlt5;go_wp2_with (first
          | (go_at_call 31;refine (HSM.out _ HRow1.out HU.out).mono ?_;clear HSM;rintro e w2 ⟨u2,rfl,hu2,hq2⟩;rw [Jam c (by rw [HS.out.1];omega)] at hu2;obtain ⟨a3,l3,c3,rfl⟩:=hu2.form;have HRow2:=Ja hu2;have HRd2:=Ja (HRd1.out.below hq2);have HG2:=Ja (HG1.out.trans (hq2.mono HG1.out.size));clear hu2 hq2)
          | (go_at_call 47;refine (H5.out _ HRd2.out).mono ?_;clear H5;rintro e w3 ⟨rfl,hr3,hg3⟩;have HRow3:=Ja (HRow2.out.rd HRd2.out hg3);have HRd3:=Ja hr3;have HG3:=Ja (below_grown HG2.out hg3 (by rw [HR.out];exact Nat.le_refl _));clear hr3 hg3)
          | (go_at_call 45;refine (H6.out _ HRd3.out).mono ?_;clear H6;rintro e w4 ⟨rfl,hr4,hg4⟩;have HRow4:=Ja (HRow3.out.rd HRd3.out hg4);have HRd4:=Ja hr4;have HG4:=Ja (below_grown HG3.out hg4 (by rw [HR.out];exact Nat.le_refl _));clear hr4 hg4)
          | (go_at_call 45;refine (H7.out _ HRd4.out).mono ?_;clear H7;rintro e w5 ⟨rfl,hr5,hg5⟩;have HRow5:=Ja (HRow4.out.rd HRd4.out hg5);have HRd5:=Ja hr5;have HG5:=Ja (below_grown HG4.out hg5 (by rw [HR.out];exact Nat.le_refl _));clear hr5 hg5)
          | (go_at_call 47;refine (H8.out _ HRd5.out).mono ?_;clear H8;rintro e w6 ⟨rfl,hr6,hg6⟩;have HRow6:=Ja (HRow5.out.rd HRd5.out hg6);have HRd6:=Ja hr6;have k61:=hr6.c1;have k62:=hr6.c2;have k63:=hr6.c3;have HG6:=Ja (below_grown HG5.out hg6 (by rw [HR.out];exact Nat.le_refl _));clear hr6 hg6))
         go_quiet (fail)
         go_wp2_with fail
         exact bodyPost_ret (v:=.tuple #[.slice none 0 0,.int .i64 E1,.int .i64 A1]) (by simp [results,Tryz.results10,go_sem]) rfl ⟨_,_,_,rfl,by rw [HEA.out.1,HEA.out.2];exact Xk.bad HFIN.out,below_drewN HG6.out _⟩
def RcB (W:World) (R:Nat) (s:ByteArray) (I:Int):Prop:=W.heap[R]?=some (.cells #[.string s,.int .i64 I] 124 (0,0))
section
variable {W W':World} {R:Nat} {s:ByteArray} {I:Int}
theorem RcB.lt (h:RcB W R s I):R<W.heap.size:=(Array.getElem?_eq_some_iff.1 h).1
theorem RcB.c0 (h:RcB W R s I):W.cell? ⟨R,0,none⟩=some (.string s):=by simp [World.cell?,show W.heap[R]?=_ from h]
theorem RcB.c1 (h:RcB W R s I):W.cell? ⟨R,1,none⟩=some (.int .i64 I):=by simp [World.cell?,show W.heap[R]?=_ from h]
theorem RcB.f (h:RcB W R s I) (o:Nat):W.frozen? ⟨R,o,none⟩=false:=by simp [World.frozen?,show W.heap[R]?=_ from h]
theorem RcB.below (h:RcB W R s I) (hb:Below W.heap.size W W'):RcB W' R s I:=(hb.block R h.lt).trans h
theorem RcB.set1 (h:RcB W R s I) (x:Int):RcB (W.setCell ⟨R,1,none⟩ (.int .i64 x)) R s x:=by
 have:=JR (o:=1) h (.int .i64 x);exact this
theorem RcB.drewN (h:RcB W R s I) (n:Nat):RcB (W.drewN n) R s I:=h
theorem Jbx (h:RcB W R s I) {cs:Array Value} {t:TypeId} {m:Nat × Nat} {b:Nat} (hb:W.heap[b]?=some (.cells cs t m)) (ht:t≠124):b≠R:=by
 intro e;subst e;have:=hb.symm.trans h;simp only [Option.some.injEq,Obj.cells.injEq] at this;exact ht this.2.1
theorem Jky (h:RcB W R s I) (hg:W.grownBy W' (some R)):∀ k v ds,Row k W v ds→Row k W' v ds:=by
 intro k v ds hr;obtain ⟨a,cap,e,_⟩:=id hr;subst e;refine hr.grown hg (fun p ep hl=>?_);obtain ⟨b,off,ea,cs,m,ht⟩:=hr.typ hl;rw [ea] at ep;cases ep;exact Jbx h ht (by cases k <;> (show _≠_;decide))
end
theorem X9 {W:World} {R:Nat} {s:ByteArray} {I:Nat} (h:RcB W R s I):rdI W R=I:=by
 unfold rdI;rw [h.c1];simp [intOf]
theorem Jfu (c:UInt8) (w:World):Calls Tryz.prog 181 #[.int .u8 (c.toNat:Int)] w fun r w'=>r=.returned (.bool (isD c))∧w'=w:=by
 by_cases h1:48≤c.toNat
 · have g1:decide ((48:Int)≤(c.toNat:Int))=true:=decide_eq_true (by omega);by_cases h2:c.toNat≤57
   · have HD:=Ja (show isD c=true by simp [isD,h1,h2]);go_enter Tryz.func181,Tryz.ntmps181
     go_wp2;go_ret;exact ⟨by rw [HD.out];simp;omega,rfl⟩
   · have HD:=Ja (show isD c=false by simp [isD,h2]);go_enter Tryz.func181,Tryz.ntmps181
     go_wp2;go_ret;exact ⟨by rw [HD.out];simp;omega,rfl⟩
 · have HD:=Ja (show isD c=false by simp [isD,h1]);go_enter Tryz.func181,Tryz.ntmps181
   go_wp2;go_ret;exact ⟨by rw [HD.out];rfl,rfl⟩
theorem Jem (R:Nat) (s:ByteArray) (I:Nat) (w:World) (h:RcB w R s I) (hI:I≤s.size) (hs:s.size≤300) :
 Calls Tryz.prog 122 #[.pointer (some ⟨R,0,none⟩)] w fun r w'=>r=.returned (.bool (decide (skB (Jc s) I=s.size)))∧RcB w' R s (skB (Jc s) I:Nat)∧w.grownBy w' (some R):=by
 have HH:=Ja h;clear h;go_enter Tryz.func122,Tryz.ntmps122
 go_wp2;go_loopw [] (fun wr=>∃ j:Nat,I≤j∧j≤s.size∧Hid (RcB wr R s j∧w.grownBy wr (some R)∧∀ k (hk:k<s.size),I≤k→k<j→s[k]=32)) (fun wr=>s.size - rdI wr R)
 case atStart=>exact ⟨I,Nat.le_refl _,hI,Ja ⟨HH.out,Yh _ _,fun k _ h1 h2=>by omega⟩⟩
 case round=>
  obtain ⟨j,h1,h2,HR⟩:=hrel;have c0:=HR.out.1.c0;have c1:=HR.out.1.c1;have f1:=HR.out.1.f 1;by_cases hlt:j<s.size
  · have hlt2:(j:Int)<(s.size:Int):=by omega
    have hj0:(0:Int)≤(j:Int):=by omega
    by_cases h32:s[j]=32
    · have hb:((s[j].toNat:Int) == 32)=true:=by rw [h32];rfl
      have H32:=Ja h32;clear h32;go_wp2_with fail
      go_quiet (fail)
      go_wp2;go_roundw
      case rel=>
       refine ⟨j+1,by omega,by omega,Ja ⟨?_,Jf (Jf HR.out.2.1 (Jv _ _ _)) (JB _ R 1 _),fun k hk g1 g2=>?_⟩⟩
       · have:=(HR.out.1.drewN nq).set1 ((j:Int)+1);rw [show ((j:Int)+1)=((j+1:Nat):Int) from by omega] at this;exact this
       · by_cases e:k=j
         · subst e;exact H32.out
         · exact HR.out.2.2 k hk g1 (by omega)
      case measure=>
       have e1:=X9 HR.out.1;have e2:rdI ((wr.drewN nq).setCell ⟨R,1,none⟩ (.int .i64 ((j:Int)+1))) R=j+1:=by
        have:=(HR.out.1.drewN nq).set1 ((j:Int)+1);rw [show ((j:Int)+1)=((j+1:Nat):Int) from by omega] at this ⊢;exact X9 this
       show s.size - rdI ((wr.drewN nq).setCell ⟨R,1,none⟩ (.int .i64 ((j:Int)+1))) R<s.size - rdI wr R;rw [e1,e2];omega
    · have hb:((s[j].toNat:Int) == 32)=false:=Jek (d:=32) h32;have HSK:=Ja (show skB (Jc s) I=j from Jce h1 h2 (fun k hk g1 g2=>by rw [HR.out.2.2 k hk g1 g2];rfl) (fun _=>beq_eq_false_iff_ne.2 h32));have hjn:¬ j=s.size:=by omega
      have hjb:((j:Int) == (s.size:Int))=false:=by rw [beq_eq_false_iff_ne];omega
      clear h32;go_wp2_with fail
      go_quiet (fail)
      go_wp2;have HG:=Ja (show w.grownBy (wr.drewN nq) (some R) from Jf HR.out.2.1 (Jv _ _ _));have HD:=Ja (HR.out.1.drewN nq);go_quiet (fail)
      go_wp2;go_ret;exact ⟨by rw [HSK.out];simp [hjn],by rw [HSK.out];exact HD.out.drewN _,Jf HG.out (Jv _ _ _)⟩
  · have hje:j=s.size:=by omega
    have hd:decide (j<s.size)=false:=decide_eq_false (by omega);have HSK:=Ja (show skB (Jc s) I=j from Jce h1 h2 (fun k hk g1 g2=>by rw [HR.out.2.2 k hk g1 g2];rfl) (fun h=>by omega));have hjb:((j:Int) == (s.size:Int))=true:=by rw [hje];exact beq_self_eq_true _
    have HJE:=Ja hje;clear hlt hje;go_wp2_with fail
    go_quiet (fail)
    go_wp2;have HG:=Ja (show w.grownBy (wr.drewN nq) (some R) from Jf HR.out.2.1 (Jv _ _ _));have HD:=Ja (HR.out.1.drewN nq);go_quiet (fail)
    go_wp2;go_ret;exact ⟨by rw [HSK.out];simp [HJE.out],by rw [HSK.out];exact HD.out.drewN _,Jf HG.out (Jv _ _ _)⟩
end Go.Proofs.YtcahejkcdcjjgaaGreatDoor
namespace Go.Proofs.YtcahejkcdcjjgaaGreatDoor
open Go.RowKit Go.Shelf
attribute [local go_sem] Oper.semAt_some
def XC (e p:Int):Value:=.iface 77 (.agg #[.int .i64 e,.int .i64 p])
theorem Jdk (v:Value) (e p:Int) (w:World):Calls Tryz.prog 123 #[v,.int .i64 e,.int .i64 p] w fun r w'=>r=.panicked [{ v:=XC e p,recovered:=false }]∧w'=w:=by
 go_enter Tryz.func123,Tryz.ntmps123
 go_wp2;exact ⟨rfl,rfl,rfl⟩
def FdS (w V:World) (R:Nat) (s:ByteArray) (I:Int):Prop:=RcB V R s I∧w.grownBy V (some R)
theorem FdS.below {w V V':World} {R:Nat} {s:ByteArray} {I:Int} (h:FdS w V R s I) (hb:Below V.heap.size V V'):FdS w V' R s I:=⟨h.1.below hb,Jf h.2 (JT hb _)⟩
theorem YR (R:Nat) (s:ByteArray) (I:Nat) (c:UInt8) (w:World) (h:RcB w R s I) (hI:I≤s.size) (hs:s.size≤300) (b:Bool) (hb:b=JK (Jc s) (skB (Jc s) I) c) :
 Calls Tryz.prog 120 #[.pointer (some ⟨R,0,none⟩),.int .u8 (c.toNat:Int)] w fun r w'=>r=.returned (.bool b)∧RcB w' R s ((skB (Jc s) I+(if b then 1 else 0):Nat):Int)∧w.grownBy w' (some R):=by
 have hmx:Tryz.prog.follows .mixedOrders=true:=by kernel_rfl
 have HEN:=Ja (fun (V:World) (hh:RcB V R s I)=>Jem R s I V hh hI hs);obtain ⟨j,hj⟩:∃ j,skB (Jc s) I=j:=⟨_,rfl⟩;have hjs:j≤s.size:=by rw [←hj,←Jg];exact J8 (by rw [Jg];exact hI)
 rw [hj] at HEN hb ⊢;have HH:=Ja h;clear h hj;by_cases hje:j=s.size
 · obtain rfl:b=false:=by rw [hb];exact Jji (by omega)
   rw [show decide (j=s.size)=true from decide_eq_true hje] at HEN;clear hb hje;go_enter Tryz.func120,Tryz.ntmps120
   go_wp2_with fail
   have ST0:FdS w w.drew R s I:=⟨HH.out,rfl,rfl,rfl,Nat.le_refl _,fun _ _ _=>rfl⟩;refine Jq hmx [[],[0],[1,1],[2],[3,2],[4,2],[5,2],[2],[7,2],[8,2],[9,2],[6,10,2],[2],[11,12,2],[2,13]] (by kernel_rfl) (by decide)
    (fun D act V=>∃ (t5x t6x t7x t8x t9x t10x t11x t12x t13x t14x t15x t16x t17x t18x t19x:Value),act={ tmps:=#[.pointer (some ⟨R,0,none⟩),Value.int IntKind.u8 ↑c.toNat,undef,undef,Value.bool false,t5x,t6x,t7x,t8x,t9x,t10x,t11x,t12x,t13x,t14x,t15x,t16x,t17x,t18x,t19x,undef,undef,undef,undef,undef,undef,undef],defers:=[] }∧Hid ((D 0=true→t5x=.pointer (some ⟨R,0,none⟩))∧(D 1=true→t6x=.bool true)∧(D 2=true→t7x=.bool true)∧(D 3=true→True)∧(D 4=true→True)∧(D 5=true→True)∧(D 6=true→True)∧(D 7=true→True)∧(D 8=true→True)∧(D 9=true→True)∧(D 10=true→True)∧(D 11=true→True)∧(D 12=true→True)∧(D 13=true→True)∧(D 14=true→t19x=.bool true))∧Hid ((D 1=false→FdS w V R s I)∧(D 1=true→FdS w V R s (j:Int))))
    ⟨_,_,_,_,_,_,_,_,_,_,_,_,_,_,_,rfl,Ja ⟨by simp,by simp,by simp,by simp,by simp,by simp,by simp,by simp,by simp,by simp,by simp,by simp,by simp,by simp,by simp⟩,Ja ⟨fun _=>ST0,by simp⟩⟩ ?step1 ?fin1
   case step1=>
    rintro D act V i ds hcl hi hds hDi ⟨t5x,t6x,t7x,t8x,t9x,t10x,t11x,t12x,t13x,t14x,t15x,t16x,t17x,t18x,t19x,rfl,GG,SS0⟩;have hi6:i<15:=(List.getElem?_eq_some_iff.1 hi).1;obtain rfl | rfl | rfl | rfl | rfl | rfl | rfl | rfl | rfl | rfl | rfl | rfl | rfl | rfl | rfl:i=0∨i=1∨i=2∨i=3∨i=4∨i=5∨i=6∨i=7∨i=8∨i=9∨i=10∨i=11∨i=12∨i=13∨i=14:=by omega
    all_goals
     simp only [List.getElem?_cons_zero,List.getElem?_cons_succ,Option.some.injEq] at hi;subst hi
    · have hf0:D 1=false:=nyt hcl rfl (by simp) hDi;have hS0:=SS0.out.1 hf0;clear hds;refine Jd rfl rfl (fun K hK=>?_);go_simp;obtain ⟨_,G1,G2,G3,G4,G5,G6,G7,G8,G9,G10,G11,G12,G13,G14⟩:=GG.out;exact hK _ _ ⟨_,_,_,_,_,_,_,_,_,_,_,_,_,_,_,rfl,Ja ⟨fun _=>rfl,G1,G2,G3,G4,G5,G6,G7,G8,G9,G10,G11,G12,G13,G14⟩,Ja ⟨SS0.out.1,SS0.out.2⟩⟩
    · have hS0:=SS0.out.1 hDi;obtain rfl:=GG.out.1 (hds 0 (by simp));clear hds;have HC:=Ja (HEN.out V hS0.1);refine Jd rfl rfl (fun K hK=>?_);go_simp;go_wp2_with (go_at_call 122;refine HC.out.mono ?_;rintro e w5 ⟨rfl,hr5,hg5⟩)
      obtain ⟨_,_,G2,G3,G4,G5,G6,G7,G8,G9,G10,G11,G12,G13,G14⟩:=GG.out;exact ⟨_,_,_,_,_,_,_,_,_,_,_,_,_,_,_,rfl,Ja ⟨fun _=>rfl,fun _=>rfl,G2,G3,G4,G5,G6,G7,G8,G9,G10,G11,G12,G13,G14⟩,Ja ⟨fun h=>by simp at h,fun _=>⟨hr5,Jf hS0.2 hg5⟩⟩⟩
    · obtain rfl:=GG.out.2.1 (hds 1 (by simp));clear hds;refine Jd rfl rfl (fun K hK=>?_);go_simp;obtain ⟨G0,_,_,G3,G4,G5,G6,G7,G8,G9,G10,G11,G12,G13,G14⟩:=GG.out;exact hK _ _ ⟨_,_,_,_,_,_,_,_,_,_,_,_,_,_,_,rfl,Ja ⟨G0,fun _=>rfl,fun _=>rfl,G3,G4,G5,G6,G7,G8,G9,G10,G11,G12,G13,G14⟩,Ja ⟨SS0.out.1,SS0.out.2⟩⟩
    · obtain rfl:=GG.out.2.2.1 (hds 2 (by simp));clear hds;refine JM rfl rfl ?_;obtain ⟨G0,G1,_,_,G4,G5,G6,G7,G8,G9,G10,G11,G12,G13,G14⟩:=GG.out;exact ⟨_,_,_,_,_,_,_,_,_,_,_,_,_,_,_,rfl,Ja ⟨G0,G1,fun _=>rfl,fun _=>trivial,G4,G5,G6,G7,G8,G9,G10,G11,G12,G13,G14⟩,Ja ⟨SS0.out.1,SS0.out.2⟩⟩
    · obtain rfl:=GG.out.2.2.1 (hds 2 (by simp));clear hds;refine JM rfl rfl ?_;obtain ⟨G0,G1,_,G3,_,G5,G6,G7,G8,G9,G10,G11,G12,G13,G14⟩:=GG.out;exact ⟨_,_,_,_,_,_,_,_,_,_,_,_,_,_,_,rfl,Ja ⟨G0,G1,fun _=>rfl,G3,fun _=>trivial,G5,G6,G7,G8,G9,G10,G11,G12,G13,G14⟩,Ja ⟨SS0.out.1,SS0.out.2⟩⟩
    · obtain rfl:=GG.out.2.2.1 (hds 2 (by simp));clear hds;refine JM rfl rfl ?_;obtain ⟨G0,G1,_,G3,G4,_,G6,G7,G8,G9,G10,G11,G12,G13,G14⟩:=GG.out;exact ⟨_,_,_,_,_,_,_,_,_,_,_,_,_,_,_,rfl,Ja ⟨G0,G1,fun _=>rfl,G3,G4,fun _=>trivial,G6,G7,G8,G9,G10,G11,G12,G13,G14⟩,Ja ⟨SS0.out.1,SS0.out.2⟩⟩
    · obtain rfl:=GG.out.2.2.1 (hds 2 (by simp));clear hds;refine JM rfl rfl ?_;obtain ⟨G0,G1,_,G3,G4,G5,_,G7,G8,G9,G10,G11,G12,G13,G14⟩:=GG.out;exact ⟨_,_,_,_,_,_,_,_,_,_,_,_,_,_,_,rfl,Ja ⟨G0,G1,fun _=>rfl,G3,G4,G5,fun _=>trivial,G7,G8,G9,G10,G11,G12,G13,G14⟩,Ja ⟨SS0.out.1,SS0.out.2⟩⟩
    · obtain rfl:=GG.out.2.2.1 (hds 2 (by simp));clear hds;refine JM rfl rfl ?_;obtain ⟨G0,G1,_,G3,G4,G5,G6,_,G8,G9,G10,G11,G12,G13,G14⟩:=GG.out;exact ⟨_,_,_,_,_,_,_,_,_,_,_,_,_,_,_,rfl,Ja ⟨G0,G1,fun _=>rfl,G3,G4,G5,G6,fun _=>trivial,G8,G9,G10,G11,G12,G13,G14⟩,Ja ⟨SS0.out.1,SS0.out.2⟩⟩
    · obtain rfl:=GG.out.2.2.1 (hds 2 (by simp));clear hds;refine JM rfl rfl ?_;obtain ⟨G0,G1,_,G3,G4,G5,G6,G7,_,G9,G10,G11,G12,G13,G14⟩:=GG.out;exact ⟨_,_,_,_,_,_,_,_,_,_,_,_,_,_,_,rfl,Ja ⟨G0,G1,fun _=>rfl,G3,G4,G5,G6,G7,fun _=>trivial,G9,G10,G11,G12,G13,G14⟩,Ja ⟨SS0.out.1,SS0.out.2⟩⟩
    · obtain rfl:=GG.out.2.2.1 (hds 2 (by simp));clear hds;refine JM rfl rfl ?_;obtain ⟨G0,G1,_,G3,G4,G5,G6,G7,G8,_,G10,G11,G12,G13,G14⟩:=GG.out;exact ⟨_,_,_,_,_,_,_,_,_,_,_,_,_,_,_,rfl,Ja ⟨G0,G1,fun _=>rfl,G3,G4,G5,G6,G7,G8,fun _=>trivial,G10,G11,G12,G13,G14⟩,Ja ⟨SS0.out.1,SS0.out.2⟩⟩
    · obtain rfl:=GG.out.2.2.1 (hds 2 (by simp));clear hds;refine JM rfl rfl ?_;obtain ⟨G0,G1,_,G3,G4,G5,G6,G7,G8,G9,_,G11,G12,G13,G14⟩:=GG.out;exact ⟨_,_,_,_,_,_,_,_,_,_,_,_,_,_,_,rfl,Ja ⟨G0,G1,fun _=>rfl,G3,G4,G5,G6,G7,G8,G9,fun _=>trivial,G11,G12,G13,G14⟩,Ja ⟨SS0.out.1,SS0.out.2⟩⟩
    · obtain rfl:=GG.out.2.2.1 (hds 2 (by simp));clear hds;refine JM rfl rfl ?_;obtain ⟨G0,G1,_,G3,G4,G5,G6,G7,G8,G9,G10,_,G12,G13,G14⟩:=GG.out;exact ⟨_,_,_,_,_,_,_,_,_,_,_,_,_,_,_,rfl,Ja ⟨G0,G1,fun _=>rfl,G3,G4,G5,G6,G7,G8,G9,G10,fun _=>trivial,G12,G13,G14⟩,Ja ⟨SS0.out.1,SS0.out.2⟩⟩
    · obtain rfl:=GG.out.2.2.1 (hds 2 (by simp));clear hds;refine JM rfl rfl ?_;obtain ⟨G0,G1,_,G3,G4,G5,G6,G7,G8,G9,G10,G11,_,G13,G14⟩:=GG.out;exact ⟨_,_,_,_,_,_,_,_,_,_,_,_,_,_,_,rfl,Ja ⟨G0,G1,fun _=>rfl,G3,G4,G5,G6,G7,G8,G9,G10,G11,fun _=>trivial,G13,G14⟩,Ja ⟨SS0.out.1,SS0.out.2⟩⟩
    · obtain rfl:=GG.out.2.2.1 (hds 2 (by simp));clear hds;refine JM rfl rfl ?_;obtain ⟨G0,G1,_,G3,G4,G5,G6,G7,G8,G9,G10,G11,G12,_,G14⟩:=GG.out;exact ⟨_,_,_,_,_,_,_,_,_,_,_,_,_,_,_,rfl,Ja ⟨G0,G1,fun _=>rfl,G3,G4,G5,G6,G7,G8,G9,G10,G11,G12,fun _=>trivial,G14⟩,Ja ⟨SS0.out.1,SS0.out.2⟩⟩
    · obtain rfl:=GG.out.2.2.1 (hds 2 (by simp));clear hds;refine Jd rfl rfl (fun K hK=>?_);go_simp;obtain ⟨G0,G1,_,G3,G4,G5,G6,G7,G8,G9,G10,G11,G12,G13,_⟩:=GG.out;exact hK _ _ ⟨_,_,_,_,_,_,_,_,_,_,_,_,_,_,_,rfl,Ja ⟨G0,G1,fun _=>rfl,G3,G4,G5,G6,G7,G8,G9,G10,G11,G12,G13,fun _=>rfl⟩,Ja ⟨SS0.out.1,SS0.out.2⟩⟩
   case fin1=>
    rintro D act V hDD ⟨t5x,t6x,t7x,t8x,t9x,t10x,t11x,t12x,t13x,t14x,t15x,t16x,t17x,t18x,t19x,rfl,GG,SS0⟩;have HF:=Ja (SS0.out.2 (hDD 1 (by decide)));obtain rfl:=GG.out.2.2.2.2.2.2.2.2.2.2.2.2.2.2 (hDD 14 (by decide));clear GG SS0 hDD;go_wp2_with fail
    go_ret;exact ⟨rfl,HF.out.1,HF.out.2⟩
 · have hlt:j<s.size:=by omega
   have hlt2:(j:Int)<(s.size:Int):=by omega
   rw [show decide (j=s.size)=false from decide_eq_false hje] at HEN;rw [Jft hlt] at hb;obtain ⟨nb,hnb⟩:∃ x,((s[j].toNat:Int) != (c.toNat:Int))=x:=⟨_,rfl⟩;have HNB:=Ja (show nb=!b by
    rw [←hnb,hb];by_cases e:s[j]=c
    · rw [e];simp
    · rw [show (s[j] == c)=false from beq_eq_false_iff_ne.2 e,bne,Jek e])
   have HNE:=Ja hnb;clear hb hje hnb;go_enter Tryz.func120,Tryz.ntmps120
   go_wp2_with fail
   have ST0:FdS w w.drew R s I:=⟨HH.out,rfl,rfl,rfl,Nat.le_refl _,fun _ _ _=>rfl⟩;refine Jq hmx [[],[0],[1,1],[2],[3,2],[4,2],[5,2],[2],[7,2],[8,2],[9,2],[6,10,2],[2],[11,12,2],[2,13]] (by kernel_rfl) (by decide)
    (fun D act V=>∃ (t5x t6x t7x t8x t9x t10x t11x t12x t13x t14x t15x t16x t17x t18x t19x:Value),act={ tmps:=#[.pointer (some ⟨R,0,none⟩),Value.int IntKind.u8 ↑c.toNat,undef,undef,Value.bool false,t5x,t6x,t7x,t8x,t9x,t10x,t11x,t12x,t13x,t14x,t15x,t16x,t17x,t18x,t19x,undef,undef,undef,undef,undef,undef,undef],defers:=[] }∧Hid ((D 0=true→t5x=.pointer (some ⟨R,0,none⟩))∧(D 1=true→t6x=.bool false)∧(D 2=true→t7x=.bool false)∧(D 3=true→t8x=.pointer (some ⟨R,0,none⟩))∧(D 4=true→t9x=.pointer (some ⟨R,0,none⟩))∧(D 5=true→t10x=.pointer (some ⟨R,0,none⟩))∧(D 6=true→t11x=.string s)∧(D 7=true→t12x=.pointer (some ⟨R,0,none⟩))∧(D 8=true→t13x=.pointer (some ⟨R,0,none⟩))∧(D 9=true→t14x=.pointer (some ⟨R,1,none⟩))∧(D 10=true→t15x=.int .i64 (j:Int))∧(D 11=true→t16x=.int .u8 (s[j].toNat:Int))∧(D 12=true→t17x=.int .u8 (c.toNat:Int))∧(D 13=true→t18x=.bool nb)∧(D 14=true→t19x=.bool nb))∧Hid ((D 1=false→FdS w V R s I)∧(D 1=true→FdS w V R s (j:Int))))
    ⟨_,_,_,_,_,_,_,_,_,_,_,_,_,_,_,rfl,Ja ⟨by simp,by simp,by simp,by simp,by simp,by simp,by simp,by simp,by simp,by simp,by simp,by simp,by simp,by simp,by simp⟩,Ja ⟨fun _=>ST0,by simp⟩⟩ ?step2 ?fin2
   case step2=>
    rintro D act V i ds hcl hi hds hDi ⟨t5x,t6x,t7x,t8x,t9x,t10x,t11x,t12x,t13x,t14x,t15x,t16x,t17x,t18x,t19x,rfl,GG,SS0⟩;have hi6:i<15:=(List.getElem?_eq_some_iff.1 hi).1;obtain rfl | rfl | rfl | rfl | rfl | rfl | rfl | rfl | rfl | rfl | rfl | rfl | rfl | rfl | rfl:i=0∨i=1∨i=2∨i=3∨i=4∨i=5∨i=6∨i=7∨i=8∨i=9∨i=10∨i=11∨i=12∨i=13∨i=14:=by omega
    all_goals
     simp only [List.getElem?_cons_zero,List.getElem?_cons_succ,Option.some.injEq] at hi;subst hi
    · have hf0:D 1=false:=nyt hcl rfl (by simp) hDi;have hS0:=SS0.out.1 hf0;clear hds;refine Jd rfl rfl (fun K hK=>?_);go_simp;obtain ⟨_,G1,G2,G3,G4,G5,G6,G7,G8,G9,G10,G11,G12,G13,G14⟩:=GG.out;exact hK _ _ ⟨_,_,_,_,_,_,_,_,_,_,_,_,_,_,_,rfl,Ja ⟨fun _=>rfl,G1,G2,G3,G4,G5,G6,G7,G8,G9,G10,G11,G12,G13,G14⟩,Ja ⟨SS0.out.1,SS0.out.2⟩⟩
    · have hS0:=SS0.out.1 hDi;obtain rfl:=GG.out.1 (hds 0 (by simp));clear hds;have HC:=Ja (HEN.out V hS0.1);refine Jd rfl rfl (fun K hK=>?_);go_simp;go_wp2_with (go_at_call 122;refine HC.out.mono ?_;rintro e w5 ⟨rfl,hr5,hg5⟩)
      obtain ⟨_,_,G2,G3,G4,G5,G6,G7,G8,G9,G10,G11,G12,G13,G14⟩:=GG.out;exact ⟨_,_,_,_,_,_,_,_,_,_,_,_,_,_,_,rfl,Ja ⟨fun _=>rfl,fun _=>rfl,G2,G3,G4,G5,G6,G7,G8,G9,G10,G11,G12,G13,G14⟩,Ja ⟨fun h=>by simp at h,fun _=>⟨hr5,Jf hS0.2 hg5⟩⟩⟩
    · obtain rfl:=GG.out.2.1 (hds 1 (by simp));clear hds;refine Jd rfl rfl (fun K hK=>?_);go_simp;obtain ⟨G0,_,_,G3,G4,G5,G6,G7,G8,G9,G10,G11,G12,G13,G14⟩:=GG.out;exact hK _ _ ⟨_,_,_,_,_,_,_,_,_,_,_,_,_,_,_,rfl,Ja ⟨G0,fun _=>rfl,fun _=>rfl,G3,G4,G5,G6,G7,G8,G9,G10,G11,G12,G13,G14⟩,Ja ⟨SS0.out.1,SS0.out.2⟩⟩
    · obtain rfl:=GG.out.2.2.1 (hds 2 (by simp));clear hds;refine JF rfl rfl (fun K hK=>?_);go_simp;obtain ⟨G0,G1,_,_,G4,G5,G6,G7,G8,G9,G10,G11,G12,G13,G14⟩:=GG.out;exact hK _ _ ⟨_,_,_,_,_,_,_,_,_,_,_,_,_,_,_,rfl,Ja ⟨G0,G1,fun _=>rfl,fun _=>rfl,G4,G5,G6,G7,G8,G9,G10,G11,G12,G13,G14⟩,Ja ⟨SS0.out.1,SS0.out.2⟩⟩
    · obtain rfl:=GG.out.2.2.2.1 (hds 3 (by simp));obtain rfl:=GG.out.2.2.1 (hds 2 (by simp));clear hds;refine JF rfl rfl (fun K hK=>?_);go_simp;obtain ⟨G0,G1,_,_,_,G5,G6,G7,G8,G9,G10,G11,G12,G13,G14⟩:=GG.out;exact hK _ _ ⟨_,_,_,_,_,_,_,_,_,_,_,_,_,_,_,rfl,Ja ⟨G0,G1,fun _=>rfl,fun _=>rfl,fun _=>rfl,G5,G6,G7,G8,G9,G10,G11,G12,G13,G14⟩,Ja ⟨SS0.out.1,SS0.out.2⟩⟩
    · obtain rfl:=GG.out.2.2.2.2.1 (hds 4 (by simp));obtain rfl:=GG.out.2.2.1 (hds 2 (by simp));clear hds;refine JF rfl rfl (fun K hK=>?_);go_simp;obtain ⟨G0,G1,_,G3,_,_,G6,G7,G8,G9,G10,G11,G12,G13,G14⟩:=GG.out;exact hK _ _ ⟨_,_,_,_,_,_,_,_,_,_,_,_,_,_,_,rfl,Ja ⟨G0,G1,fun _=>rfl,G3,fun _=>rfl,fun _=>rfl,G6,G7,G8,G9,G10,G11,G12,G13,G14⟩,Ja ⟨SS0.out.1,SS0.out.2⟩⟩
    · obtain rfl:=GG.out.2.2.2.2.2.1 (hds 5 (by simp));obtain rfl:=GG.out.2.2.1 (hds 2 (by simp));have hD1:D 1=true:=hcl 2 _ rfl (hds 2 (by simp)) 1 (by simp);have c0:=(SS0.out.2 hD1).1.c0;clear hds;refine JF rfl rfl (fun K hK=>?_);go_simp;obtain ⟨G0,G1,_,G3,G4,_,_,G7,G8,G9,G10,G11,G12,G13,G14⟩:=GG.out;exact hK _ _ ⟨_,_,_,_,_,_,_,_,_,_,_,_,_,_,_,rfl,Ja ⟨G0,G1,fun _=>rfl,G3,G4,fun _=>rfl,fun _=>rfl,G7,G8,G9,G10,G11,G12,G13,G14⟩,Ja ⟨SS0.out.1,SS0.out.2⟩⟩
    · obtain rfl:=GG.out.2.2.1 (hds 2 (by simp));clear hds;refine JF rfl rfl (fun K hK=>?_);go_simp;obtain ⟨G0,G1,_,G3,G4,G5,G6,_,G8,G9,G10,G11,G12,G13,G14⟩:=GG.out;exact hK _ _ ⟨_,_,_,_,_,_,_,_,_,_,_,_,_,_,_,rfl,Ja ⟨G0,G1,fun _=>rfl,G3,G4,G5,G6,fun _=>rfl,G8,G9,G10,G11,G12,G13,G14⟩,Ja ⟨SS0.out.1,SS0.out.2⟩⟩
    · obtain rfl:=GG.out.2.2.2.2.2.2.2.1 (hds 7 (by simp));obtain rfl:=GG.out.2.2.1 (hds 2 (by simp));clear hds;refine JF rfl rfl (fun K hK=>?_);go_simp;obtain ⟨G0,G1,_,G3,G4,G5,G6,_,_,G9,G10,G11,G12,G13,G14⟩:=GG.out;exact hK _ _ ⟨_,_,_,_,_,_,_,_,_,_,_,_,_,_,_,rfl,Ja ⟨G0,G1,fun _=>rfl,G3,G4,G5,G6,fun _=>rfl,fun _=>rfl,G9,G10,G11,G12,G13,G14⟩,Ja ⟨SS0.out.1,SS0.out.2⟩⟩
    · obtain rfl:=GG.out.2.2.2.2.2.2.2.2.1 (hds 8 (by simp));obtain rfl:=GG.out.2.2.1 (hds 2 (by simp));clear hds;refine JF rfl rfl (fun K hK=>?_);go_simp;obtain ⟨G0,G1,_,G3,G4,G5,G6,G7,_,_,G10,G11,G12,G13,G14⟩:=GG.out;exact hK _ _ ⟨_,_,_,_,_,_,_,_,_,_,_,_,_,_,_,rfl,Ja ⟨G0,G1,fun _=>rfl,G3,G4,G5,G6,G7,fun _=>rfl,fun _=>rfl,G10,G11,G12,G13,G14⟩,Ja ⟨SS0.out.1,SS0.out.2⟩⟩
    · obtain rfl:=GG.out.2.2.2.2.2.2.2.2.2.1 (hds 9 (by simp));obtain rfl:=GG.out.2.2.1 (hds 2 (by simp));have hD1:D 1=true:=hcl 2 _ rfl (hds 2 (by simp)) 1 (by simp);have c1:=(SS0.out.2 hD1).1.c1;clear hds;refine JF rfl rfl (fun K hK=>?_);go_simp;obtain ⟨G0,G1,_,G3,G4,G5,G6,G7,G8,_,_,G11,G12,G13,G14⟩:=GG.out;exact hK _ _ ⟨_,_,_,_,_,_,_,_,_,_,_,_,_,_,_,rfl,Ja ⟨G0,G1,fun _=>rfl,G3,G4,G5,G6,G7,G8,fun _=>rfl,fun _=>rfl,G11,G12,G13,G14⟩,Ja ⟨SS0.out.1,SS0.out.2⟩⟩
    · obtain rfl:=GG.out.2.2.2.2.2.2.1 (hds 6 (by simp));obtain rfl:=GG.out.2.2.2.2.2.2.2.2.2.2.1 (hds 10 (by simp));obtain rfl:=GG.out.2.2.1 (hds 2 (by simp));clear hds;refine JF rfl rfl (fun K hK=>?_);go_simp;obtain ⟨G0,G1,_,G3,G4,G5,_,G7,G8,G9,_,_,G12,G13,G14⟩:=GG.out;exact hK _ _ ⟨_,_,_,_,_,_,_,_,_,_,_,_,_,_,_,rfl,Ja ⟨G0,G1,fun _=>rfl,G3,G4,G5,fun _=>rfl,G7,G8,G9,fun _=>rfl,fun _=>rfl,G12,G13,G14⟩,Ja ⟨SS0.out.1,SS0.out.2⟩⟩
    · obtain rfl:=GG.out.2.2.1 (hds 2 (by simp));clear hds;refine JF rfl rfl (fun K hK=>?_);go_simp;obtain ⟨G0,G1,_,G3,G4,G5,G6,G7,G8,G9,G10,G11,_,G13,G14⟩:=GG.out;exact hK _ _ ⟨_,_,_,_,_,_,_,_,_,_,_,_,_,_,_,rfl,Ja ⟨G0,G1,fun _=>rfl,G3,G4,G5,G6,G7,G8,G9,G10,G11,fun _=>rfl,G13,G14⟩,Ja ⟨SS0.out.1,SS0.out.2⟩⟩
    · obtain rfl:=GG.out.2.2.2.2.2.2.2.2.2.2.2.1 (hds 11 (by simp));obtain rfl:=GG.out.2.2.2.2.2.2.2.2.2.2.2.2.1 (hds 12 (by simp));obtain rfl:=GG.out.2.2.1 (hds 2 (by simp));have hne:=HNE.out;clear hds;refine JF rfl rfl (fun K hK=>?_);go_simp;obtain ⟨G0,G1,_,G3,G4,G5,G6,G7,G8,G9,G10,_,_,_,G14⟩:=GG.out;exact hK _ _ ⟨_,_,_,_,_,_,_,_,_,_,_,_,_,_,_,rfl,Ja ⟨G0,G1,fun _=>rfl,G3,G4,G5,G6,G7,G8,G9,G10,fun _=>rfl,fun _=>rfl,fun _=>rfl,G14⟩,Ja ⟨SS0.out.1,SS0.out.2⟩⟩
    · obtain rfl:=GG.out.2.2.1 (hds 2 (by simp));obtain rfl:=GG.out.2.2.2.2.2.2.2.2.2.2.2.2.2.1 (hds 13 (by simp));clear hds;refine Jd rfl rfl (fun K hK=>?_);go_simp;obtain ⟨G0,G1,_,G3,G4,G5,G6,G7,G8,G9,G10,G11,G12,_,_⟩:=GG.out;exact hK _ _ ⟨_,_,_,_,_,_,_,_,_,_,_,_,_,_,_,rfl,Ja ⟨G0,G1,fun _=>rfl,G3,G4,G5,G6,G7,G8,G9,G10,G11,G12,fun _=>rfl,fun _=>rfl⟩,Ja ⟨SS0.out.1,SS0.out.2⟩⟩
   case fin2=>
    rintro D act V hDD ⟨t5x,t6x,t7x,t8x,t9x,t10x,t11x,t12x,t13x,t14x,t15x,t16x,t17x,t18x,t19x,rfl,GG,SS0⟩;have HF:=Ja (SS0.out.2 (hDD 1 (by decide)));obtain rfl:=GG.out.2.2.2.2.2.2.2.2.2.2.2.2.2.2 (hDD 14 (by decide));clear GG SS0 hDD;have c1:=HF.out.1.c1;have f1:=HF.out.1.f 1;cases b with
    | true=>
     obtain rfl:nb=false:=HNB.out;go_wp2_with fail
     go_ret;exact ⟨rfl,HF.out.1.set1 _,Jf HF.out.2 (JB _ R 1 _)⟩
    | false=>
     obtain rfl:nb=true:=HNB.out;go_wp2_with fail
     go_ret;exact ⟨rfl,HF.out.1,HF.out.2⟩
end Go.Proofs.YtcahejkcdcjjgaaGreatDoor
