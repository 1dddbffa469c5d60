import Derived.Test.YtcahejkcdcjjgaaGreatDoorK39
import Derived.Test.YtcahejkcdcjjgaaGreatDoorK09
import Derived.Test.YtcahejkcdcjjgaaGreatDoorK38
import Derived.Test.YtcahejkcdcjjgaaGreatDoorK32
import Derived.Test.YtcahejkcdcjjgaaGreatDoorK25
import Derived.Test.YtcahejkcdcjjgaaGreatDoorK34
import Derived.Test.YtcahejkcdcjjgaaGreatDoorK29
import Derived.Test.YtcahejkcdcjjgaaGreatDoorK20
set_option maxRecDepth 100000
set_option maxHeartbeats 16000000
namespace Go.Proofs.YtcahejkcdcjjgaaGreatDoor
open Go.RowKit Go.Shelf
attribute [local go_sem] Oper.semAt_some
def fnJ (b:Bool):Value:=if b then .func (.func 43) #[] #[] else .func (.func 40) #[] #[]
theorem Jlm (R:Nat) (s:ByteArray) (w:World) (h:RcB w R s 0) (hs:s.size≤300) :
 Calls Tryz.prog 90 #[.pointer (some ⟨R,0,none⟩)] w fun r w'=>Js3 w R s r w':=by
 have hmx:Tryz.prog.follows .mixedOrders=true:=by kernel_rfl
 have hmk:(Instr.makeSlice 23 (.int .i64 9) (.int .i64 9)).run Tryz.prog (w.alloc (.cells #[.slice none 0 0] 25))=.ok (.slice (some ⟨(w.alloc (.cells #[.slice none 0 0] 25)).heap.size,0,none⟩) 9 9) ((w.alloc (.cells #[.slice none 0 0] 25)).alloc (.cells (XI 9) 38)):=Jgj 9 (by omega) _;have hP0:=PoB.new h 9;obtain ⟨W0,hW0⟩:∃ W0,(w.alloc (.cells #[.slice none 0 0] 25)).alloc (.cells (XI 9) 38)=W0:=⟨_,rfl⟩;rw [hW0,World.size_alloc] at hmk;rw [hW0] at hP0;obtain ⟨Q,hQ⟩:∃ Q,w.heap.size=Q:=⟨_,rfl⟩;obtain ⟨b,hb⟩:∃ b,w.heap.size+1=b:=⟨_,rfl⟩;rw [hb] at hmk;rw [hb,hQ] at hP0;have HQ:=Ja hQ;have HP0:=Ja hP0;obtain ⟨b0,hb0⟩:∃ x,x=YE (Je s) (skB (Je s) 0) 45:=⟨_,rfl⟩;have HFD:=Ja (YG R s 0 45 W0 hP0.1 (by omega) hs b0 hb0);have HB0:=Ja hb0;have HF:=Ja (fun (e q:Int) (V:World)=>Jc1 (.pointer (some ⟨R,0,none⟩)) e q V);clear h hW0 hQ hb hP0 hb0;go_enter Tryz.func90,Tryz.ntmps90
 go_upto_region 3 with fail
 rw [HQ.out];clear hmk;cases b0 with
 | true=>
  go_wp2_with (go_at_call 120;refine HFD.out.mono ?_;clear HFD;rintro e w1 ⟨rfl,hr1,hg1⟩;have HP1:=Ja (HP0.out.rc hr1 hg1);clear hr1 hg1)
  go_loopw [4,5,6] (fun jv _ _ wr=>∃ (j:Bool) (I f m:Nat) (S:List Rat),jv=fnJ j∧I≤s.size∧Hid (PoB w wr R Q b s (I:Int) S)∧Hid (XL S m)∧Hid (m≤I∧s.size - I<f∧Jaw (Je s) f j I S=Jaq (Je s))) (fun _ _ _ wr=>s.size - rdI wr R)
  case atStart=>
   have hsk:skB (Je s) 0≤s.size:=by rw [←Jm];exact Xs (by omega)
   refine ⟨true,skB (Je s) 0+(if true=true then 1 else 0),s.size+1,0,List.replicate 9 0,rfl,?_,HP1,Ja XL.start,Ja ⟨by omega,by omega,?_⟩⟩
   · first
      | simpa using hsk
      | (have h2:=Yq HB0.out.symm;rw [Jm] at h2;simp;omega)
   · unfold Jaq;rw [←HB0.out,Jm];rfl
  case round=>
   clear HP1 HB0 HP0;obtain ⟨j,I,f,m,S,rfl,hI,HP,HS,HT⟩:=hrel;have HTM:=Ja (Jlk R s I wr HP.out.1 hI hs);obtain ⟨f,rfl⟩:∃ f',f=f'+1:=⟨f - 1,by have:=HT.out.2.1;omega⟩;cases ht:Yc (Je s) I with
   | bad e5 q5=>
    have HTB:=Ja ht;have HTT:=Ja (show Jaq (Je s)=.bad e5 q5 by rw [←HT.out.2.2];exact Ji5 ht);clear ht;go_wp2_with (go_at_call 121;refine HTM.out.mono ?_;clear HTM;rintro e w1 ⟨hg1,hb1,_⟩;obtain rfl:=hb1 _ _ HTB.out;have HG1:=Ja (Jf HP.out.2.2.2.1 hg1);clear hg1 hb1)
    refine ⟨rfl,HG1.out,fun e q he=>?_,fun S' k he=>?_⟩
    · rw [HTT.out] at he;cases he;rfl
    · rw [HTT.out] at he;cases he
   | ok a5 k5=>
    obtain ⟨c,n⟩:=a5;have hlt:=Jhr (by rw [Jm];exact hI) ht;rw [Jm] at hlt;have HLT:=Ja hlt;have HFR:=Ja (Jfg (by rw [Jm];exact hI) ht);have HSM:=Ja (Jlj (f:=f) (b:=j) (S:=S) ht);have HTO:=Ja ht;have hn9:n<9:=by omega
    have hn9':(n:Int)<9:=by omega
    have HSL:=Ja (show n<S.length by rw [HS.out.1];omega);have HQS:=Ja (show Sq (cf S n) from Sq.of (HS.out.2 n) (by have:=HT.out.1;omega));have HQC:=Ja (show Sq c from Sq.of HFR.out.sm (by omega));have HS1:=Ja (HS.out.next HFR.out hlt.2.2 j);obtain ⟨S',hS'⟩:∃ S',S.set n (if j then cf S n - c else cf S n+c)=S':=⟨_,rfl⟩;rw [hS'] at HS1 HSM;have HSE:=Ja hS';have HTS:=Ja (HSM.out.symm.trans HT.out.2.2);have hk5:k5≤s.size:=hlt.2.1;obtain ⟨J,hJ⟩:∃ J,skB (Je s) k5=J:=⟨_,rfl⟩;rw [hJ] at HTS;have HJ:=Ja hJ;have hJs:J≤s.size:=by rw [←hJ,←Jm];exact Xs (by rw [Jm];exact hk5)
    have HJJ:=Ja (show skB (Je s) J=J by rw [←hJ];exact Jbf _ _);have HJ5:=Ja (show k5≤J by rw [←hJ];exact Jc9 _ _);clear ht hlt hS' hJ HSM;go_upto_region 6 with (go_at_call 121;refine HTM.out.mono ?_;clear HTM;rintro e w1 ⟨hg1,_,hb1⟩;obtain ⟨u1,rfl,hu1,hr1⟩:=hb1 _ _ _ HTO.out;obtain ⟨s9,a9,l9,c9,t9,b9,k9,d9,rfl⟩:=hu1.form;have HU:=Ja hu1;have HP1:=Ja (HP.out.rc hr1 hg1);clear hg1 hb1 hu1 hr1)
    have hPX:=PoX.new HP1.out HU.out;obtain ⟨W1,hW1⟩:∃ W,w1.alloc (.cells #[.bool s9,.slice a9 l9 c9,.bool t9,.slice b9 k9 d9] 38)=W:=⟨_,rfl⟩;obtain ⟨C,hC⟩:∃ C,w1.heap.size=C:=⟨_,rfl⟩;rw [hW1,hC] at hPX;rw [hW1,hC];have HRI:=Ja (X1 HP.out.1);clear hW1 hC HU HP1 HP;have ST0:=hPX.below ((Below.refl _ W1).drew);clear hPX;go_cut [] (fun w'=>Hid (PoB w w' R Q b s (k5:Int) S'))
    case first=>
     cases j with
     | true=>
      have HSF:=Ja (show S.set n (cf S n - c)=S' from HSE.out);unfold fnJ;simp only [if_true];refine Jq hmx [[],[],[],[],[],[3,4],[5],[],[2,6,7],[0,1,0,1,2,3,4,5,6,7,8],[9,8,8,0,1,2,3,4,5,6,7,8]] (by kernel_rfl) (by decide)
       (fun D act V=>∃ (t15x t16x t17x t18x t19x t20x t21x t22x t23x t24x:Value),act={ tmps:=#[.pointer (some ⟨R,0,none⟩),undef,.pointer (some ⟨Q,0,none⟩),Value.slice (some ⟨b,0,none⟩) 9 9,Value.func (Fn.func 43) #[] #[],.pointer (some ⟨C,0,none⟩),Value.int IntKind.i64 ↑n,Value.slice (some ⟨b,0,none⟩) 9 9,.pointer (some ⟨R,0,none⟩),Value.bool true,Value.tuple #[Value.agg #[Value.bool s9,Value.slice a9 l9 c9,Value.bool t9,Value.slice b9 k9 d9],Value.int IntKind.i64 ↑n],.pointer (some ⟨R,0,none⟩),Value.tuple #[Value.agg #[Value.bool s9,Value.slice a9 l9 c9,Value.bool t9,Value.slice b9 k9 d9],Value.int IntKind.i64 ↑n],Value.agg #[Value.bool s9,Value.slice a9 l9 c9,Value.bool t9,Value.slice b9 k9 d9],Value.int IntKind.i64 ↑n,t15x,t16x,t17x,t18x,t19x,t20x,t21x,t22x,t23x,t24x,u25,u26,u27,u28,u29,u30,u31,u32,u33,u34,u35,u36,u37,u38,u39,u40,u41],defers:=[] }∧Hid ((D 0=true→t15x=.slice (some ⟨b,0,none⟩) 9 9)∧(D 1=true→t16x=.int .i64 (n:Int))∧(D 2=true→t17x=.func (.func 43) #[] #[])∧(D 3=true→t18x=.slice (some ⟨b,0,none⟩) 9 9)∧(D 4=true→t19x=.int .i64 (n:Int))∧(D 5=true→t20x=.pointer (some ⟨b,n*4,none⟩))∧(D 6=true→D 10=false→Ji V t21x (cf S n))∧(D 7=true→D 10=false→Ji V t22x c)∧(D 8=true→D 10=false→Ji V t23x (cf S n - c))∧(D 9=true→t24x=.pointer (some ⟨b,n*4,none⟩)))∧Hid ((D 10=false→PoX w V R Q b C s (k5:Int) S c)∧(D 10=true→PoB w V R Q b s (k5:Int) (S.set n (cf S n - c)))))
       ⟨_,_,_,_,_,_,_,_,_,_,rfl,Ja ⟨by simp,by simp,by simp,by simp,by simp,by simp,by simp,by simp,by simp,by simp⟩,Ja ⟨fun _=>ST0,by simp⟩⟩ ?step1t ?fin1t
      case step1t=>
       rintro D act V i ds hcl hi hds hDi ⟨t15x,t16x,t17x,t18x,t19x,t20x,t21x,t22x,t23x,t24x,rfl,GG,SS0⟩;have hi6:i<11:=(List.getElem?_eq_some_iff.1 hi).1;obtain rfl | rfl | rfl | rfl | rfl | rfl | rfl | rfl | rfl | rfl | rfl:i=0∨i=1∨i=2∨i=3∨i=4∨i=5∨i=6∨i=7∨i=8∨i=9∨i=10:=by omega
       all_goals
        simp only [List.getElem?_cons_zero,List.getElem?_cons_succ,Option.some.injEq] at hi;subst hi
       · have hf0:D 10=false:=nyt hcl rfl (by simp) hDi;have hS0:=SS0.out.1 hf0;clear hds;refine Jc rfl rfl (fun K hK=>?_);go_simp;obtain ⟨_,G1,G2,G3,G4,G5,G6,G7,G8,G9⟩:=GG.out;exact hK _ _ ⟨_,_,_,_,_,_,_,_,_,_,rfl,Ja ⟨fun _=>rfl,G1,G2,G3,G4,G5,G6,G7,G8,G9⟩,Ja ⟨SS0.out.1,SS0.out.2⟩⟩
       · have hf0:D 10=false:=nyt hcl rfl (by simp) hDi;have hS0:=SS0.out.1 hf0;clear hds;refine Jc rfl rfl (fun K hK=>?_);go_simp;obtain ⟨G0,_,G2,G3,G4,G5,G6,G7,G8,G9⟩:=GG.out;exact hK _ _ ⟨_,_,_,_,_,_,_,_,_,_,rfl,Ja ⟨G0,fun _=>rfl,G2,G3,G4,G5,G6,G7,G8,G9⟩,Ja ⟨SS0.out.1,SS0.out.2⟩⟩
       · have hf0:D 10=false:=nyt hcl rfl (by simp) hDi;have hS0:=SS0.out.1 hf0;clear hds;refine Jc rfl rfl (fun K hK=>?_);go_simp;obtain ⟨G0,G1,_,G3,G4,G5,G6,G7,G8,G9⟩:=GG.out;exact hK _ _ ⟨_,_,_,_,_,_,_,_,_,_,rfl,Ja ⟨G0,G1,fun _=>rfl,G3,G4,G5,G6,G7,G8,G9⟩,Ja ⟨SS0.out.1,SS0.out.2⟩⟩
       · have hf0:D 10=false:=nyt hcl rfl (by simp) hDi;have hS0:=SS0.out.1 hf0;clear hds;refine Jc rfl rfl (fun K hK=>?_);go_simp;obtain ⟨G0,G1,G2,_,G4,G5,G6,G7,G8,G9⟩:=GG.out;exact hK _ _ ⟨_,_,_,_,_,_,_,_,_,_,rfl,Ja ⟨G0,G1,G2,fun _=>rfl,G4,G5,G6,G7,G8,G9⟩,Ja ⟨SS0.out.1,SS0.out.2⟩⟩
       · have hf0:D 10=false:=nyt hcl rfl (by simp) hDi;have hS0:=SS0.out.1 hf0;clear hds;refine Jc rfl rfl (fun K hK=>?_);go_simp;obtain ⟨G0,G1,G2,G3,_,G5,G6,G7,G8,G9⟩:=GG.out;exact hK _ _ ⟨_,_,_,_,_,_,_,_,_,_,rfl,Ja ⟨G0,G1,G2,G3,fun _=>rfl,G5,G6,G7,G8,G9⟩,Ja ⟨SS0.out.1,SS0.out.2⟩⟩
       · have hf0:D 10=false:=nyt hcl rfl (by simp) hDi;have hS0:=SS0.out.1 hf0;obtain rfl:=GG.out.2.2.2.1 (hds 3 (by simp));obtain rfl:=GG.out.2.2.2.2.1 (hds 4 (by simp));clear hds;refine Jc rfl rfl (fun K hK=>?_);go_simp;obtain ⟨G0,G1,G2,_,_,_,G6,G7,G8,G9⟩:=GG.out;exact hK _ _ ⟨_,_,_,_,_,_,_,_,_,_,rfl,Ja ⟨G0,G1,G2,fun _=>rfl,fun _=>rfl,fun _=>rfl,G6,G7,G8,G9⟩,Ja ⟨SS0.out.1,SS0.out.2⟩⟩
       · have hf0:D 10=false:=nyt hcl rfl (by simp) hDi;have hS0:=SS0.out.1 hf0;obtain rfl:=GG.out.2.2.2.2.2.1 (hds 5 (by simp));obtain ⟨xa,xb,xc,xd,e0,e1,e2,e3,hr⟩:=hS0.1.2.2.1.at HSL.out;clear hds;refine Jc rfl rfl (fun K hK=>?_);go_simp;obtain ⟨G0,G1,G2,G3,G4,_,_,G7,G8,G9⟩:=GG.out;exact hK _ _ ⟨_,_,_,_,_,_,_,_,_,_,rfl,Ja ⟨G0,G1,G2,G3,G4,fun _=>rfl,fun _ _=>hr,G7,G8,G9⟩,Ja ⟨SS0.out.1,SS0.out.2⟩⟩
       · have hf0:D 10=false:=nyt hcl rfl (by simp) hDi;have hS0:=SS0.out.1 hf0;obtain ⟨hB0,s8,a8,l8,c8,t8,b8,k8,d8,n8,r8⟩:=hS0;have e0:=n8.c0;have e1:=n8.c1;have e2:=n8.c2;have e3:=n8.c3;clear hds;refine Jc rfl rfl (fun K hK=>?_);go_simp;obtain ⟨G0,G1,G2,G3,G4,G5,G6,_,G8,G9⟩:=GG.out;exact hK _ _ ⟨_,_,_,_,_,_,_,_,_,_,rfl,Ja ⟨G0,G1,G2,G3,G4,G5,G6,fun _ _=>r8,G8,G9⟩,Ja ⟨SS0.out.1,SS0.out.2⟩⟩
       · have hf0:D 10=false:=nyt hcl rfl (by simp) hDi;have hS0:=SS0.out.1 hf0;have h0:=GG.out.2.2.2.2.2.2.1 (hds 6 (by simp)) hf0;have h1:=GG.out.2.2.2.2.2.2.2.1 (hds 7 (by simp)) hf0;obtain rfl:=GG.out.2.2.1 (hds 2 (by simp));clear hds;have HC:=Ja (Jip _ _ (cf S n) c V h0 h1 HQS.out HQC.out);clear h0 h1;refine Jc rfl rfl (fun K hK=>?_);go_simp;go_wp2_with (go_at_call 43;refine HC.out.mono ?_;rintro e w5 ⟨v5,rfl,hv5,hb5⟩)
         obtain ⟨G0,G1,_,G3,G4,G5,G6,G7,_,G9⟩:=GG.out;exact ⟨_,_,_,_,_,_,_,_,_,_,rfl,Ja ⟨G0,G1,fun _=>rfl,G3,G4,G5,fun h h2=>(G6 h h2).below hb5,fun h h2=>(G7 h h2).below hb5,fun _ _=>hv5,G9⟩,Ja ⟨fun h=>(SS0.out.1 h).below hb5,fun h=>(SS0.out.2 h).below hb5⟩⟩
       · have hf0:D 10=false:=nyt hcl rfl (by simp) hDi;have hS0:=SS0.out.1 hf0;obtain rfl:=GG.out.1 (hds 0 (by simp));obtain rfl:=GG.out.2.1 (hds 1 (by simp));clear hds;refine Jc rfl rfl (fun K hK=>?_);go_simp;obtain ⟨_,_,G2,G3,G4,G5,G6,G7,G8,_⟩:=GG.out;exact hK _ _ ⟨_,_,_,_,_,_,_,_,_,_,rfl,Ja ⟨fun _=>rfl,fun _=>rfl,G2,G3,G4,G5,G6,G7,G8,fun _=>rfl⟩,Ja ⟨SS0.out.1,SS0.out.2⟩⟩
       · have hS0:=SS0.out.1 hDi;have h0:=GG.out.2.2.2.2.2.2.2.2.1 (hds 8 (by simp)) hDi;obtain rfl:=GG.out.2.2.2.2.2.2.2.2.2 (hds 9 (by simp));have hE:=hS0.1.2.2.1;obtain ⟨xa,xb,xc,xd,e0,e1,e2,e3,_⟩:=hE.at HSL.out;have f0:=hE.frozen (n*4);have f1:=hE.frozen (n*4+1);have f2:=hE.frozen (n*4+2);have f3:=hE.frozen (n*4+3);obtain ⟨s9,a9,l9,c9,t9,b9,k9,d9,rfl⟩:=Ji.form h0;clear hds;refine Jc rfl rfl (fun K hK=>?_);go_simp;obtain ⟨G0,G1,G2,G3,G4,G5,_,_,_,_⟩:=GG.out;exact hK _ _ ⟨_,_,_,_,_,_,_,_,_,_,rfl,Ja ⟨G0,G1,G2,G3,G4,G5,fun _ h=>by simp at h,fun _ h=>by simp at h,fun _ h=>by simp at h,fun _=>rfl⟩,Ja ⟨fun h=>by simp at h,fun _=>hS0.1.put HSL.out h0⟩⟩
      case fin1t=>
       rintro D act V hDD ⟨t15x,t16x,t17x,t18x,t19x,t20x,t21x,t22x,t23x,t24x,rfl,GG,SS0⟩;have HM3:=Ja (SS0.out.2 (hDD 10 (by decide)));clear GG SS0 hDD;rw [HSF.out] at HM3;go_wp2_with fail
       go_meet
       case rel=>exact HM3
     | false=>
      have HSF:=Ja (show S.set n (cf S n+c)=S' from HSE.out);unfold fnJ;simp only [Bool.false_eq_true,if_false];refine Jq hmx [[],[],[],[],[],[3,4],[5],[],[2,6,7],[0,1,0,1,2,3,4,5,6,7,8],[9,8,8,0,1,2,3,4,5,6,7,8]] (by kernel_rfl) (by decide)
       (fun D act V=>∃ (t15x t16x t17x t18x t19x t20x t21x t22x t23x t24x:Value),act={ tmps:=#[.pointer (some ⟨R,0,none⟩),undef,.pointer (some ⟨Q,0,none⟩),Value.slice (some ⟨b,0,none⟩) 9 9,Value.func (Fn.func 40) #[] #[],.pointer (some ⟨C,0,none⟩),Value.int IntKind.i64 ↑n,Value.slice (some ⟨b,0,none⟩) 9 9,.pointer (some ⟨R,0,none⟩),Value.bool true,Value.tuple #[Value.agg #[Value.bool s9,Value.slice a9 l9 c9,Value.bool t9,Value.slice b9 k9 d9],Value.int IntKind.i64 ↑n],.pointer (some ⟨R,0,none⟩),Value.tuple #[Value.agg #[Value.bool s9,Value.slice a9 l9 c9,Value.bool t9,Value.slice b9 k9 d9],Value.int IntKind.i64 ↑n],Value.agg #[Value.bool s9,Value.slice a9 l9 c9,Value.bool t9,Value.slice b9 k9 d9],Value.int IntKind.i64 ↑n,t15x,t16x,t17x,t18x,t19x,t20x,t21x,t22x,t23x,t24x,u25,u26,u27,u28,u29,u30,u31,u32,u33,u34,u35,u36,u37,u38,u39,u40,u41],defers:=[] }∧Hid ((D 0=true→t15x=.slice (some ⟨b,0,none⟩) 9 9)∧(D 1=true→t16x=.int .i64 (n:Int))∧(D 2=true→t17x=.func (.func 40) #[] #[])∧(D 3=true→t18x=.slice (some ⟨b,0,none⟩) 9 9)∧(D 4=true→t19x=.int .i64 (n:Int))∧(D 5=true→t20x=.pointer (some ⟨b,n*4,none⟩))∧(D 6=true→D 10=false→Ji V t21x (cf S n))∧(D 7=true→D 10=false→Ji V t22x c)∧(D 8=true→D 10=false→Ji V t23x (cf S n+c))∧(D 9=true→t24x=.pointer (some ⟨b,n*4,none⟩)))∧Hid ((D 10=false→PoX w V R Q b C s (k5:Int) S c)∧(D 10=true→PoB w V R Q b s (k5:Int) (S.set n (cf S n+c)))))
       ⟨_,_,_,_,_,_,_,_,_,_,rfl,Ja ⟨by simp,by simp,by simp,by simp,by simp,by simp,by simp,by simp,by simp,by simp⟩,Ja ⟨fun _=>ST0,by simp⟩⟩ ?step2t ?fin2t
      case step2t=>
       rintro D act V i ds hcl hi hds hDi ⟨t15x,t16x,t17x,t18x,t19x,t20x,t21x,t22x,t23x,t24x,rfl,GG,SS0⟩;have hi6:i<11:=(List.getElem?_eq_some_iff.1 hi).1;obtain rfl | rfl | rfl | rfl | rfl | rfl | rfl | rfl | rfl | rfl | rfl:i=0∨i=1∨i=2∨i=3∨i=4∨i=5∨i=6∨i=7∨i=8∨i=9∨i=10:=by omega
       all_goals
        simp only [List.getElem?_cons_zero,List.getElem?_cons_succ,Option.some.injEq] at hi;subst hi
       · have hf0:D 10=false:=nyt hcl rfl (by simp) hDi;have hS0:=SS0.out.1 hf0;clear hds;refine Jc rfl rfl (fun K hK=>?_);go_simp;obtain ⟨_,G1,G2,G3,G4,G5,G6,G7,G8,G9⟩:=GG.out;exact hK _ _ ⟨_,_,_,_,_,_,_,_,_,_,rfl,Ja ⟨fun _=>rfl,G1,G2,G3,G4,G5,G6,G7,G8,G9⟩,Ja ⟨SS0.out.1,SS0.out.2⟩⟩
       · have hf0:D 10=false:=nyt hcl rfl (by simp) hDi;have hS0:=SS0.out.1 hf0;clear hds;refine Jc rfl rfl (fun K hK=>?_);go_simp;obtain ⟨G0,_,G2,G3,G4,G5,G6,G7,G8,G9⟩:=GG.out;exact hK _ _ ⟨_,_,_,_,_,_,_,_,_,_,rfl,Ja ⟨G0,fun _=>rfl,G2,G3,G4,G5,G6,G7,G8,G9⟩,Ja ⟨SS0.out.1,SS0.out.2⟩⟩
       · have hf0:D 10=false:=nyt hcl rfl (by simp) hDi;have hS0:=SS0.out.1 hf0;clear hds;refine Jc rfl rfl (fun K hK=>?_);go_simp;obtain ⟨G0,G1,_,G3,G4,G5,G6,G7,G8,G9⟩:=GG.out;exact hK _ _ ⟨_,_,_,_,_,_,_,_,_,_,rfl,Ja ⟨G0,G1,fun _=>rfl,G3,G4,G5,G6,G7,G8,G9⟩,Ja ⟨SS0.out.1,SS0.out.2⟩⟩
       · have hf0:D 10=false:=nyt hcl rfl (by simp) hDi;have hS0:=SS0.out.1 hf0;clear hds;refine Jc rfl rfl (fun K hK=>?_);go_simp;obtain ⟨G0,G1,G2,_,G4,G5,G6,G7,G8,G9⟩:=GG.out;exact hK _ _ ⟨_,_,_,_,_,_,_,_,_,_,rfl,Ja ⟨G0,G1,G2,fun _=>rfl,G4,G5,G6,G7,G8,G9⟩,Ja ⟨SS0.out.1,SS0.out.2⟩⟩
       · have hf0:D 10=false:=nyt hcl rfl (by simp) hDi;have hS0:=SS0.out.1 hf0;clear hds;refine Jc rfl rfl (fun K hK=>?_);go_simp;obtain ⟨G0,G1,G2,G3,_,G5,G6,G7,G8,G9⟩:=GG.out;exact hK _ _ ⟨_,_,_,_,_,_,_,_,_,_,rfl,Ja ⟨G0,G1,G2,G3,fun _=>rfl,G5,G6,G7,G8,G9⟩,Ja ⟨SS0.out.1,SS0.out.2⟩⟩
       · have hf0:D 10=false:=nyt hcl rfl (by simp) hDi;have hS0:=SS0.out.1 hf0;obtain rfl:=GG.out.2.2.2.1 (hds 3 (by simp));obtain rfl:=GG.out.2.2.2.2.1 (hds 4 (by simp));clear hds;refine Jc rfl rfl (fun K hK=>?_);go_simp;obtain ⟨G0,G1,G2,_,_,_,G6,G7,G8,G9⟩:=GG.out;exact hK _ _ ⟨_,_,_,_,_,_,_,_,_,_,rfl,Ja ⟨G0,G1,G2,fun _=>rfl,fun _=>rfl,fun _=>rfl,G6,G7,G8,G9⟩,Ja ⟨SS0.out.1,SS0.out.2⟩⟩
       · have hf0:D 10=false:=nyt hcl rfl (by simp) hDi;have hS0:=SS0.out.1 hf0;obtain rfl:=GG.out.2.2.2.2.2.1 (hds 5 (by simp));obtain ⟨xa,xb,xc,xd,e0,e1,e2,e3,hr⟩:=hS0.1.2.2.1.at HSL.out;clear hds;refine Jc rfl rfl (fun K hK=>?_);go_simp;obtain ⟨G0,G1,G2,G3,G4,_,_,G7,G8,G9⟩:=GG.out;exact hK _ _ ⟨_,_,_,_,_,_,_,_,_,_,rfl,Ja ⟨G0,G1,G2,G3,G4,fun _=>rfl,fun _ _=>hr,G7,G8,G9⟩,Ja ⟨SS0.out.1,SS0.out.2⟩⟩
       · have hf0:D 10=false:=nyt hcl rfl (by simp) hDi;have hS0:=SS0.out.1 hf0;obtain ⟨hB0,s8,a8,l8,c8,t8,b8,k8,d8,n8,r8⟩:=hS0;have e0:=n8.c0;have e1:=n8.c1;have e2:=n8.c2;have e3:=n8.c3;clear hds;refine Jc rfl rfl (fun K hK=>?_);go_simp;obtain ⟨G0,G1,G2,G3,G4,G5,G6,_,G8,G9⟩:=GG.out;exact hK _ _ ⟨_,_,_,_,_,_,_,_,_,_,rfl,Ja ⟨G0,G1,G2,G3,G4,G5,G6,fun _ _=>r8,G8,G9⟩,Ja ⟨SS0.out.1,SS0.out.2⟩⟩
       · have hf0:D 10=false:=nyt hcl rfl (by simp) hDi;have hS0:=SS0.out.1 hf0;have h0:=GG.out.2.2.2.2.2.2.1 (hds 6 (by simp)) hf0;have h1:=GG.out.2.2.2.2.2.2.2.1 (hds 7 (by simp)) hf0;obtain rfl:=GG.out.2.2.1 (hds 2 (by simp));clear hds;have HC:=Ja (Jd5 _ _ (cf S n) c V h0 h1 HQS.out HQC.out);clear h0 h1;refine Jc rfl rfl (fun K hK=>?_);go_simp;go_wp2_with (go_at_call 40;refine HC.out.mono ?_;rintro e w5 ⟨v5,rfl,hv5,hb5⟩)
         obtain ⟨G0,G1,_,G3,G4,G5,G6,G7,_,G9⟩:=GG.out;exact ⟨_,_,_,_,_,_,_,_,_,_,rfl,Ja ⟨G0,G1,fun _=>rfl,G3,G4,G5,fun h h2=>(G6 h h2).below hb5,fun h h2=>(G7 h h2).below hb5,fun _ _=>hv5,G9⟩,Ja ⟨fun h=>(SS0.out.1 h).below hb5,fun h=>(SS0.out.2 h).below hb5⟩⟩
       · have hf0:D 10=false:=nyt hcl rfl (by simp) hDi;have hS0:=SS0.out.1 hf0;obtain rfl:=GG.out.1 (hds 0 (by simp));obtain rfl:=GG.out.2.1 (hds 1 (by simp));clear hds;refine Jc rfl rfl (fun K hK=>?_);go_simp;obtain ⟨_,_,G2,G3,G4,G5,G6,G7,G8,_⟩:=GG.out;exact hK _ _ ⟨_,_,_,_,_,_,_,_,_,_,rfl,Ja ⟨fun _=>rfl,fun _=>rfl,G2,G3,G4,G5,G6,G7,G8,fun _=>rfl⟩,Ja ⟨SS0.out.1,SS0.out.2⟩⟩
       · have hS0:=SS0.out.1 hDi;have h0:=GG.out.2.2.2.2.2.2.2.2.1 (hds 8 (by simp)) hDi;obtain rfl:=GG.out.2.2.2.2.2.2.2.2.2 (hds 9 (by simp));have hE:=hS0.1.2.2.1;obtain ⟨xa,xb,xc,xd,e0,e1,e2,e3,_⟩:=hE.at HSL.out;have f0:=hE.frozen (n*4);have f1:=hE.frozen (n*4+1);have f2:=hE.frozen (n*4+2);have f3:=hE.frozen (n*4+3);obtain ⟨s9,a9,l9,c9,t9,b9,k9,d9,rfl⟩:=Ji.form h0;clear hds;refine Jc rfl rfl (fun K hK=>?_);go_simp;obtain ⟨G0,G1,G2,G3,G4,G5,_,_,_,_⟩:=GG.out;exact hK _ _ ⟨_,_,_,_,_,_,_,_,_,_,rfl,Ja ⟨G0,G1,G2,G3,G4,G5,fun _ h=>by simp at h,fun _ h=>by simp at h,fun _ h=>by simp at h,fun _=>rfl⟩,Ja ⟨fun h=>by simp at h,fun _=>hS0.1.put HSL.out h0⟩⟩
      case fin2t=>
       rintro D act V hDD ⟨t15x,t16x,t17x,t18x,t19x,t20x,t21x,t22x,t23x,t24x,rfl,GG,SS0⟩;have HM3:=Ja (SS0.out.2 (hDD 10 (by decide)));clear GG SS0 hDD;rw [HSF.out] at HM3;go_wp2_with fail
       go_meet
       case rel=>exact HM3
    clear ST0;have HP6:=hcut;clear hcut;cases h43:YE (Je s) J 43 with
    | true=>
     have hJ1:J+1≤s.size:=by have:=Yq h43;rw [Jm] at this;omega
     have HTT:=Ja (show Jaw (Je s) f false (J+1) S'=Jaq (Je s) by have e:=HTS.out;rw [if_pos h43] at e;exact e);have HF1:=Ja (fun (V:World) (hh:RcB V R s (k5:Int))=>YG R s k5 43 V hh hk5 hs true (by rw [HJ.out,h43]));rw [HJ.out] at HF1;clear h43;go_wp2_with (go_at_call 120;refine (HF1.out _ HP6.out.1).mono ?_;clear HF1;rintro e w7 ⟨rfl,hr7,hg7⟩;have HP7:=Ja (HP6.out.rc hr7 hg7);clear hr7 hg7)
     go_roundw
     case rel=>exact ⟨false,J+1,f,m+1,S',rfl,hJ1,HP7,HS1,Ja ⟨by have:=HT.out.1;have:=HLT.out;have:=HJ5.out;omega,by have:=HT.out.2.1;have:=HLT.out;have:=HJ5.out;omega,HTT.out⟩⟩
     case measure=>
      have e1:=X1 (I:=J+1) HP7.out.1;rw [e1,HRI.out];have:=HLT.out;have:=HJ5.out;omega
    | false=>
     have HF1:=Ja (fun (V:World) (hh:RcB V R s (k5:Int))=>YG R s k5 43 V hh hk5 hs false (by rw [HJ.out,h43]));rw [HJ.out] at HF1;cases h45:YE (Je s) J 45 with
     | true=>
      have hJ1:J+1≤s.size:=by have:=Yq h45;rw [Jm] at this;omega
      have HTT:=Ja (show Jaw (Je s) f true (J+1) S'=Jaq (Je s) by have e:=HTS.out;rw [if_neg (by rw [h43];decide),if_pos h45] at e;exact e);have HF2:=Ja (fun (V:World) (hh:RcB V R s (J:Int))=>YG R s J 45 V hh hJs hs true (by rw [HJJ.out,h45]));rw [HJJ.out] at HF2;clear h43 h45;go_wp2_with (first
       | (go_at_call 120;refine (HF1.out _ HP6.out.1).mono ?_;clear HF1;rintro e w7 ⟨rfl,hr7,hg7⟩;have HP7:=Ja (HP6.out.rc hr7 hg7);clear hr7 hg7)
       | (go_at_call 120;refine (HF2.out _ HP7.out.1).mono ?_;clear HF2;rintro e w8 ⟨rfl,hr8,hg8⟩;have HP8:=Ja (HP7.out.rc hr8 hg8);clear hr8 hg8))
      go_roundw
      case rel=>exact ⟨true,J+1,f,m+1,S',rfl,hJ1,HP8,HS1,Ja ⟨by have:=HT.out.1;have:=HLT.out;have:=HJ5.out;omega,by have:=HT.out.2.1;have:=HLT.out;have:=HJ5.out;omega,HTT.out⟩⟩
      case measure=>
       have e1:=X1 (I:=J+1) HP8.out.1;rw [e1,HRI.out];have:=HLT.out;have:=HJ5.out;omega
     | false=>
      have HF2:=Ja (fun (V:World) (hh:RcB V R s (J:Int))=>YG R s J 45 V hh hJs hs false (by rw [HJJ.out,h45]));rw [HJJ.out] at HF2;have HF3:=Ja (fun (V:World) (hh:RcB V R s (J:Int))=>Jd8 R s J V hh hJs hs);rw [HJJ.out] at HF3;by_cases hJe:J=s.size
      · have HTT:=Ja (show Jaq (Je s)=.ok S' J by have e:=HTS.out;rw [if_neg (by rw [h43];decide),if_neg (by rw [h45];decide),if_pos (by rw [Jm];exact hJe)] at e;exact e.symm);rw [show decide (J=s.size)=true from decide_eq_true hJe] at HF3;have HMD:=Ja (fun (V:World) (hE:Els true V b S')=>Jd7 (.slice (some ⟨b,0,none⟩) 9 9) S' V (by
         have hrow:=hE.row (n:=9) (cap:=9) (by rw [HS1.out.1];exact Nat.le_refl _) (Nat.le_refl _) (by omega) (by omega);rwa [List.take_of_length_le (by rw [HS1.out.1];exact Nat.le_refl _)] at hrow) (Sqs.of fun i=>Sq.of (HS1.out.2 i) (by have:=HT.out.1;omega)))
        clear h43 h45 hJe;go_wp2_with (first
         | (go_at_call 120;refine (HF1.out _ HP6.out.1).mono ?_;clear HF1;rintro e w7 ⟨rfl,hr7,hg7⟩;have HP7:=Ja (HP6.out.rc hr7 hg7);clear hr7 hg7)
         | (go_at_call 120;refine (HF2.out _ HP7.out.1).mono ?_;clear HF2;rintro e w8 ⟨rfl,hr8,hg8⟩;have HP8:=Ja (HP7.out.rc hr8 hg8);clear hr8 hg8)
         | (go_at_call 122;refine (HF3.out _ HP8.out.1).mono ?_;clear HF3;rintro e w9 ⟨rfl,hr9,hg9⟩;have HP9:=Ja (HP8.out.rc hr9 hg9);clear hr9 hg9)
         | (go_at_call 65;refine (HMD.out _ HP9.out.2.2.1).mono ?_;clear HMD;rintro e w10 ⟨u10,rfl,hu10,_,hq10⟩;obtain ⟨a7,l7,c7,rfl⟩:=hu10.form;have HP10:=Ja (HP9.out.below hq10);have x0:=HP10.out.2.1.cell;have x1:=HP10.out.2.1.frozen;have HU10:=Ja hu10.row;clear hu10 hq10))
        refine bodyPost_ret (v:=.agg #[.slice a7 l7 c7]) (by simp [results,Tryz.results90,go_sem,x0]) rfl ⟨JQ HP10.out.2.2.2.1 HP10.out.2.2.2.2.1 0 _,fun e q he=>?_,fun S'' k he=>?_⟩
        · rw [HTT.out] at he;cases he
        · rw [HTT.out] at he;cases he;exact ⟨_,rfl,⟨_,rfl,Jj8 HP10.out.2.1 _ HU10.out⟩,m+1,by have:=HT.out.1;have:=HLT.out;omega,HS1.out⟩
      · have HTT:=Ja (show Jaq (Je s)=.bad 2 J by have e:=HTS.out;rw [if_neg (by rw [h43];decide),if_neg (by rw [h45];decide),if_neg (by rw [Jm];exact hJe)] at e;exact e.symm);rw [show decide (J=s.size)=false from decide_eq_false hJe] at HF3;clear h43 h45 hJe;go_wp2_with (first
         | (go_at_call 120;refine (HF1.out _ HP6.out.1).mono ?_;clear HF1;rintro e w7 ⟨rfl,hr7,hg7⟩;have HP7:=Ja (HP6.out.rc hr7 hg7);clear hr7 hg7)
         | (go_at_call 120;refine (HF2.out _ HP7.out.1).mono ?_;clear HF2;rintro e w8 ⟨rfl,hr8,hg8⟩;have HP8:=Ja (HP7.out.rc hr8 hg8);clear hr8 hg8)
         | (go_at_call 122;refine (HF3.out _ HP8.out.1).mono ?_;clear HF3;rintro e w9 ⟨rfl,hr9,hg9⟩;have c19:=hr9.c1;have HP9:=Ja (HP8.out.rc hr9 hg9);clear hr9 hg9)
         | (go_at_call 123;refine (HF.out _ _ _).mono ?_;clear HF;rintro e w10 ⟨rfl,rfl⟩))
        refine ⟨rfl,HP9.out.2.2.2.1,fun e q he=>?_,fun S'' k he=>?_⟩
        · rw [HTT.out] at he;cases he;rfl
        · rw [HTT.out] at he;cases he
 | false=>
  go_wp2_with (go_at_call 120;refine HFD.out.mono ?_;clear HFD;rintro e w1 ⟨rfl,hr1,hg1⟩;have HP1:=Ja (HP0.out.rc hr1 hg1);clear hr1 hg1)
  go_loopw [4,5,6] (fun jv _ _ wr=>∃ (j:Bool) (I f m:Nat) (S:List Rat),jv=fnJ j∧I≤s.size∧Hid (PoB w wr R Q b s (I:Int) S)∧Hid (XL S m)∧Hid (m≤I∧s.size - I<f∧Jaw (Je s) f j I S=Jaq (Je s))) (fun _ _ _ wr=>s.size - rdI wr R)
  case atStart=>
   have hsk:skB (Je s) 0≤s.size:=by rw [←Jm];exact Xs (by omega)
   refine ⟨false,skB (Je s) 0+(if false=true then 1 else 0),s.size+1,0,List.replicate 9 0,rfl,?_,HP1,Ja XL.start,Ja ⟨by omega,by omega,?_⟩⟩
   · first
      | simpa using hsk
      | (have h2:=Yq HB0.out.symm;rw [Jm] at h2;simp;omega)
   · unfold Jaq;rw [←HB0.out,Jm];rfl
  case round=>
   clear HP1 HB0 HP0;obtain ⟨j,I,f,m,S,rfl,hI,HP,HS,HT⟩:=hrel;have HTM:=Ja (Jlk R s I wr HP.out.1 hI hs);obtain ⟨f,rfl⟩:∃ f',f=f'+1:=⟨f - 1,by have:=HT.out.2.1;omega⟩;cases ht:Yc (Je s) I with
   | bad e5 q5=>
    have HTB:=Ja ht;have HTT:=Ja (show Jaq (Je s)=.bad e5 q5 by rw [←HT.out.2.2];exact Ji5 ht);clear ht;go_wp2_with (go_at_call 121;refine HTM.out.mono ?_;clear HTM;rintro e w1 ⟨hg1,hb1,_⟩;obtain rfl:=hb1 _ _ HTB.out;have HG1:=Ja (Jf HP.out.2.2.2.1 hg1);clear hg1 hb1)
    refine ⟨rfl,HG1.out,fun e q he=>?_,fun S' k he=>?_⟩
    · rw [HTT.out] at he;cases he;rfl
    · rw [HTT.out] at he;cases he
   | ok a5 k5=>
    obtain ⟨c,n⟩:=a5;have hlt:=Jhr (by rw [Jm];exact hI) ht;rw [Jm] at hlt;have HLT:=Ja hlt;have HFR:=Ja (Jfg (by rw [Jm];exact hI) ht);have HSM:=Ja (Jlj (f:=f) (b:=j) (S:=S) ht);have HTO:=Ja ht;have hn9:n<9:=by omega
    have hn9':(n:Int)<9:=by omega
    have HSL:=Ja (show n<S.length by rw [HS.out.1];omega);have HQS:=Ja (show Sq (cf S n) from Sq.of (HS.out.2 n) (by have:=HT.out.1;omega));have HQC:=Ja (show Sq c from Sq.of HFR.out.sm (by omega));have HS1:=Ja (HS.out.next HFR.out hlt.2.2 j);obtain ⟨S',hS'⟩:∃ S',S.set n (if j then cf S n - c else cf S n+c)=S':=⟨_,rfl⟩;rw [hS'] at HS1 HSM;have HSE:=Ja hS';have HTS:=Ja (HSM.out.symm.trans HT.out.2.2);have hk5:k5≤s.size:=hlt.2.1;obtain ⟨J,hJ⟩:∃ J,skB (Je s) k5=J:=⟨_,rfl⟩;rw [hJ] at HTS;have HJ:=Ja hJ;have hJs:J≤s.size:=by rw [←hJ,←Jm];exact Xs (by rw [Jm];exact hk5)
    have HJJ:=Ja (show skB (Je s) J=J by rw [←hJ];exact Jbf _ _);have HJ5:=Ja (show k5≤J by rw [←hJ];exact Jc9 _ _);clear ht hlt hS' hJ HSM;go_upto_region 6 with (go_at_call 121;refine HTM.out.mono ?_;clear HTM;rintro e w1 ⟨hg1,_,hb1⟩;obtain ⟨u1,rfl,hu1,hr1⟩:=hb1 _ _ _ HTO.out;obtain ⟨s9,a9,l9,c9,t9,b9,k9,d9,rfl⟩:=hu1.form;have HU:=Ja hu1;have HP1:=Ja (HP.out.rc hr1 hg1);clear hg1 hb1 hu1 hr1)
    have hPX:=PoX.new HP1.out HU.out;obtain ⟨W1,hW1⟩:∃ W,w1.alloc (.cells #[.bool s9,.slice a9 l9 c9,.bool t9,.slice b9 k9 d9] 38)=W:=⟨_,rfl⟩;obtain ⟨C,hC⟩:∃ C,w1.heap.size=C:=⟨_,rfl⟩;rw [hW1,hC] at hPX;rw [hW1,hC];have HRI:=Ja (X1 HP.out.1);clear hW1 hC HU HP1 HP;have ST0:=hPX.below ((Below.refl _ W1).drew);clear hPX;go_cut [] (fun w'=>Hid (PoB w w' R Q b s (k5:Int) S'))
    case first=>
     cases j with
     | true=>
      have HSF:=Ja (show S.set n (cf S n - c)=S' from HSE.out);unfold fnJ;simp only [if_true];refine Jq hmx [[],[],[],[],[],[3,4],[5],[],[2,6,7],[0,1,0,1,2,3,4,5,6,7,8],[9,8,8,0,1,2,3,4,5,6,7,8]] (by kernel_rfl) (by decide)
       (fun D act V=>∃ (t15x t16x t17x t18x t19x t20x t21x t22x t23x t24x:Value),act={ tmps:=#[.pointer (some ⟨R,0,none⟩),undef,.pointer (some ⟨Q,0,none⟩),Value.slice (some ⟨b,0,none⟩) 9 9,Value.func (Fn.func 43) #[] #[],.pointer (some ⟨C,0,none⟩),Value.int IntKind.i64 ↑n,Value.slice (some ⟨b,0,none⟩) 9 9,.pointer (some ⟨R,0,none⟩),Value.bool false,Value.tuple #[Value.agg #[Value.bool s9,Value.slice a9 l9 c9,Value.bool t9,Value.slice b9 k9 d9],Value.int IntKind.i64 ↑n],.pointer (some ⟨R,0,none⟩),Value.tuple #[Value.agg #[Value.bool s9,Value.slice a9 l9 c9,Value.bool t9,Value.slice b9 k9 d9],Value.int IntKind.i64 ↑n],Value.agg #[Value.bool s9,Value.slice a9 l9 c9,Value.bool t9,Value.slice b9 k9 d9],Value.int IntKind.i64 ↑n,t15x,t16x,t17x,t18x,t19x,t20x,t21x,t22x,t23x,t24x,u25,u26,u27,u28,u29,u30,u31,u32,u33,u34,u35,u36,u37,u38,u39,u40,u41],defers:=[] }∧Hid ((D 0=true→t15x=.slice (some ⟨b,0,none⟩) 9 9)∧(D 1=true→t16x=.int .i64 (n:Int))∧(D 2=true→t17x=.func (.func 43) #[] #[])∧(D 3=true→t18x=.slice (some ⟨b,0,none⟩) 9 9)∧(D 4=true→t19x=.int .i64 (n:Int))∧(D 5=true→t20x=.pointer (some ⟨b,n*4,none⟩))∧(D 6=true→D 10=false→Ji V t21x (cf S n))∧(D 7=true→D 10=false→Ji V t22x c)∧(D 8=true→D 10=false→Ji V t23x (cf S n - c))∧(D 9=true→t24x=.pointer (some ⟨b,n*4,none⟩)))∧Hid ((D 10=false→PoX w V R Q b C s (k5:Int) S c)∧(D 10=true→PoB w V R Q b s (k5:Int) (S.set n (cf S n - c)))))
       ⟨_,_,_,_,_,_,_,_,_,_,rfl,Ja ⟨by simp,by simp,by simp,by simp,by simp,by simp,by simp,by simp,by simp,by simp⟩,Ja ⟨fun _=>ST0,by simp⟩⟩ ?step1 ?fin1
      case step1=>
       rintro D act V i ds hcl hi hds hDi ⟨t15x,t16x,t17x,t18x,t19x,t20x,t21x,t22x,t23x,t24x,rfl,GG,SS0⟩;have hi6:i<11:=(List.getElem?_eq_some_iff.1 hi).1;obtain rfl | rfl | rfl | rfl | rfl | rfl | rfl | rfl | rfl | rfl | rfl:i=0∨i=1∨i=2∨i=3∨i=4∨i=5∨i=6∨i=7∨i=8∨i=9∨i=10:=by omega
       all_goals
        simp only [List.getElem?_cons_zero,List.getElem?_cons_succ,Option.some.injEq] at hi;subst hi
       · have hf0:D 10=false:=nyt hcl rfl (by simp) hDi;have hS0:=SS0.out.1 hf0;clear hds;refine Jc rfl rfl (fun K hK=>?_);go_simp;obtain ⟨_,G1,G2,G3,G4,G5,G6,G7,G8,G9⟩:=GG.out;exact hK _ _ ⟨_,_,_,_,_,_,_,_,_,_,rfl,Ja ⟨fun _=>rfl,G1,G2,G3,G4,G5,G6,G7,G8,G9⟩,Ja ⟨SS0.out.1,SS0.out.2⟩⟩
       · have hf0:D 10=false:=nyt hcl rfl (by simp) hDi;have hS0:=SS0.out.1 hf0;clear hds;refine Jc rfl rfl (fun K hK=>?_);go_simp;obtain ⟨G0,_,G2,G3,G4,G5,G6,G7,G8,G9⟩:=GG.out;exact hK _ _ ⟨_,_,_,_,_,_,_,_,_,_,rfl,Ja ⟨G0,fun _=>rfl,G2,G3,G4,G5,G6,G7,G8,G9⟩,Ja ⟨SS0.out.1,SS0.out.2⟩⟩
       · have hf0:D 10=false:=nyt hcl rfl (by simp) hDi;have hS0:=SS0.out.1 hf0;clear hds;refine Jc rfl rfl (fun K hK=>?_);go_simp;obtain ⟨G0,G1,_,G3,G4,G5,G6,G7,G8,G9⟩:=GG.out;exact hK _ _ ⟨_,_,_,_,_,_,_,_,_,_,rfl,Ja ⟨G0,G1,fun _=>rfl,G3,G4,G5,G6,G7,G8,G9⟩,Ja ⟨SS0.out.1,SS0.out.2⟩⟩
       · have hf0:D 10=false:=nyt hcl rfl (by simp) hDi;have hS0:=SS0.out.1 hf0;clear hds;refine Jc rfl rfl (fun K hK=>?_);go_simp;obtain ⟨G0,G1,G2,_,G4,G5,G6,G7,G8,G9⟩:=GG.out;exact hK _ _ ⟨_,_,_,_,_,_,_,_,_,_,rfl,Ja ⟨G0,G1,G2,fun _=>rfl,G4,G5,G6,G7,G8,G9⟩,Ja ⟨SS0.out.1,SS0.out.2⟩⟩
       · have hf0:D 10=false:=nyt hcl rfl (by simp) hDi;have hS0:=SS0.out.1 hf0;clear hds;refine Jc rfl rfl (fun K hK=>?_);go_simp;obtain ⟨G0,G1,G2,G3,_,G5,G6,G7,G8,G9⟩:=GG.out;exact hK _ _ ⟨_,_,_,_,_,_,_,_,_,_,rfl,Ja ⟨G0,G1,G2,G3,fun _=>rfl,G5,G6,G7,G8,G9⟩,Ja ⟨SS0.out.1,SS0.out.2⟩⟩
       · have hf0:D 10=false:=nyt hcl rfl (by simp) hDi;have hS0:=SS0.out.1 hf0;obtain rfl:=GG.out.2.2.2.1 (hds 3 (by simp));obtain rfl:=GG.out.2.2.2.2.1 (hds 4 (by simp));clear hds;refine Jc rfl rfl (fun K hK=>?_);go_simp;obtain ⟨G0,G1,G2,_,_,_,G6,G7,G8,G9⟩:=GG.out;exact hK _ _ ⟨_,_,_,_,_,_,_,_,_,_,rfl,Ja ⟨G0,G1,G2,fun _=>rfl,fun _=>rfl,fun _=>rfl,G6,G7,G8,G9⟩,Ja ⟨SS0.out.1,SS0.out.2⟩⟩
       · have hf0:D 10=false:=nyt hcl rfl (by simp) hDi;have hS0:=SS0.out.1 hf0;obtain rfl:=GG.out.2.2.2.2.2.1 (hds 5 (by simp));obtain ⟨xa,xb,xc,xd,e0,e1,e2,e3,hr⟩:=hS0.1.2.2.1.at HSL.out;clear hds;refine Jc rfl rfl (fun K hK=>?_);go_simp;obtain ⟨G0,G1,G2,G3,G4,_,_,G7,G8,G9⟩:=GG.out;exact hK _ _ ⟨_,_,_,_,_,_,_,_,_,_,rfl,Ja ⟨G0,G1,G2,G3,G4,fun _=>rfl,fun _ _=>hr,G7,G8,G9⟩,Ja ⟨SS0.out.1,SS0.out.2⟩⟩
       · have hf0:D 10=false:=nyt hcl rfl (by simp) hDi;have hS0:=SS0.out.1 hf0;obtain ⟨hB0,s8,a8,l8,c8,t8,b8,k8,d8,n8,r8⟩:=hS0;have e0:=n8.c0;have e1:=n8.c1;have e2:=n8.c2;have e3:=n8.c3;clear hds;refine Jc rfl rfl (fun K hK=>?_);go_simp;obtain ⟨G0,G1,G2,G3,G4,G5,G6,_,G8,G9⟩:=GG.out;exact hK _ _ ⟨_,_,_,_,_,_,_,_,_,_,rfl,Ja ⟨G0,G1,G2,G3,G4,G5,G6,fun _ _=>r8,G8,G9⟩,Ja ⟨SS0.out.1,SS0.out.2⟩⟩
       · have hf0:D 10=false:=nyt hcl rfl (by simp) hDi;have hS0:=SS0.out.1 hf0;have h0:=GG.out.2.2.2.2.2.2.1 (hds 6 (by simp)) hf0;have h1:=GG.out.2.2.2.2.2.2.2.1 (hds 7 (by simp)) hf0;obtain rfl:=GG.out.2.2.1 (hds 2 (by simp));clear hds;have HC:=Ja (Jip _ _ (cf S n) c V h0 h1 HQS.out HQC.out);clear h0 h1;refine Jc rfl rfl (fun K hK=>?_);go_simp;go_wp2_with (go_at_call 43;refine HC.out.mono ?_;rintro e w5 ⟨v5,rfl,hv5,hb5⟩)
         obtain ⟨G0,G1,_,G3,G4,G5,G6,G7,_,G9⟩:=GG.out;exact ⟨_,_,_,_,_,_,_,_,_,_,rfl,Ja ⟨G0,G1,fun _=>rfl,G3,G4,G5,fun h h2=>(G6 h h2).below hb5,fun h h2=>(G7 h h2).below hb5,fun _ _=>hv5,G9⟩,Ja ⟨fun h=>(SS0.out.1 h).below hb5,fun h=>(SS0.out.2 h).below hb5⟩⟩
       · have hf0:D 10=false:=nyt hcl rfl (by simp) hDi;have hS0:=SS0.out.1 hf0;obtain rfl:=GG.out.1 (hds 0 (by simp));obtain rfl:=GG.out.2.1 (hds 1 (by simp));clear hds;refine Jc rfl rfl (fun K hK=>?_);go_simp;obtain ⟨_,_,G2,G3,G4,G5,G6,G7,G8,_⟩:=GG.out;exact hK _ _ ⟨_,_,_,_,_,_,_,_,_,_,rfl,Ja ⟨fun _=>rfl,fun _=>rfl,G2,G3,G4,G5,G6,G7,G8,fun _=>rfl⟩,Ja ⟨SS0.out.1,SS0.out.2⟩⟩
       · have hS0:=SS0.out.1 hDi;have h0:=GG.out.2.2.2.2.2.2.2.2.1 (hds 8 (by simp)) hDi;obtain rfl:=GG.out.2.2.2.2.2.2.2.2.2 (hds 9 (by simp));have hE:=hS0.1.2.2.1;obtain ⟨xa,xb,xc,xd,e0,e1,e2,e3,_⟩:=hE.at HSL.out;have f0:=hE.frozen (n*4);have f1:=hE.frozen (n*4+1);have f2:=hE.frozen (n*4+2);have f3:=hE.frozen (n*4+3);obtain ⟨s9,a9,l9,c9,t9,b9,k9,d9,rfl⟩:=Ji.form h0;clear hds;refine Jc rfl rfl (fun K hK=>?_);go_simp;obtain ⟨G0,G1,G2,G3,G4,G5,_,_,_,_⟩:=GG.out;exact hK _ _ ⟨_,_,_,_,_,_,_,_,_,_,rfl,Ja ⟨G0,G1,G2,G3,G4,G5,fun _ h=>by simp at h,fun _ h=>by simp at h,fun _ h=>by simp at h,fun _=>rfl⟩,Ja ⟨fun h=>by simp at h,fun _=>hS0.1.put HSL.out h0⟩⟩
      case fin1=>
       rintro D act V hDD ⟨t15x,t16x,t17x,t18x,t19x,t20x,t21x,t22x,t23x,t24x,rfl,GG,SS0⟩;have HM3:=Ja (SS0.out.2 (hDD 10 (by decide)));clear GG SS0 hDD;rw [HSF.out] at HM3;go_wp2_with fail
       go_meet
       case rel=>exact HM3
     | false=>
      have HSF:=Ja (show S.set n (cf S n+c)=S' from HSE.out);unfold fnJ;simp only [Bool.false_eq_true,if_false];refine Jq hmx [[],[],[],[],[],[3,4],[5],[],[2,6,7],[0,1,0,1,2,3,4,5,6,7,8],[9,8,8,0,1,2,3,4,5,6,7,8]] (by kernel_rfl) (by decide)
       (fun D act V=>∃ (t15x t16x t17x t18x t19x t20x t21x t22x t23x t24x:Value),act={ tmps:=#[.pointer (some ⟨R,0,none⟩),undef,.pointer (some ⟨Q,0,none⟩),Value.slice (some ⟨b,0,none⟩) 9 9,Value.func (Fn.func 40) #[] #[],.pointer (some ⟨C,0,none⟩),Value.int IntKind.i64 ↑n,Value.slice (some ⟨b,0,none⟩) 9 9,.pointer (some ⟨R,0,none⟩),Value.bool false,Value.tuple #[Value.agg #[Value.bool s9,Value.slice a9 l9 c9,Value.bool t9,Value.slice b9 k9 d9],Value.int IntKind.i64 ↑n],.pointer (some ⟨R,0,none⟩),Value.tuple #[Value.agg #[Value.bool s9,Value.slice a9 l9 c9,Value.bool t9,Value.slice b9 k9 d9],Value.int IntKind.i64 ↑n],Value.agg #[Value.bool s9,Value.slice a9 l9 c9,Value.bool t9,Value.slice b9 k9 d9],Value.int IntKind.i64 ↑n,t15x,t16x,t17x,t18x,t19x,t20x,t21x,t22x,t23x,t24x,u25,u26,u27,u28,u29,u30,u31,u32,u33,u34,u35,u36,u37,u38,u39,u40,u41],defers:=[] }∧Hid ((D 0=true→t15x=.slice (some ⟨b,0,none⟩) 9 9)∧(D 1=true→t16x=.int .i64 (n:Int))∧(D 2=true→t17x=.func (.func 40) #[] #[])∧(D 3=true→t18x=.slice (some ⟨b,0,none⟩) 9 9)∧(D 4=true→t19x=.int .i64 (n:Int))∧(D 5=true→t20x=.pointer (some ⟨b,n*4,none⟩))∧(D 6=true→D 10=false→Ji V t21x (cf S n))∧(D 7=true→D 10=false→Ji V t22x c)∧(D 8=true→D 10=false→Ji V t23x (cf S n+c))∧(D 9=true→t24x=.pointer (some ⟨b,n*4,none⟩)))∧Hid ((D 10=false→PoX w V R Q b C s (k5:Int) S c)∧(D 10=true→PoB w V R Q b s (k5:Int) (S.set n (cf S n+c)))))
       ⟨_,_,_,_,_,_,_,_,_,_,rfl,Ja ⟨by simp,by simp,by simp,by simp,by simp,by simp,by simp,by simp,by simp,by simp⟩,Ja ⟨fun _=>ST0,by simp⟩⟩ ?step2 ?fin2
      case step2=>
       rintro D act V i ds hcl hi hds hDi ⟨t15x,t16x,t17x,t18x,t19x,t20x,t21x,t22x,t23x,t24x,rfl,GG,SS0⟩;have hi6:i<11:=(List.getElem?_eq_some_iff.1 hi).1;obtain rfl | rfl | rfl | rfl | rfl | rfl | rfl | rfl | rfl | rfl | rfl:i=0∨i=1∨i=2∨i=3∨i=4∨i=5∨i=6∨i=7∨i=8∨i=9∨i=10:=by omega
       all_goals
        simp only [List.getElem?_cons_zero,List.getElem?_cons_succ,Option.some.injEq] at hi;subst hi
       · have hf0:D 10=false:=nyt hcl rfl (by simp) hDi;have hS0:=SS0.out.1 hf0;clear hds;refine Jc rfl rfl (fun K hK=>?_);go_simp;obtain ⟨_,G1,G2,G3,G4,G5,G6,G7,G8,G9⟩:=GG.out;exact hK _ _ ⟨_,_,_,_,_,_,_,_,_,_,rfl,Ja ⟨fun _=>rfl,G1,G2,G3,G4,G5,G6,G7,G8,G9⟩,Ja ⟨SS0.out.1,SS0.out.2⟩⟩
       · have hf0:D 10=false:=nyt hcl rfl (by simp) hDi;have hS0:=SS0.out.1 hf0;clear hds;refine Jc rfl rfl (fun K hK=>?_);go_simp;obtain ⟨G0,_,G2,G3,G4,G5,G6,G7,G8,G9⟩:=GG.out;exact hK _ _ ⟨_,_,_,_,_,_,_,_,_,_,rfl,Ja ⟨G0,fun _=>rfl,G2,G3,G4,G5,G6,G7,G8,G9⟩,Ja ⟨SS0.out.1,SS0.out.2⟩⟩
       · have hf0:D 10=false:=nyt hcl rfl (by simp) hDi;have hS0:=SS0.out.1 hf0;clear hds;refine Jc rfl rfl (fun K hK=>?_);go_simp;obtain ⟨G0,G1,_,G3,G4,G5,G6,G7,G8,G9⟩:=GG.out;exact hK _ _ ⟨_,_,_,_,_,_,_,_,_,_,rfl,Ja ⟨G0,G1,fun _=>rfl,G3,G4,G5,G6,G7,G8,G9⟩,Ja ⟨SS0.out.1,SS0.out.2⟩⟩
       · have hf0:D 10=false:=nyt hcl rfl (by simp) hDi;have hS0:=SS0.out.1 hf0;clear hds;refine Jc rfl rfl (fun K hK=>?_);go_simp;obtain ⟨G0,G1,G2,_,G4,G5,G6,G7,G8,G9⟩:=GG.out;exact hK _ _ ⟨_,_,_,_,_,_,_,_,_,_,rfl,Ja ⟨G0,G1,G2,fun _=>rfl,G4,G5,G6,G7,G8,G9⟩,Ja ⟨SS0.out.1,SS0.out.2⟩⟩
       · have hf0:D 10=false:=nyt hcl rfl (by simp) hDi;have hS0:=SS0.out.1 hf0;clear hds;refine Jc rfl rfl (fun K hK=>?_);go_simp;obtain ⟨G0,G1,G2,G3,_,G5,G6,G7,G8,G9⟩:=GG.out;exact hK _ _ ⟨_,_,_,_,_,_,_,_,_,_,rfl,Ja ⟨G0,G1,G2,G3,fun _=>rfl,G5,G6,G7,G8,G9⟩,Ja ⟨SS0.out.1,SS0.out.2⟩⟩
       · have hf0:D 10=false:=nyt hcl rfl (by simp) hDi;have hS0:=SS0.out.1 hf0;obtain rfl:=GG.out.2.2.2.1 (hds 3 (by simp));obtain rfl:=GG.out.2.2.2.2.1 (hds 4 (by simp));clear hds;refine Jc rfl rfl (fun K hK=>?_);go_simp;obtain ⟨G0,G1,G2,_,_,_,G6,G7,G8,G9⟩:=GG.out;exact hK _ _ ⟨_,_,_,_,_,_,_,_,_,_,rfl,Ja ⟨G0,G1,G2,fun _=>rfl,fun _=>rfl,fun _=>rfl,G6,G7,G8,G9⟩,Ja ⟨SS0.out.1,SS0.out.2⟩⟩
       · have hf0:D 10=false:=nyt hcl rfl (by simp) hDi;have hS0:=SS0.out.1 hf0;obtain rfl:=GG.out.2.2.2.2.2.1 (hds 5 (by simp));obtain ⟨xa,xb,xc,xd,e0,e1,e2,e3,hr⟩:=hS0.1.2.2.1.at HSL.out;clear hds;refine Jc rfl rfl (fun K hK=>?_);go_simp;obtain ⟨G0,G1,G2,G3,G4,_,_,G7,G8,G9⟩:=GG.out;exact hK _ _ ⟨_,_,_,_,_,_,_,_,_,_,rfl,Ja ⟨G0,G1,G2,G3,G4,fun _=>rfl,fun _ _=>hr,G7,G8,G9⟩,Ja ⟨SS0.out.1,SS0.out.2⟩⟩
       · have hf0:D 10=false:=nyt hcl rfl (by simp) hDi;have hS0:=SS0.out.1 hf0;obtain ⟨hB0,s8,a8,l8,c8,t8,b8,k8,d8,n8,r8⟩:=hS0;have e0:=n8.c0;have e1:=n8.c1;have e2:=n8.c2;have e3:=n8.c3;clear hds;refine Jc rfl rfl (fun K hK=>?_);go_simp;obtain ⟨G0,G1,G2,G3,G4,G5,G6,_,G8,G9⟩:=GG.out;exact hK _ _ ⟨_,_,_,_,_,_,_,_,_,_,rfl,Ja ⟨G0,G1,G2,G3,G4,G5,G6,fun _ _=>r8,G8,G9⟩,Ja ⟨SS0.out.1,SS0.out.2⟩⟩
       · have hf0:D 10=false:=nyt hcl rfl (by simp) hDi;have hS0:=SS0.out.1 hf0;have h0:=GG.out.2.2.2.2.2.2.1 (hds 6 (by simp)) hf0;have h1:=GG.out.2.2.2.2.2.2.2.1 (hds 7 (by simp)) hf0;obtain rfl:=GG.out.2.2.1 (hds 2 (by simp));clear hds;have HC:=Ja (Jd5 _ _ (cf S n) c V h0 h1 HQS.out HQC.out);clear h0 h1;refine Jc rfl rfl (fun K hK=>?_);go_simp;go_wp2_with (go_at_call 40;refine HC.out.mono ?_;rintro e w5 ⟨v5,rfl,hv5,hb5⟩)
         obtain ⟨G0,G1,_,G3,G4,G5,G6,G7,_,G9⟩:=GG.out;exact ⟨_,_,_,_,_,_,_,_,_,_,rfl,Ja ⟨G0,G1,fun _=>rfl,G3,G4,G5,fun h h2=>(G6 h h2).below hb5,fun h h2=>(G7 h h2).below hb5,fun _ _=>hv5,G9⟩,Ja ⟨fun h=>(SS0.out.1 h).below hb5,fun h=>(SS0.out.2 h).below hb5⟩⟩
       · have hf0:D 10=false:=nyt hcl rfl (by simp) hDi;have hS0:=SS0.out.1 hf0;obtain rfl:=GG.out.1 (hds 0 (by simp));obtain rfl:=GG.out.2.1 (hds 1 (by simp));clear hds;refine Jc rfl rfl (fun K hK=>?_);go_simp;obtain ⟨_,_,G2,G3,G4,G5,G6,G7,G8,_⟩:=GG.out;exact hK _ _ ⟨_,_,_,_,_,_,_,_,_,_,rfl,Ja ⟨fun _=>rfl,fun _=>rfl,G2,G3,G4,G5,G6,G7,G8,fun _=>rfl⟩,Ja ⟨SS0.out.1,SS0.out.2⟩⟩
       · have hS0:=SS0.out.1 hDi;have h0:=GG.out.2.2.2.2.2.2.2.2.1 (hds 8 (by simp)) hDi;obtain rfl:=GG.out.2.2.2.2.2.2.2.2.2 (hds 9 (by simp));have hE:=hS0.1.2.2.1;obtain ⟨xa,xb,xc,xd,e0,e1,e2,e3,_⟩:=hE.at HSL.out;have f0:=hE.frozen (n*4);have f1:=hE.frozen (n*4+1);have f2:=hE.frozen (n*4+2);have f3:=hE.frozen (n*4+3);obtain ⟨s9,a9,l9,c9,t9,b9,k9,d9,rfl⟩:=Ji.form h0;clear hds;refine Jc rfl rfl (fun K hK=>?_);go_simp;obtain ⟨G0,G1,G2,G3,G4,G5,_,_,_,_⟩:=GG.out;exact hK _ _ ⟨_,_,_,_,_,_,_,_,_,_,rfl,Ja ⟨G0,G1,G2,G3,G4,G5,fun _ h=>by simp at h,fun _ h=>by simp at h,fun _ h=>by simp at h,fun _=>rfl⟩,Ja ⟨fun h=>by simp at h,fun _=>hS0.1.put HSL.out h0⟩⟩
      case fin2=>
       rintro D act V hDD ⟨t15x,t16x,t17x,t18x,t19x,t20x,t21x,t22x,t23x,t24x,rfl,GG,SS0⟩;have HM3:=Ja (SS0.out.2 (hDD 10 (by decide)));clear GG SS0 hDD;rw [HSF.out] at HM3;go_wp2_with fail
       go_meet
       case rel=>exact HM3
    clear ST0;have HP6:=hcut;clear hcut;cases h43:YE (Je s) J 43 with
    | true=>
     have hJ1:J+1≤s.size:=by have:=Yq h43;rw [Jm] at this;omega
     have HTT:=Ja (show Jaw (Je s) f false (J+1) S'=Jaq (Je s) by have e:=HTS.out;rw [if_pos h43] at e;exact e);have HF1:=Ja (fun (V:World) (hh:RcB V R s (k5:Int))=>YG R s k5 43 V hh hk5 hs true (by rw [HJ.out,h43]));rw [HJ.out] at HF1;clear h43;go_wp2_with (go_at_call 120;refine (HF1.out _ HP6.out.1).mono ?_;clear HF1;rintro e w7 ⟨rfl,hr7,hg7⟩;have HP7:=Ja (HP6.out.rc hr7 hg7);clear hr7 hg7)
     go_roundw
     case rel=>exact ⟨false,J+1,f,m+1,S',rfl,hJ1,HP7,HS1,Ja ⟨by have:=HT.out.1;have:=HLT.out;have:=HJ5.out;omega,by have:=HT.out.2.1;have:=HLT.out;have:=HJ5.out;omega,HTT.out⟩⟩
     case measure=>
      have e1:=X1 (I:=J+1) HP7.out.1;rw [e1,HRI.out];have:=HLT.out;have:=HJ5.out;omega
    | false=>
     have HF1:=Ja (fun (V:World) (hh:RcB V R s (k5:Int))=>YG R s k5 43 V hh hk5 hs false (by rw [HJ.out,h43]));rw [HJ.out] at HF1;cases h45:YE (Je s) J 45 with
     | true=>
      have hJ1:J+1≤s.size:=by have:=Yq h45;rw [Jm] at this;omega
      have HTT:=Ja (show Jaw (Je s) f true (J+1) S'=Jaq (Je s) by have e:=HTS.out;rw [if_neg (by rw [h43];decide),if_pos h45] at e;exact e);have HF2:=Ja (fun (V:World) (hh:RcB V R s (J:Int))=>YG R s J 45 V hh hJs hs true (by rw [HJJ.out,h45]));rw [HJJ.out] at HF2;clear h43 h45;go_wp2_with (first
       | (go_at_call 120;refine (HF1.out _ HP6.out.1).mono ?_;clear HF1;rintro e w7 ⟨rfl,hr7,hg7⟩;have HP7:=Ja (HP6.out.rc hr7 hg7);clear hr7 hg7)
       | (go_at_call 120;refine (HF2.out _ HP7.out.1).mono ?_;clear HF2;rintro e w8 ⟨rfl,hr8,hg8⟩;have HP8:=Ja (HP7.out.rc hr8 hg8);clear hr8 hg8))
      go_roundw
      case rel=>exact ⟨true,J+1,f,m+1,S',rfl,hJ1,HP8,HS1,Ja ⟨by have:=HT.out.1;have:=HLT.out;have:=HJ5.out;omega,by have:=HT.out.2.1;have:=HLT.out;have:=HJ5.out;omega,HTT.out⟩⟩
      case measure=>
       have e1:=X1 (I:=J+1) HP8.out.1;rw [e1,HRI.out];have:=HLT.out;have:=HJ5.out;omega
     | false=>
      have HF2:=Ja (fun (V:World) (hh:RcB V R s (J:Int))=>YG R s J 45 V hh hJs hs false (by rw [HJJ.out,h45]));rw [HJJ.out] at HF2;have HF3:=Ja (fun (V:World) (hh:RcB V R s (J:Int))=>Jd8 R s J V hh hJs hs);rw [HJJ.out] at HF3;by_cases hJe:J=s.size
      · have HTT:=Ja (show Jaq (Je s)=.ok S' J by have e:=HTS.out;rw [if_neg (by rw [h43];decide),if_neg (by rw [h45];decide),if_pos (by rw [Jm];exact hJe)] at e;exact e.symm);rw [show decide (J=s.size)=true from decide_eq_true hJe] at HF3;have HMD:=Ja (fun (V:World) (hE:Els true V b S')=>Jd7 (.slice (some ⟨b,0,none⟩) 9 9) S' V (by
         have hrow:=hE.row (n:=9) (cap:=9) (by rw [HS1.out.1];exact Nat.le_refl _) (Nat.le_refl _) (by omega) (by omega);rwa [List.take_of_length_le (by rw [HS1.out.1];exact Nat.le_refl _)] at hrow) (Sqs.of fun i=>Sq.of (HS1.out.2 i) (by have:=HT.out.1;omega)))
        clear h43 h45 hJe;go_wp2_with (first
         | (go_at_call 120;refine (HF1.out _ HP6.out.1).mono ?_;clear HF1;rintro e w7 ⟨rfl,hr7,hg7⟩;have HP7:=Ja (HP6.out.rc hr7 hg7);clear hr7 hg7)
         | (go_at_call 120;refine (HF2.out _ HP7.out.1).mono ?_;clear HF2;rintro e w8 ⟨rfl,hr8,hg8⟩;have HP8:=Ja (HP7.out.rc hr8 hg8);clear hr8 hg8)
         | (go_at_call 122;refine (HF3.out _ HP8.out.1).mono ?_;clear HF3;rintro e w9 ⟨rfl,hr9,hg9⟩;have HP9:=Ja (HP8.out.rc hr9 hg9);clear hr9 hg9)
         | (go_at_call 65;refine (HMD.out _ HP9.out.2.2.1).mono ?_;clear HMD;rintro e w10 ⟨u10,rfl,hu10,_,hq10⟩;obtain ⟨a7,l7,c7,rfl⟩:=hu10.form;have HP10:=Ja (HP9.out.below hq10);have x0:=HP10.out.2.1.cell;have x1:=HP10.out.2.1.frozen;have HU10:=Ja hu10.row;clear hu10 hq10))
        refine bodyPost_ret (v:=.agg #[.slice a7 l7 c7]) (by simp [results,Tryz.results90,go_sem,x0]) rfl ⟨JQ HP10.out.2.2.2.1 HP10.out.2.2.2.2.1 0 _,fun e q he=>?_,fun S'' k he=>?_⟩
        · rw [HTT.out] at he;cases he
        · rw [HTT.out] at he;cases he;exact ⟨_,rfl,⟨_,rfl,Jj8 HP10.out.2.1 _ HU10.out⟩,m+1,by have:=HT.out.1;have:=HLT.out;omega,HS1.out⟩
      · have HTT:=Ja (show Jaq (Je s)=.bad 2 J by have e:=HTS.out;rw [if_neg (by rw [h43];decide),if_neg (by rw [h45];decide),if_neg (by rw [Jm];exact hJe)] at e;exact e.symm);rw [show decide (J=s.size)=false from decide_eq_false hJe] at HF3;clear h43 h45 hJe;go_wp2_with (first
         | (go_at_call 120;refine (HF1.out _ HP6.out.1).mono ?_;clear HF1;rintro e w7 ⟨rfl,hr7,hg7⟩;have HP7:=Ja (HP6.out.rc hr7 hg7);clear hr7 hg7)
         | (go_at_call 120;refine (HF2.out _ HP7.out.1).mono ?_;clear HF2;rintro e w8 ⟨rfl,hr8,hg8⟩;have HP8:=Ja (HP7.out.rc hr8 hg8);clear hr8 hg8)
         | (go_at_call 122;refine (HF3.out _ HP8.out.1).mono ?_;clear HF3;rintro e w9 ⟨rfl,hr9,hg9⟩;have c19:=hr9.c1;have HP9:=Ja (HP8.out.rc hr9 hg9);clear hr9 hg9)
         | (go_at_call 123;refine (HF.out _ _ _).mono ?_;clear HF;rintro e w10 ⟨rfl,rfl⟩))
        refine ⟨rfl,HP9.out.2.2.2.1,fun e q he=>?_,fun S'' k he=>?_⟩
        · rw [HTT.out] at he;cases he;rfl
        · rw [HTT.out] at he;cases he
@[irreducible] def Sq1 (q:Rat):Prop:=SmQ 100000 q
theorem Sq1.of {k:Nat} {q:Rat} (h:SmQ k q) (hk:k≤100000):Sq1 q:=by unfold Sq1;exact h.mono hk
theorem Sq1.sm {q:Rat} (h:Sq1 q):SmQ 100000 q:=by unfold Sq1 at h;exact h
theorem Jsa (va:Value) (x:Int) (w:World) (ha:Jo w va x) :
 Calls Tryz.prog 57 #[va] w fun e w'=>∃ u,e=.returned u∧Jo w' u (x.natAbs:Int)∧Below w.heap.size w w':=by
 obtain ⟨a900,l900,c900,s900,rfl⟩:=Jo.form2 ha;have M0:=(((Mem.nil w).push (.big (x)) ha).push (.big 0) (Jso _));simp only [World.size_alloc] at M0;have M0:Mem w ((w.alloc (.cells #[.slice a900 l900 c900,.bool s900] 47)).alloc (.cells #[.slice none 0 0,.bool false] 47)) [some (w.heap.size,.big (x)),some (w.heap.size+1,.big (0))]:=M0;obtain ⟨W0,hW0⟩:∃ W0,(w.alloc (.cells #[.slice a900 l900 c900,.bool s900] 47)).alloc (.cells #[.slice none 0 0,.bool false] 47)=W0:=⟨_,rfl⟩;have HW0:=Ja hW0;rw [hW0] at M0;have M1:Hid (Mem w W0 [some (w.heap.size,.big (x)),some (w.heap.size+1,.big (0))]):=Ja M0;clear M0 hW0 ha;go_enter Tryz.func57,Tryz.ntmps57
 go_upto_region 1 with fail
 rw [HW0.out];clear HW0;obtain ⟨a1,l1,c1,s1,n1,i1⟩:=M1.out.big (i:=0) rfl;have e1a:=n1.c0;have e1b:=n1.c1;obtain ⟨a2,l2,c2,s2,n2,i2⟩:=M1.out.big (i:=1) rfl;have e2a:=n2.c0;have e2b:=n2.c1;have f2a:=n2.f0;have f2b:=n2.f1;have hI:Jo W0 (.agg #[.slice a1 l1 c1,.bool false]) (x.natAbs:Int):=by
  obtain ⟨a,l,c,e,hr⟩:=i1;simp only [Value.agg.injEq,Array.mk.injEq,List.cons.injEq,Value.slice.injEq,Value.bool.injEq,and_true] at e;obtain ⟨⟨e1,e2,e3⟩,_⟩:=e;exact ⟨a,l,c,by rw [decide_eq_false (by omega),e1,e2,e3],by rw [Int.natAbs_natCast];exact hr⟩
 go_wp2_with fail
 have hq2:=M1.out.2.2;have hge:=M1.out.ge 1 rfl;exact bodyPost_ret (v:=.agg #[.slice a1 l1 c1,.bool false]) (by simp [results,Tryz.results57,go_sem,e2a,e2b]) rfl ⟨_,rfl,hI.box n2 rfl rfl,(hq2.setCell (p:=⟨_,0,none⟩) hge _).setCell (p:=⟨_,1,none⟩) hge _⟩
set_option linter.unusedSimpArgs false
def Jpk (w V:World):Prop:=Below w.heap.size w V
theorem Jpk.below {w V V':World} (h:Jpk w V) (hb:Below V.heap.size V V'):Jpk w V':=Below.trans h (hb.mono (Below.size h))
theorem Jsb {q:Rat} (h:Sq q):Sq (YJ q):=by
 unfold YJ;split
 · exact h.neg
 · exact h
theorem Jpl {ps:List Rat} {k:Nat} {T:List UInt8} (hlt:k<ps.length) (hc:cf ps k≠0) (hT:JP (ps.drop (k+1)) (k+1)=T):JP (ps.drop k) k=(T++Xc (cf ps k) T.isEmpty)++Yo (cf ps k) k++XA k:=by
 rw [Xi ps hlt,if_neg hc,hT];unfold Y7;simp only [List.append_assoc]
theorem Jkl {ps:List Rat} (h0:ps≠[]) (h:JG ps=ps):JP ps 0≠[]:=by
 have h1:=Jlo h h0;have hl:0<ps.length:=List.length_pos_iff.2 h0;have hk:∀ j,j<ps.length→JP (ps.drop (ps.length - 1 - j)) (ps.length - 1 - j)≠[]:=by
  intro j;induction j with
  | zero=>
   intro _;rw [Nat.sub_zero,Xi ps (by omega),if_neg h1];intro h2;exact Jiw _ _ _ (List.append_eq_nil_iff.1 h2).2
  | succ j ih=>
   intro hj;rw [Xi ps (by omega),show ps.length - 1 - (j+1)+1=ps.length - 1 - j from by omega];split
   · exact ih (by omega)
   · intro h2;exact Jiw _ _ _ (List.append_eq_nil_iff.1 h2).2
 have:=hk (ps.length - 1) (by omega);rw [Nat.sub_self,List.drop_zero] at this;exact this
theorem Jpm {q:Rat} {sg:Int} (h:q.num.sign=sg) (h0:sg<0):q<0:=neg_num.2 (by rw [←h] at h0;exact Int.sign_eq_neg_one_iff_neg.1 (by have:=Int.sign_trichotomy q.num;omega))
theorem Jpn {q:Rat} {sg:Int} (h:q.num.sign=sg) (h0:¬ sg<0):¬ q<0:=fun h1=>h0 (by rw [←h,Int.sign_eq_neg_one_iff_neg.2 (neg_num.1 h1)];decide)
theorem Jq9 (va:Value) (ps:List Rat) (w:World) (ha:RowK false w va ps) (hps:Sqs ps) (hT:∀ m,(JP (ps.drop m) m).length≤140737488355328) (htr:JG ps=ps) (htab:Je9 w) :
 Calls Tryz.prog 14 #[va] w fun e w'=>e=.returned (.string ⟨(Jav ps).toArray⟩)∧Below w.heap.size w w':=by
 have hmx:Tryz.prog.follows .mixedOrders=true:=by kernel_rfl
 obtain ⟨a,la,ca,rfl⟩:=ha.form;obtain ⟨hla,hca,hcma,hlma,s,t,aa,bb,ll,cc,kk,dd,hc⟩:=ha.formsF;have HA:=Ja hc;have HP:=Ja hps;have HLA:=Ja hla;have HTL:=Ja hT;have HTR:=Ja htr;have HTB:=Ja htab;clear ha hps hla hca hcma hc hT htr htab;by_cases h0:la=0
 · have h0b:((la:Int) == 0)=true:=by rw [h0];rfl
   have HE:=Ja (show (⟨(Jav ps).toArray⟩:ByteArray)=⟨#[48]⟩ by rw [List.length_eq_zero_iff.1 (by have:=HLA.out;omega:ps.length=0)];rfl);clear h0;go_enter Tryz.func14,Tryz.ntmps14
   go_wp2;go_ret;exact ⟨by rw [HE.out];rfl,Below.refl _ _⟩
 · have h0b:((la:Int) == 0)=false:=by rw [beq_eq_false_iff_ne];omega
   go_enter Tryz.func14,Tryz.ntmps14
   go_wp2;go_loopw [3,4] (fun sv iv wr=>∃ m:Nat,m≤la∧sv=.string ⟨(JP (ps.drop m) m).toArray⟩∧iv=.int .i64 ((m:Int) - 1)∧Hid (Below w.heap.size w wr)) (fun _ i _=>(intOf i+1).toNat)
   case atStart=>exact ⟨la,Nat.le_refl _,by rw [List.drop_eq_nil_of_le (by have:=HLA.out;omega)];rfl,rfl,Ja (Below.refl _ _)⟩
   case round=>
    obtain ⟨m,hm,rfl,rfl,HG⟩:=hrel;by_cases hm0:m=0
    · subst hm0;have HE:=Ja (show (⟨(Jav ps).toArray⟩:ByteArray)=⟨(JP (ps.drop 0) 0).toArray⟩ by unfold Jav;rw [if_neg (Jkl (fun h=>h0 (by have:=HLA.out;rw [h] at this;simpa using this)) HTR.out),List.drop_zero]);obtain ⟨SS,hSS⟩:∃ S:ByteArray,⟨(JP (ps.drop 0) 0).toArray⟩=S:=⟨_,rfl⟩;rw [hSS] at HE ⊢;clear hSS;go_wp2;go_ret;exact ⟨by rw [HE.out];rfl,HG.out⟩
    · obtain ⟨k,rfl⟩:∃ k,m=k+1:=⟨m - 1,by omega⟩;have hk1:((k+1:Nat):Int) - 1=(k:Int):=by omega
      rw [hk1];have hlt:k<la:=by omega
      have hlt2:(k:Int)<(la:Int):=by omega
      obtain ⟨T,hTT⟩:∃ T:List UInt8,JP (ps.drop (k+1)) (k+1)=T:=⟨_,rfl⟩;rw [hTT];obtain ⟨ST,hST⟩:∃ S:ByteArray,(⟨T.toArray⟩:ByteArray)=S:=⟨_,rfl⟩;rw [hST];obtain ⟨hi,b,rfl,hb,c0,c1,c2,c3⟩:=HA.out k hlt;have HCL:=Ja (show ∀ V,Below w.heap.size w V→(V.cell? ⟨b,k*4,none⟩=some (.slice (aa k) (ll k) (cc k))∧V.cell? ⟨b,k*4+1,none⟩=some (.bool (s k))∧V.cell? ⟨b,k*4+2,none⟩=some (.slice (bb k) (kk k) (dd k))∧V.cell? ⟨b,k*4+3,none⟩=some (.bool (t k)))∧JB V (.agg #[.slice (aa k) (ll k) (cc k),.bool (s k),.slice (bb k) (kk k) (dd k),.bool (t k)]) (cf ps k) from fun V hB=>by
       exact ⟨⟨(hB.cell (p:=⟨b,_,none⟩) hb).trans c0,(hB.cell (p:=⟨b,_,none⟩) hb).trans c1,(hB.cell (p:=⟨b,_,none⟩) hb).trans c2,(hB.cell (p:=⟨b,_,none⟩) hb).trans c3⟩,hi.below hB⟩)
      clear hi c0 c1 c2 c3 hb;obtain ⟨⟨e0,e1,e2,e3⟩,hr⟩:=HCL.out wr HG.out;have HS1:=Ja (Jhj _ _ wr hr);obtain ⟨sg,hsg⟩:∃ x,(cf ps k).num.sign=x:=⟨_,rfl⟩;rw [hsg] at HS1;have HSG:=Ja hsg;have HTT:=Ja hTT;have HST:=Ja hST;clear hr hTT hST hsg hk1 hm0;by_cases hz:sg=0
      · have hzb:(sg == 0)=true:=by rw [hz];rfl
        have HX:=Ja (show ST=⟨(JP (ps.drop k) k).toArray⟩ by rw [Xi ps (by have:=HLA.out;omega),if_pos (Rat.num_eq_zero.1 (Int.sign_eq_zero_iff_zero.1 (HSG.out.trans hz))),HTT.out,HST.out]);clear hz;go_wp2_with (first
         | (go_at_call 56;refine HS1.out.mono ?_;clear HS1;rintro e w1 ⟨rfl,hb1⟩;have HG1:=Ja (HG.out.trans (hb1.mono HG.out.size));clear hb1 e0 e1 e2 e3))
        go_roundw
        case rel=>exact ⟨k,by omega,congrArg Value.string HX.out,by first | rfl | go_num,Ja HG1.out⟩
        case measure=>first | (simp [intOf];done) | (simp [intOf];omega)
      · have hzb:(sg == 0)=false:=by rw [beq_eq_false_iff_ne];exact hz
        go_upto_region 8 with (first
         | (go_at_call 56;refine HS1.out.mono ?_;clear HS1;rintro e w1 ⟨rfl,hb1⟩;have HG1:=Ja (HG.out.trans (hb1.mono HG.out.size));clear hb1 e0 e1 e2 e3;obtain ⟨⟨e0,e1,e2,e3⟩,hr⟩:=HCL.out w1 HG1.out;have HS2:=Ja (Jhj _ _ w1 hr);rw [HSG.out] at HS2;clear hr))
        go_upto_if 27 with (first
         | (go_at_call 56;refine HS2.out.mono ?_;clear HS2;rintro e w2 ⟨rfl,hb2⟩;have HG2:=Ja (HG1.out.trans (hb2.mono HG1.out.size));clear hb2 e0 e1 e2 e3))
        go_cut [3] (fun sv w'=>sv=.string (ST++⟨(Xc (cf ps k) T.isEmpty).toArray⟩)∧w'=w2)
        case first=>
         have hzT:ST.size≤140737488355328:=by
          rw [←HST.out,←HTT.out];show (JP (ps.drop (k+1)) (k+1)).toArray.size≤_;rw [List.size_toArray];exact HTL.out _
         by_cases hneg:sg<0
         · have HSL:=Ja (show ST++⟨#[45]⟩=ST++⟨(Xc (cf ps k) T.isEmpty).toArray⟩ by unfold Xc;rw [if_pos (Jpm HSG.out hneg)]);go_wp2_with fail
           go_meet
           case rel=>exact ⟨by rw [←HSL.out],rfl⟩
         · have hnp:=Jpn HSG.out hneg;by_cases hTe:T=[]
           · have HSL:=Ja (show (⟨#[]⟩:ByteArray)=⟨#[]⟩++⟨(Xc (cf ps k) T.isEmpty).toArray⟩ by unfold Xc;rw [if_neg hnp,hTe];rfl);have hSe:ST=⟨#[]⟩:=by rw [←HST.out,hTe]
             clear hnp hTe;subst hSe;go_wp2_with fail
             go_meet
             case rel=>exact ⟨by rw [←HSL.out],rfl⟩
           · have HSL:=Ja (show ST++⟨#[43]⟩=ST++⟨(Xc (cf ps k) T.isEmpty).toArray⟩ by unfold Xc;rw [if_neg hnp,if_neg (by simpa using hTe)]);have hSe:ST.toList.isEmpty=false:=by
              rw [←HST.out,YX];simpa using hTe
             clear hnp hTe;go_wp2_with fail
             go_meet
             case rel=>exact ⟨by rw [←HSL.out],rfl⟩
        case rest=>
         obtain ⟨rfl,rfl⟩:=hcut;obtain ⟨SG,hSG⟩:∃ S,ST++⟨(Xc (cf ps k) T.isEmpty).toArray⟩=S:=⟨_,rfl⟩;rw [hSG];have HSGN:=Ja hSG;clear hSG;obtain ⟨SA,hSA⟩:∃ S:ByteArray,⟨(JM (YJ (cf ps k))).toArray⟩=S:=⟨_,rfl⟩;have HSA:=Ja hSA;have HSQ:=Ja (Jsb (HP.out.at k));clear hSA;go_wp2_with fail
         have ST0:Jpk w (wc.drew):=HG2.out.drew;refine Jq hmx [[],[],[0,1],[2],[3],[4],[],[],[6,7],[8],[9],[5,10],[11,5],[12,12,0,1,2,3,4,5,6,7,8,9,10,11,12]] (by kernel_rfl) (by decide)
          (fun D act V=>∃ (t34x t35x t36x t37x t38x t39x t40x t41x t42x t43x t44x t45x t46x t5x:Value),act={ tmps:=#[Value.slice (some ⟨b,0,none⟩) la ca,undef,Value.string { data:=#[] },Value.string SG,Value.int IntKind.i64 ↑k,t5x,Value.slice (some ⟨b,0,none⟩) la ca,Value.int IntKind.i64 ↑la,Value.bool false,Value.slice (some ⟨b,0,none⟩) la ca,Value.int IntKind.i64 ↑la,Value.int IntKind.i64 (↑la - 1),u12,u13,u14,u15,u16,u17,u18,u19,u20,u21,u22,u23,u24,u25,u26,u27,u28,u29,u30,u31,u32,u33,t34x,t35x,t36x,t37x,t38x,t39x,t40x,t41x,t42x,t43x,t44x,t45x,t46x,u47,u48,u49,u50,u51,u52,u53,u54,u55,u56,u57,u58,u59,u60,u61,u62,u63,u64,u65,u66,undef],defers:=[] }∧Hid ((D 0=true→t34x=.slice (some ⟨b,0,none⟩) la ca)∧(D 1=true→t35x=.int .i64 (k:Int))∧(D 2=true→t36x=.pointer (some ⟨b,k*4,none⟩))∧(D 3=true→t37x=.pointer (some ⟨b,k*4,none⟩))∧(D 4=true→Jo V t38x (cf ps k).num)∧(D 5=true→Jo V t39x ((cf ps k).num.natAbs:Int))∧(D 6=true→t40x=.slice (some ⟨b,0,none⟩) la ca)∧(D 7=true→t41x=.int .i64 (k:Int))∧(D 8=true→t42x=.pointer (some ⟨b,k*4,none⟩))∧(D 9=true→t43x=.pointer (some ⟨b,k*4+2,none⟩))∧(D 10=true→Jo V t44x ((cf ps k).den:Int))∧(D 11=true→JB V t45x (YJ (cf ps k)))∧(D 12=true→t46x=.string SA)∧(D 13=true→t5x=.string SA))∧Hid (Jpk w V))
          ⟨_,_,_,_,_,_,_,_,_,_,_,_,_,_,rfl,Ja ⟨by simp,by simp,by simp,by simp,by simp,by simp,by simp,by simp,by simp,by simp,by simp,by simp,by simp,by simp⟩,Ja ST0⟩ ?step1 ?fin1
         case step1=>
          rintro D act V i ds hcl hi hds hDi ⟨t34x,t35x,t36x,t37x,t38x,t39x,t40x,t41x,t42x,t43x,t44x,t45x,t46x,t5x,rfl,GG,SS0⟩;have hi6:i<14:=(List.getElem?_eq_some_iff.1 hi).1;obtain rfl | rfl | rfl | rfl | rfl | rfl | rfl | rfl | rfl | rfl | rfl | rfl | rfl | rfl:i=0∨i=1∨i=2∨i=3∨i=4∨i=5∨i=6∨i=7∨i=8∨i=9∨i=10∨i=11∨i=12∨i=13:=by omega
          all_goals
           simp only [List.getElem?_cons_zero,List.getElem?_cons_succ,Option.some.injEq] at hi;subst hi
          · have hS0:=SS0.out;clear hds;refine Jc rfl rfl (fun K hK=>?_);go_simp;obtain ⟨_,G1,G2,G3,G4,G5,G6,G7,G8,G9,G10,G11,G12,G13⟩:=GG.out;exact hK _ _ ⟨_,_,_,_,_,_,_,_,_,_,_,_,_,_,rfl,Ja ⟨fun _=>rfl,G1,G2,G3,G4,G5,G6,G7,G8,G9,G10,G11,G12,G13⟩,Ja (SS0.out)⟩
          · have hS0:=SS0.out;clear hds;refine Jc rfl rfl (fun K hK=>?_);go_simp;obtain ⟨G0,_,G2,G3,G4,G5,G6,G7,G8,G9,G10,G11,G12,G13⟩:=GG.out;exact hK _ _ ⟨_,_,_,_,_,_,_,_,_,_,_,_,_,_,rfl,Ja ⟨G0,fun _=>rfl,G2,G3,G4,G5,G6,G7,G8,G9,G10,G11,G12,G13⟩,Ja (SS0.out)⟩
          · have hS0:=SS0.out;obtain rfl:=GG.out.1 (hds 0 (by simp));obtain rfl:=GG.out.2.1 (hds 1 (by simp));clear hds;refine Jc rfl rfl (fun K hK=>?_);go_simp;obtain ⟨_,_,_,G3,G4,G5,G6,G7,G8,G9,G10,G11,G12,G13⟩:=GG.out;exact hK _ _ ⟨_,_,_,_,_,_,_,_,_,_,_,_,_,_,rfl,Ja ⟨fun _=>rfl,fun _=>rfl,fun _=>rfl,G3,G4,G5,G6,G7,G8,G9,G10,G11,G12,G13⟩,Ja (SS0.out)⟩
          · have hS0:=SS0.out;obtain rfl:=GG.out.2.2.1 (hds 2 (by simp));clear hds;refine Jc rfl rfl (fun K hK=>?_);go_simp;obtain ⟨G0,G1,_,_,G4,G5,G6,G7,G8,G9,G10,G11,G12,G13⟩:=GG.out;exact hK _ _ ⟨_,_,_,_,_,_,_,_,_,_,_,_,_,_,rfl,Ja ⟨G0,G1,fun _=>rfl,fun _=>rfl,G4,G5,G6,G7,G8,G9,G10,G11,G12,G13⟩,Ja (SS0.out)⟩
          · have hS0:=SS0.out;obtain rfl:=GG.out.2.2.2.1 (hds 3 (by simp));obtain ⟨⟨e0,e1,e2,e3⟩,hr⟩:=HCL.out V hS0;obtain ⟨_,_,_,_,_,_,_,_,ev,hn,hd⟩:=hr;cases ev;clear hds;refine Jc rfl rfl (fun K hK=>?_);go_simp;obtain ⟨G0,G1,G2,_,_,G5,G6,G7,G8,G9,G10,G11,G12,G13⟩:=GG.out;exact hK _ _ ⟨_,_,_,_,_,_,_,_,_,_,_,_,_,_,rfl,Ja ⟨G0,G1,G2,fun _=>rfl,fun _=>hn,G5,G6,G7,G8,G9,G10,G11,G12,G13⟩,Ja (SS0.out)⟩
          · have hS0:=SS0.out;have h0:=GG.out.2.2.2.2.1 (hds 4 (by simp));clear hds;have HC:=Ja (Jsa _ _ V h0);clear h0;refine Jc rfl rfl (fun K hK=>?_);go_simp;go_wp2_with (go_at_call 57;refine HC.out.mono ?_;rintro e w5 ⟨v5,rfl,hv5,hb5⟩)
            obtain ⟨G0,G1,G2,G3,G4,_,G6,G7,G8,G9,G10,G11,G12,G13⟩:=GG.out;exact ⟨_,_,_,_,_,_,_,_,_,_,_,_,_,_,rfl,Ja ⟨G0,G1,G2,G3,fun h=>(G4 h).below hb5,fun _=>hv5,G6,G7,G8,G9,fun h=>(G10 h).below hb5,fun h=>(G11 h).below hb5,G12,G13⟩,Ja (SS0.out.below hb5)⟩
          · have hS0:=SS0.out;clear hds;refine Jc rfl rfl (fun K hK=>?_);go_simp;obtain ⟨G0,G1,G2,G3,G4,G5,_,G7,G8,G9,G10,G11,G12,G13⟩:=GG.out;exact hK _ _ ⟨_,_,_,_,_,_,_,_,_,_,_,_,_,_,rfl,Ja ⟨G0,G1,G2,G3,G4,G5,fun _=>rfl,G7,G8,G9,G10,G11,G12,G13⟩,Ja (SS0.out)⟩
          · have hS0:=SS0.out;clear hds;refine Jc rfl rfl (fun K hK=>?_);go_simp;obtain ⟨G0,G1,G2,G3,G4,G5,G6,_,G8,G9,G10,G11,G12,G13⟩:=GG.out;exact hK _ _ ⟨_,_,_,_,_,_,_,_,_,_,_,_,_,_,rfl,Ja ⟨G0,G1,G2,G3,G4,G5,G6,fun _=>rfl,G8,G9,G10,G11,G12,G13⟩,Ja (SS0.out)⟩
          · have hS0:=SS0.out;obtain rfl:=GG.out.2.2.2.2.2.2.1 (hds 6 (by simp));obtain rfl:=GG.out.2.2.2.2.2.2.2.1 (hds 7 (by simp));clear hds;refine Jc rfl rfl (fun K hK=>?_);go_simp;obtain ⟨G0,G1,G2,G3,G4,G5,_,_,_,G9,G10,G11,G12,G13⟩:=GG.out;exact hK _ _ ⟨_,_,_,_,_,_,_,_,_,_,_,_,_,_,rfl,Ja ⟨G0,G1,G2,G3,G4,G5,fun _=>rfl,fun _=>rfl,fun _=>rfl,G9,G10,G11,G12,G13⟩,Ja (SS0.out)⟩
          · have hS0:=SS0.out;obtain rfl:=GG.out.2.2.2.2.2.2.2.2.1 (hds 8 (by simp));clear hds;refine Jc rfl rfl (fun K hK=>?_);go_simp;obtain ⟨G0,G1,G2,G3,G4,G5,G6,G7,_,_,G10,G11,G12,G13⟩:=GG.out;exact hK _ _ ⟨_,_,_,_,_,_,_,_,_,_,_,_,_,_,rfl,Ja ⟨G0,G1,G2,G3,G4,G5,G6,G7,fun _=>rfl,fun _=>rfl,G10,G11,G12,G13⟩,Ja (SS0.out)⟩
          · have hS0:=SS0.out;obtain rfl:=GG.out.2.2.2.2.2.2.2.2.2.1 (hds 9 (by simp));obtain ⟨⟨e0,e1,e2,e3⟩,hr⟩:=HCL.out V hS0;obtain ⟨_,_,_,_,_,_,_,_,ev,hn,hd⟩:=hr;cases ev;clear hds;refine Jc rfl rfl (fun K hK=>?_);go_simp;obtain ⟨G0,G1,G2,G3,G4,G5,G6,G7,G8,_,_,G11,G12,G13⟩:=GG.out;exact hK _ _ ⟨_,_,_,_,_,_,_,_,_,_,_,_,_,_,rfl,Ja ⟨G0,G1,G2,G3,G4,G5,G6,G7,G8,fun _=>rfl,fun _=>hd,G11,G12,G13⟩,Ja (SS0.out)⟩
          · have hS0:=SS0.out;have h0:=GG.out.2.2.2.2.2.1 (hds 5 (by simp));have h1:=GG.out.2.2.2.2.2.2.2.2.2.2.1 (hds 10 (by simp));obtain ⟨a91,l91,c91,s91,rfl⟩:=Jo.form2 h0;obtain ⟨a92,l92,c92,s92,rfl⟩:=Jo.form2 h1;clear hds;refine Jc rfl rfl (fun K hK=>?_);go_simp;obtain ⟨G0,G1,G2,G3,G4,G5,G6,G7,G8,G9,G10,_,G12,G13⟩:=GG.out;exact hK _ _ ⟨_,_,_,_,_,_,_,_,_,_,_,_,_,_,rfl,Ja ⟨G0,G1,G2,G3,G4,G5,G6,G7,G8,G9,G10,fun _=>⟨_,_,_,_,_,_,_,_,rfl,by rw [(Jbe _).1];exact h0,by rw [(Jbe _).2];exact h1⟩,G12,G13⟩,Ja (SS0.out)⟩
          · have hS0:=SS0.out;have h0:=GG.out.2.2.2.2.2.2.2.2.2.2.2.1 (hds 11 (by simp));clear hds;have HC:=Ja (Jhh _ (YJ (cf ps k)) V h0 HSQ.out);rw [HSA.out] at HC;clear h0;refine Jc rfl rfl (fun K hK=>?_);go_simp;go_wp2_with (go_at_call 17;refine HC.out.mono ?_;rintro e w5 ⟨rfl,hb5⟩)
            obtain ⟨G0,G1,G2,G3,G4,G5,G6,G7,G8,G9,G10,G11,_,G13⟩:=GG.out;exact ⟨_,_,_,_,_,_,_,_,_,_,_,_,_,_,rfl,Ja ⟨G0,G1,G2,G3,fun h=>(G4 h).below hb5,fun h=>(G5 h).below hb5,G6,G7,G8,G9,fun h=>(G10 h).below hb5,fun h=>(G11 h).below hb5,fun _=>rfl,G13⟩,Ja (SS0.out.below hb5)⟩
          · have hS0:=SS0.out;obtain rfl:=GG.out.2.2.2.2.2.2.2.2.2.2.2.2.1 (hds 12 (by simp));clear hds;refine Jc rfl rfl (fun K hK=>?_);go_simp;obtain ⟨G0,G1,G2,G3,G4,G5,G6,G7,G8,G9,G10,G11,_,_⟩:=GG.out;exact hK _ _ ⟨_,_,_,_,_,_,_,_,_,_,_,_,_,_,rfl,Ja ⟨G0,G1,G2,G3,G4,G5,G6,G7,G8,G9,G10,G11,fun _=>rfl,fun _=>rfl⟩,Ja (SS0.out)⟩
         case fin1=>
          rintro D act V hDD ⟨t34x,t35x,t36x,t37x,t38x,t39x,t40x,t41x,t42x,t43x,t44x,t45x,t46x,t5x,rfl,GG,SS0⟩;have HG3:=Ja (show Below w.heap.size w V from SS0.out);obtain rfl:=GG.out.2.2.2.2.2.2.2.2.2.2.2.2.1 (hDD 12 (by decide));obtain rfl:=GG.out.2.2.2.2.2.2.2.2.2.2.2.2.2 (hDD 13 (by decide));clear GG SS0 hDD;have hcf:cf ps k≠0:=fun h=>by have:=HSG.out;rw [h] at this;exact hz this.symm
          have HTF:=Ja (Jpl (by have:=HLA.out;omega) hcf HTT.out);obtain ⟨LG,hLG⟩:∃ l,T++Xc (cf ps k) T.isEmpty=l:=⟨_,rfl⟩;rw [hLG] at HTF;have HLG:=Ja (show (⟨LG.toArray⟩:ByteArray)=SG by rw [←HSGN.out,←HST.out,←hLG,Xw]);clear hLG hcf;have hzG:SG.size≤140737488355329:=by
           rw [←HSGN.out,←HST.out,←HTT.out,Xw];show ((JP (ps.drop (k+1)) (k+1))++_).toArray.size≤_;rw [List.size_toArray,List.length_append];have h1:=HTL.out (k+1);have h2:(Xc (cf ps k) (JP (ps.drop (k+1)) (k+1)).isEmpty).length≤1:=by
            unfold Xc;split
            · simp
            · split <;> simp
           omega
          have hzA:SA.size≤2000000000:=by
           rw [←HSA.out];show (JM (YJ (cf ps k))).toArray.size≤_;rw [List.size_toArray];obtain ⟨e1,e2⟩:=Jbe (cf ps k);have hs:=HP.out.at k;unfold JM;have h1:=XJ (YJ (cf ps k)).num;have h2:=XJ ((YJ (cf ps k)).den:Int);have h3:=hs.num.words;have h4:=hs.den.words;rw [e1,Int.natAbs_natCast] at h1;rw [e2] at h2;rw [e1,e2];split
           · omega
           · rw [List.length_append,List.length_cons];omega
          by_cases h49:JM (YJ (cf ps k))=[49]
          · by_cases hk0:k=0
            · have hk1:¬ k=1:=by omega
              have HX:=Ja (show (⟨LG.toArray⟩:ByteArray)++⟨[49].toArray⟩=⟨(JP (ps.drop k) k).toArray⟩ by
               rw [HTF.out,show Yo (cf ps k) k=JM (YJ (cf ps k)) from by unfold Yo;rw [if_neg (by intro h;omega)],show XA k=[] from by unfold XA;rw [if_pos hk0],h49];simp only [Xw,List.append_assoc,List.append_nil,List.nil_append,List.cons_append])
              rw [HLG.out] at HX;have hkb:((k:Int) == 0)=true:=by rw [hk0];rfl
              have hkg:¬ (0:Int)<(k:Int):=by omega
              have hkg1:¬ (1:Int)<(k:Int):=by omega
              have hSA1:SA=⟨#[49]⟩:=by rw [←HSA.out,h49]
              clear h49 hk1 hk0;subst hSA1;go_wp2_with fail
              go_roundw
              case rel=>exact ⟨k,by omega,congrArg Value.string HX.out,by first | rfl | go_num,Ja HG3.out⟩
              case measure=>first | (simp [intOf];done) | (simp [intOf];omega)
            · by_cases hk1:k=1
              · skip
                have HX:=Ja (show (⟨LG.toArray⟩:ByteArray)++⟨[120].toArray⟩=⟨(JP (ps.drop k) k).toArray⟩ by
                 rw [HTF.out,show Yo (cf ps k) k=[] from by unfold Yo;rw [if_pos ⟨h49,by omega⟩],show XA k=[120] from by unfold XA;rw [if_neg hk0,if_pos hk1]];simp only [Xw,List.append_assoc,List.append_nil,List.nil_append,List.cons_append])
                rw [HLG.out] at HX;have hkb:((k:Int) == 0)=false:=by rw [beq_eq_false_iff_ne];omega
                have hkg:(0:Int)<(k:Int):=by omega
                have hkg1:¬ (1:Int)<(k:Int):=by omega
                have hSA1:SA=⟨#[49]⟩:=by rw [←HSA.out,h49]
                clear h49 hk0 hk1;subst hSA1;go_wp2_with fail
                go_roundw
                case rel=>exact ⟨k,by omega,congrArg Value.string HX.out,by first | rfl | go_num,Ja HG3.out⟩
                case measure=>first | (simp [intOf];done) | (simp [intOf];omega)
              · skip
                have HX:=Ja (show (⟨LG.toArray⟩:ByteArray)++⟨[120].toArray⟩++⟨[94].toArray⟩++⟨(YD k).toArray⟩=⟨(JP (ps.drop k) k).toArray⟩ by
                 rw [HTF.out,show Yo (cf ps k) k=[] from by unfold Yo;rw [if_pos ⟨h49,by omega⟩],show XA k=120::94::YD k from by unfold XA;rw [if_neg hk0,if_neg hk1]];simp only [Xw,List.append_assoc,List.append_nil,List.nil_append,List.cons_append])
                rw [HLG.out] at HX;have HIT:=Ja (Jkb k (by omega) V (JY HTB.out HG3.out));obtain ⟨SD,hSD⟩:∃ S:ByteArray,⟨(YD k).toArray⟩=S:=⟨_,rfl⟩;rw [hSD] at HIT HX;have hzD:SD.size≤2000:=by
                 rw [←hSD];show (YD k).toArray.size≤_;rw [List.size_toArray];have h3:(Jb B64 k).length≤1:=JA Jd (by unfold B64;omega);have:=XH k;omega
                clear hSD;have hkb:((k:Int) == 0)=false:=by rw [beq_eq_false_iff_ne];omega
                have hkg:(0:Int)<(k:Int):=by omega
                have hkg1:(1:Int)<(k:Int):=by omega
                have hSA1:SA=⟨#[49]⟩:=by rw [←HSA.out,h49]
                clear h49 hk0 hk1;subst hSA1;go_wp2_with (go_at_call 58;refine HIT.out.mono ?_;clear HIT;rintro e w9 ⟨rfl,hb9⟩;have HG9:=Ja (HG3.out.trans (hb9.mono HG3.out.size));clear hb9)
                go_roundw
                case rel=>exact ⟨k,by omega,congrArg Value.string HX.out,by first | rfl | go_num,Ja HG9.out⟩
                case measure=>first | (simp [intOf];done) | (simp [intOf];omega)
          · by_cases hk0:k=0
            · have hk1:¬ k=1:=by omega
              have HX:=Ja (show (⟨LG.toArray⟩:ByteArray)++⟨(JM (YJ (cf ps k))).toArray⟩=⟨(JP (ps.drop k) k).toArray⟩ by
               rw [HTF.out,show Yo (cf ps k) k=JM (YJ (cf ps k)) from by unfold Yo;rw [if_neg (by intro h;omega)],show XA k=[] from by unfold XA;rw [if_pos hk0]];simp only [Xw,List.append_assoc,List.append_nil,List.nil_append,List.cons_append])
              rw [HLG.out,HSA.out] at HX;have hkb:((k:Int) == 0)=true:=by rw [hk0];rfl
              have hkg:¬ (0:Int)<(k:Int):=by omega
              have hkg1:¬ (1:Int)<(k:Int):=by omega
              have hne4:¬ SA.toList=[49]:=by
               rw [YX,←HSA.out];simpa using h49
              clear h49 hk1 hk0;go_wp2_with fail
              go_roundw
              case rel=>exact ⟨k,by omega,congrArg Value.string HX.out,by first | rfl | go_num,Ja HG3.out⟩
              case measure=>first | (simp [intOf];done) | (simp [intOf];omega)
            · by_cases hk1:k=1
              · skip
                have HX:=Ja (show (⟨LG.toArray⟩:ByteArray)++⟨(JM (YJ (cf ps k))).toArray⟩++⟨[120].toArray⟩=⟨(JP (ps.drop k) k).toArray⟩ by
                 rw [HTF.out,show Yo (cf ps k) k=JM (YJ (cf ps k)) from by unfold Yo;rw [if_neg (fun h=>h49 h.1)],show XA k=[120] from by unfold XA;rw [if_neg hk0,if_pos hk1]];simp only [Xw,List.append_assoc,List.append_nil,List.nil_append,List.cons_append])
                rw [HLG.out,HSA.out] at HX;have hkb:((k:Int) == 0)=false:=by rw [beq_eq_false_iff_ne];omega
                have hkg:(0:Int)<(k:Int):=by omega
                have hkg1:¬ (1:Int)<(k:Int):=by omega
                have hne4:¬ SA.toList=[49]:=by
                 rw [YX,←HSA.out];simpa using h49
                clear h49 hk0 hk1;go_wp2_with fail
                go_roundw
                case rel=>exact ⟨k,by omega,congrArg Value.string HX.out,by first | rfl | go_num,Ja HG3.out⟩
                case measure=>first | (simp [intOf];done) | (simp [intOf];omega)
              · skip
                have HX:=Ja (show (⟨LG.toArray⟩:ByteArray)++⟨(JM (YJ (cf ps k))).toArray⟩++⟨[120].toArray⟩++⟨[94].toArray⟩++⟨(YD k).toArray⟩=⟨(JP (ps.drop k) k).toArray⟩ by
                 rw [HTF.out,show Yo (cf ps k) k=JM (YJ (cf ps k)) from by unfold Yo;rw [if_neg (fun h=>h49 h.1)],show XA k=120::94::YD k from by unfold XA;rw [if_neg hk0,if_neg hk1]];simp only [Xw,List.append_assoc,List.append_nil,List.nil_append,List.cons_append])
                rw [HLG.out,HSA.out] at HX;have HIT:=Ja (Jkb k (by omega) V (JY HTB.out HG3.out));obtain ⟨SD,hSD⟩:∃ S:ByteArray,⟨(YD k).toArray⟩=S:=⟨_,rfl⟩;rw [hSD] at HIT HX;have hzD:SD.size≤2000:=by
                 rw [←hSD];show (YD k).toArray.size≤_;rw [List.size_toArray];have h3:(Jb B64 k).length≤1:=JA Jd (by unfold B64;omega);have:=XH k;omega
                clear hSD;have hkb:((k:Int) == 0)=false:=by rw [beq_eq_false_iff_ne];omega
                have hkg:(0:Int)<(k:Int):=by omega
                have hkg1:(1:Int)<(k:Int):=by omega
                have hne4:¬ SA.toList=[49]:=by
                 rw [YX,←HSA.out];simpa using h49
                clear h49 hk0 hk1;go_wp2_with (go_at_call 58;refine HIT.out.mono ?_;clear HIT;rintro e w9 ⟨rfl,hb9⟩;have HG9:=Ja (HG3.out.trans (hb9.mono HG3.out.size));clear hb9)
                go_roundw
                case rel=>exact ⟨k,by omega,congrArg Value.string HX.out,by first | rfl | go_num,Ja HG9.out⟩
                case measure=>first | (simp [intOf];done) | (simp [intOf];omega)
end Go.Proofs.YtcahejkcdcjjgaaGreatDoor
