import Derived.Test.YtcahejkcdcjjgaaGreatDoorK40
import Derived.Test.YtcahejkcdcjjgaaGreatDoorK09
import Derived.Test.YtcahejkcdcjjgaaGreatDoorK39
import Derived.Test.YtcahejkcdcjjgaaGreatDoorK32
import Derived.Test.YtcahejkcdcjjgaaGreatDoorK25
import Derived.Test.YtcahejkcdcjjgaaGreatDoorK34
import Derived.Test.YtcahejkcdcjjgaaGreatDoorK29
import Derived.Test.YtcahejkcdcjjgaaGreatDoorK20
set_option maxRecDepth 100000
set_option maxHeartbeats 16000000
namespace Go.Proofs.YtcahejkcdcjjgaaGreatDoor
open Go.RowKit Go.Shelf
attribute [local go_sem] Oper.semAt_some
def fnJ (b:Bool):Value:=if b then .func (.func 43) #[] #[] else .func (.func 40) #[] #[]
theorem Jm1 (R:Nat) (s:ByteArray) (w:World) (h:RcB w R s 0) (hs:s.size≤300) :
 Calls Tryz.prog 90 #[.pointer (some ⟨R,0,none⟩)] w fun r w'=>Jtt w R s r w':=by
 have hmx:Tryz.prog.follows .mixedOrders=true:=by kernel_rfl
 have hmk:(Instr.makeSlice 23 (.int .i64 9) (.int .i64 9)).run Tryz.prog (w.alloc (.cells #[.slice none 0 0] 25))=.ok (.slice (some ⟨(w.alloc (.cells #[.slice none 0 0] 25)).heap.size,0,none⟩) 9 9) ((w.alloc (.cells #[.slice none 0 0] 25)).alloc (.cells (Ya 9) 38)):=XG 9 (by omega) _;have hP0:=PoB.new h 9;obtain ⟨W0,hW0⟩:∃ W0,(w.alloc (.cells #[.slice none 0 0] 25)).alloc (.cells (Ya 9) 38)=W0:=⟨_,rfl⟩;rw [hW0,World.size_alloc] at hmk;rw [hW0] at hP0;obtain ⟨Q,hQ⟩:∃ Q,w.heap.size=Q:=⟨_,rfl⟩;obtain ⟨b,hb⟩:∃ b,w.heap.size+1=b:=⟨_,rfl⟩;rw [hb] at hmk;rw [hb,hQ] at hP0;have HQ:=Ja hQ;have HP0:=Ja hP0;obtain ⟨b0,hb0⟩:∃ x,x=YJ (Je s) (skB (Je s) 0) 45:=⟨_,rfl⟩;have HFD:=Ja (YL R s 0 45 W0 hP0.1 (by omega) hs b0 hb0);have HB0:=Ja hb0;have HF:=Ja (fun (e q:Int) (V:World)=>Jdu (.pointer (some ⟨R,0,none⟩)) e q V);clear h hW0 hQ hb hP0 hb0;go_enter Tryz.func90,Tryz.ntmps90
 go_upto_region 3 with fail
 rw [HQ.out];clear hmk;cases b0 with
 | true=>
  go_wp2_with (go_at_call 120;refine HFD.out.mono ?_;clear HFD;rintro e w1 ⟨rfl,hr1,hg1⟩;have HP1:=Ja (HP0.out.rc hr1 hg1);clear hr1 hg1)
  go_loopw [4,5,6] (fun jv _ _ wr=>∃ (j:Bool) (I f m:Nat) (S:List Rat),jv=fnJ j∧I≤s.size∧Hid (PoB w wr R Q b s (I:Int) S)∧Hid (YN S m)∧Hid (m≤I∧s.size - I<f∧Ja4 (Je s) f j I S=XS (Je s))) (fun _ _ _ wr=>s.size - rdI wr R)
  case atStart=>
   have hsk:skB (Je s) 0≤s.size:=by rw [←Jm];exact Y5 (by omega)
   refine ⟨true,skB (Je s) 0+(if true=true then 1 else 0),s.size+1,0,List.replicate 9 0,rfl,?_,HP1,Ja YN.start,Ja ⟨by omega,by omega,?_⟩⟩
   · first
      | simpa using hsk
      | (have h2:=Yk HB0.out.symm;rw [Jm] at h2;simp;omega)
   · unfold XS;rw [←HB0.out,Jm];rfl
  case round=>
   clear HP1 HB0 HP0;obtain ⟨j,I,f,m,S,rfl,hI,HP,HS,HT⟩:=hrel;have HTM:=Ja (Jmz R s I wr HP.out.1 hI hs);obtain ⟨f,rfl⟩:∃ f',f=f'+1:=⟨f - 1,by have:=HT.out.2.1;omega⟩;cases ht:Yc (Je s) I with
   | bad e5 q5=>
    have HTB:=Ja ht;have HTT:=Ja (show XS (Je s)=.bad e5 q5 by rw [←HT.out.2.2];exact Jge ht);clear ht;go_wp2_with (go_at_call 121;refine HTM.out.mono ?_;clear HTM;rintro e w1 ⟨hg1,hb1,_⟩;obtain rfl:=hb1 _ _ HTB.out;have HG1:=Ja (Jg HP.out.2.2.2.1 hg1);clear hg1 hb1)
    refine ⟨rfl,HG1.out,fun e q he=>?_,fun S' k he=>?_⟩
    · rw [HTT.out] at he;cases he;rfl
    · rw [HTT.out] at he;cases he
   | ok a5 k5=>
    obtain ⟨c,n⟩:=a5;have hlt:=Jfi (by rw [Jm];exact hI) ht;rw [Jm] at hlt;have HLT:=Ja hlt;have HFR:=Ja (Jc8 (by rw [Jm];exact hI) ht);have HSM:=Ja (Ji0 (f:=f) (b:=j) (S:=S) ht);have HTO:=Ja ht;have hn9:n<9:=by omega
    have hn9':(n:Int)<9:=by omega
    have HSL:=Ja (show n<S.length by rw [HS.out.1];omega);have HQS:=Ja (show Sq (cf S n) from Sq.of (HS.out.2 n) (by have:=HT.out.1;omega));have HQC:=Ja (show Sq c from Sq.of HFR.out.sm (by omega));have HS1:=Ja (HS.out.next HFR.out hlt.2.2 j);obtain ⟨S',hS'⟩:∃ S',S.set n (if j then cf S n - c else cf S n+c)=S':=⟨_,rfl⟩;rw [hS'] at HS1 HSM;have HSE:=Ja hS';have HTS:=Ja (HSM.out.symm.trans HT.out.2.2);have hk5:k5≤s.size:=hlt.2.1;obtain ⟨J,hJ⟩:∃ J,skB (Je s) k5=J:=⟨_,rfl⟩;rw [hJ] at HTS;have HJ:=Ja hJ;have hJs:J≤s.size:=by rw [←hJ,←Jm];exact Y5 (by rw [Jm];exact hk5)
    have HJJ:=Ja (show skB (Je s) J=J by rw [←hJ];exact Jcb _ _);have HJ5:=Ja (show k5≤J by rw [←hJ];exact Jcz _ _);clear ht hlt hS' hJ HSM;go_upto_region 6 with (go_at_call 121;refine HTM.out.mono ?_;clear HTM;rintro e w1 ⟨hg1,_,hb1⟩;obtain ⟨u1,rfl,hu1,hr1⟩:=hb1 _ _ _ HTO.out;obtain ⟨s9,a9,l9,c9,t9,b9,k9,d9,rfl⟩:=hu1.form;have HU:=Ja hu1;have HP1:=Ja (HP.out.rc hr1 hg1);clear hg1 hb1 hu1 hr1)
    have hPX:=PoX.new HP1.out HU.out;obtain ⟨W1,hW1⟩:∃ W,w1.alloc (.cells #[.bool s9,.slice a9 l9 c9,.bool t9,.slice b9 k9 d9] 38)=W:=⟨_,rfl⟩;obtain ⟨C,hC⟩:∃ C,w1.heap.size=C:=⟨_,rfl⟩;rw [hW1,hC] at hPX;rw [hW1,hC];have HRI:=Ja (Jad HP.out.1);clear hW1 hC HU HP1 HP;have ST0:=hPX.below ((Below.refl _ W1).drew);clear hPX;go_cut [] (fun w'=>Hid (PoB w w' R Q b s (k5:Int) S'))
    case first=>
     cases j with
     | true=>
      have HSF:=Ja (show S.set n (cf S n - c)=S' from HSE.out);unfold fnJ;simp only [if_true];refine Jj hmx [[],[],[],[],[],[3,4],[5],[],[2,6,7],[0,1,0,1,2,3,4,5,6,7,8],[9,8,8,0,1,2,3,4,5,6,7,8]] (by kernel_rfl) (by decide)
       (fun D act V=>∃ (t15x t16x t17x t18x t19x t20x t21x t22x t23x t24x:Value),act={ tmps:=#[.pointer (some ⟨R,0,none⟩),undef,.pointer (some ⟨Q,0,none⟩),Value.slice (some ⟨b,0,none⟩) 9 9,Value.func (Fn.func 43) #[] #[],.pointer (some ⟨C,0,none⟩),Value.int IntKind.i64 ↑n,Value.slice (some ⟨b,0,none⟩) 9 9,.pointer (some ⟨R,0,none⟩),Value.bool true,Value.tuple #[Value.agg #[Value.bool s9,Value.slice a9 l9 c9,Value.bool t9,Value.slice b9 k9 d9],Value.int IntKind.i64 ↑n],.pointer (some ⟨R,0,none⟩),Value.tuple #[Value.agg #[Value.bool s9,Value.slice a9 l9 c9,Value.bool t9,Value.slice b9 k9 d9],Value.int IntKind.i64 ↑n],Value.agg #[Value.bool s9,Value.slice a9 l9 c9,Value.bool t9,Value.slice b9 k9 d9],Value.int IntKind.i64 ↑n,t15x,t16x,t17x,t18x,t19x,t20x,t21x,t22x,t23x,t24x,u25,u26,u27,u28,u29,u30,u31,u32,u33,u34,u35,u36,u37,u38,u39,u40,u41],defers:=[] }∧Hid ((D 0=true→t15x=.slice (some ⟨b,0,none⟩) 9 9)∧(D 1=true→t16x=.int .i64 (n:Int))∧(D 2=true→t17x=.func (.func 43) #[] #[])∧(D 3=true→t18x=.slice (some ⟨b,0,none⟩) 9 9)∧(D 4=true→t19x=.int .i64 (n:Int))∧(D 5=true→t20x=.pointer (some ⟨b,n*4,none⟩))∧(D 6=true→D 10=false→Jf V t21x (cf S n))∧(D 7=true→D 10=false→Jf V t22x c)∧(D 8=true→D 10=false→Jf V t23x (cf S n - c))∧(D 9=true→t24x=.pointer (some ⟨b,n*4,none⟩)))∧Hid ((D 10=false→PoX w V R Q b C s (k5:Int) S c)∧(D 10=true→PoB w V R Q b s (k5:Int) (S.set n (cf S n - c)))))
       ⟨_,_,_,_,_,_,_,_,_,_,rfl,Ja ⟨by simp,by simp,by simp,by simp,by simp,by simp,by simp,by simp,by simp,by simp⟩,Ja ⟨fun _=>ST0,by simp⟩⟩ ?step1t ?fin1t
      case step1t=>
       rintro D act V i ds hcl hi hds hDi ⟨t15x,t16x,t17x,t18x,t19x,t20x,t21x,t22x,t23x,t24x,rfl,GG,SS0⟩;have hi6:i<11:=(List.getElem?_eq_some_iff.1 hi).1;obtain rfl | rfl | rfl | rfl | rfl | rfl | rfl | rfl | rfl | rfl | rfl:i=0∨i=1∨i=2∨i=3∨i=4∨i=5∨i=6∨i=7∨i=8∨i=9∨i=10:=by omega
       all_goals
        simp only [List.getElem?_cons_zero,List.getElem?_cons_succ,Option.some.injEq] at hi;subst hi
       · have hf0:D 10=false:=nyt hcl rfl (by simp) hDi;have hS0:=SS0.out.1 hf0;clear hds;refine Jb rfl rfl (fun K hK=>?_);go_simp;obtain ⟨_,G1,G2,G3,G4,G5,G6,G7,G8,G9⟩:=GG.out;exact hK _ _ ⟨_,_,_,_,_,_,_,_,_,_,rfl,Ja ⟨fun _=>rfl,G1,G2,G3,G4,G5,G6,G7,G8,G9⟩,Ja ⟨SS0.out.1,SS0.out.2⟩⟩
       · have hf0:D 10=false:=nyt hcl rfl (by simp) hDi;have hS0:=SS0.out.1 hf0;clear hds;refine Jb rfl rfl (fun K hK=>?_);go_simp;obtain ⟨G0,_,G2,G3,G4,G5,G6,G7,G8,G9⟩:=GG.out;exact hK _ _ ⟨_,_,_,_,_,_,_,_,_,_,rfl,Ja ⟨G0,fun _=>rfl,G2,G3,G4,G5,G6,G7,G8,G9⟩,Ja ⟨SS0.out.1,SS0.out.2⟩⟩
       · have hf0:D 10=false:=nyt hcl rfl (by simp) hDi;have hS0:=SS0.out.1 hf0;clear hds;refine Jb rfl rfl (fun K hK=>?_);go_simp;obtain ⟨G0,G1,_,G3,G4,G5,G6,G7,G8,G9⟩:=GG.out;exact hK _ _ ⟨_,_,_,_,_,_,_,_,_,_,rfl,Ja ⟨G0,G1,fun _=>rfl,G3,G4,G5,G6,G7,G8,G9⟩,Ja ⟨SS0.out.1,SS0.out.2⟩⟩
       · have hf0:D 10=false:=nyt hcl rfl (by simp) hDi;have hS0:=SS0.out.1 hf0;clear hds;refine Jb rfl rfl (fun K hK=>?_);go_simp;obtain ⟨G0,G1,G2,_,G4,G5,G6,G7,G8,G9⟩:=GG.out;exact hK _ _ ⟨_,_,_,_,_,_,_,_,_,_,rfl,Ja ⟨G0,G1,G2,fun _=>rfl,G4,G5,G6,G7,G8,G9⟩,Ja ⟨SS0.out.1,SS0.out.2⟩⟩
       · have hf0:D 10=false:=nyt hcl rfl (by simp) hDi;have hS0:=SS0.out.1 hf0;clear hds;refine Jb rfl rfl (fun K hK=>?_);go_simp;obtain ⟨G0,G1,G2,G3,_,G5,G6,G7,G8,G9⟩:=GG.out;exact hK _ _ ⟨_,_,_,_,_,_,_,_,_,_,rfl,Ja ⟨G0,G1,G2,G3,fun _=>rfl,G5,G6,G7,G8,G9⟩,Ja ⟨SS0.out.1,SS0.out.2⟩⟩
       · have hf0:D 10=false:=nyt hcl rfl (by simp) hDi;have hS0:=SS0.out.1 hf0;obtain rfl:=GG.out.2.2.2.1 (hds 3 (by simp));obtain rfl:=GG.out.2.2.2.2.1 (hds 4 (by simp));clear hds;refine Jb rfl rfl (fun K hK=>?_);go_simp;obtain ⟨G0,G1,G2,_,_,_,G6,G7,G8,G9⟩:=GG.out;exact hK _ _ ⟨_,_,_,_,_,_,_,_,_,_,rfl,Ja ⟨G0,G1,G2,fun _=>rfl,fun _=>rfl,fun _=>rfl,G6,G7,G8,G9⟩,Ja ⟨SS0.out.1,SS0.out.2⟩⟩
       · have hf0:D 10=false:=nyt hcl rfl (by simp) hDi;have hS0:=SS0.out.1 hf0;obtain rfl:=GG.out.2.2.2.2.2.1 (hds 5 (by simp));obtain ⟨xa,xb,xc,xd,e0,e1,e2,e3,hr⟩:=hS0.1.2.2.1.at HSL.out;clear hds;refine Jb rfl rfl (fun K hK=>?_);go_simp;obtain ⟨G0,G1,G2,G3,G4,_,_,G7,G8,G9⟩:=GG.out;exact hK _ _ ⟨_,_,_,_,_,_,_,_,_,_,rfl,Ja ⟨G0,G1,G2,G3,G4,fun _=>rfl,fun _ _=>hr,G7,G8,G9⟩,Ja ⟨SS0.out.1,SS0.out.2⟩⟩
       · have hf0:D 10=false:=nyt hcl rfl (by simp) hDi;have hS0:=SS0.out.1 hf0;obtain ⟨hB0,s8,a8,l8,c8,t8,b8,k8,d8,n8,r8⟩:=hS0;have e0:=n8.c0;have e1:=n8.c1;have e2:=n8.c2;have e3:=n8.c3;clear hds;refine Jb rfl rfl (fun K hK=>?_);go_simp;obtain ⟨G0,G1,G2,G3,G4,G5,G6,_,G8,G9⟩:=GG.out;exact hK _ _ ⟨_,_,_,_,_,_,_,_,_,_,rfl,Ja ⟨G0,G1,G2,G3,G4,G5,G6,fun _ _=>r8,G8,G9⟩,Ja ⟨SS0.out.1,SS0.out.2⟩⟩
       · have hf0:D 10=false:=nyt hcl rfl (by simp) hDi;have hS0:=SS0.out.1 hf0;have h0:=GG.out.2.2.2.2.2.2.1 (hds 6 (by simp)) hf0;have h1:=GG.out.2.2.2.2.2.2.2.1 (hds 7 (by simp)) hf0;obtain rfl:=GG.out.2.2.1 (hds 2 (by simp));clear hds;have HC:=Ja (Jb6 _ _ (cf S n) c V h0 h1 HQS.out HQC.out);clear h0 h1;refine Jb rfl rfl (fun K hK=>?_);go_simp;go_wp2_with (go_at_call 43;refine HC.out.mono ?_;rintro e w5 ⟨v5,rfl,hv5,hb5⟩)
         obtain ⟨G0,G1,_,G3,G4,G5,G6,G7,_,G9⟩:=GG.out;exact ⟨_,_,_,_,_,_,_,_,_,_,rfl,Ja ⟨G0,G1,fun _=>rfl,G3,G4,G5,fun h h2=>(G6 h h2).below hb5,fun h h2=>(G7 h h2).below hb5,fun _ _=>hv5,G9⟩,Ja ⟨fun h=>(SS0.out.1 h).below hb5,fun h=>(SS0.out.2 h).below hb5⟩⟩
       · have hf0:D 10=false:=nyt hcl rfl (by simp) hDi;have hS0:=SS0.out.1 hf0;obtain rfl:=GG.out.1 (hds 0 (by simp));obtain rfl:=GG.out.2.1 (hds 1 (by simp));clear hds;refine Jb rfl rfl (fun K hK=>?_);go_simp;obtain ⟨_,_,G2,G3,G4,G5,G6,G7,G8,_⟩:=GG.out;exact hK _ _ ⟨_,_,_,_,_,_,_,_,_,_,rfl,Ja ⟨fun _=>rfl,fun _=>rfl,G2,G3,G4,G5,G6,G7,G8,fun _=>rfl⟩,Ja ⟨SS0.out.1,SS0.out.2⟩⟩
       · have hS0:=SS0.out.1 hDi;have h0:=GG.out.2.2.2.2.2.2.2.2.1 (hds 8 (by simp)) hDi;obtain rfl:=GG.out.2.2.2.2.2.2.2.2.2 (hds 9 (by simp));have hE:=hS0.1.2.2.1;obtain ⟨xa,xb,xc,xd,e0,e1,e2,e3,_⟩:=hE.at HSL.out;have f0:=hE.frozen (n*4);have f1:=hE.frozen (n*4+1);have f2:=hE.frozen (n*4+2);have f3:=hE.frozen (n*4+3);obtain ⟨s9,a9,l9,c9,t9,b9,k9,d9,rfl⟩:=Jf.form h0;clear hds;refine Jb rfl rfl (fun K hK=>?_);go_simp;obtain ⟨G0,G1,G2,G3,G4,G5,_,_,_,_⟩:=GG.out;exact hK _ _ ⟨_,_,_,_,_,_,_,_,_,_,rfl,Ja ⟨G0,G1,G2,G3,G4,G5,fun _ h=>by simp at h,fun _ h=>by simp at h,fun _ h=>by simp at h,fun _=>rfl⟩,Ja ⟨fun h=>by simp at h,fun _=>hS0.1.put HSL.out h0⟩⟩
      case fin1t=>
       rintro D act V hDD ⟨t15x,t16x,t17x,t18x,t19x,t20x,t21x,t22x,t23x,t24x,rfl,GG,SS0⟩;have HM3:=Ja (SS0.out.2 (hDD 10 (by decide)));clear GG SS0 hDD;rw [HSF.out] at HM3;go_wp2_with fail
       go_meet
       case rel=>exact HM3
     | false=>
      have HSF:=Ja (show S.set n (cf S n+c)=S' from HSE.out);unfold fnJ;simp only [Bool.false_eq_true,if_false];refine Jj hmx [[],[],[],[],[],[3,4],[5],[],[2,6,7],[0,1,0,1,2,3,4,5,6,7,8],[9,8,8,0,1,2,3,4,5,6,7,8]] (by kernel_rfl) (by decide)
       (fun D act V=>∃ (t15x t16x t17x t18x t19x t20x t21x t22x t23x t24x:Value),act={ tmps:=#[.pointer (some ⟨R,0,none⟩),undef,.pointer (some ⟨Q,0,none⟩),Value.slice (some ⟨b,0,none⟩) 9 9,Value.func (Fn.func 40) #[] #[],.pointer (some ⟨C,0,none⟩),Value.int IntKind.i64 ↑n,Value.slice (some ⟨b,0,none⟩) 9 9,.pointer (some ⟨R,0,none⟩),Value.bool true,Value.tuple #[Value.agg #[Value.bool s9,Value.slice a9 l9 c9,Value.bool t9,Value.slice b9 k9 d9],Value.int IntKind.i64 ↑n],.pointer (some ⟨R,0,none⟩),Value.tuple #[Value.agg #[Value.bool s9,Value.slice a9 l9 c9,Value.bool t9,Value.slice b9 k9 d9],Value.int IntKind.i64 ↑n],Value.agg #[Value.bool s9,Value.slice a9 l9 c9,Value.bool t9,Value.slice b9 k9 d9],Value.int IntKind.i64 ↑n,t15x,t16x,t17x,t18x,t19x,t20x,t21x,t22x,t23x,t24x,u25,u26,u27,u28,u29,u30,u31,u32,u33,u34,u35,u36,u37,u38,u39,u40,u41],defers:=[] }∧Hid ((D 0=true→t15x=.slice (some ⟨b,0,none⟩) 9 9)∧(D 1=true→t16x=.int .i64 (n:Int))∧(D 2=true→t17x=.func (.func 40) #[] #[])∧(D 3=true→t18x=.slice (some ⟨b,0,none⟩) 9 9)∧(D 4=true→t19x=.int .i64 (n:Int))∧(D 5=true→t20x=.pointer (some ⟨b,n*4,none⟩))∧(D 6=true→D 10=false→Jf V t21x (cf S n))∧(D 7=true→D 10=false→Jf V t22x c)∧(D 8=true→D 10=false→Jf V t23x (cf S n+c))∧(D 9=true→t24x=.pointer (some ⟨b,n*4,none⟩)))∧Hid ((D 10=false→PoX w V R Q b C s (k5:Int) S c)∧(D 10=true→PoB w V R Q b s (k5:Int) (S.set n (cf S n+c)))))
       ⟨_,_,_,_,_,_,_,_,_,_,rfl,Ja ⟨by simp,by simp,by simp,by simp,by simp,by simp,by simp,by simp,by simp,by simp⟩,Ja ⟨fun _=>ST0,by simp⟩⟩ ?step2t ?fin2t
      case step2t=>
       rintro D act V i ds hcl hi hds hDi ⟨t15x,t16x,t17x,t18x,t19x,t20x,t21x,t22x,t23x,t24x,rfl,GG,SS0⟩;have hi6:i<11:=(List.getElem?_eq_some_iff.1 hi).1;obtain rfl | rfl | rfl | rfl | rfl | rfl | rfl | rfl | rfl | rfl | rfl:i=0∨i=1∨i=2∨i=3∨i=4∨i=5∨i=6∨i=7∨i=8∨i=9∨i=10:=by omega
       all_goals
        simp only [List.getElem?_cons_zero,List.getElem?_cons_succ,Option.some.injEq] at hi;subst hi
       · have hf0:D 10=false:=nyt hcl rfl (by simp) hDi;have hS0:=SS0.out.1 hf0;clear hds;refine Jb rfl rfl (fun K hK=>?_);go_simp;obtain ⟨_,G1,G2,G3,G4,G5,G6,G7,G8,G9⟩:=GG.out;exact hK _ _ ⟨_,_,_,_,_,_,_,_,_,_,rfl,Ja ⟨fun _=>rfl,G1,G2,G3,G4,G5,G6,G7,G8,G9⟩,Ja ⟨SS0.out.1,SS0.out.2⟩⟩
       · have hf0:D 10=false:=nyt hcl rfl (by simp) hDi;have hS0:=SS0.out.1 hf0;clear hds;refine Jb rfl rfl (fun K hK=>?_);go_simp;obtain ⟨G0,_,G2,G3,G4,G5,G6,G7,G8,G9⟩:=GG.out;exact hK _ _ ⟨_,_,_,_,_,_,_,_,_,_,rfl,Ja ⟨G0,fun _=>rfl,G2,G3,G4,G5,G6,G7,G8,G9⟩,Ja ⟨SS0.out.1,SS0.out.2⟩⟩
       · have hf0:D 10=false:=nyt hcl rfl (by simp) hDi;have hS0:=SS0.out.1 hf0;clear hds;refine Jb rfl rfl (fun K hK=>?_);go_simp;obtain ⟨G0,G1,_,G3,G4,G5,G6,G7,G8,G9⟩:=GG.out;exact hK _ _ ⟨_,_,_,_,_,_,_,_,_,_,rfl,Ja ⟨G0,G1,fun _=>rfl,G3,G4,G5,G6,G7,G8,G9⟩,Ja ⟨SS0.out.1,SS0.out.2⟩⟩
       · have hf0:D 10=false:=nyt hcl rfl (by simp) hDi;have hS0:=SS0.out.1 hf0;clear hds;refine Jb rfl rfl (fun K hK=>?_);go_simp;obtain ⟨G0,G1,G2,_,G4,G5,G6,G7,G8,G9⟩:=GG.out;exact hK _ _ ⟨_,_,_,_,_,_,_,_,_,_,rfl,Ja ⟨G0,G1,G2,fun _=>rfl,G4,G5,G6,G7,G8,G9⟩,Ja ⟨SS0.out.1,SS0.out.2⟩⟩
       · have hf0:D 10=false:=nyt hcl rfl (by simp) hDi;have hS0:=SS0.out.1 hf0;clear hds;refine Jb rfl rfl (fun K hK=>?_);go_simp;obtain ⟨G0,G1,G2,G3,_,G5,G6,G7,G8,G9⟩:=GG.out;exact hK _ _ ⟨_,_,_,_,_,_,_,_,_,_,rfl,Ja ⟨G0,G1,G2,G3,fun _=>rfl,G5,G6,G7,G8,G9⟩,Ja ⟨SS0.out.1,SS0.out.2⟩⟩
       · have hf0:D 10=false:=nyt hcl rfl (by simp) hDi;have hS0:=SS0.out.1 hf0;obtain rfl:=GG.out.2.2.2.1 (hds 3 (by simp));obtain rfl:=GG.out.2.2.2.2.1 (hds 4 (by simp));clear hds;refine Jb rfl rfl (fun K hK=>?_);go_simp;obtain ⟨G0,G1,G2,_,_,_,G6,G7,G8,G9⟩:=GG.out;exact hK _ _ ⟨_,_,_,_,_,_,_,_,_,_,rfl,Ja ⟨G0,G1,G2,fun _=>rfl,fun _=>rfl,fun _=>rfl,G6,G7,G8,G9⟩,Ja ⟨SS0.out.1,SS0.out.2⟩⟩
       · have hf0:D 10=false:=nyt hcl rfl (by simp) hDi;have hS0:=SS0.out.1 hf0;obtain rfl:=GG.out.2.2.2.2.2.1 (hds 5 (by simp));obtain ⟨xa,xb,xc,xd,e0,e1,e2,e3,hr⟩:=hS0.1.2.2.1.at HSL.out;clear hds;refine Jb rfl rfl (fun K hK=>?_);go_simp;obtain ⟨G0,G1,G2,G3,G4,_,_,G7,G8,G9⟩:=GG.out;exact hK _ _ ⟨_,_,_,_,_,_,_,_,_,_,rfl,Ja ⟨G0,G1,G2,G3,G4,fun _=>rfl,fun _ _=>hr,G7,G8,G9⟩,Ja ⟨SS0.out.1,SS0.out.2⟩⟩
       · have hf0:D 10=false:=nyt hcl rfl (by simp) hDi;have hS0:=SS0.out.1 hf0;obtain ⟨hB0,s8,a8,l8,c8,t8,b8,k8,d8,n8,r8⟩:=hS0;have e0:=n8.c0;have e1:=n8.c1;have e2:=n8.c2;have e3:=n8.c3;clear hds;refine Jb rfl rfl (fun K hK=>?_);go_simp;obtain ⟨G0,G1,G2,G3,G4,G5,G6,_,G8,G9⟩:=GG.out;exact hK _ _ ⟨_,_,_,_,_,_,_,_,_,_,rfl,Ja ⟨G0,G1,G2,G3,G4,G5,G6,fun _ _=>r8,G8,G9⟩,Ja ⟨SS0.out.1,SS0.out.2⟩⟩
       · have hf0:D 10=false:=nyt hcl rfl (by simp) hDi;have hS0:=SS0.out.1 hf0;have h0:=GG.out.2.2.2.2.2.2.1 (hds 6 (by simp)) hf0;have h1:=GG.out.2.2.2.2.2.2.2.1 (hds 7 (by simp)) hf0;obtain rfl:=GG.out.2.2.1 (hds 2 (by simp));clear hds;have HC:=Ja (Xq _ _ (cf S n) c V h0 h1 HQS.out HQC.out);clear h0 h1;refine Jb rfl rfl (fun K hK=>?_);go_simp;go_wp2_with (go_at_call 40;refine HC.out.mono ?_;rintro e w5 ⟨v5,rfl,hv5,hb5⟩)
         obtain ⟨G0,G1,_,G3,G4,G5,G6,G7,_,G9⟩:=GG.out;exact ⟨_,_,_,_,_,_,_,_,_,_,rfl,Ja ⟨G0,G1,fun _=>rfl,G3,G4,G5,fun h h2=>(G6 h h2).below hb5,fun h h2=>(G7 h h2).below hb5,fun _ _=>hv5,G9⟩,Ja ⟨fun h=>(SS0.out.1 h).below hb5,fun h=>(SS0.out.2 h).below hb5⟩⟩
       · have hf0:D 10=false:=nyt hcl rfl (by simp) hDi;have hS0:=SS0.out.1 hf0;obtain rfl:=GG.out.1 (hds 0 (by simp));obtain rfl:=GG.out.2.1 (hds 1 (by simp));clear hds;refine Jb rfl rfl (fun K hK=>?_);go_simp;obtain ⟨_,_,G2,G3,G4,G5,G6,G7,G8,_⟩:=GG.out;exact hK _ _ ⟨_,_,_,_,_,_,_,_,_,_,rfl,Ja ⟨fun _=>rfl,fun _=>rfl,G2,G3,G4,G5,G6,G7,G8,fun _=>rfl⟩,Ja ⟨SS0.out.1,SS0.out.2⟩⟩
       · have hS0:=SS0.out.1 hDi;have h0:=GG.out.2.2.2.2.2.2.2.2.1 (hds 8 (by simp)) hDi;obtain rfl:=GG.out.2.2.2.2.2.2.2.2.2 (hds 9 (by simp));have hE:=hS0.1.2.2.1;obtain ⟨xa,xb,xc,xd,e0,e1,e2,e3,_⟩:=hE.at HSL.out;have f0:=hE.frozen (n*4);have f1:=hE.frozen (n*4+1);have f2:=hE.frozen (n*4+2);have f3:=hE.frozen (n*4+3);obtain ⟨s9,a9,l9,c9,t9,b9,k9,d9,rfl⟩:=Jf.form h0;clear hds;refine Jb rfl rfl (fun K hK=>?_);go_simp;obtain ⟨G0,G1,G2,G3,G4,G5,_,_,_,_⟩:=GG.out;exact hK _ _ ⟨_,_,_,_,_,_,_,_,_,_,rfl,Ja ⟨G0,G1,G2,G3,G4,G5,fun _ h=>by simp at h,fun _ h=>by simp at h,fun _ h=>by simp at h,fun _=>rfl⟩,Ja ⟨fun h=>by simp at h,fun _=>hS0.1.put HSL.out h0⟩⟩
      case fin2t=>
       rintro D act V hDD ⟨t15x,t16x,t17x,t18x,t19x,t20x,t21x,t22x,t23x,t24x,rfl,GG,SS0⟩;have HM3:=Ja (SS0.out.2 (hDD 10 (by decide)));clear GG SS0 hDD;rw [HSF.out] at HM3;go_wp2_with fail
       go_meet
       case rel=>exact HM3
    clear ST0;have HP6:=hcut;clear hcut;cases h43:YJ (Je s) J 43 with
    | true=>
     have hJ1:J+1≤s.size:=by have:=Yk h43;rw [Jm] at this;omega
     have HTT:=Ja (show Ja4 (Je s) f false (J+1) S'=XS (Je s) by have e:=HTS.out;rw [if_pos h43] at e;exact e);have HF1:=Ja (fun (V:World) (hh:RcB V R s (k5:Int))=>YL R s k5 43 V hh hk5 hs true (by rw [HJ.out,h43]));rw [HJ.out] at HF1;clear h43;go_wp2_with (go_at_call 120;refine (HF1.out _ HP6.out.1).mono ?_;clear HF1;rintro e w7 ⟨rfl,hr7,hg7⟩;have HP7:=Ja (HP6.out.rc hr7 hg7);clear hr7 hg7)
     go_roundw
     case rel=>exact ⟨false,J+1,f,m+1,S',rfl,hJ1,HP7,HS1,Ja ⟨by have:=HT.out.1;have:=HLT.out;have:=HJ5.out;omega,by have:=HT.out.2.1;have:=HLT.out;have:=HJ5.out;omega,HTT.out⟩⟩
     case measure=>
      have e1:=Jad (I:=J+1) HP7.out.1;rw [e1,HRI.out];have:=HLT.out;have:=HJ5.out;omega
    | false=>
     have HF1:=Ja (fun (V:World) (hh:RcB V R s (k5:Int))=>YL R s k5 43 V hh hk5 hs false (by rw [HJ.out,h43]));rw [HJ.out] at HF1;cases h45:YJ (Je s) J 45 with
     | true=>
      have hJ1:J+1≤s.size:=by have:=Yk h45;rw [Jm] at this;omega
      have HTT:=Ja (show Ja4 (Je s) f true (J+1) S'=XS (Je s) by have e:=HTS.out;rw [if_neg (by rw [h43];decide),if_pos h45] at e;exact e);have HF2:=Ja (fun (V:World) (hh:RcB V R s (J:Int))=>YL R s J 45 V hh hJs hs true (by rw [HJJ.out,h45]));rw [HJJ.out] at HF2;clear h43 h45;go_wp2_with (first
       | (go_at_call 120;refine (HF1.out _ HP6.out.1).mono ?_;clear HF1;rintro e w7 ⟨rfl,hr7,hg7⟩;have HP7:=Ja (HP6.out.rc hr7 hg7);clear hr7 hg7)
       | (go_at_call 120;refine (HF2.out _ HP7.out.1).mono ?_;clear HF2;rintro e w8 ⟨rfl,hr8,hg8⟩;have HP8:=Ja (HP7.out.rc hr8 hg8);clear hr8 hg8))
      go_roundw
      case rel=>exact ⟨true,J+1,f,m+1,S',rfl,hJ1,HP8,HS1,Ja ⟨by have:=HT.out.1;have:=HLT.out;have:=HJ5.out;omega,by have:=HT.out.2.1;have:=HLT.out;have:=HJ5.out;omega,HTT.out⟩⟩
      case measure=>
       have e1:=Jad (I:=J+1) HP8.out.1;rw [e1,HRI.out];have:=HLT.out;have:=HJ5.out;omega
     | false=>
      have HF2:=Ja (fun (V:World) (hh:RcB V R s (J:Int))=>YL R s J 45 V hh hJs hs false (by rw [HJJ.out,h45]));rw [HJJ.out] at HF2;have HF3:=Ja (fun (V:World) (hh:RcB V R s (J:Int))=>Je1 R s J V hh hJs hs);rw [HJJ.out] at HF3;by_cases hJe:J=s.size
      · have HTT:=Ja (show XS (Je s)=.ok S' J by have e:=HTS.out;rw [if_neg (by rw [h43];decide),if_neg (by rw [h45];decide),if_pos (by rw [Jm];exact hJe)] at e;exact e.symm);rw [show decide (J=s.size)=true from decide_eq_true hJe] at HF3;have HMD:=Ja (fun (V:World) (hE:Els true V b S')=>Xa (.slice (some ⟨b,0,none⟩) 9 9) S' V (by
         have hrow:=hE.row (n:=9) (cap:=9) (by rw [HS1.out.1];exact Nat.le_refl _) (Nat.le_refl _) (by omega) (by omega);rwa [List.take_of_length_le (by rw [HS1.out.1];exact Nat.le_refl _)] at hrow) (Sqs.of fun i=>Sq.of (HS1.out.2 i) (by have:=HT.out.1;omega)))
        clear h43 h45 hJe;go_wp2_with (first
         | (go_at_call 120;refine (HF1.out _ HP6.out.1).mono ?_;clear HF1;rintro e w7 ⟨rfl,hr7,hg7⟩;have HP7:=Ja (HP6.out.rc hr7 hg7);clear hr7 hg7)
         | (go_at_call 120;refine (HF2.out _ HP7.out.1).mono ?_;clear HF2;rintro e w8 ⟨rfl,hr8,hg8⟩;have HP8:=Ja (HP7.out.rc hr8 hg8);clear hr8 hg8)
         | (go_at_call 122;refine (HF3.out _ HP8.out.1).mono ?_;clear HF3;rintro e w9 ⟨rfl,hr9,hg9⟩;have HP9:=Ja (HP8.out.rc hr9 hg9);clear hr9 hg9)
         | (go_at_call 65;refine (HMD.out _ HP9.out.2.2.1).mono ?_;clear HMD;rintro e w10 ⟨u10,rfl,hu10,_,hq10⟩;obtain ⟨a7,l7,c7,rfl⟩:=hu10.form;have HP10:=Ja (HP9.out.below hq10);have x0:=HP10.out.2.1.cell;have x1:=HP10.out.2.1.frozen;have HU10:=Ja hu10.row;clear hu10 hq10))
        refine bodyPost_ret (v:=.agg #[.slice a7 l7 c7]) (by simp [results,Tryz.results90,go_sem,x0]) rfl ⟨JR HP10.out.2.2.2.1 HP10.out.2.2.2.2.1 0 _,fun e q he=>?_,fun S'' k he=>?_⟩
        · rw [HTT.out] at he;cases he
        · rw [HTT.out] at he;cases he;exact ⟨_,rfl,⟨_,rfl,Jbh HP10.out.2.1 _ HU10.out⟩,m+1,by have:=HT.out.1;have:=HLT.out;omega,HS1.out⟩
      · have HTT:=Ja (show XS (Je s)=.bad 2 J by have e:=HTS.out;rw [if_neg (by rw [h43];decide),if_neg (by rw [h45];decide),if_neg (by rw [Jm];exact hJe)] at e;exact e.symm);rw [show decide (J=s.size)=false from decide_eq_false hJe] at HF3;clear h43 h45 hJe;go_wp2_with (first
         | (go_at_call 120;refine (HF1.out _ HP6.out.1).mono ?_;clear HF1;rintro e w7 ⟨rfl,hr7,hg7⟩;have HP7:=Ja (HP6.out.rc hr7 hg7);clear hr7 hg7)
         | (go_at_call 120;refine (HF2.out _ HP7.out.1).mono ?_;clear HF2;rintro e w8 ⟨rfl,hr8,hg8⟩;have HP8:=Ja (HP7.out.rc hr8 hg8);clear hr8 hg8)
         | (go_at_call 122;refine (HF3.out _ HP8.out.1).mono ?_;clear HF3;rintro e w9 ⟨rfl,hr9,hg9⟩;have c19:=hr9.c1;have HP9:=Ja (HP8.out.rc hr9 hg9);clear hr9 hg9)
         | (go_at_call 123;refine (HF.out _ _ _).mono ?_;clear HF;rintro e w10 ⟨rfl,rfl⟩))
        refine ⟨rfl,HP9.out.2.2.2.1,fun e q he=>?_,fun S'' k he=>?_⟩
        · rw [HTT.out] at he;cases he;rfl
        · rw [HTT.out] at he;cases he
 | false=>
  go_wp2_with (go_at_call 120;refine HFD.out.mono ?_;clear HFD;rintro e w1 ⟨rfl,hr1,hg1⟩;have HP1:=Ja (HP0.out.rc hr1 hg1);clear hr1 hg1)
  go_loopw [4,5,6] (fun jv _ _ wr=>∃ (j:Bool) (I f m:Nat) (S:List Rat),jv=fnJ j∧I≤s.size∧Hid (PoB w wr R Q b s (I:Int) S)∧Hid (YN S m)∧Hid (m≤I∧s.size - I<f∧Ja4 (Je s) f j I S=XS (Je s))) (fun _ _ _ wr=>s.size - rdI wr R)
  case atStart=>
   have hsk:skB (Je s) 0≤s.size:=by rw [←Jm];exact Y5 (by omega)
   refine ⟨false,skB (Je s) 0+(if false=true then 1 else 0),s.size+1,0,List.replicate 9 0,rfl,?_,HP1,Ja YN.start,Ja ⟨by omega,by omega,?_⟩⟩
   · first
      | simpa using hsk
      | (have h2:=Yk HB0.out.symm;rw [Jm] at h2;simp;omega)
   · unfold XS;rw [←HB0.out,Jm];rfl
  case round=>
   clear HP1 HB0 HP0;obtain ⟨j,I,f,m,S,rfl,hI,HP,HS,HT⟩:=hrel;have HTM:=Ja (Jmz R s I wr HP.out.1 hI hs);obtain ⟨f,rfl⟩:∃ f',f=f'+1:=⟨f - 1,by have:=HT.out.2.1;omega⟩;cases ht:Yc (Je s) I with
   | bad e5 q5=>
    have HTB:=Ja ht;have HTT:=Ja (show XS (Je s)=.bad e5 q5 by rw [←HT.out.2.2];exact Jge ht);clear ht;go_wp2_with (go_at_call 121;refine HTM.out.mono ?_;clear HTM;rintro e w1 ⟨hg1,hb1,_⟩;obtain rfl:=hb1 _ _ HTB.out;have HG1:=Ja (Jg HP.out.2.2.2.1 hg1);clear hg1 hb1)
    refine ⟨rfl,HG1.out,fun e q he=>?_,fun S' k he=>?_⟩
    · rw [HTT.out] at he;cases he;rfl
    · rw [HTT.out] at he;cases he
   | ok a5 k5=>
    obtain ⟨c,n⟩:=a5;have hlt:=Jfi (by rw [Jm];exact hI) ht;rw [Jm] at hlt;have HLT:=Ja hlt;have HFR:=Ja (Jc8 (by rw [Jm];exact hI) ht);have HSM:=Ja (Ji0 (f:=f) (b:=j) (S:=S) ht);have HTO:=Ja ht;have hn9:n<9:=by omega
    have hn9':(n:Int)<9:=by omega
    have HSL:=Ja (show n<S.length by rw [HS.out.1];omega);have HQS:=Ja (show Sq (cf S n) from Sq.of (HS.out.2 n) (by have:=HT.out.1;omega));have HQC:=Ja (show Sq c from Sq.of HFR.out.sm (by omega));have HS1:=Ja (HS.out.next HFR.out hlt.2.2 j);obtain ⟨S',hS'⟩:∃ S',S.set n (if j then cf S n - c else cf S n+c)=S':=⟨_,rfl⟩;rw [hS'] at HS1 HSM;have HSE:=Ja hS';have HTS:=Ja (HSM.out.symm.trans HT.out.2.2);have hk5:k5≤s.size:=hlt.2.1;obtain ⟨J,hJ⟩:∃ J,skB (Je s) k5=J:=⟨_,rfl⟩;rw [hJ] at HTS;have HJ:=Ja hJ;have hJs:J≤s.size:=by rw [←hJ,←Jm];exact Y5 (by rw [Jm];exact hk5)
    have HJJ:=Ja (show skB (Je s) J=J by rw [←hJ];exact Jcb _ _);have HJ5:=Ja (show k5≤J by rw [←hJ];exact Jcz _ _);clear ht hlt hS' hJ HSM;go_upto_region 6 with (go_at_call 121;refine HTM.out.mono ?_;clear HTM;rintro e w1 ⟨hg1,_,hb1⟩;obtain ⟨u1,rfl,hu1,hr1⟩:=hb1 _ _ _ HTO.out;obtain ⟨s9,a9,l9,c9,t9,b9,k9,d9,rfl⟩:=hu1.form;have HU:=Ja hu1;have HP1:=Ja (HP.out.rc hr1 hg1);clear hg1 hb1 hu1 hr1)
    have hPX:=PoX.new HP1.out HU.out;obtain ⟨W1,hW1⟩:∃ W,w1.alloc (.cells #[.bool s9,.slice a9 l9 c9,.bool t9,.slice b9 k9 d9] 38)=W:=⟨_,rfl⟩;obtain ⟨C,hC⟩:∃ C,w1.heap.size=C:=⟨_,rfl⟩;rw [hW1,hC] at hPX;rw [hW1,hC];have HRI:=Ja (Jad HP.out.1);clear hW1 hC HU HP1 HP;have ST0:=hPX.below ((Below.refl _ W1).drew);clear hPX;go_cut [] (fun w'=>Hid (PoB w w' R Q b s (k5:Int) S'))
    case first=>
     cases j with
     | true=>
      have HSF:=Ja (show S.set n (cf S n - c)=S' from HSE.out);unfold fnJ;simp only [if_true];refine Jj hmx [[],[],[],[],[],[3,4],[5],[],[2,6,7],[0,1,0,1,2,3,4,5,6,7,8],[9,8,8,0,1,2,3,4,5,6,7,8]] (by kernel_rfl) (by decide)
       (fun D act V=>∃ (t15x t16x t17x t18x t19x t20x t21x t22x t23x t24x:Value),act={ tmps:=#[.pointer (some ⟨R,0,none⟩),undef,.pointer (some ⟨Q,0,none⟩),Value.slice (some ⟨b,0,none⟩) 9 9,Value.func (Fn.func 43) #[] #[],.pointer (some ⟨C,0,none⟩),Value.int IntKind.i64 ↑n,Value.slice (some ⟨b,0,none⟩) 9 9,.pointer (some ⟨R,0,none⟩),Value.bool false,Value.tuple #[Value.agg #[Value.bool s9,Value.slice a9 l9 c9,Value.bool t9,Value.slice b9 k9 d9],Value.int IntKind.i64 ↑n],.pointer (some ⟨R,0,none⟩),Value.tuple #[Value.agg #[Value.bool s9,Value.slice a9 l9 c9,Value.bool t9,Value.slice b9 k9 d9],Value.int IntKind.i64 ↑n],Value.agg #[Value.bool s9,Value.slice a9 l9 c9,Value.bool t9,Value.slice b9 k9 d9],Value.int IntKind.i64 ↑n,t15x,t16x,t17x,t18x,t19x,t20x,t21x,t22x,t23x,t24x,u25,u26,u27,u28,u29,u30,u31,u32,u33,u34,u35,u36,u37,u38,u39,u40,u41],defers:=[] }∧Hid ((D 0=true→t15x=.slice (some ⟨b,0,none⟩) 9 9)∧(D 1=true→t16x=.int .i64 (n:Int))∧(D 2=true→t17x=.func (.func 43) #[] #[])∧(D 3=true→t18x=.slice (some ⟨b,0,none⟩) 9 9)∧(D 4=true→t19x=.int .i64 (n:Int))∧(D 5=true→t20x=.pointer (some ⟨b,n*4,none⟩))∧(D 6=true→D 10=false→Jf V t21x (cf S n))∧(D 7=true→D 10=false→Jf V t22x c)∧(D 8=true→D 10=false→Jf V t23x (cf S n - c))∧(D 9=true→t24x=.pointer (some ⟨b,n*4,none⟩)))∧Hid ((D 10=false→PoX w V R Q b C s (k5:Int) S c)∧(D 10=true→PoB w V R Q b s (k5:Int) (S.set n (cf S n - c)))))
       ⟨_,_,_,_,_,_,_,_,_,_,rfl,Ja ⟨by simp,by simp,by simp,by simp,by simp,by simp,by simp,by simp,by simp,by simp⟩,Ja ⟨fun _=>ST0,by simp⟩⟩ ?step1 ?fin1
      case step1=>
       rintro D act V i ds hcl hi hds hDi ⟨t15x,t16x,t17x,t18x,t19x,t20x,t21x,t22x,t23x,t24x,rfl,GG,SS0⟩;have hi6:i<11:=(List.getElem?_eq_some_iff.1 hi).1;obtain rfl | rfl | rfl | rfl | rfl | rfl | rfl | rfl | rfl | rfl | rfl:i=0∨i=1∨i=2∨i=3∨i=4∨i=5∨i=6∨i=7∨i=8∨i=9∨i=10:=by omega
       all_goals
        simp only [List.getElem?_cons_zero,List.getElem?_cons_succ,Option.some.injEq] at hi;subst hi
       · have hf0:D 10=false:=nyt hcl rfl (by simp) hDi;have hS0:=SS0.out.1 hf0;clear hds;refine Jb rfl rfl (fun K hK=>?_);go_simp;obtain ⟨_,G1,G2,G3,G4,G5,G6,G7,G8,G9⟩:=GG.out;exact hK _ _ ⟨_,_,_,_,_,_,_,_,_,_,rfl,Ja ⟨fun _=>rfl,G1,G2,G3,G4,G5,G6,G7,G8,G9⟩,Ja ⟨SS0.out.1,SS0.out.2⟩⟩
       · have hf0:D 10=false:=nyt hcl rfl (by simp) hDi;have hS0:=SS0.out.1 hf0;clear hds;refine Jb rfl rfl (fun K hK=>?_);go_simp;obtain ⟨G0,_,G2,G3,G4,G5,G6,G7,G8,G9⟩:=GG.out;exact hK _ _ ⟨_,_,_,_,_,_,_,_,_,_,rfl,Ja ⟨G0,fun _=>rfl,G2,G3,G4,G5,G6,G7,G8,G9⟩,Ja ⟨SS0.out.1,SS0.out.2⟩⟩
       · have hf0:D 10=false:=nyt hcl rfl (by simp) hDi;have hS0:=SS0.out.1 hf0;clear hds;refine Jb rfl rfl (fun K hK=>?_);go_simp;obtain ⟨G0,G1,_,G3,G4,G5,G6,G7,G8,G9⟩:=GG.out;exact hK _ _ ⟨_,_,_,_,_,_,_,_,_,_,rfl,Ja ⟨G0,G1,fun _=>rfl,G3,G4,G5,G6,G7,G8,G9⟩,Ja ⟨SS0.out.1,SS0.out.2⟩⟩
       · have hf0:D 10=false:=nyt hcl rfl (by simp) hDi;have hS0:=SS0.out.1 hf0;clear hds;refine Jb rfl rfl (fun K hK=>?_);go_simp;obtain ⟨G0,G1,G2,_,G4,G5,G6,G7,G8,G9⟩:=GG.out;exact hK _ _ ⟨_,_,_,_,_,_,_,_,_,_,rfl,Ja ⟨G0,G1,G2,fun _=>rfl,G4,G5,G6,G7,G8,G9⟩,Ja ⟨SS0.out.1,SS0.out.2⟩⟩
       · have hf0:D 10=false:=nyt hcl rfl (by simp) hDi;have hS0:=SS0.out.1 hf0;clear hds;refine Jb rfl rfl (fun K hK=>?_);go_simp;obtain ⟨G0,G1,G2,G3,_,G5,G6,G7,G8,G9⟩:=GG.out;exact hK _ _ ⟨_,_,_,_,_,_,_,_,_,_,rfl,Ja ⟨G0,G1,G2,G3,fun _=>rfl,G5,G6,G7,G8,G9⟩,Ja ⟨SS0.out.1,SS0.out.2⟩⟩
       · have hf0:D 10=false:=nyt hcl rfl (by simp) hDi;have hS0:=SS0.out.1 hf0;obtain rfl:=GG.out.2.2.2.1 (hds 3 (by simp));obtain rfl:=GG.out.2.2.2.2.1 (hds 4 (by simp));clear hds;refine Jb rfl rfl (fun K hK=>?_);go_simp;obtain ⟨G0,G1,G2,_,_,_,G6,G7,G8,G9⟩:=GG.out;exact hK _ _ ⟨_,_,_,_,_,_,_,_,_,_,rfl,Ja ⟨G0,G1,G2,fun _=>rfl,fun _=>rfl,fun _=>rfl,G6,G7,G8,G9⟩,Ja ⟨SS0.out.1,SS0.out.2⟩⟩
       · have hf0:D 10=false:=nyt hcl rfl (by simp) hDi;have hS0:=SS0.out.1 hf0;obtain rfl:=GG.out.2.2.2.2.2.1 (hds 5 (by simp));obtain ⟨xa,xb,xc,xd,e0,e1,e2,e3,hr⟩:=hS0.1.2.2.1.at HSL.out;clear hds;refine Jb rfl rfl (fun K hK=>?_);go_simp;obtain ⟨G0,G1,G2,G3,G4,_,_,G7,G8,G9⟩:=GG.out;exact hK _ _ ⟨_,_,_,_,_,_,_,_,_,_,rfl,Ja ⟨G0,G1,G2,G3,G4,fun _=>rfl,fun _ _=>hr,G7,G8,G9⟩,Ja ⟨SS0.out.1,SS0.out.2⟩⟩
       · have hf0:D 10=false:=nyt hcl rfl (by simp) hDi;have hS0:=SS0.out.1 hf0;obtain ⟨hB0,s8,a8,l8,c8,t8,b8,k8,d8,n8,r8⟩:=hS0;have e0:=n8.c0;have e1:=n8.c1;have e2:=n8.c2;have e3:=n8.c3;clear hds;refine Jb rfl rfl (fun K hK=>?_);go_simp;obtain ⟨G0,G1,G2,G3,G4,G5,G6,_,G8,G9⟩:=GG.out;exact hK _ _ ⟨_,_,_,_,_,_,_,_,_,_,rfl,Ja ⟨G0,G1,G2,G3,G4,G5,G6,fun _ _=>r8,G8,G9⟩,Ja ⟨SS0.out.1,SS0.out.2⟩⟩
       · have hf0:D 10=false:=nyt hcl rfl (by simp) hDi;have hS0:=SS0.out.1 hf0;have h0:=GG.out.2.2.2.2.2.2.1 (hds 6 (by simp)) hf0;have h1:=GG.out.2.2.2.2.2.2.2.1 (hds 7 (by simp)) hf0;obtain rfl:=GG.out.2.2.1 (hds 2 (by simp));clear hds;have HC:=Ja (Jb6 _ _ (cf S n) c V h0 h1 HQS.out HQC.out);clear h0 h1;refine Jb rfl rfl (fun K hK=>?_);go_simp;go_wp2_with (go_at_call 43;refine HC.out.mono ?_;rintro e w5 ⟨v5,rfl,hv5,hb5⟩)
         obtain ⟨G0,G1,_,G3,G4,G5,G6,G7,_,G9⟩:=GG.out;exact ⟨_,_,_,_,_,_,_,_,_,_,rfl,Ja ⟨G0,G1,fun _=>rfl,G3,G4,G5,fun h h2=>(G6 h h2).below hb5,fun h h2=>(G7 h h2).below hb5,fun _ _=>hv5,G9⟩,Ja ⟨fun h=>(SS0.out.1 h).below hb5,fun h=>(SS0.out.2 h).below hb5⟩⟩
       · have hf0:D 10=false:=nyt hcl rfl (by simp) hDi;have hS0:=SS0.out.1 hf0;obtain rfl:=GG.out.1 (hds 0 (by simp));obtain rfl:=GG.out.2.1 (hds 1 (by simp));clear hds;refine Jb rfl rfl (fun K hK=>?_);go_simp;obtain ⟨_,_,G2,G3,G4,G5,G6,G7,G8,_⟩:=GG.out;exact hK _ _ ⟨_,_,_,_,_,_,_,_,_,_,rfl,Ja ⟨fun _=>rfl,fun _=>rfl,G2,G3,G4,G5,G6,G7,G8,fun _=>rfl⟩,Ja ⟨SS0.out.1,SS0.out.2⟩⟩
       · have hS0:=SS0.out.1 hDi;have h0:=GG.out.2.2.2.2.2.2.2.2.1 (hds 8 (by simp)) hDi;obtain rfl:=GG.out.2.2.2.2.2.2.2.2.2 (hds 9 (by simp));have hE:=hS0.1.2.2.1;obtain ⟨xa,xb,xc,xd,e0,e1,e2,e3,_⟩:=hE.at HSL.out;have f0:=hE.frozen (n*4);have f1:=hE.frozen (n*4+1);have f2:=hE.frozen (n*4+2);have f3:=hE.frozen (n*4+3);obtain ⟨s9,a9,l9,c9,t9,b9,k9,d9,rfl⟩:=Jf.form h0;clear hds;refine Jb rfl rfl (fun K hK=>?_);go_simp;obtain ⟨G0,G1,G2,G3,G4,G5,_,_,_,_⟩:=GG.out;exact hK _ _ ⟨_,_,_,_,_,_,_,_,_,_,rfl,Ja ⟨G0,G1,G2,G3,G4,G5,fun _ h=>by simp at h,fun _ h=>by simp at h,fun _ h=>by simp at h,fun _=>rfl⟩,Ja ⟨fun h=>by simp at h,fun _=>hS0.1.put HSL.out h0⟩⟩
      case fin1=>
       rintro D act V hDD ⟨t15x,t16x,t17x,t18x,t19x,t20x,t21x,t22x,t23x,t24x,rfl,GG,SS0⟩;have HM3:=Ja (SS0.out.2 (hDD 10 (by decide)));clear GG SS0 hDD;rw [HSF.out] at HM3;go_wp2_with fail
       go_meet
       case rel=>exact HM3
     | false=>
      have HSF:=Ja (show S.set n (cf S n+c)=S' from HSE.out);unfold fnJ;simp only [Bool.false_eq_true,if_false];refine Jj hmx [[],[],[],[],[],[3,4],[5],[],[2,6,7],[0,1,0,1,2,3,4,5,6,7,8],[9,8,8,0,1,2,3,4,5,6,7,8]] (by kernel_rfl) (by decide)
       (fun D act V=>∃ (t15x t16x t17x t18x t19x t20x t21x t22x t23x t24x:Value),act={ tmps:=#[.pointer (some ⟨R,0,none⟩),undef,.pointer (some ⟨Q,0,none⟩),Value.slice (some ⟨b,0,none⟩) 9 9,Value.func (Fn.func 40) #[] #[],.pointer (some ⟨C,0,none⟩),Value.int IntKind.i64 ↑n,Value.slice (some ⟨b,0,none⟩) 9 9,.pointer (some ⟨R,0,none⟩),Value.bool false,Value.tuple #[Value.agg #[Value.bool s9,Value.slice a9 l9 c9,Value.bool t9,Value.slice b9 k9 d9],Value.int IntKind.i64 ↑n],.pointer (some ⟨R,0,none⟩),Value.tuple #[Value.agg #[Value.bool s9,Value.slice a9 l9 c9,Value.bool t9,Value.slice b9 k9 d9],Value.int IntKind.i64 ↑n],Value.agg #[Value.bool s9,Value.slice a9 l9 c9,Value.bool t9,Value.slice b9 k9 d9],Value.int IntKind.i64 ↑n,t15x,t16x,t17x,t18x,t19x,t20x,t21x,t22x,t23x,t24x,u25,u26,u27,u28,u29,u30,u31,u32,u33,u34,u35,u36,u37,u38,u39,u40,u41],defers:=[] }∧Hid ((D 0=true→t15x=.slice (some ⟨b,0,none⟩) 9 9)∧(D 1=true→t16x=.int .i64 (n:Int))∧(D 2=true→t17x=.func (.func 40) #[] #[])∧(D 3=true→t18x=.slice (some ⟨b,0,none⟩) 9 9)∧(D 4=true→t19x=.int .i64 (n:Int))∧(D 5=true→t20x=.pointer (some ⟨b,n*4,none⟩))∧(D 6=true→D 10=false→Jf V t21x (cf S n))∧(D 7=true→D 10=false→Jf V t22x c)∧(D 8=true→D 10=false→Jf V t23x (cf S n+c))∧(D 9=true→t24x=.pointer (some ⟨b,n*4,none⟩)))∧Hid ((D 10=false→PoX w V R Q b C s (k5:Int) S c)∧(D 10=true→PoB w V R Q b s (k5:Int) (S.set n (cf S n+c)))))
       ⟨_,_,_,_,_,_,_,_,_,_,rfl,Ja ⟨by simp,by simp,by simp,by simp,by simp,by simp,by simp,by simp,by simp,by simp⟩,Ja ⟨fun _=>ST0,by simp⟩⟩ ?step2 ?fin2
      case step2=>
       rintro D act V i ds hcl hi hds hDi ⟨t15x,t16x,t17x,t18x,t19x,t20x,t21x,t22x,t23x,t24x,rfl,GG,SS0⟩;have hi6:i<11:=(List.getElem?_eq_some_iff.1 hi).1;obtain rfl | rfl | rfl | rfl | rfl | rfl | rfl | rfl | rfl | rfl | rfl:i=0∨i=1∨i=2∨i=3∨i=4∨i=5∨i=6∨i=7∨i=8∨i=9∨i=10:=by omega
       all_goals
        simp only [List.getElem?_cons_zero,List.getElem?_cons_succ,Option.some.injEq] at hi;subst hi
       · have hf0:D 10=false:=nyt hcl rfl (by simp) hDi;have hS0:=SS0.out.1 hf0;clear hds;refine Jb rfl rfl (fun K hK=>?_);go_simp;obtain ⟨_,G1,G2,G3,G4,G5,G6,G7,G8,G9⟩:=GG.out;exact hK _ _ ⟨_,_,_,_,_,_,_,_,_,_,rfl,Ja ⟨fun _=>rfl,G1,G2,G3,G4,G5,G6,G7,G8,G9⟩,Ja ⟨SS0.out.1,SS0.out.2⟩⟩
       · have hf0:D 10=false:=nyt hcl rfl (by simp) hDi;have hS0:=SS0.out.1 hf0;clear hds;refine Jb rfl rfl (fun K hK=>?_);go_simp;obtain ⟨G0,_,G2,G3,G4,G5,G6,G7,G8,G9⟩:=GG.out;exact hK _ _ ⟨_,_,_,_,_,_,_,_,_,_,rfl,Ja ⟨G0,fun _=>rfl,G2,G3,G4,G5,G6,G7,G8,G9⟩,Ja ⟨SS0.out.1,SS0.out.2⟩⟩
       · have hf0:D 10=false:=nyt hcl rfl (by simp) hDi;have hS0:=SS0.out.1 hf0;clear hds;refine Jb rfl rfl (fun K hK=>?_);go_simp;obtain ⟨G0,G1,_,G3,G4,G5,G6,G7,G8,G9⟩:=GG.out;exact hK _ _ ⟨_,_,_,_,_,_,_,_,_,_,rfl,Ja ⟨G0,G1,fun _=>rfl,G3,G4,G5,G6,G7,G8,G9⟩,Ja ⟨SS0.out.1,SS0.out.2⟩⟩
       · have hf0:D 10=false:=nyt hcl rfl (by simp) hDi;have hS0:=SS0.out.1 hf0;clear hds;refine Jb rfl rfl (fun K hK=>?_);go_simp;obtain ⟨G0,G1,G2,_,G4,G5,G6,G7,G8,G9⟩:=GG.out;exact hK _ _ ⟨_,_,_,_,_,_,_,_,_,_,rfl,Ja ⟨G0,G1,G2,fun _=>rfl,G4,G5,G6,G7,G8,G9⟩,Ja ⟨SS0.out.1,SS0.out.2⟩⟩
       · have hf0:D 10=false:=nyt hcl rfl (by simp) hDi;have hS0:=SS0.out.1 hf0;clear hds;refine Jb rfl rfl (fun K hK=>?_);go_simp;obtain ⟨G0,G1,G2,G3,_,G5,G6,G7,G8,G9⟩:=GG.out;exact hK _ _ ⟨_,_,_,_,_,_,_,_,_,_,rfl,Ja ⟨G0,G1,G2,G3,fun _=>rfl,G5,G6,G7,G8,G9⟩,Ja ⟨SS0.out.1,SS0.out.2⟩⟩
       · have hf0:D 10=false:=nyt hcl rfl (by simp) hDi;have hS0:=SS0.out.1 hf0;obtain rfl:=GG.out.2.2.2.1 (hds 3 (by simp));obtain rfl:=GG.out.2.2.2.2.1 (hds 4 (by simp));clear hds;refine Jb rfl rfl (fun K hK=>?_);go_simp;obtain ⟨G0,G1,G2,_,_,_,G6,G7,G8,G9⟩:=GG.out;exact hK _ _ ⟨_,_,_,_,_,_,_,_,_,_,rfl,Ja ⟨G0,G1,G2,fun _=>rfl,fun _=>rfl,fun _=>rfl,G6,G7,G8,G9⟩,Ja ⟨SS0.out.1,SS0.out.2⟩⟩
       · have hf0:D 10=false:=nyt hcl rfl (by simp) hDi;have hS0:=SS0.out.1 hf0;obtain rfl:=GG.out.2.2.2.2.2.1 (hds 5 (by simp));obtain ⟨xa,xb,xc,xd,e0,e1,e2,e3,hr⟩:=hS0.1.2.2.1.at HSL.out;clear hds;refine Jb rfl rfl (fun K hK=>?_);go_simp;obtain ⟨G0,G1,G2,G3,G4,_,_,G7,G8,G9⟩:=GG.out;exact hK _ _ ⟨_,_,_,_,_,_,_,_,_,_,rfl,Ja ⟨G0,G1,G2,G3,G4,fun _=>rfl,fun _ _=>hr,G7,G8,G9⟩,Ja ⟨SS0.out.1,SS0.out.2⟩⟩
       · have hf0:D 10=false:=nyt hcl rfl (by simp) hDi;have hS0:=SS0.out.1 hf0;obtain ⟨hB0,s8,a8,l8,c8,t8,b8,k8,d8,n8,r8⟩:=hS0;have e0:=n8.c0;have e1:=n8.c1;have e2:=n8.c2;have e3:=n8.c3;clear hds;refine Jb rfl rfl (fun K hK=>?_);go_simp;obtain ⟨G0,G1,G2,G3,G4,G5,G6,_,G8,G9⟩:=GG.out;exact hK _ _ ⟨_,_,_,_,_,_,_,_,_,_,rfl,Ja ⟨G0,G1,G2,G3,G4,G5,G6,fun _ _=>r8,G8,G9⟩,Ja ⟨SS0.out.1,SS0.out.2⟩⟩
       · have hf0:D 10=false:=nyt hcl rfl (by simp) hDi;have hS0:=SS0.out.1 hf0;have h0:=GG.out.2.2.2.2.2.2.1 (hds 6 (by simp)) hf0;have h1:=GG.out.2.2.2.2.2.2.2.1 (hds 7 (by simp)) hf0;obtain rfl:=GG.out.2.2.1 (hds 2 (by simp));clear hds;have HC:=Ja (Xq _ _ (cf S n) c V h0 h1 HQS.out HQC.out);clear h0 h1;refine Jb rfl rfl (fun K hK=>?_);go_simp;go_wp2_with (go_at_call 40;refine HC.out.mono ?_;rintro e w5 ⟨v5,rfl,hv5,hb5⟩)
         obtain ⟨G0,G1,_,G3,G4,G5,G6,G7,_,G9⟩:=GG.out;exact ⟨_,_,_,_,_,_,_,_,_,_,rfl,Ja ⟨G0,G1,fun _=>rfl,G3,G4,G5,fun h h2=>(G6 h h2).below hb5,fun h h2=>(G7 h h2).below hb5,fun _ _=>hv5,G9⟩,Ja ⟨fun h=>(SS0.out.1 h).below hb5,fun h=>(SS0.out.2 h).below hb5⟩⟩
       · have hf0:D 10=false:=nyt hcl rfl (by simp) hDi;have hS0:=SS0.out.1 hf0;obtain rfl:=GG.out.1 (hds 0 (by simp));obtain rfl:=GG.out.2.1 (hds 1 (by simp));clear hds;refine Jb rfl rfl (fun K hK=>?_);go_simp;obtain ⟨_,_,G2,G3,G4,G5,G6,G7,G8,_⟩:=GG.out;exact hK _ _ ⟨_,_,_,_,_,_,_,_,_,_,rfl,Ja ⟨fun _=>rfl,fun _=>rfl,G2,G3,G4,G5,G6,G7,G8,fun _=>rfl⟩,Ja ⟨SS0.out.1,SS0.out.2⟩⟩
       · have hS0:=SS0.out.1 hDi;have h0:=GG.out.2.2.2.2.2.2.2.2.1 (hds 8 (by simp)) hDi;obtain rfl:=GG.out.2.2.2.2.2.2.2.2.2 (hds 9 (by simp));have hE:=hS0.1.2.2.1;obtain ⟨xa,xb,xc,xd,e0,e1,e2,e3,_⟩:=hE.at HSL.out;have f0:=hE.frozen (n*4);have f1:=hE.frozen (n*4+1);have f2:=hE.frozen (n*4+2);have f3:=hE.frozen (n*4+3);obtain ⟨s9,a9,l9,c9,t9,b9,k9,d9,rfl⟩:=Jf.form h0;clear hds;refine Jb rfl rfl (fun K hK=>?_);go_simp;obtain ⟨G0,G1,G2,G3,G4,G5,_,_,_,_⟩:=GG.out;exact hK _ _ ⟨_,_,_,_,_,_,_,_,_,_,rfl,Ja ⟨G0,G1,G2,G3,G4,G5,fun _ h=>by simp at h,fun _ h=>by simp at h,fun _ h=>by simp at h,fun _=>rfl⟩,Ja ⟨fun h=>by simp at h,fun _=>hS0.1.put HSL.out h0⟩⟩
      case fin2=>
       rintro D act V hDD ⟨t15x,t16x,t17x,t18x,t19x,t20x,t21x,t22x,t23x,t24x,rfl,GG,SS0⟩;have HM3:=Ja (SS0.out.2 (hDD 10 (by decide)));clear GG SS0 hDD;rw [HSF.out] at HM3;go_wp2_with fail
       go_meet
       case rel=>exact HM3
    clear ST0;have HP6:=hcut;clear hcut;cases h43:YJ (Je s) J 43 with
    | true=>
     have hJ1:J+1≤s.size:=by have:=Yk h43;rw [Jm] at this;omega
     have HTT:=Ja (show Ja4 (Je s) f false (J+1) S'=XS (Je s) by have e:=HTS.out;rw [if_pos h43] at e;exact e);have HF1:=Ja (fun (V:World) (hh:RcB V R s (k5:Int))=>YL R s k5 43 V hh hk5 hs true (by rw [HJ.out,h43]));rw [HJ.out] at HF1;clear h43;go_wp2_with (go_at_call 120;refine (HF1.out _ HP6.out.1).mono ?_;clear HF1;rintro e w7 ⟨rfl,hr7,hg7⟩;have HP7:=Ja (HP6.out.rc hr7 hg7);clear hr7 hg7)
     go_roundw
     case rel=>exact ⟨false,J+1,f,m+1,S',rfl,hJ1,HP7,HS1,Ja ⟨by have:=HT.out.1;have:=HLT.out;have:=HJ5.out;omega,by have:=HT.out.2.1;have:=HLT.out;have:=HJ5.out;omega,HTT.out⟩⟩
     case measure=>
      have e1:=Jad (I:=J+1) HP7.out.1;rw [e1,HRI.out];have:=HLT.out;have:=HJ5.out;omega
    | false=>
     have HF1:=Ja (fun (V:World) (hh:RcB V R s (k5:Int))=>YL R s k5 43 V hh hk5 hs false (by rw [HJ.out,h43]));rw [HJ.out] at HF1;cases h45:YJ (Je s) J 45 with
     | true=>
      have hJ1:J+1≤s.size:=by have:=Yk h45;rw [Jm] at this;omega
      have HTT:=Ja (show Ja4 (Je s) f true (J+1) S'=XS (Je s) by have e:=HTS.out;rw [if_neg (by rw [h43];decide),if_pos h45] at e;exact e);have HF2:=Ja (fun (V:World) (hh:RcB V R s (J:Int))=>YL R s J 45 V hh hJs hs true (by rw [HJJ.out,h45]));rw [HJJ.out] at HF2;clear h43 h45;go_wp2_with (first
       | (go_at_call 120;refine (HF1.out _ HP6.out.1).mono ?_;clear HF1;rintro e w7 ⟨rfl,hr7,hg7⟩;have HP7:=Ja (HP6.out.rc hr7 hg7);clear hr7 hg7)
       | (go_at_call 120;refine (HF2.out _ HP7.out.1).mono ?_;clear HF2;rintro e w8 ⟨rfl,hr8,hg8⟩;have HP8:=Ja (HP7.out.rc hr8 hg8);clear hr8 hg8))
      go_roundw
      case rel=>exact ⟨true,J+1,f,m+1,S',rfl,hJ1,HP8,HS1,Ja ⟨by have:=HT.out.1;have:=HLT.out;have:=HJ5.out;omega,by have:=HT.out.2.1;have:=HLT.out;have:=HJ5.out;omega,HTT.out⟩⟩
      case measure=>
       have e1:=Jad (I:=J+1) HP8.out.1;rw [e1,HRI.out];have:=HLT.out;have:=HJ5.out;omega
     | false=>
      have HF2:=Ja (fun (V:World) (hh:RcB V R s (J:Int))=>YL R s J 45 V hh hJs hs false (by rw [HJJ.out,h45]));rw [HJJ.out] at HF2;have HF3:=Ja (fun (V:World) (hh:RcB V R s (J:Int))=>Je1 R s J V hh hJs hs);rw [HJJ.out] at HF3;by_cases hJe:J=s.size
      · have HTT:=Ja (show XS (Je s)=.ok S' J by have e:=HTS.out;rw [if_neg (by rw [h43];decide),if_neg (by rw [h45];decide),if_pos (by rw [Jm];exact hJe)] at e;exact e.symm);rw [show decide (J=s.size)=true from decide_eq_true hJe] at HF3;have HMD:=Ja (fun (V:World) (hE:Els true V b S')=>Xa (.slice (some ⟨b,0,none⟩) 9 9) S' V (by
         have hrow:=hE.row (n:=9) (cap:=9) (by rw [HS1.out.1];exact Nat.le_refl _) (Nat.le_refl _) (by omega) (by omega);rwa [List.take_of_length_le (by rw [HS1.out.1];exact Nat.le_refl _)] at hrow) (Sqs.of fun i=>Sq.of (HS1.out.2 i) (by have:=HT.out.1;omega)))
        clear h43 h45 hJe;go_wp2_with (first
         | (go_at_call 120;refine (HF1.out _ HP6.out.1).mono ?_;clear HF1;rintro e w7 ⟨rfl,hr7,hg7⟩;have HP7:=Ja (HP6.out.rc hr7 hg7);clear hr7 hg7)
         | (go_at_call 120;refine (HF2.out _ HP7.out.1).mono ?_;clear HF2;rintro e w8 ⟨rfl,hr8,hg8⟩;have HP8:=Ja (HP7.out.rc hr8 hg8);clear hr8 hg8)
         | (go_at_call 122;refine (HF3.out _ HP8.out.1).mono ?_;clear HF3;rintro e w9 ⟨rfl,hr9,hg9⟩;have HP9:=Ja (HP8.out.rc hr9 hg9);clear hr9 hg9)
         | (go_at_call 65;refine (HMD.out _ HP9.out.2.2.1).mono ?_;clear HMD;rintro e w10 ⟨u10,rfl,hu10,_,hq10⟩;obtain ⟨a7,l7,c7,rfl⟩:=hu10.form;have HP10:=Ja (HP9.out.below hq10);have x0:=HP10.out.2.1.cell;have x1:=HP10.out.2.1.frozen;have HU10:=Ja hu10.row;clear hu10 hq10))
        refine bodyPost_ret (v:=.agg #[.slice a7 l7 c7]) (by simp [results,Tryz.results90,go_sem,x0]) rfl ⟨JR HP10.out.2.2.2.1 HP10.out.2.2.2.2.1 0 _,fun e q he=>?_,fun S'' k he=>?_⟩
        · rw [HTT.out] at he;cases he
        · rw [HTT.out] at he;cases he;exact ⟨_,rfl,⟨_,rfl,Jbh HP10.out.2.1 _ HU10.out⟩,m+1,by have:=HT.out.1;have:=HLT.out;omega,HS1.out⟩
      · have HTT:=Ja (show XS (Je s)=.bad 2 J by have e:=HTS.out;rw [if_neg (by rw [h43];decide),if_neg (by rw [h45];decide),if_neg (by rw [Jm];exact hJe)] at e;exact e.symm);rw [show decide (J=s.size)=false from decide_eq_false hJe] at HF3;clear h43 h45 hJe;go_wp2_with (first
         | (go_at_call 120;refine (HF1.out _ HP6.out.1).mono ?_;clear HF1;rintro e w7 ⟨rfl,hr7,hg7⟩;have HP7:=Ja (HP6.out.rc hr7 hg7);clear hr7 hg7)
         | (go_at_call 120;refine (HF2.out _ HP7.out.1).mono ?_;clear HF2;rintro e w8 ⟨rfl,hr8,hg8⟩;have HP8:=Ja (HP7.out.rc hr8 hg8);clear hr8 hg8)
         | (go_at_call 122;refine (HF3.out _ HP8.out.1).mono ?_;clear HF3;rintro e w9 ⟨rfl,hr9,hg9⟩;have c19:=hr9.c1;have HP9:=Ja (HP8.out.rc hr9 hg9);clear hr9 hg9)
         | (go_at_call 123;refine (HF.out _ _ _).mono ?_;clear HF;rintro e w10 ⟨rfl,rfl⟩))
        refine ⟨rfl,HP9.out.2.2.2.1,fun e q he=>?_,fun S'' k he=>?_⟩
        · rw [HTT.out] at he;cases he;rfl
        · rw [HTT.out] at he;cases he
@[irreducible] def Sq1 (q:Rat):Prop:=SmQ 100000 q
theorem Sq1.of {k:Nat} {q:Rat} (h:SmQ k q) (hk:k≤100000):Sq1 q:=by unfold Sq1;exact h.mono hk
theorem Sq1.sm {q:Rat} (h:Sq1 q):SmQ 100000 q:=by unfold Sq1 at h;exact h
set_option linter.unusedSimpArgs false
def Js7 (w V:World):Prop:=Below w.heap.size w V
theorem Js7.below {w V V':World} (h:Js7 w V) (hb:Below V.heap.size V V'):Js7 w V':=Below.trans h (hb.mono (Below.size h))
end Go.Proofs.YtcahejkcdcjjgaaGreatDoor
