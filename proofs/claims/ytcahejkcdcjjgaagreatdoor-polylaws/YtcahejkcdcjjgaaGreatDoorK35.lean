import Derived.Test.YtcahejkcdcjjgaaGreatDoorK34
import Derived.Test.YtcahejkcdcjjgaaGreatDoorK28
import Derived.Test.YtcahejkcdcjjgaaGreatDoorShelf
import Derived.Test.YtcahejkcdcjjgaaGreatDoorK33
import Derived.Test.YtcahejkcdcjjgaaGreatDoorK09
set_option maxRecDepth 100000
set_option maxHeartbeats 16000000
namespace Go.Proofs.YtcahejkcdcjjgaaGreatDoor
open Go.RowKit Go.Shelf
attribute [local go_sem] Oper.semAt_some
theorem Jlu (c:UInt8) (w:World):Calls Tryz.prog 181 #[.int .u8 (c.toNat:Int)] w fun r w'=>r=.returned (.bool (isD c))∧Below w.heap.size w w':=by
 refine (Jgf c w).mono ?_;rintro e w' ⟨rfl,rfl⟩;exact ⟨rfl,Below.refl _ _⟩
theorem Jcd {s:ByteArray} {j:Nat} (hj:j<s.size):Jah (Je s) j=isD s[j]:=by
 unfold Jah;rw [List.getElem?_eq_getElem (by rw [Jm];exact hj)];rfl
theorem Jea {s:ByteArray} {j:Nat} (hj:s.size≤j):Jah (Je s) j=false:=by
 unfold Jah;rw [List.getElem?_eq_none (by rw [Jm];exact hj)];rfl
theorem Jh1 (R:Nat) (s:ByteArray) (I:Nat) (w:World) (h:RcB w R s I) (hI:I≤s.size) (hs:s.size≤300) :
 Calls Tryz.prog 154 #[.pointer (some ⟨R,0,none⟩)] w fun r w'=>r=.returned (.bool (Jah (Je s) (skB (Je s) I)))∧RcB w' R s (skB (Je s) I:Nat)∧w.grownBy w' (some R):=by
 have hmx:Tryz.prog.follows .mixedOrders=true:=by kernel_rfl
 have HEN:=Ja (fun (V:World) (hh:RcB V R s I)=>Je1 R s I V hh hI hs);obtain ⟨j,hj⟩:∃ j,skB (Je s) I=j:=⟨_,rfl⟩;have hjs:j≤s.size:=by rw [←hj,←Jm];exact Y5 (by rw [Jm];exact hI)
 rw [hj] at HEN ⊢;have HH:=Ja h;clear h hj;by_cases hje:j=s.size
 · rw [Jea (by omega:s.size≤j)];rw [show decide (j=s.size)=true from decide_eq_true hje] at HEN;clear hje;go_enter Tryz.func154,Tryz.ntmps154
   go_wp2_with fail
   have ST0:FdS w w.drew R s I:=⟨HH.out,rfl,rfl,rfl,Nat.le_refl _,fun _ _ _=>rfl⟩;refine Jj hmx [[],[0],[1],[2,1],[3],[4,3],[5,3],[6,3],[3],[8,3],[9,3],[10,3],[7,11,3],[12,3,3],[3,13],[14,13,0,1,2,3,4,5,6,7,8,9,10,11,12,13,14]] (by kernel_rfl) (by decide)
    (fun D act V=>∃ (t3x t4x t5x t6x t7x t8x t9x t10x t11x t12x t13x t14x t15x t16x t17x t2x:Value),act={ tmps:=#[.pointer (some ⟨R,0,none⟩),undef,t2x,t3x,t4x,t5x,t6x,t7x,t8x,t9x,t10x,t11x,t12x,t13x,t14x,t15x,t16x,t17x],defers:=[] }∧Hid ((D 0=true→t3x=.pointer (some ⟨R,0,none⟩))∧(D 1=true→t4x=.bool true)∧(D 2=true→t5x=.bool false)∧(D 3=true→t6x=.bool false)∧(D 4=true→True)∧(D 5=true→True)∧(D 6=true→True)∧(D 7=true→True)∧(D 8=true→True)∧(D 9=true→True)∧(D 10=true→True)∧(D 11=true→True)∧(D 12=true→True)∧(D 13=true→True)∧(D 14=true→t17x=.bool false)∧(D 15=true→t2x=.bool false))∧Hid ((D 1=false→FdS w V R s I)∧(D 1=true→FdS w V R s (j:Int))))
    ⟨_,_,_,_,_,_,_,_,_,_,_,_,_,_,_,_,rfl,Ja ⟨by simp,by simp,by simp,by simp,by simp,by simp,by simp,by simp,by simp,by simp,by simp,by simp,by simp,by simp,by simp,by simp⟩,Ja ⟨fun _=>ST0,by simp⟩⟩ ?step1 ?fin1
   case step1=>
    rintro D act V i ds hcl hi hds hDi ⟨t3x,t4x,t5x,t6x,t7x,t8x,t9x,t10x,t11x,t12x,t13x,t14x,t15x,t16x,t17x,t2x,rfl,GG,SS0⟩;have hi6:i<16:=(List.getElem?_eq_some_iff.1 hi).1;obtain rfl | rfl | rfl | rfl | rfl | rfl | rfl | rfl | rfl | rfl | rfl | rfl | rfl | rfl | rfl | rfl:i=0∨i=1∨i=2∨i=3∨i=4∨i=5∨i=6∨i=7∨i=8∨i=9∨i=10∨i=11∨i=12∨i=13∨i=14∨i=15:=by omega
    all_goals
     simp only [List.getElem?_cons_zero,List.getElem?_cons_succ,Option.some.injEq] at hi;subst hi
    · have hf0:D 1=false:=nyt hcl rfl (by simp) hDi;have hS0:=SS0.out.1 hf0;clear hds;refine Jb rfl rfl (fun K hK=>?_);go_simp;obtain ⟨_,G1,G2,G3,G4,G5,G6,G7,G8,G9,G10,G11,G12,G13,G14,G15⟩:=GG.out;exact hK _ _ ⟨_,_,_,_,_,_,_,_,_,_,_,_,_,_,_,_,rfl,Ja ⟨fun _=>rfl,G1,G2,G3,G4,G5,G6,G7,G8,G9,G10,G11,G12,G13,G14,G15⟩,Ja ⟨SS0.out.1,SS0.out.2⟩⟩
    · have hS0:=SS0.out.1 hDi;obtain rfl:=GG.out.1 (hds 0 (by simp));clear hds;have HC:=Ja (HEN.out V hS0.1);refine Jb rfl rfl (fun K hK=>?_);go_simp;go_wp2_with (go_at_call 122;refine HC.out.mono ?_;rintro e w5 ⟨rfl,hr5,hg5⟩)
      obtain ⟨_,_,G2,G3,G4,G5,G6,G7,G8,G9,G10,G11,G12,G13,G14,G15⟩:=GG.out;exact ⟨_,_,_,_,_,_,_,_,_,_,_,_,_,_,_,_,rfl,Ja ⟨fun _=>rfl,fun _=>rfl,G2,G3,G4,G5,G6,G7,G8,G9,G10,G11,G12,G13,G14,G15⟩,Ja ⟨fun h=>by simp at h,fun _=>⟨hr5,Jg hS0.2 hg5⟩⟩⟩
    · obtain rfl:=GG.out.2.1 (hds 1 (by simp));clear hds;refine Jb rfl rfl (fun K hK=>?_);go_simp;obtain ⟨G0,_,_,G3,G4,G5,G6,G7,G8,G9,G10,G11,G12,G13,G14,G15⟩:=GG.out;exact hK _ _ ⟨_,_,_,_,_,_,_,_,_,_,_,_,_,_,_,_,rfl,Ja ⟨G0,fun _=>rfl,fun _=>rfl,G3,G4,G5,G6,G7,G8,G9,G10,G11,G12,G13,G14,G15⟩,Ja ⟨SS0.out.1,SS0.out.2⟩⟩
    · obtain rfl:=GG.out.2.2.1 (hds 2 (by simp));clear hds;refine Jb rfl rfl (fun K hK=>?_);go_simp;obtain ⟨G0,G1,_,_,G4,G5,G6,G7,G8,G9,G10,G11,G12,G13,G14,G15⟩:=GG.out;exact hK _ _ ⟨_,_,_,_,_,_,_,_,_,_,_,_,_,_,_,_,rfl,Ja ⟨G0,G1,fun _=>rfl,fun _=>rfl,G4,G5,G6,G7,G8,G9,G10,G11,G12,G13,G14,G15⟩,Ja ⟨SS0.out.1,SS0.out.2⟩⟩
    · obtain rfl:=GG.out.2.2.2.1 (hds 3 (by simp));clear hds;refine J3 rfl rfl ?_;obtain ⟨G0,G1,G2,_,_,G5,G6,G7,G8,G9,G10,G11,G12,G13,G14,G15⟩:=GG.out;exact ⟨_,_,_,_,_,_,_,_,_,_,_,_,_,_,_,_,rfl,Ja ⟨G0,G1,G2,fun _=>rfl,fun _=>trivial,G5,G6,G7,G8,G9,G10,G11,G12,G13,G14,G15⟩,Ja ⟨SS0.out.1,SS0.out.2⟩⟩
    · obtain rfl:=GG.out.2.2.2.1 (hds 3 (by simp));clear hds;refine J3 rfl rfl ?_;obtain ⟨G0,G1,G2,_,G4,_,G6,G7,G8,G9,G10,G11,G12,G13,G14,G15⟩:=GG.out;exact ⟨_,_,_,_,_,_,_,_,_,_,_,_,_,_,_,_,rfl,Ja ⟨G0,G1,G2,fun _=>rfl,G4,fun _=>trivial,G6,G7,G8,G9,G10,G11,G12,G13,G14,G15⟩,Ja ⟨SS0.out.1,SS0.out.2⟩⟩
    · obtain rfl:=GG.out.2.2.2.1 (hds 3 (by simp));clear hds;refine J3 rfl rfl ?_;obtain ⟨G0,G1,G2,_,G4,G5,_,G7,G8,G9,G10,G11,G12,G13,G14,G15⟩:=GG.out;exact ⟨_,_,_,_,_,_,_,_,_,_,_,_,_,_,_,_,rfl,Ja ⟨G0,G1,G2,fun _=>rfl,G4,G5,fun _=>trivial,G7,G8,G9,G10,G11,G12,G13,G14,G15⟩,Ja ⟨SS0.out.1,SS0.out.2⟩⟩
    · obtain rfl:=GG.out.2.2.2.1 (hds 3 (by simp));clear hds;refine J3 rfl rfl ?_;obtain ⟨G0,G1,G2,_,G4,G5,G6,_,G8,G9,G10,G11,G12,G13,G14,G15⟩:=GG.out;exact ⟨_,_,_,_,_,_,_,_,_,_,_,_,_,_,_,_,rfl,Ja ⟨G0,G1,G2,fun _=>rfl,G4,G5,G6,fun _=>trivial,G8,G9,G10,G11,G12,G13,G14,G15⟩,Ja ⟨SS0.out.1,SS0.out.2⟩⟩
    · obtain rfl:=GG.out.2.2.2.1 (hds 3 (by simp));clear hds;refine J3 rfl rfl ?_;obtain ⟨G0,G1,G2,_,G4,G5,G6,G7,_,G9,G10,G11,G12,G13,G14,G15⟩:=GG.out;exact ⟨_,_,_,_,_,_,_,_,_,_,_,_,_,_,_,_,rfl,Ja ⟨G0,G1,G2,fun _=>rfl,G4,G5,G6,G7,fun _=>trivial,G9,G10,G11,G12,G13,G14,G15⟩,Ja ⟨SS0.out.1,SS0.out.2⟩⟩
    · obtain rfl:=GG.out.2.2.2.1 (hds 3 (by simp));clear hds;refine J3 rfl rfl ?_;obtain ⟨G0,G1,G2,_,G4,G5,G6,G7,G8,_,G10,G11,G12,G13,G14,G15⟩:=GG.out;exact ⟨_,_,_,_,_,_,_,_,_,_,_,_,_,_,_,_,rfl,Ja ⟨G0,G1,G2,fun _=>rfl,G4,G5,G6,G7,G8,fun _=>trivial,G10,G11,G12,G13,G14,G15⟩,Ja ⟨SS0.out.1,SS0.out.2⟩⟩
    · obtain rfl:=GG.out.2.2.2.1 (hds 3 (by simp));clear hds;refine J3 rfl rfl ?_;obtain ⟨G0,G1,G2,_,G4,G5,G6,G7,G8,G9,_,G11,G12,G13,G14,G15⟩:=GG.out;exact ⟨_,_,_,_,_,_,_,_,_,_,_,_,_,_,_,_,rfl,Ja ⟨G0,G1,G2,fun _=>rfl,G4,G5,G6,G7,G8,G9,fun _=>trivial,G11,G12,G13,G14,G15⟩,Ja ⟨SS0.out.1,SS0.out.2⟩⟩
    · obtain rfl:=GG.out.2.2.2.1 (hds 3 (by simp));clear hds;refine J3 rfl rfl ?_;obtain ⟨G0,G1,G2,_,G4,G5,G6,G7,G8,G9,G10,_,G12,G13,G14,G15⟩:=GG.out;exact ⟨_,_,_,_,_,_,_,_,_,_,_,_,_,_,_,_,rfl,Ja ⟨G0,G1,G2,fun _=>rfl,G4,G5,G6,G7,G8,G9,G10,fun _=>trivial,G12,G13,G14,G15⟩,Ja ⟨SS0.out.1,SS0.out.2⟩⟩
    · obtain rfl:=GG.out.2.2.2.1 (hds 3 (by simp));clear hds;refine J3 rfl rfl ?_;obtain ⟨G0,G1,G2,_,G4,G5,G6,G7,G8,G9,G10,G11,_,G13,G14,G15⟩:=GG.out;exact ⟨_,_,_,_,_,_,_,_,_,_,_,_,_,_,_,_,rfl,Ja ⟨G0,G1,G2,fun _=>rfl,G4,G5,G6,G7,G8,G9,G10,G11,fun _=>trivial,G13,G14,G15⟩,Ja ⟨SS0.out.1,SS0.out.2⟩⟩
    · obtain rfl:=GG.out.2.2.2.1 (hds 3 (by simp));clear hds;refine J3 rfl rfl ?_;obtain ⟨G0,G1,G2,_,G4,G5,G6,G7,G8,G9,G10,G11,G12,_,G14,G15⟩:=GG.out;exact ⟨_,_,_,_,_,_,_,_,_,_,_,_,_,_,_,_,rfl,Ja ⟨G0,G1,G2,fun _=>rfl,G4,G5,G6,G7,G8,G9,G10,G11,G12,fun _=>trivial,G14,G15⟩,Ja ⟨SS0.out.1,SS0.out.2⟩⟩
    · obtain rfl:=GG.out.2.2.2.1 (hds 3 (by simp));clear hds;refine Jb rfl rfl (fun K hK=>?_);go_simp;obtain ⟨G0,G1,G2,_,G4,G5,G6,G7,G8,G9,G10,G11,G12,G13,_,G15⟩:=GG.out;exact hK _ _ ⟨_,_,_,_,_,_,_,_,_,_,_,_,_,_,_,_,rfl,Ja ⟨G0,G1,G2,fun _=>rfl,G4,G5,G6,G7,G8,G9,G10,G11,G12,G13,fun _=>rfl,G15⟩,Ja ⟨SS0.out.1,SS0.out.2⟩⟩
    · obtain rfl:=GG.out.2.2.2.2.2.2.2.2.2.2.2.2.2.2.1 (hds 14 (by simp));clear hds;refine Jb rfl rfl (fun K hK=>?_);go_simp;obtain ⟨G0,G1,G2,G3,G4,G5,G6,G7,G8,G9,G10,G11,G12,G13,_,_⟩:=GG.out;exact hK _ _ ⟨_,_,_,_,_,_,_,_,_,_,_,_,_,_,_,_,rfl,Ja ⟨G0,G1,G2,G3,G4,G5,G6,G7,G8,G9,G10,G11,G12,G13,fun _=>rfl,fun _=>rfl⟩,Ja ⟨SS0.out.1,SS0.out.2⟩⟩
   case fin1=>
    rintro D act V hDD ⟨t3x,t4x,t5x,t6x,t7x,t8x,t9x,t10x,t11x,t12x,t13x,t14x,t15x,t16x,t17x,t2x,rfl,GG,SS0⟩;have HF:=Ja (SS0.out.2 (hDD 1 (by decide)));obtain rfl:=GG.out.2.2.2.2.2.2.2.2.2.2.2.2.2.2.2 (hDD 15 (by decide));clear GG SS0 hDD;go_wp2_with fail
    go_ret;exact ⟨rfl,HF.out.1,HF.out.2⟩
 · have hlt:j<s.size:=by omega
   have hlt2:(j:Int)<(s.size:Int):=by omega
   rw [show decide (j=s.size)=false from decide_eq_false hje] at HEN;rw [Jcd hlt];have HID:=Ja (fun (V:World)=>Jlu s[j] V);obtain ⟨dg,hdg⟩:∃ x,isD s[j]=x:=⟨_,rfl⟩;rw [hdg] at HID ⊢;clear hje hdg;go_enter Tryz.func154,Tryz.ntmps154
   go_wp2_with fail
   have ST0:FdS w w.drew R s I:=⟨HH.out,rfl,rfl,rfl,Nat.le_refl _,fun _ _ _=>rfl⟩;refine Jj hmx [[],[0],[1],[2,1],[3],[4,3],[5,3],[6,3],[3],[8,3],[9,3],[10,3],[7,11,3],[12,3,3],[3,13],[14,13,0,1,2,3,4,5,6,7,8,9,10,11,12,13,14]] (by kernel_rfl) (by decide)
    (fun D act V=>∃ (t3x t4x t5x t6x t7x t8x t9x t10x t11x t12x t13x t14x t15x t16x t17x t2x:Value),act={ tmps:=#[.pointer (some ⟨R,0,none⟩),undef,t2x,t3x,t4x,t5x,t6x,t7x,t8x,t9x,t10x,t11x,t12x,t13x,t14x,t15x,t16x,t17x],defers:=[] }∧Hid ((D 0=true→t3x=.pointer (some ⟨R,0,none⟩))∧(D 1=true→t4x=.bool false)∧(D 2=true→t5x=.bool true)∧(D 3=true→t6x=.bool true)∧(D 4=true→t7x=.pointer (some ⟨R,0,none⟩))∧(D 5=true→t8x=.pointer (some ⟨R,0,none⟩))∧(D 6=true→t9x=.pointer (some ⟨R,0,none⟩))∧(D 7=true→t10x=.string s)∧(D 8=true→t11x=.pointer (some ⟨R,0,none⟩))∧(D 9=true→t12x=.pointer (some ⟨R,0,none⟩))∧(D 10=true→t13x=.pointer (some ⟨R,1,none⟩))∧(D 11=true→t14x=.int .i64 (j:Int))∧(D 12=true→t15x=.int .u8 (s[j].toNat:Int))∧(D 13=true→t16x=.bool dg)∧(D 14=true→t17x=.bool dg)∧(D 15=true→t2x=.bool dg))∧Hid ((D 1=false→FdS w V R s I)∧(D 1=true→FdS w V R s (j:Int))))
    ⟨_,_,_,_,_,_,_,_,_,_,_,_,_,_,_,_,rfl,Ja ⟨by simp,by simp,by simp,by simp,by simp,by simp,by simp,by simp,by simp,by simp,by simp,by simp,by simp,by simp,by simp,by simp⟩,Ja ⟨fun _=>ST0,by simp⟩⟩ ?step2 ?fin2
   case step2=>
    rintro D act V i ds hcl hi hds hDi ⟨t3x,t4x,t5x,t6x,t7x,t8x,t9x,t10x,t11x,t12x,t13x,t14x,t15x,t16x,t17x,t2x,rfl,GG,SS0⟩;have hi6:i<16:=(List.getElem?_eq_some_iff.1 hi).1;obtain rfl | rfl | rfl | rfl | rfl | rfl | rfl | rfl | rfl | rfl | rfl | rfl | rfl | rfl | rfl | rfl:i=0∨i=1∨i=2∨i=3∨i=4∨i=5∨i=6∨i=7∨i=8∨i=9∨i=10∨i=11∨i=12∨i=13∨i=14∨i=15:=by omega
    all_goals
     simp only [List.getElem?_cons_zero,List.getElem?_cons_succ,Option.some.injEq] at hi;subst hi
    · have hf0:D 1=false:=nyt hcl rfl (by simp) hDi;have hS0:=SS0.out.1 hf0;clear hds;refine Jb rfl rfl (fun K hK=>?_);go_simp;obtain ⟨_,G1,G2,G3,G4,G5,G6,G7,G8,G9,G10,G11,G12,G13,G14,G15⟩:=GG.out;exact hK _ _ ⟨_,_,_,_,_,_,_,_,_,_,_,_,_,_,_,_,rfl,Ja ⟨fun _=>rfl,G1,G2,G3,G4,G5,G6,G7,G8,G9,G10,G11,G12,G13,G14,G15⟩,Ja ⟨SS0.out.1,SS0.out.2⟩⟩
    · have hS0:=SS0.out.1 hDi;obtain rfl:=GG.out.1 (hds 0 (by simp));clear hds;have HC:=Ja (HEN.out V hS0.1);refine Jb rfl rfl (fun K hK=>?_);go_simp;go_wp2_with (go_at_call 122;refine HC.out.mono ?_;rintro e w5 ⟨rfl,hr5,hg5⟩)
      obtain ⟨_,_,G2,G3,G4,G5,G6,G7,G8,G9,G10,G11,G12,G13,G14,G15⟩:=GG.out;exact ⟨_,_,_,_,_,_,_,_,_,_,_,_,_,_,_,_,rfl,Ja ⟨fun _=>rfl,fun _=>rfl,G2,G3,G4,G5,G6,G7,G8,G9,G10,G11,G12,G13,G14,G15⟩,Ja ⟨fun h=>by simp at h,fun _=>⟨hr5,Jg hS0.2 hg5⟩⟩⟩
    · obtain rfl:=GG.out.2.1 (hds 1 (by simp));clear hds;refine Jb rfl rfl (fun K hK=>?_);go_simp;obtain ⟨G0,_,_,G3,G4,G5,G6,G7,G8,G9,G10,G11,G12,G13,G14,G15⟩:=GG.out;exact hK _ _ ⟨_,_,_,_,_,_,_,_,_,_,_,_,_,_,_,_,rfl,Ja ⟨G0,fun _=>rfl,fun _=>rfl,G3,G4,G5,G6,G7,G8,G9,G10,G11,G12,G13,G14,G15⟩,Ja ⟨SS0.out.1,SS0.out.2⟩⟩
    · obtain rfl:=GG.out.2.2.1 (hds 2 (by simp));clear hds;refine Jb rfl rfl (fun K hK=>?_);go_simp;obtain ⟨G0,G1,_,_,G4,G5,G6,G7,G8,G9,G10,G11,G12,G13,G14,G15⟩:=GG.out;exact hK _ _ ⟨_,_,_,_,_,_,_,_,_,_,_,_,_,_,_,_,rfl,Ja ⟨G0,G1,fun _=>rfl,fun _=>rfl,G4,G5,G6,G7,G8,G9,G10,G11,G12,G13,G14,G15⟩,Ja ⟨SS0.out.1,SS0.out.2⟩⟩
    · obtain rfl:=GG.out.2.2.2.1 (hds 3 (by simp));clear hds;refine Jp rfl rfl (fun K hK=>?_);go_simp;obtain ⟨G0,G1,G2,_,_,G5,G6,G7,G8,G9,G10,G11,G12,G13,G14,G15⟩:=GG.out;exact hK _ _ ⟨_,_,_,_,_,_,_,_,_,_,_,_,_,_,_,_,rfl,Ja ⟨G0,G1,G2,fun _=>rfl,fun _=>rfl,G5,G6,G7,G8,G9,G10,G11,G12,G13,G14,G15⟩,Ja ⟨SS0.out.1,SS0.out.2⟩⟩
    · obtain rfl:=GG.out.2.2.2.2.1 (hds 4 (by simp));obtain rfl:=GG.out.2.2.2.1 (hds 3 (by simp));clear hds;refine Jp rfl rfl (fun K hK=>?_);go_simp;obtain ⟨G0,G1,G2,_,_,_,G6,G7,G8,G9,G10,G11,G12,G13,G14,G15⟩:=GG.out;exact hK _ _ ⟨_,_,_,_,_,_,_,_,_,_,_,_,_,_,_,_,rfl,Ja ⟨G0,G1,G2,fun _=>rfl,fun _=>rfl,fun _=>rfl,G6,G7,G8,G9,G10,G11,G12,G13,G14,G15⟩,Ja ⟨SS0.out.1,SS0.out.2⟩⟩
    · obtain rfl:=GG.out.2.2.2.2.2.1 (hds 5 (by simp));obtain rfl:=GG.out.2.2.2.1 (hds 3 (by simp));clear hds;refine Jp rfl rfl (fun K hK=>?_);go_simp;obtain ⟨G0,G1,G2,_,G4,_,_,G7,G8,G9,G10,G11,G12,G13,G14,G15⟩:=GG.out;exact hK _ _ ⟨_,_,_,_,_,_,_,_,_,_,_,_,_,_,_,_,rfl,Ja ⟨G0,G1,G2,fun _=>rfl,G4,fun _=>rfl,fun _=>rfl,G7,G8,G9,G10,G11,G12,G13,G14,G15⟩,Ja ⟨SS0.out.1,SS0.out.2⟩⟩
    · obtain rfl:=GG.out.2.2.2.2.2.2.1 (hds 6 (by simp));obtain rfl:=GG.out.2.2.2.1 (hds 3 (by simp));have hD1:D 1=true:=hcl 2 _ rfl (hcl 3 _ rfl (hds 3 (by simp)) 2 (by simp)) 1 (by simp);have c0:=(SS0.out.2 hD1).1.c0;clear hds;refine Jp rfl rfl (fun K hK=>?_);go_simp;obtain ⟨G0,G1,G2,_,G4,G5,_,_,G8,G9,G10,G11,G12,G13,G14,G15⟩:=GG.out;exact hK _ _ ⟨_,_,_,_,_,_,_,_,_,_,_,_,_,_,_,_,rfl,Ja ⟨G0,G1,G2,fun _=>rfl,G4,G5,fun _=>rfl,fun _=>rfl,G8,G9,G10,G11,G12,G13,G14,G15⟩,Ja ⟨SS0.out.1,SS0.out.2⟩⟩
    · obtain rfl:=GG.out.2.2.2.1 (hds 3 (by simp));clear hds;refine Jp rfl rfl (fun K hK=>?_);go_simp;obtain ⟨G0,G1,G2,_,G4,G5,G6,G7,_,G9,G10,G11,G12,G13,G14,G15⟩:=GG.out;exact hK _ _ ⟨_,_,_,_,_,_,_,_,_,_,_,_,_,_,_,_,rfl,Ja ⟨G0,G1,G2,fun _=>rfl,G4,G5,G6,G7,fun _=>rfl,G9,G10,G11,G12,G13,G14,G15⟩,Ja ⟨SS0.out.1,SS0.out.2⟩⟩
    · obtain rfl:=GG.out.2.2.2.2.2.2.2.2.1 (hds 8 (by simp));obtain rfl:=GG.out.2.2.2.1 (hds 3 (by simp));clear hds;refine Jp rfl rfl (fun K hK=>?_);go_simp;obtain ⟨G0,G1,G2,_,G4,G5,G6,G7,_,_,G10,G11,G12,G13,G14,G15⟩:=GG.out;exact hK _ _ ⟨_,_,_,_,_,_,_,_,_,_,_,_,_,_,_,_,rfl,Ja ⟨G0,G1,G2,fun _=>rfl,G4,G5,G6,G7,fun _=>rfl,fun _=>rfl,G10,G11,G12,G13,G14,G15⟩,Ja ⟨SS0.out.1,SS0.out.2⟩⟩
    · obtain rfl:=GG.out.2.2.2.2.2.2.2.2.2.1 (hds 9 (by simp));obtain rfl:=GG.out.2.2.2.1 (hds 3 (by simp));clear hds;refine Jp rfl rfl (fun K hK=>?_);go_simp;obtain ⟨G0,G1,G2,_,G4,G5,G6,G7,G8,_,_,G11,G12,G13,G14,G15⟩:=GG.out;exact hK _ _ ⟨_,_,_,_,_,_,_,_,_,_,_,_,_,_,_,_,rfl,Ja ⟨G0,G1,G2,fun _=>rfl,G4,G5,G6,G7,G8,fun _=>rfl,fun _=>rfl,G11,G12,G13,G14,G15⟩,Ja ⟨SS0.out.1,SS0.out.2⟩⟩
    · obtain rfl:=GG.out.2.2.2.2.2.2.2.2.2.2.1 (hds 10 (by simp));obtain rfl:=GG.out.2.2.2.1 (hds 3 (by simp));have hD1:D 1=true:=hcl 2 _ rfl (hcl 3 _ rfl (hds 3 (by simp)) 2 (by simp)) 1 (by simp);have c1:=(SS0.out.2 hD1).1.c1;clear hds;refine Jp rfl rfl (fun K hK=>?_);go_simp;obtain ⟨G0,G1,G2,_,G4,G5,G6,G7,G8,G9,_,_,G12,G13,G14,G15⟩:=GG.out;exact hK _ _ ⟨_,_,_,_,_,_,_,_,_,_,_,_,_,_,_,_,rfl,Ja ⟨G0,G1,G2,fun _=>rfl,G4,G5,G6,G7,G8,G9,fun _=>rfl,fun _=>rfl,G12,G13,G14,G15⟩,Ja ⟨SS0.out.1,SS0.out.2⟩⟩
    · obtain rfl:=GG.out.2.2.2.2.2.2.2.1 (hds 7 (by simp));obtain rfl:=GG.out.2.2.2.2.2.2.2.2.2.2.2.1 (hds 11 (by simp));obtain rfl:=GG.out.2.2.2.1 (hds 3 (by simp));clear hds;refine Jp rfl rfl (fun K hK=>?_);go_simp;obtain ⟨G0,G1,G2,_,G4,G5,G6,_,G8,G9,G10,_,_,G13,G14,G15⟩:=GG.out;exact hK _ _ ⟨_,_,_,_,_,_,_,_,_,_,_,_,_,_,_,_,rfl,Ja ⟨G0,G1,G2,fun _=>rfl,G4,G5,G6,fun _=>rfl,G8,G9,G10,fun _=>rfl,fun _=>rfl,G13,G14,G15⟩,Ja ⟨SS0.out.1,SS0.out.2⟩⟩
    · obtain rfl:=GG.out.2.2.2.2.2.2.2.2.2.2.2.2.1 (hds 12 (by simp));obtain rfl:=GG.out.2.2.2.1 (hds 3 (by simp));clear hds;have HC:=Ja (HID.out V);refine Jp rfl rfl (fun K hK=>?_);go_simp;go_wp2_with (go_at_call 181;refine HC.out.mono ?_;rintro e w5 ⟨rfl,hb5⟩)
      obtain ⟨G0,G1,G2,_,G4,G5,G6,G7,G8,G9,G10,G11,_,_,G14,G15⟩:=GG.out;exact ⟨_,_,_,_,_,_,_,_,_,_,_,_,_,_,_,_,rfl,Ja ⟨G0,G1,G2,fun _=>rfl,G4,G5,G6,G7,G8,G9,G10,G11,fun _=>rfl,fun _=>rfl,G14,G15⟩,Ja ⟨fun h=>(SS0.out.1 h).below hb5,fun h=>(SS0.out.2 h).below hb5⟩⟩
    · obtain rfl:=GG.out.2.2.2.1 (hds 3 (by simp));obtain rfl:=GG.out.2.2.2.2.2.2.2.2.2.2.2.2.2.1 (hds 13 (by simp));clear hds;refine Jb rfl rfl (fun K hK=>?_);go_simp;obtain ⟨G0,G1,G2,_,G4,G5,G6,G7,G8,G9,G10,G11,G12,_,_,G15⟩:=GG.out;exact hK _ _ ⟨_,_,_,_,_,_,_,_,_,_,_,_,_,_,_,_,rfl,Ja ⟨G0,G1,G2,fun _=>rfl,G4,G5,G6,G7,G8,G9,G10,G11,G12,fun _=>rfl,fun _=>rfl,G15⟩,Ja ⟨SS0.out.1,SS0.out.2⟩⟩
    · obtain rfl:=GG.out.2.2.2.2.2.2.2.2.2.2.2.2.2.2.1 (hds 14 (by simp));clear hds;refine Jb rfl rfl (fun K hK=>?_);go_simp;obtain ⟨G0,G1,G2,G3,G4,G5,G6,G7,G8,G9,G10,G11,G12,G13,_,_⟩:=GG.out;exact hK _ _ ⟨_,_,_,_,_,_,_,_,_,_,_,_,_,_,_,_,rfl,Ja ⟨G0,G1,G2,G3,G4,G5,G6,G7,G8,G9,G10,G11,G12,G13,fun _=>rfl,fun _=>rfl⟩,Ja ⟨SS0.out.1,SS0.out.2⟩⟩
   case fin2=>
    rintro D act V hDD ⟨t3x,t4x,t5x,t6x,t7x,t8x,t9x,t10x,t11x,t12x,t13x,t14x,t15x,t16x,t17x,t2x,rfl,GG,SS0⟩;have HF:=Ja (SS0.out.2 (hDD 1 (by decide)));obtain rfl:=GG.out.2.2.2.2.2.2.2.2.2.2.2.2.2.2.2 (hDD 15 (by decide));clear GG SS0 hDD;go_wp2_with fail
    go_ret;exact ⟨rfl,HF.out.1,HF.out.2⟩
def nzL (ds:List UInt8):List UInt8:=if Lib.trimLeftB ds 48=[] then [48] else Lib.trimLeftB ds 48
def Jty (w:World) (R:Nat) (s:ByteArray) (I:Nat) (r:Ending) (w':World):Prop:=
 w.grownBy w' (some R)∧(∀ e q,YO (Je s) I=.bad e q→r=.panicked [{ v:=Xw e q,recovered:=false }])∧(∀ ds q k,YO (Je s) I=.ok (ds,q) k→r=.returned (.tuple #[.string ⟨(nzL ds).toArray⟩,.int .i64 (q:Int)])∧RcB w' R s (k:Int))
theorem Jdv (s:ByteArray) (p d:Nat):(s.extract p (p+d)).data.toList=((Je s).drop p).take d:=by
 unfold Je;simp [ByteArray.data_extract,Array.toList_extract,List.extract_eq_take_drop]
theorem Jeb (R:Nat) (s:ByteArray) (I:Nat) (w:World) (h:RcB w R s I) (hI:I≤s.size) (hs:s.size≤300) :
 Calls Tryz.prog 182 #[.pointer (some ⟨R,0,none⟩)] w fun r w'=>Jty w R s I r w':=by
 obtain ⟨p,hp⟩:∃ p,skB (Je s) I=p:=⟨_,rfl⟩;have HAD:=Ja (Jh1 R s I w h hI hs);rw [hp] at HAD;have hps:p≤s.size:=by rw [←hp,←Jm];exact Y5 (by rw [Jm];exact hI)
 have HP:=Ja hp;have HF:=Ja (fun (e q:Int) (V:World)=>Jdu (.pointer (some ⟨R,0,none⟩)) e q V);clear h hI hp;cases hdg:Jah (Je s) p with
 | false=>
  have HN:=Ja (show YO (Je s) I=.bad 2 p by unfold YO;rw [HP.out,if_pos (Jke hdg)]);rw [hdg] at HAD;clear hdg;go_enter Tryz.func182,Tryz.ntmps182
  go_wp2_with first
   | (go_at_call 154;refine HAD.out.mono ?_;clear HAD;rintro e w1 ⟨rfl,hr1,hg1⟩;have c1:=hr1.c1;have HG1:=Ja hg1;clear hr1 hg1)
   | (go_at_call 123;refine (HF.out _ _ _).mono ?_;clear HF;rintro e w2 ⟨rfl,rfl⟩)
  refine ⟨rfl,HG1.out,fun e q he=>?_,fun ds q k he=>?_⟩
  · rw [HN.out] at he;cases he;rfl
  · rw [HN.out] at he;cases he
 | true=>
  rw [hdg] at HAD;have HDG0:=Ja hdg;clear hdg;go_enter Tryz.func182,Tryz.ntmps182
  go_upto_region 4 with first
   | (go_at_call 154;refine HAD.out.mono ?_;clear HAD;rintro e w1 ⟨rfl,hr1,hg1⟩;have HR1:=Ja hr1;have c1:=hr1.c1;have HG1:=Ja hg1;clear hr1 hg1)
  go_loopw [] (fun wr=>∃ d:Nat,p+d≤s.size∧Hid (RcB wr R s ((p+d:Nat):Int)∧w.grownBy wr (some R)∧∃ n,Xz (Je s) p d n)) (fun wr=>s.size - rdI wr R)
  case atStart=>exact ⟨0,by omega,Ja ⟨HR1.out,HG1.out,0,Xz.zero (by rw [Jm];exact hps)⟩⟩
  case round=>
   clear c1;obtain ⟨d,hds,HR⟩:=hrel;obtain ⟨j,hj⟩:∃ j,j=p+d:=⟨_,rfl⟩;have HJ:=Ja hj;rw [←hj] at hds HR;clear hj;have c0:=HR.out.1.c0;have c1:=HR.out.1.c1;have f1:=HR.out.1.f 1;by_cases hlt:j<s.size
   · have hlt2:(j:Int)<(s.size:Int):=by omega
     have hj0:(0:Int)≤(j:Int):=by omega
     have HX:=Ja (Jgf s[j]);by_cases hdig:isD s[j]=true
     · rw [hdig] at HX;have HDG:=Ja hdig;clear hdig;go_wp2_with fail
       go_quiet ((go_at_call 181;exact Calls.quiet_of_same (HX.out _)))
       have HRI:=Ja (Jad HR.out.1);go_wp2_with fail
       go_roundw
       case rel=>
        refine ⟨d+1,?_,Ja ⟨?_,?_,?_⟩⟩
        · have:=HJ.out;omega
        · have:=(HR.out.1.drewN nq).set1 ((j:Int)+1);rw [show ((j:Int)+1)=((p+(d+1):Nat):Int) from by have:=HJ.out;omega] at this ⊢;exact this
        · exact Jg (Jg HR.out.2.1 (J6 _ _ _)) (JD _ R 1 _)
        · obtain ⟨n,hn⟩:=HR.out.2.2;by_cases hd12:d<12
          · exact ⟨_,hn.next1 (by rw [Jm];have:=HJ.out;omega) (by simp only [←HJ.out];exact HDG.out) hd12⟩
          · exact ⟨_,hn.next2 (by rw [Jm];have:=HJ.out;omega) (by simp only [←HJ.out];exact HDG.out) (by omega)⟩
       case measure=>
        have e2:=Jad ((HR.out.1.drewN nq).set1 ((j+1:Nat):Int));rw [show ((j+1:Nat):Int)=(j:Int)+1 from by omega] at e2;rw [e2,HRI.out];omega
     · have hdig:=Bool.eq_false_iff.2 hdig;rw [hdig] at HX;have HDE:=Ja (show dgE (Je s) p=j by rw [HJ.out];exact HR.out.2.2.choose_spec.dg (fun hl=>by simp only [←HJ.out];exact hdig));clear hdig;go_wp2_with fail
       go_quiet ((go_at_call 181;exact Calls.quiet_of_same (HX.out _)))
       have HRF:=Ja (HR.out.1.drewN nq);have HG:=Ja (show w.grownBy (wr.drewN nq) (some R) from Jg HR.out.2.1 (J6 _ _ _));have HNA:=Ja HR.out.2.2;have hd0:d≠0:=fun e=>by
        have h5:=HDE.out;have h6:=HJ.out;rw [e,Nat.add_zero] at h6;have h7:=HDG0.out;have h8:=Jfh (f:=isD) (l:=Je s) (i:=p);rw [show YM isD (Je s) p=j from h5] at h8;rw [←h6] at h7;by_cases h9:j<s.size
        · have:=h8 (by rw [Jm];exact h9);rw [Jcd h9] at h7;exact absurd (this.symm.trans h7) (by decide)
        · rw [Jea (by omega)] at h7;cases h7
       have hpj:(p:Int)≤(j:Int):=by have:=HJ.out;omega
       have hpj2:p≤j:=by have:=HJ.out;omega
       obtain ⟨SX,hSX⟩:∃ S,s.extract p j=S:=⟨_,rfl⟩;have hsz:SX.size=d:=by rw [←hSX,ByteArray.size_extract];have:=HJ.out;omega
       have HSX:=Ja hSX;have c0':=HRF.out.c0;have c1':=HRF.out.c1;go_wp2_with fail
       go_quiet (fail)
       have HGN:=Ja (show ∀ N,w.grownBy (wr.drewN N) (some R) from fun N=>Jg HR.out.2.1 (J6 _ _ _));have HRN:=Ja (show ∀ N,RcB (wr.drewN N) R s (j:Int) from fun N=>HR.out.1.drewN N);clear hSX c0' c1' c0 c1;have hjp:¬ j=p:=by have:=HJ.out;omega
       have HDS:=Ja (show SX.data.toList=((Je s).drop p).take (j - p) by rw [←HSX.out,HJ.out,Jdv,show p+d - p=d from by omega]);by_cases hd12:12<d
       · have hd12':(12:Int)<(d:Int):=by omega
         have HN:=Ja (show YO (Je s) I=.bad 3 p by unfold YO;rw [HP.out,HDE.out,if_neg hjp,if_pos (by have:=HJ.out;omega)]);go_wp2_with (go_at_call 123;refine (HF.out _ _ _).mono ?_;clear HF;rintro e w2 ⟨rfl,rfl⟩)
         refine ⟨rfl,HGN.out _,fun e q he=>?_,fun ds q k he=>?_⟩
         · rw [HN.out] at he;cases he;rfl
         · rw [HN.out] at he;cases he
       · have hd12':¬ (12:Int)<(d:Int):=by omega
         have HN:=Ja (show YO (Je s) I=.ok (SX.data.toList,p) j by unfold YO;rw [HP.out,HDE.out,if_neg hjp,if_neg (by have:=HJ.out;omega),HDS.out]);have HTL:=Ja (fun (V:World)=>Tryz.strings_TrimLeft_one SX 48 (by decide) V);obtain ⟨SY,hSY⟩:∃ S:ByteArray,⟨(Lib.trimLeftB SX.data.toList 48).toArray⟩=S:=⟨_,rfl⟩;rw [hSY] at HTL;have HSY:=Ja hSY;by_cases he:Lib.trimLeftB SX.data.toList 48=[]
         · have hSe:SY=⟨#[]⟩:=by rw [←hSY,he]
           have HNZ:=Ja (show nzL SX.data.toList=[48] by unfold nzL;rw [if_pos he]);clear hSY he HSY;subst hSe;go_wp2_with (go_at_call 200;refine (HTL.out _).mono ?_;clear HTL;rintro e w2 ⟨rfl,rfl⟩)
           refine bodyPost_ret (v:=.tuple #[.string ⟨#[48]⟩,.int .i64 (p:Int)]) (by simp [results,Tryz.results182,go_sem]) rfl ⟨HGN.out _,fun e q h5=>?_,fun ds q k h5=>?_⟩
           · rw [HN.out] at h5;cases h5
           · rw [HN.out] at h5;cases h5;exact ⟨by rw [HNZ.out],HRN.out _⟩
         · have hSe:SY.toList.isEmpty=false:=by
            rw [←hSY,Jcr];simpa using he
           have HNZ:=Ja (show (⟨(nzL SX.data.toList).toArray⟩:ByteArray)=SY by unfold nzL;rw [if_neg he];exact hSY);clear hSY he;go_wp2_with (go_at_call 200;refine (HTL.out _).mono ?_;clear HTL;rintro e w2 ⟨rfl,rfl⟩)
           refine bodyPost_ret (v:=.tuple #[.string SY,.int .i64 (p:Int)]) (by simp [results,Tryz.results182,go_sem]) rfl ⟨HGN.out _,fun e q h5=>?_,fun ds q k h5=>?_⟩
           · rw [HN.out] at h5;cases h5
           · rw [HN.out] at h5;cases h5;exact ⟨by rw [HNZ.out],HRN.out _⟩
   · have HDE:=Ja (show dgE (Je s) p=j by rw [HJ.out];exact HR.out.2.2.choose_spec.dg (fun hl=>absurd hl (by rw [Jm];have:=HJ.out;omega)));have hd':decide (j<s.size)=false:=decide_eq_false (by omega);go_wp2_with fail
     go_quiet (fail)
     have HRF:=Ja (HR.out.1.drewN nq);have HG:=Ja (show w.grownBy (wr.drewN nq) (some R) from Jg HR.out.2.1 (J6 _ _ _));have HNA:=Ja HR.out.2.2;have hd0:d≠0:=fun e=>by
      have h5:=HDE.out;have h6:=HJ.out;rw [e,Nat.add_zero] at h6;have h7:=HDG0.out;have h8:=Jfh (f:=isD) (l:=Je s) (i:=p);rw [show YM isD (Je s) p=j from h5] at h8;rw [←h6] at h7;by_cases h9:j<s.size
      · have:=h8 (by rw [Jm];exact h9);rw [Jcd h9] at h7;exact absurd (this.symm.trans h7) (by decide)
      · rw [Jea (by omega)] at h7;cases h7
     have hpj:(p:Int)≤(j:Int):=by have:=HJ.out;omega
     have hpj2:p≤j:=by have:=HJ.out;omega
     obtain ⟨SX,hSX⟩:∃ S,s.extract p j=S:=⟨_,rfl⟩;have hsz:SX.size=d:=by rw [←hSX,ByteArray.size_extract];have:=HJ.out;omega
     have HSX:=Ja hSX;have c0':=HRF.out.c0;have c1':=HRF.out.c1;go_wp2_with fail
     go_quiet (fail)
     have HGN:=Ja (show ∀ N,w.grownBy (wr.drewN N) (some R) from fun N=>Jg HR.out.2.1 (J6 _ _ _));have HRN:=Ja (show ∀ N,RcB (wr.drewN N) R s (j:Int) from fun N=>HR.out.1.drewN N);clear hSX c0' c1' c0 c1;have hjp:¬ j=p:=by have:=HJ.out;omega
     have HDS:=Ja (show SX.data.toList=((Je s).drop p).take (j - p) by rw [←HSX.out,HJ.out,Jdv,show p+d - p=d from by omega]);by_cases hd12:12<d
     · have hd12':(12:Int)<(d:Int):=by omega
       have HN:=Ja (show YO (Je s) I=.bad 3 p by unfold YO;rw [HP.out,HDE.out,if_neg hjp,if_pos (by have:=HJ.out;omega)]);go_wp2_with (go_at_call 123;refine (HF.out _ _ _).mono ?_;clear HF;rintro e w2 ⟨rfl,rfl⟩)
       refine ⟨rfl,HGN.out _,fun e q he=>?_,fun ds q k he=>?_⟩
       · rw [HN.out] at he;cases he;rfl
       · rw [HN.out] at he;cases he
     · have hd12':¬ (12:Int)<(d:Int):=by omega
       have HN:=Ja (show YO (Je s) I=.ok (SX.data.toList,p) j by unfold YO;rw [HP.out,HDE.out,if_neg hjp,if_neg (by have:=HJ.out;omega),HDS.out]);have HTL:=Ja (fun (V:World)=>Tryz.strings_TrimLeft_one SX 48 (by decide) V);obtain ⟨SY,hSY⟩:∃ S:ByteArray,⟨(Lib.trimLeftB SX.data.toList 48).toArray⟩=S:=⟨_,rfl⟩;rw [hSY] at HTL;have HSY:=Ja hSY;by_cases he:Lib.trimLeftB SX.data.toList 48=[]
       · have hSe:SY=⟨#[]⟩:=by rw [←hSY,he]
         have HNZ:=Ja (show nzL SX.data.toList=[48] by unfold nzL;rw [if_pos he]);clear hSY he HSY;subst hSe;go_wp2_with (go_at_call 200;refine (HTL.out _).mono ?_;clear HTL;rintro e w2 ⟨rfl,rfl⟩)
         refine bodyPost_ret (v:=.tuple #[.string ⟨#[48]⟩,.int .i64 (p:Int)]) (by simp [results,Tryz.results182,go_sem]) rfl ⟨HGN.out _,fun e q h5=>?_,fun ds q k h5=>?_⟩
         · rw [HN.out] at h5;cases h5
         · rw [HN.out] at h5;cases h5;exact ⟨by rw [HNZ.out],HRN.out _⟩
       · have hSe:SY.toList.isEmpty=false:=by
          rw [←hSY,Jcr];simpa using he
         have HNZ:=Ja (show (⟨(nzL SX.data.toList).toArray⟩:ByteArray)=SY by unfold nzL;rw [if_neg he];exact hSY);clear hSY he;go_wp2_with (go_at_call 200;refine (HTL.out _).mono ?_;clear HTL;rintro e w2 ⟨rfl,rfl⟩)
         refine bodyPost_ret (v:=.tuple #[.string SY,.int .i64 (p:Int)]) (by simp [results,Tryz.results182,go_sem]) rfl ⟨HGN.out _,fun e q h5=>?_,fun ds q k h5=>?_⟩
         · rw [HN.out] at h5;cases h5
         · rw [HN.out] at h5;cases h5;exact ⟨by rw [HNZ.out],HRN.out _⟩
theorem Jkg (c:UInt8) (t:List UInt8):num (c::t)=num t+10 ^ t.length*(c.toNat - 48):=by
 have h:=Xh [c] t;rw [List.singleton_append] at h;rw [h];have e:num [c]=c.toNat - 48:=by simp [num,dgs,val]
 rw [e]
theorem Jp8 (ds:List UInt8):num (ds.dropWhile (· == 48))=num ds:=by
 induction ds with
 | nil=>rfl
 | cons c t ih=>
  by_cases h:c=48
  · subst h;rw [List.dropWhile_cons_of_pos (by simp),ih,Jkg];simp
  · rw [List.dropWhile_cons_of_neg (by simpa using h)]
theorem Jp9 {ds:List UInt8} (h:ds.all isD=true):(ds.dropWhile (· == 48)).all isD=true:=by
 rw [List.all_eq_true] at h ⊢;intro c hc;exact h c ((List.dropWhile_sublist _).subset hc)
theorem Xd {ds:List UInt8} (h:ds.all isD=true):num (nzL ds)=num ds∧(nzL ds).all isD=true∧nzL ds≠[]∧(1<(nzL ds).length→10≤num ds)∧(nzL ds).length≤ds.length+1:=by
 unfold nzL Lib.trimLeftB;have h1:=Jp8 ds;have h2:=Jp9 h;have h3:=(List.dropWhile_sublist (l:=ds) (· == 48)).length_le;split
 · rename_i he;rw [he] at h1;refine ⟨?_,by decide,by simp,by simp,by simp⟩;rw [←h1];decide
 · rename_i he;refine ⟨h1,h2,he,fun hl=>?_,by omega⟩;cases hd:ds.dropWhile (· == 48) with
   | nil=>exact absurd hd he
   | cons c t=>
    rw [hd] at h1 h2 hl;have hc:c≠48:=by
     intro e;have:=List.head?_dropWhile_not (p:=fun x:UInt8=>x == 48) (l:=ds);rw [hd] at this;simp [e] at this
    have hb:=Yv (List.all_eq_true.1 h2 c (List.mem_cons_self ..));have hc2:c.toNat≠48:=fun e=>hc (UInt8.toNat_inj.1 e);rw [←h1,Jkg];have h5:10 ^ 1≤10 ^ t.length:=Nat.pow_le_pow_right (by omega) (by simp at hl;omega);have h6:10 ^ t.length*1≤10 ^ t.length*(c.toNat - 48):=Nat.mul_le_mul_left _ (by omega);omega
def Jqa (w:World) (R:Nat) (s:ByteArray) (I:Nat) (r:Ending) (w':World):Prop:=
 w.grownBy w' (some R)∧(∀ e q,Jaa (Je s) I=.bad e q→r=.panicked [{ v:=Xw e q,recovered:=false }])∧(∀ n k,Jaa (Je s) I=.ok n k→r=.returned (.int .i64 (n:Int))∧RcB w' R s (k:Int))
theorem Jdw (R:Nat) (s:ByteArray) (I:Nat) (w:World) (h:RcB w R s I) (hI:I≤s.size) (hs:s.size≤300) :
 Calls Tryz.prog 156 #[.pointer (some ⟨R,0,none⟩)] w fun r w'=>Jqa w R s I r w':=by
 obtain ⟨b,hb⟩:∃ b,b=YJ (Je s) (skB (Je s) I) 94:=⟨_,rfl⟩;have HX:=Ja (YL R s I 94 w h hI hs b hb);obtain ⟨j,hj⟩:∃ j,skB (Je s) I=j:=⟨_,rfl⟩;rw [hj] at HX hb;have HF:=Ja (fun (e q:Int) (V:World)=>Jdu (.pointer (some ⟨R,0,none⟩)) e q V);have HJ:=Ja hj;clear h hj;cases b with
 | false=>
  have HN:=Ja (show Jaa (Je s) I=.ok 1 j by unfold Jaa;rw [HJ.out,←hb];simp);clear hb;go_enter Tryz.func156,Tryz.ntmps156
  go_wp2_with (go_at_call 120;refine HX.out.mono ?_;clear HX;rintro e w1 ⟨rfl,hr1,hg1⟩;have HR1:=Ja hr1;have HG1:=Ja hg1;clear hr1 hg1)
  go_ret;refine ⟨HG1.out,fun e q he=>?_,fun n k he=>?_⟩
  · rw [HN.out] at he;cases he
  · rw [HN.out] at he;cases he;exact ⟨rfl,HR1.out⟩
 | true=>
  have hj1:j+1≤s.size:=by have:=Yk hb.symm;rw [Jm] at this;omega
  have HNU:=Ja (fun (V:World) (hh:RcB V R s ((j+1:Nat):Int))=>Jeb R s (j+1) V hh hj1 hs);have HPW:=Ja (show Jaa (Je s) I=(match YO (Je s) (j+1) with | .bad e p=>.bad e p | .ok (ds,p) k=>if 8<num ds then .bad 3 p else .ok (num ds) k) by
   unfold Jaa;rw [HJ.out,if_pos hb.symm];rcases YO (Je s) (j+1) with ⟨e,p⟩ | ⟨⟨ds,p⟩,k⟩ <;> rfl)
  clear hb;cases hn:YO (Je s) (j+1) with
  | bad e0 q0=>
   rw [hn] at HPW;have HNN:=Ja hn;clear hn;go_enter Tryz.func156,Tryz.ntmps156
   go_wp2_with (first
    | (go_at_call 120;refine HX.out.mono ?_;clear HX;rintro e w1 ⟨rfl,hr1,hg1⟩;have HR1:=Ja hr1;have HG1:=Ja hg1;clear hr1 hg1)
    | (go_at_call 182;refine (HNU.out _ HR1.out).mono ?_;clear HNU;rintro e w2 ⟨hg2,hb2,_⟩;obtain rfl:=hb2 _ _ HNN.out;have HG2:=Ja (Jg HG1.out hg2);clear hg2 hb2))
   refine ⟨rfl,HG2.out,fun e q he=>?_,fun n k he=>?_⟩
   · rw [HPW.out] at he;cases he;rfl
   · rw [HPW.out] at he;cases he
  | ok a0 k0=>
   obtain ⟨ds,p0⟩:=a0;rw [hn] at HPW;have HNN:=Ja hn;obtain ⟨g1,g2,g3,g4,g5⟩:=Xd (Ja5 (by rw [Jm];omega) hn).2.2.2.2.2.2.2.2;clear hn;cases hz:nzL ds with
   | nil=>exact absurd hz g3
   | cons c0 t0=>
    rw [hz] at g1 g2 g4 g5;have hcb:=Yv (List.all_eq_true.1 g2 c0 (List.mem_cons_self ..));have hlen:=(Ja5 (by rw [Jm];omega) HNN.out).2.2.2.2.2.2.2.1;have hlen2:=(Ja5 (by rw [Jm];omega) HNN.out).2.2.2.2.2.1;cases t0 with
    | cons c1 t1=>
     have h8:8<num ds:=by have:=g4 (by simp);omega
     obtain ⟨SD,hSD⟩:∃ S:ByteArray,⟨(c0::c1::t1).toArray⟩=S:=⟨_,rfl⟩;have HZ:=Ja (show (⟨(nzL ds).toArray⟩:ByteArray)=SD by rw [hz];exact hSD);have hsz:1<SD.size:=by rw [←hSD];show 1<(c0::c1::t1).toArray.size;simp
     have hsz2:SD.size≤13:=by rw [←hSD];show (c0::c1::t1).toArray.size≤13;rw [List.size_toArray];omega
     have hsz':(1:Int)<(SD.size:Int):=by omega
     have HH8:=Ja h8;clear hSD hz g1 g2 g3 g4 g5 h8 hlen hlen2;go_enter Tryz.func156,Tryz.ntmps156
     go_wp2_with (first
      | (go_at_call 120;refine HX.out.mono ?_;clear HX;rintro e w1 ⟨rfl,hr1,hg1⟩;have HR1:=Ja hr1;have HG1:=Ja hg1;clear hr1 hg1)
      | (go_at_call 182;refine (HNU.out _ HR1.out).mono ?_;clear HNU;rintro e w2 ⟨hg2,_,hb2⟩;obtain ⟨rfl,hr2⟩:=hb2 _ _ _ HNN.out;rw [HZ.out];have HR2:=Ja hr2;have HG2:=Ja (Jg HG1.out hg2);clear hg2 hb2 hr2)
      | (go_at_call 123;refine (HF.out _ _ _).mono ?_;clear HF;rintro e w3 ⟨rfl,rfl⟩))
     refine ⟨rfl,HG2.out,fun e q he=>?_,fun n k he=>?_⟩
     · rw [HPW.out,if_pos HH8.out] at he;cases he;rfl
     · rw [HPW.out,if_pos HH8.out] at he;cases he
    | nil=>
     have hnum:num ds=c0.toNat - 48:=by rw [←g1];simp [num,dgs,val]
     obtain ⟨SD,hSD⟩:∃ S:ByteArray,(⟨#[c0]⟩:ByteArray)=S:=⟨_,rfl⟩;have HZ:=Ja (show (⟨(nzL ds).toArray⟩:ByteArray)=SD by rw [hz];exact hSD);have hsz:SD.size=1:=by rw [←hSD];rfl
     have hix:∀ h:0<SD.size,SD[0]'h=c0:=by subst hSD;intro _;rfl
     have hmod:((c0.toNat:Int) - 48) % 256=(c0.toNat:Int) - 48:=by omega
     clear hSD;have HNM:=Ja hnum;clear hz g1 g2 g3 g4 g5 hlen hlen2 hnum;by_cases h8:8<c0.toNat - 48
     · have h8':(8:Int)<(c0.toNat:Int) - 48:=by omega
       go_enter Tryz.func156,Tryz.ntmps156
       go_wp2_with (first
        | (go_at_call 120;refine HX.out.mono ?_;clear HX;rintro e w1 ⟨rfl,hr1,hg1⟩;have HR1:=Ja hr1;have HG1:=Ja hg1;clear hr1 hg1)
        | (go_at_call 182;refine (HNU.out _ HR1.out).mono ?_;clear HNU;rintro e w2 ⟨hg2,_,hb2⟩;obtain ⟨rfl,hr2⟩:=hb2 _ _ _ HNN.out;rw [HZ.out];have HR2:=Ja hr2;have HG2:=Ja (Jg HG1.out hg2);clear hg2 hb2 hr2)
        | (go_at_call 123;refine (HF.out _ _ _).mono ?_;clear HF;rintro e w3 ⟨rfl,rfl⟩))
       refine ⟨rfl,HG2.out,fun e q he=>?_,fun n k he=>?_⟩
       · rw [HPW.out,if_pos (by rw [HNM.out];omega)] at he;cases he;rfl
       · rw [HPW.out,if_pos (by rw [HNM.out];omega)] at he;cases he
     · have h8':¬ (8:Int)<(c0.toNat:Int) - 48:=by omega
       go_enter Tryz.func156,Tryz.ntmps156
       go_wp2_with (first
        | (go_at_call 120;refine HX.out.mono ?_;clear HX;rintro e w1 ⟨rfl,hr1,hg1⟩;have HR1:=Ja hr1;have HG1:=Ja hg1;clear hr1 hg1)
        | (go_at_call 182;refine (HNU.out _ HR1.out).mono ?_;clear HNU;rintro e w2 ⟨hg2,_,hb2⟩;obtain ⟨rfl,hr2⟩:=hb2 _ _ _ HNN.out;rw [HZ.out];have HR2:=Ja hr2;have HG2:=Ja (Jg HG1.out hg2);clear hg2 hb2 hr2)
        | (go_at_call 123;refine (HF.out _ _ _).mono ?_;clear HF;rintro e w3 ⟨rfl,rfl⟩))
       go_ret;refine ⟨HG2.out,fun e q he=>?_,fun n k he=>?_⟩
       · rw [HPW.out,if_neg (by rw [HNM.out];omega)] at he;cases he
       · rw [HPW.out,if_neg (by rw [HNM.out];omega)] at he;cases he;refine ⟨?_,HR2.out⟩;rw [HNM.out];show Ending.returned (.int .i64 ((c0.toNat:Int) - 48))=_;rw [show ((c0.toNat:Int) - 48)=((c0.toNat - 48:Nat):Int) from by omega]
def slF (ps:List Rat) (i:Nat):Rat:=cf ps (i+1)*(((i+1:Nat):Int):Rat)
theorem Jr3 {K:Nat} (h:K≤1099511627776):Sq (((K:Nat):Int):Rat):=
 Sq.of (k:=1) ⟨by unfold Sm;rw [Rat.num_intCast];unfold B64;simp;omega,by unfold Sm;rw [Rat.den_intCast];unfold B64;decide⟩ (by omega)
def XtB (w V:World) (o:Value) (C:Nat) (qs:List Rat) (c:Rat):Prop:=
 Jp3 false w V o qs∧w.heap.size≤C∧(∀ g l c,o=.slice (some ⟨g,0,none⟩) l c→g≠C)∧∃ a l c' s b k d t,Js V C 49 (.slice a l c') (.bool s) (.slice b k d) (.bool t)∧Yi V (.agg #[.slice a l c',.bool s,.slice b k d,.bool t]) c
theorem XtB.below {w V V':World} {o:Value} {C:Nat} {qs:List Rat} {c:Rat} (h:XtB w V o C qs c) (hb:Below V.heap.size V V'):XtB w V' o C qs c:=by
 obtain ⟨h1,h2,h3,a,l,c',s,b,k,d,t,h4,h5⟩:=h;exact ⟨h1.below hb,h2,h3,a,l,c',s,b,k,d,t,h4.below hb,h5.below hb⟩
theorem Jd8.put4 {r:Bool} {base:Nat} {V:World} {o:Value} {qs:List Rat} (h:Jd8 r base V o qs) {C:Nat} {ty:TypeId} {x y z u:Value} (q:Js V C ty x y z u) (n0:Jw x=true) (n1:Jw y=true) (n2:Jw z=true) (n3:Jw u=true) (hne:∀ g l c,o=.slice (some ⟨g,0,none⟩) l c→g≠C) (x' y' z' u':Value):Jd8 r base (put4 V C x' y' z' u') o qs:=by
 rcases h with h | ⟨g,cap,cur,h1,h2,h3,h4,h5,h6,h7,h8⟩
 · exact Or.inl h
 · have hg:=hne g _ _ h1;refine Or.inr ⟨g,cap,cur,h1,h2,?_,h4,h5,h6,h7,h8.keep (fun _ _ _ hr=>Row.put4 hr q n0 n1 n2 n3 _ _ _ _)⟩;have g0:=(Below.heap_setCell V ⟨C,0,none⟩ x' g hg).trans h3;have g1:=(Below.heap_setCell _ ⟨C,1,none⟩ y' g hg).trans g0;have g2:=(Below.heap_setCell _ ⟨C,2,none⟩ z' g hg).trans g1;exact (Below.heap_setCell _ ⟨C,3,none⟩ u' g hg).trans g2
theorem XtB.put {w V:World} {o:Value} {C:Nat} {qs:List Rat} {c c2:Rat} (h:XtB w V o C qs c) {a:Option Addr} {l c':Nat} {s:Bool} {b:Option Addr} {k d:Nat} {t:Bool} (hv:Yi V (.agg #[.slice a l c',.bool s,.slice b k d,.bool t]) c2) :
 XtB w (put4 V C (.slice a l c') (.bool s) (.slice b k d) (.bool t)) o C qs c2:=by
 obtain ⟨h1,h2,h3,a0,l0,c0,s0,b0,k0,d0,t0,h4,h5⟩:=h;exact ⟨⟨h1.1.put4 h4 rfl rfl rfl rfl h3 _ _ _ _,Jt h1.2 h2 _ _ _ _⟩,h2,h3,_,_,_,_,_,_,_,_,h4.put _ _ _ _,hv.put4 h4 rfl rfl rfl rfl _ _ _ _⟩
theorem XtB.new {w V:World} {o:Value} {qs:List Rat} {c:Rat} (h:Jp3 false w V o qs) {a:Option Addr} {l c':Nat} {s:Bool} {b:Option Addr} {k d:Nat} {t:Bool} (hv:Yi V (.agg #[.slice a l c',.bool s,.slice b k d,.bool t]) c) :
 XtB w (V.alloc (.cells #[.slice a l c',.bool s,.slice b k d,.bool t] 49)) o V.heap.size qs c:=by
 have ha:Below V.heap.size V (V.alloc (.cells #[.slice a l c',.bool s,.slice b k d,.bool t] 49)):=(Below.refl _ V).alloc (Nat.le_refl _) _;refine ⟨h.below ha,h.2.size,fun g l c e=>?_,_,_,_,_,_,_,_,_,Js.new _ _ _ _ _ _,hv.below ha⟩;rcases h.1 with ⟨h1,_⟩ | ⟨g',cap,cur,h1,h2,h3,_⟩
 · rw [h1] at e;cases e
 · rw [h1] at e;cases e;have:=(Array.getElem?_eq_some_iff.1 h3).1;omega
theorem Jkh (p q:List Rat) {k:Nat} (h:p.length+q.length≤k):∀ n,conv p q n k=0:=by
 intro n;induction n with
 | zero=>rfl
 | succ n ih=>
  show conv p q n k+(if n≤k then cf p n*cf q (k - n) else 0)=0
  rw [ih,Rat.zero_add];split
  · by_cases hn:n<p.length
    · rw [J7 (p:=q) (by omega),Rat.mul_zero]
    · rw [J7 (p:=p) (by omega),Rat.zero_mul]
  · rfl
end Go.Proofs.YtcahejkcdcjjgaaGreatDoor
