import Derived.Test.YteldjhhjnchdeaaGreatDoorK39
import Derived.Test.YteldjhhjnchdeaaGreatDoorK09
import Derived.Test.YteldjhhjnchdeaaGreatDoorK38
import Derived.Test.YteldjhhjnchdeaaGreatDoorK32
import Derived.Test.YteldjhhjnchdeaaGreatDoorK25
import Derived.Test.YteldjhhjnchdeaaGreatDoorK34
import Derived.Test.YteldjhhjnchdeaaGreatDoorK28
import Derived.Test.YteldjhhjnchdeaaGreatDoorK20
import Derived.Test.YteldjhhjnchdeaaGreatDoorK37
import Derived.Test.YteldjhhjnchdeaaGreatDoorK27
namespace Go.Proofs.YteldjhhjnchdeaaGreatDoor
open Go.RowKit Go.Shelf

attribute [local go_sem] Oper.semAt_some

/-- How a term is joined. -/
def fnJ (b : Bool) : Value := if b then .func (.func 51) #[] #[] else .func (.func 87) #[] #[]

set_option maxRecDepth 100000 in
set_option maxHeartbeats 8000000 in
theorem dpoly_c (R : Nat) (s : ByteArray) (w : World) (h : RcB w R s 0) (hs : s.size ≤ 300) :
    Calls Tryz.prog 94 #[.pointer (some ⟨R, 0, none⟩)] w fun r w' => PolyC w R s r w' := by
  have hmx : Tryz.prog.follows .mixedOrders = true := by kernel_rfl
  have hmk : (Instr.makeSlice 23 (.int .i64 9) (.int .i64 9)).run Tryz.prog (w.alloc (.cells #[.slice none 0 0] 25)) = .ok (.slice (some ⟨(w.alloc (.cells #[.slice none 0 0] 25)).heap.size, 0, none⟩) 9 9) ((w.alloc (.cells #[.slice none 0 0] 25)).alloc (.cells (zeroQ 9) 65)) := make_rats 9 (by omega) _
  have hP0 := PoB.new h 9
  obtain ⟨W0, hW0⟩ : ∃ W0, (w.alloc (.cells #[.slice none 0 0] 25)).alloc (.cells (zeroQ 9) 65) = W0 := ⟨_, rfl⟩
  rw [hW0, World.size_alloc] at hmk
  rw [hW0] at hP0
  obtain ⟨Q, hQ⟩ : ∃ Q, w.heap.size = Q := ⟨_, rfl⟩
  obtain ⟨b, hb⟩ : ∃ b, w.heap.size + 1 = b := ⟨_, rfl⟩
  rw [hb] at hmk
  rw [hb, hQ] at hP0
  have HQ := hidD hQ
  have HP0 := hidD hP0
  obtain ⟨b0, hb0⟩ : ∃ x, x = isAt (wlst s) (skB (wlst s) 0) 45 := ⟨_, rfl⟩
  have HFD := hidD (found_c R s 0 45 W0 hP0.1 (by omega) hs b0 hb0)
  have HB0 := hidD hb0
  have HF := hidD (fun (e q : Int) (V : World) => dfail_c (.pointer (some ⟨R, 0, none⟩)) e q V)
  clear h hW0 hQ hb hP0 hb0
  go_enter Tryz.func94, Tryz.ntmps94
  go_upto_region 3 with fail
  rw [HQ.out]
  clear hmk
  cases b0 with
  | true =>
    go_wp2_with (go_at_call 124; refine HFD.out.mono ?_; clear HFD; rintro e w1 ⟨rfl, hr1, hg1⟩; have HP1 := hidD (HP0.out.rc hr1 hg1); clear hr1 hg1)
    go_loopw [4, 5, 6] (fun jv _ _ wr => ∃ (j : Bool) (I f m : Nat) (S : List Rat), jv = fnJ j ∧ I ≤ s.size ∧ Hid (PoB w wr R Q b s (I : Int) S) ∧ Hid (SumsAt S m) ∧ Hid (m ≤ I ∧ s.size - I < f ∧ sumS (wlst s) f j I S = totS (wlst s))) (fun _ _ _ wr => s.size - rdI wr R)
    case atStart =>
      have hsk : skB (wlst s) 0 ≤ s.size := by rw [← wlst_len]; exact skB_le (by omega)
      refine ⟨true, skB (wlst s) 0 + (if true = true then 1 else 0), s.size + 1, 0, List.replicate 9 0, rfl, ?_, HP1, hidD SumsAt.start, hidD ⟨by omega, by omega, ?_⟩⟩
      · first
          | simpa using hsk
          | (have h2 := isAt_lt HB0.out.symm
             rw [wlst_len] at h2
             simp
             omega)
      · unfold totS
        rw [← HB0.out, wlst_len]
        rfl
    case round =>
      clear HP1 HB0 HP0
      obtain ⟨j, I, f, m, S, rfl, hI, HP, HS, HT⟩ := hrel
      have HTM := hidD (dterm_c R s I wr HP.out.1 hI hs)
      obtain ⟨f, rfl⟩ : ∃ f', f = f' + 1 := ⟨f - 1, by have := HT.out.2.1; omega⟩
      cases ht : termS (wlst s) I with
      | bad e5 q5 =>
        have HTB := hidD ht
        have HTT := hidD (show totS (wlst s) = .bad e5 q5 by rw [← HT.out.2.2]; exact sumS_bad ht)
        clear ht
        go_wp2_with (go_at_call 125; refine HTM.out.mono ?_; clear HTM; rintro e w1 ⟨hg1, hb1, _⟩; obtain rfl := hb1 _ _ HTB.out; have HG1 := hidD (grown_trans HP.out.2.2.2.1 hg1); clear hg1 hb1)
        refine ⟨rfl, HG1.out, fun e q he => ?_, fun S' k he => ?_⟩
        · rw [HTT.out] at he; cases he; rfl
        · rw [HTT.out] at he; cases he
      | ok a5 k5 =>
        obtain ⟨c, n⟩ := a5
        have hlt := termS_lt (by rw [wlst_len]; exact hI) ht
        rw [wlst_len] at hlt
        have HLT := hidD hlt
        have HFR := hidD (termS_frac (by rw [wlst_len]; exact hI) ht)
        have HSM := hidD (sumS_ok (f := f) (b := j) (S := S) ht)
        have HTO := hidD ht
        have hn9 : n < 9 := by omega
        have hn9' : (n : Int) < 9 := by omega
        have HSL := hidD (show n < S.length by rw [HS.out.1]; omega)
        have HQS := hidD (show Sq (cf S n) from Sq.of (HS.out.2 n) (by have := HT.out.1; omega))
        have HQC := hidD (show Sq c from Sq.of HFR.out.sm (by omega))
        have HS1 := hidD (HS.out.next HFR.out hlt.2.2 j)
        obtain ⟨S', hS'⟩ : ∃ S', S.set n (if j then cf S n - c else cf S n + c) = S' := ⟨_, rfl⟩
        rw [hS'] at HS1 HSM
        have HSE := hidD hS'
        have HTS := hidD (HSM.out.symm.trans HT.out.2.2)
        have hk5 : k5 ≤ s.size := hlt.2.1
        obtain ⟨J, hJ⟩ : ∃ J, skB (wlst s) k5 = J := ⟨_, rfl⟩
        rw [hJ] at HTS
        have HJ := hidD hJ
        have hJs : J ≤ s.size := by rw [← hJ, ← wlst_len]; exact skB_le (by rw [wlst_len]; exact hk5)
        have HJJ := hidD (show skB (wlst s) J = J by rw [← hJ]; exact skB_idem _ _)
        have HJ5 := hidD (show k5 ≤ J by rw [← hJ]; exact skB_ge _ _)
        clear ht hlt hS' hJ HSM
        go_upto_region 6 with (go_at_call 125; refine HTM.out.mono ?_; clear HTM; rintro e w1 ⟨hg1, _, hb1⟩; obtain ⟨u1, rfl, hu1, hr1⟩ := hb1 _ _ _ HTO.out; obtain ⟨s9, a9, l9, c9, t9, b9, k9, d9, rfl⟩ := hu1.form; have HU := hidD hu1; have HP1 := hidD (HP.out.rc hr1 hg1); clear hg1 hb1 hu1 hr1)
        have hPX := PoX.new HP1.out HU.out
        obtain ⟨W1, hW1⟩ : ∃ W, w1.alloc (.cells #[.bool s9, .slice a9 l9 c9, .bool t9, .slice b9 k9 d9] 65) = W := ⟨_, rfl⟩
        obtain ⟨C, hC⟩ : ∃ C, w1.heap.size = C := ⟨_, rfl⟩
        rw [hW1, hC] at hPX
        rw [hW1, hC]
        have HRI := hidD (rcI_of HP.out.1)
        clear hW1 hC HU HP1 HP
        have ST0 := hPX.below ((Below.refl _ W1).drew)
        clear hPX
        go_cut [] (fun w' => Hid (PoB w w' R Q b s (k5 : Int) S'))
        case first =>
          cases j with
          | true =>
            have HSF := hidD (show S.set n (cf S n - c) = S' from HSE.out)
            unfold fnJ
            simp only [if_true]
            refine wp_region_tab hmx [[], [], [], [], [], [3, 4], [5], [], [2, 6, 7], [0, 1, 0, 1, 2, 3, 4, 5, 6, 7, 8], [9, 8, 8, 0, 1, 2, 3, 4, 5, 6, 7, 8]] (by kernel_rfl) (by decide)
              (fun D act V => ∃ (t15x t16x t17x t18x t19x t20x t21x t22x t23x t24x : Value), act = { tmps := #[Value.pointer (some { block := R, off := 0 }), undef, Value.pointer (some { block := Q, off := 0 }), Value.slice (some { block := b, off := 0 }) 9 9, Value.func (Fn.func 51) #[] #[], Value.pointer (some { block := C, off := 0 }), Value.int IntKind.i64 ↑n, Value.slice (some { block := b, off := 0 }) 9 9, Value.pointer (some { block := R, off := 0 }), Value.bool true, Value.tuple #[Value.agg #[Value.bool s9, Value.slice a9 l9 c9, Value.bool t9, Value.slice b9 k9 d9], Value.int IntKind.i64 ↑n], Value.pointer (some { block := R, off := 0 }), Value.tuple #[Value.agg #[Value.bool s9, Value.slice a9 l9 c9, Value.bool t9, Value.slice b9 k9 d9], Value.int IntKind.i64 ↑n], Value.agg #[Value.bool s9, Value.slice a9 l9 c9, Value.bool t9, Value.slice b9 k9 d9], Value.int IntKind.i64 ↑n, t15x, t16x, t17x, t18x, t19x, t20x, t21x, t22x, t23x, t24x, u25, u26, u27, u28, u29, u30, u31, u32, u33, u34, u35, u36, u37, u38, u39, u40, u41], defers := [] } ∧ Hid ((D 0 = true → t15x = .slice (some ⟨b, 0, none⟩) 9 9) ∧ (D 1 = true → t16x = .int .i64 (n : Int)) ∧ (D 2 = true → t17x = .func (.func 51) #[] #[]) ∧ (D 3 = true → t18x = .slice (some ⟨b, 0, none⟩) 9 9) ∧ (D 4 = true → t19x = .int .i64 (n : Int)) ∧ (D 5 = true → t20x = .pointer (some ⟨b, n * 4, none⟩)) ∧ (D 6 = true → D 10 = false → IsRat V t21x (cf S n)) ∧ (D 7 = true → D 10 = false → IsRat V t22x c) ∧ (D 8 = true → D 10 = false → IsRat V t23x (cf S n - c)) ∧ (D 9 = true → t24x = .pointer (some ⟨b, n * 4, none⟩))) ∧ Hid ((D 10 = false → PoX w V R Q b C s (k5 : Int) S c) ∧ (D 10 = true → PoB w V R Q b s (k5 : Int) (S.set n (cf S n - c)))))
              ⟨_, _, _, _, _, _, _, _, _, _, rfl, hidD ⟨by simp, by simp, by simp, by simp, by simp, by simp, by simp, by simp, by simp, by simp⟩, hidD ⟨fun _ => ST0, by simp⟩⟩ ?step1t ?fin1t
            case step1t =>
              rintro D act V i ds hcl hi hds hDi ⟨t15x, t16x, t17x, t18x, t19x, t20x, t21x, t22x, t23x, t24x, rfl, GG, SS0⟩
              have hi6 : i < 11 := (List.getElem?_eq_some_iff.1 hi).1
              obtain rfl | rfl | rfl | rfl | rfl | rfl | rfl | rfl | rfl | rfl | rfl : i = 0 ∨ i = 1 ∨ i = 2 ∨ i = 3 ∨ i = 4 ∨ i = 5 ∨ i = 6 ∨ i = 7 ∨ i = 8 ∨ i = 9 ∨ i = 10 := by omega
              all_goals
                simp only [List.getElem?_cons_zero, List.getElem?_cons_succ, Option.some.injEq] at hi
                subst hi
              · have hf0 : D 10 = false := by
                  cases h : D 10 with
                  | false => rfl
                  | true => rw [(hcl 10 _ rfl h 0 (by simp))] at hDi; cases hDi
                have hS0 := SS0.out.1 hf0
                clear hds
                refine wpOp_go rfl rfl (fun K hK => ?_)
                go_simp
                exact hK _ _ ⟨_, _, _, _, _, _, _, _, _, _, rfl, hidD ⟨fun _ => rfl, GG.out.2.1, GG.out.2.2.1, GG.out.2.2.2.1, GG.out.2.2.2.2.1, GG.out.2.2.2.2.2.1, fun h h2 => (GG.out.2.2.2.2.2.2.1 h (by simpa using h2)), fun h h2 => (GG.out.2.2.2.2.2.2.2.1 h (by simpa using h2)), fun h h2 => (GG.out.2.2.2.2.2.2.2.2.1 h (by simpa using h2)), GG.out.2.2.2.2.2.2.2.2.2⟩, hidD ⟨fun h => (SS0.out.1 (by simpa using h)), fun h => (SS0.out.2 (by simpa using h))⟩⟩
              · have hf0 : D 10 = false := by
                  cases h : D 10 with
                  | false => rfl
                  | true => rw [(hcl 10 _ rfl h 1 (by simp))] at hDi; cases hDi
                have hS0 := SS0.out.1 hf0
                clear hds
                refine wpOp_go rfl rfl (fun K hK => ?_)
                go_simp
                exact hK _ _ ⟨_, _, _, _, _, _, _, _, _, _, rfl, hidD ⟨GG.out.1, fun _ => rfl, GG.out.2.2.1, GG.out.2.2.2.1, GG.out.2.2.2.2.1, GG.out.2.2.2.2.2.1, fun h h2 => (GG.out.2.2.2.2.2.2.1 h (by simpa using h2)), fun h h2 => (GG.out.2.2.2.2.2.2.2.1 h (by simpa using h2)), fun h h2 => (GG.out.2.2.2.2.2.2.2.2.1 h (by simpa using h2)), GG.out.2.2.2.2.2.2.2.2.2⟩, hidD ⟨fun h => (SS0.out.1 (by simpa using h)), fun h => (SS0.out.2 (by simpa using h))⟩⟩
              · have hf0 : D 10 = false := by
                  cases h : D 10 with
                  | false => rfl
                  | true => rw [(hcl 10 _ rfl h 2 (by simp))] at hDi; cases hDi
                have hS0 := SS0.out.1 hf0
                clear hds
                refine wpOp_go rfl rfl (fun K hK => ?_)
                go_simp
                exact hK _ _ ⟨_, _, _, _, _, _, _, _, _, _, rfl, hidD ⟨GG.out.1, GG.out.2.1, fun _ => rfl, GG.out.2.2.2.1, GG.out.2.2.2.2.1, GG.out.2.2.2.2.2.1, fun h h2 => (GG.out.2.2.2.2.2.2.1 h (by simpa using h2)), fun h h2 => (GG.out.2.2.2.2.2.2.2.1 h (by simpa using h2)), fun h h2 => (GG.out.2.2.2.2.2.2.2.2.1 h (by simpa using h2)), GG.out.2.2.2.2.2.2.2.2.2⟩, hidD ⟨fun h => (SS0.out.1 (by simpa using h)), fun h => (SS0.out.2 (by simpa using h))⟩⟩
              · have hf0 : D 10 = false := by
                  cases h : D 10 with
                  | false => rfl
                  | true => rw [(hcl 10 _ rfl h 3 (by simp))] at hDi; cases hDi
                have hS0 := SS0.out.1 hf0
                clear hds
                refine wpOp_go rfl rfl (fun K hK => ?_)
                go_simp
                exact hK _ _ ⟨_, _, _, _, _, _, _, _, _, _, rfl, hidD ⟨GG.out.1, GG.out.2.1, GG.out.2.2.1, fun _ => rfl, GG.out.2.2.2.2.1, GG.out.2.2.2.2.2.1, fun h h2 => (GG.out.2.2.2.2.2.2.1 h (by simpa using h2)), fun h h2 => (GG.out.2.2.2.2.2.2.2.1 h (by simpa using h2)), fun h h2 => (GG.out.2.2.2.2.2.2.2.2.1 h (by simpa using h2)), GG.out.2.2.2.2.2.2.2.2.2⟩, hidD ⟨fun h => (SS0.out.1 (by simpa using h)), fun h => (SS0.out.2 (by simpa using h))⟩⟩
              · have hf0 : D 10 = false := by
                  cases h : D 10 with
                  | false => rfl
                  | true => rw [(hcl 10 _ rfl h 4 (by simp))] at hDi; cases hDi
                have hS0 := SS0.out.1 hf0
                clear hds
                refine wpOp_go rfl rfl (fun K hK => ?_)
                go_simp
                exact hK _ _ ⟨_, _, _, _, _, _, _, _, _, _, rfl, hidD ⟨GG.out.1, GG.out.2.1, GG.out.2.2.1, GG.out.2.2.2.1, fun _ => rfl, GG.out.2.2.2.2.2.1, fun h h2 => (GG.out.2.2.2.2.2.2.1 h (by simpa using h2)), fun h h2 => (GG.out.2.2.2.2.2.2.2.1 h (by simpa using h2)), fun h h2 => (GG.out.2.2.2.2.2.2.2.2.1 h (by simpa using h2)), GG.out.2.2.2.2.2.2.2.2.2⟩, hidD ⟨fun h => (SS0.out.1 (by simpa using h)), fun h => (SS0.out.2 (by simpa using h))⟩⟩
              · have hf0 : D 10 = false := by
                  cases h : D 10 with
                  | false => rfl
                  | true => rw [(hcl 10 _ rfl h 5 (by simp))] at hDi; cases hDi
                have hS0 := SS0.out.1 hf0
                obtain rfl := GG.out.2.2.2.1 (hds 3 (by simp))
                obtain rfl := GG.out.2.2.2.2.1 (hds 4 (by simp))
                clear hds
                refine wpOp_go rfl rfl (fun K hK => ?_)
                go_simp
                exact hK _ _ ⟨_, _, _, _, _, _, _, _, _, _, rfl, hidD ⟨GG.out.1, GG.out.2.1, GG.out.2.2.1, fun _ => rfl, fun _ => rfl, fun _ => rfl, fun h h2 => (GG.out.2.2.2.2.2.2.1 h (by simpa using h2)), fun h h2 => (GG.out.2.2.2.2.2.2.2.1 h (by simpa using h2)), fun h h2 => (GG.out.2.2.2.2.2.2.2.2.1 h (by simpa using h2)), GG.out.2.2.2.2.2.2.2.2.2⟩, hidD ⟨fun h => (SS0.out.1 (by simpa using h)), fun h => (SS0.out.2 (by simpa using h))⟩⟩
              · have hf0 : D 10 = false := by
                  cases h : D 10 with
                  | false => rfl
                  | true => rw [(hcl 10 _ rfl h 6 (by simp))] at hDi; cases hDi
                have hS0 := SS0.out.1 hf0
                obtain rfl := GG.out.2.2.2.2.2.1 (hds 5 (by simp))
                obtain ⟨xa, xb, xc, xd, e0, e1, e2, e3, hr⟩ := hS0.1.2.2.1.at HSL.out
                clear hds
                refine wpOp_go rfl rfl (fun K hK => ?_)
                go_simp
                exact hK _ _ ⟨_, _, _, _, _, _, _, _, _, _, rfl, hidD ⟨GG.out.1, GG.out.2.1, GG.out.2.2.1, GG.out.2.2.2.1, GG.out.2.2.2.2.1, fun _ => rfl, fun _ _ => hr, fun h h2 => (GG.out.2.2.2.2.2.2.2.1 h (by simpa using h2)), fun h h2 => (GG.out.2.2.2.2.2.2.2.2.1 h (by simpa using h2)), GG.out.2.2.2.2.2.2.2.2.2⟩, hidD ⟨fun h => (SS0.out.1 (by simpa using h)), fun h => (SS0.out.2 (by simpa using h))⟩⟩
              · have hf0 : D 10 = false := by
                  cases h : D 10 with
                  | false => rfl
                  | true => rw [(hcl 10 _ rfl h 7 (by simp))] at hDi; cases hDi
                have hS0 := SS0.out.1 hf0
                obtain ⟨hB0, s8, a8, l8, c8, t8, b8, k8, d8, n8, r8⟩ := hS0
                have e0 := n8.c0
                have e1 := n8.c1
                have e2 := n8.c2
                have e3 := n8.c3
                clear hds
                refine wpOp_go rfl rfl (fun K hK => ?_)
                go_simp
                exact hK _ _ ⟨_, _, _, _, _, _, _, _, _, _, rfl, hidD ⟨GG.out.1, GG.out.2.1, GG.out.2.2.1, GG.out.2.2.2.1, GG.out.2.2.2.2.1, GG.out.2.2.2.2.2.1, fun h h2 => (GG.out.2.2.2.2.2.2.1 h (by simpa using h2)), fun _ _ => r8, fun h h2 => (GG.out.2.2.2.2.2.2.2.2.1 h (by simpa using h2)), GG.out.2.2.2.2.2.2.2.2.2⟩, hidD ⟨fun h => (SS0.out.1 (by simpa using h)), fun h => (SS0.out.2 (by simpa using h))⟩⟩
              · have hf0 : D 10 = false := by
                  cases h : D 10 with
                  | false => rfl
                  | true => rw [(hcl 10 _ rfl h 8 (by simp))] at hDi; cases hDi
                have hS0 := SS0.out.1 hf0
                have h0 := GG.out.2.2.2.2.2.2.1 (hds 6 (by simp)) hf0
                have h1 := GG.out.2.2.2.2.2.2.2.1 (hds 7 (by simp)) hf0
                obtain rfl := GG.out.2.2.1 (hds 2 (by simp))
                clear hds
                have HC := hidD (qminus_c _ _ (cf S n) c V h0 h1 HQS.out HQC.out)
                clear h0 h1
                refine wpOp_go rfl rfl (fun K hK => ?_)
                go_simp
                go_wp2_with (go_at_call 51; refine HC.out.mono ?_; rintro e w5 ⟨v5, rfl, hv5, hb5⟩)
                exact ⟨_, _, _, _, _, _, _, _, _, _, rfl, hidD ⟨GG.out.1, GG.out.2.1, fun _ => rfl, GG.out.2.2.2.1, GG.out.2.2.2.2.1, GG.out.2.2.2.2.2.1, fun h h2 => (GG.out.2.2.2.2.2.2.1 h (by simpa using h2)).below hb5, fun h h2 => (GG.out.2.2.2.2.2.2.2.1 h (by simpa using h2)).below hb5, fun _ _ => hv5, GG.out.2.2.2.2.2.2.2.2.2⟩, hidD ⟨fun h => (SS0.out.1 (by simpa using h)).below hb5, fun h => (SS0.out.2 (by simpa using h)).below hb5⟩⟩
              · have hf0 : D 10 = false := by
                  cases h : D 10 with
                  | false => rfl
                  | true => rw [(hcl 10 _ rfl h 9 (by simp))] at hDi; cases hDi
                have hS0 := SS0.out.1 hf0
                obtain rfl := GG.out.1 (hds 0 (by simp))
                obtain rfl := GG.out.2.1 (hds 1 (by simp))
                clear hds
                refine wpOp_go rfl rfl (fun K hK => ?_)
                go_simp
                exact hK _ _ ⟨_, _, _, _, _, _, _, _, _, _, rfl, hidD ⟨fun _ => rfl, fun _ => rfl, GG.out.2.2.1, GG.out.2.2.2.1, GG.out.2.2.2.2.1, GG.out.2.2.2.2.2.1, fun h h2 => (GG.out.2.2.2.2.2.2.1 h (by simpa using h2)), fun h h2 => (GG.out.2.2.2.2.2.2.2.1 h (by simpa using h2)), fun h h2 => (GG.out.2.2.2.2.2.2.2.2.1 h (by simpa using h2)), fun _ => rfl⟩, hidD ⟨fun h => (SS0.out.1 (by simpa using h)), fun h => (SS0.out.2 (by simpa using h))⟩⟩
              · have hS0 := SS0.out.1 hDi
                have h0 := GG.out.2.2.2.2.2.2.2.2.1 (hds 8 (by simp)) hDi
                obtain rfl := GG.out.2.2.2.2.2.2.2.2.2 (hds 9 (by simp))
                have hE := hS0.1.2.2.1
                obtain ⟨xa, xb, xc, xd, e0, e1, e2, e3, _⟩ := hE.at HSL.out
                have f0 := hE.frozen (n * 4)
                have f1 := hE.frozen (n * 4 + 1)
                have f2 := hE.frozen (n * 4 + 2)
                have f3 := hE.frozen (n * 4 + 3)
                obtain ⟨s9, a9, l9, c9, t9, b9, k9, d9, rfl⟩ := IsRat.form h0
                clear hds
                refine wpOp_go rfl rfl (fun K hK => ?_)
                go_simp
                exact hK _ _ ⟨_, _, _, _, _, _, _, _, _, _, rfl, hidD ⟨GG.out.1, GG.out.2.1, GG.out.2.2.1, GG.out.2.2.2.1, GG.out.2.2.2.2.1, GG.out.2.2.2.2.2.1, fun _ h => by simp at h, fun _ h => by simp at h, fun _ h => by simp at h, fun _ => rfl⟩, hidD ⟨fun h => by simp at h, fun _ => hS0.1.put HSL.out h0⟩⟩
            case fin1t =>
              rintro D act V hDD ⟨t15x, t16x, t17x, t18x, t19x, t20x, t21x, t22x, t23x, t24x, rfl, GG, SS0⟩
              have HM3 := hidD (SS0.out.2 (hDD 10 (by decide)))
              clear GG SS0 hDD
              rw [HSF.out] at HM3
              go_wp2_with fail
              go_meet
              case rel => exact HM3
          | false =>
            have HSF := hidD (show S.set n (cf S n + c) = S' from HSE.out)
            unfold fnJ
            simp only [Bool.false_eq_true, if_false]
            refine wp_region_tab hmx [[], [], [], [], [], [3, 4], [5], [], [2, 6, 7], [0, 1, 0, 1, 2, 3, 4, 5, 6, 7, 8], [9, 8, 8, 0, 1, 2, 3, 4, 5, 6, 7, 8]] (by kernel_rfl) (by decide)
              (fun D act V => ∃ (t15x t16x t17x t18x t19x t20x t21x t22x t23x t24x : Value), act = { tmps := #[Value.pointer (some { block := R, off := 0 }), undef, Value.pointer (some { block := Q, off := 0 }), Value.slice (some { block := b, off := 0 }) 9 9, Value.func (Fn.func 87) #[] #[], Value.pointer (some { block := C, off := 0 }), Value.int IntKind.i64 ↑n, Value.slice (some { block := b, off := 0 }) 9 9, Value.pointer (some { block := R, off := 0 }), Value.bool true, Value.tuple #[Value.agg #[Value.bool s9, Value.slice a9 l9 c9, Value.bool t9, Value.slice b9 k9 d9], Value.int IntKind.i64 ↑n], Value.pointer (some { block := R, off := 0 }), Value.tuple #[Value.agg #[Value.bool s9, Value.slice a9 l9 c9, Value.bool t9, Value.slice b9 k9 d9], Value.int IntKind.i64 ↑n], Value.agg #[Value.bool s9, Value.slice a9 l9 c9, Value.bool t9, Value.slice b9 k9 d9], Value.int IntKind.i64 ↑n, t15x, t16x, t17x, t18x, t19x, t20x, t21x, t22x, t23x, t24x, u25, u26, u27, u28, u29, u30, u31, u32, u33, u34, u35, u36, u37, u38, u39, u40, u41], defers := [] } ∧ Hid ((D 0 = true → t15x = .slice (some ⟨b, 0, none⟩) 9 9) ∧ (D 1 = true → t16x = .int .i64 (n : Int)) ∧ (D 2 = true → t17x = .func (.func 87) #[] #[]) ∧ (D 3 = true → t18x = .slice (some ⟨b, 0, none⟩) 9 9) ∧ (D 4 = true → t19x = .int .i64 (n : Int)) ∧ (D 5 = true → t20x = .pointer (some ⟨b, n * 4, none⟩)) ∧ (D 6 = true → D 10 = false → IsRat V t21x (cf S n)) ∧ (D 7 = true → D 10 = false → IsRat V t22x c) ∧ (D 8 = true → D 10 = false → IsRat V t23x (cf S n + c)) ∧ (D 9 = true → t24x = .pointer (some ⟨b, n * 4, none⟩))) ∧ Hid ((D 10 = false → PoX w V R Q b C s (k5 : Int) S c) ∧ (D 10 = true → PoB w V R Q b s (k5 : Int) (S.set n (cf S n + c)))))
              ⟨_, _, _, _, _, _, _, _, _, _, rfl, hidD ⟨by simp, by simp, by simp, by simp, by simp, by simp, by simp, by simp, by simp, by simp⟩, hidD ⟨fun _ => ST0, by simp⟩⟩ ?step2t ?fin2t
            case step2t =>
              rintro D act V i ds hcl hi hds hDi ⟨t15x, t16x, t17x, t18x, t19x, t20x, t21x, t22x, t23x, t24x, rfl, GG, SS0⟩
              have hi6 : i < 11 := (List.getElem?_eq_some_iff.1 hi).1
              obtain rfl | rfl | rfl | rfl | rfl | rfl | rfl | rfl | rfl | rfl | rfl : i = 0 ∨ i = 1 ∨ i = 2 ∨ i = 3 ∨ i = 4 ∨ i = 5 ∨ i = 6 ∨ i = 7 ∨ i = 8 ∨ i = 9 ∨ i = 10 := by omega
              all_goals
                simp only [List.getElem?_cons_zero, List.getElem?_cons_succ, Option.some.injEq] at hi
                subst hi
              · have hf0 : D 10 = false := by
                  cases h : D 10 with
                  | false => rfl
                  | true => rw [(hcl 10 _ rfl h 0 (by simp))] at hDi; cases hDi
                have hS0 := SS0.out.1 hf0
                clear hds
                refine wpOp_go rfl rfl (fun K hK => ?_)
                go_simp
                exact hK _ _ ⟨_, _, _, _, _, _, _, _, _, _, rfl, hidD ⟨fun _ => rfl, GG.out.2.1, GG.out.2.2.1, GG.out.2.2.2.1, GG.out.2.2.2.2.1, GG.out.2.2.2.2.2.1, fun h h2 => (GG.out.2.2.2.2.2.2.1 h (by simpa using h2)), fun h h2 => (GG.out.2.2.2.2.2.2.2.1 h (by simpa using h2)), fun h h2 => (GG.out.2.2.2.2.2.2.2.2.1 h (by simpa using h2)), GG.out.2.2.2.2.2.2.2.2.2⟩, hidD ⟨fun h => (SS0.out.1 (by simpa using h)), fun h => (SS0.out.2 (by simpa using h))⟩⟩
              · have hf0 : D 10 = false := by
                  cases h : D 10 with
                  | false => rfl
                  | true => rw [(hcl 10 _ rfl h 1 (by simp))] at hDi; cases hDi
                have hS0 := SS0.out.1 hf0
                clear hds
                refine wpOp_go rfl rfl (fun K hK => ?_)
                go_simp
                exact hK _ _ ⟨_, _, _, _, _, _, _, _, _, _, rfl, hidD ⟨GG.out.1, fun _ => rfl, GG.out.2.2.1, GG.out.2.2.2.1, GG.out.2.2.2.2.1, GG.out.2.2.2.2.2.1, fun h h2 => (GG.out.2.2.2.2.2.2.1 h (by simpa using h2)), fun h h2 => (GG.out.2.2.2.2.2.2.2.1 h (by simpa using h2)), fun h h2 => (GG.out.2.2.2.2.2.2.2.2.1 h (by simpa using h2)), GG.out.2.2.2.2.2.2.2.2.2⟩, hidD ⟨fun h => (SS0.out.1 (by simpa using h)), fun h => (SS0.out.2 (by simpa using h))⟩⟩
              · have hf0 : D 10 = false := by
                  cases h : D 10 with
                  | false => rfl
                  | true => rw [(hcl 10 _ rfl h 2 (by simp))] at hDi; cases hDi
                have hS0 := SS0.out.1 hf0
                clear hds
                refine wpOp_go rfl rfl (fun K hK => ?_)
                go_simp
                exact hK _ _ ⟨_, _, _, _, _, _, _, _, _, _, rfl, hidD ⟨GG.out.1, GG.out.2.1, fun _ => rfl, GG.out.2.2.2.1, GG.out.2.2.2.2.1, GG.out.2.2.2.2.2.1, fun h h2 => (GG.out.2.2.2.2.2.2.1 h (by simpa using h2)), fun h h2 => (GG.out.2.2.2.2.2.2.2.1 h (by simpa using h2)), fun h h2 => (GG.out.2.2.2.2.2.2.2.2.1 h (by simpa using h2)), GG.out.2.2.2.2.2.2.2.2.2⟩, hidD ⟨fun h => (SS0.out.1 (by simpa using h)), fun h => (SS0.out.2 (by simpa using h))⟩⟩
              · have hf0 : D 10 = false := by
                  cases h : D 10 with
                  | false => rfl
                  | true => rw [(hcl 10 _ rfl h 3 (by simp))] at hDi; cases hDi
                have hS0 := SS0.out.1 hf0
                clear hds
                refine wpOp_go rfl rfl (fun K hK => ?_)
                go_simp
                exact hK _ _ ⟨_, _, _, _, _, _, _, _, _, _, rfl, hidD ⟨GG.out.1, GG.out.2.1, GG.out.2.2.1, fun _ => rfl, GG.out.2.2.2.2.1, GG.out.2.2.2.2.2.1, fun h h2 => (GG.out.2.2.2.2.2.2.1 h (by simpa using h2)), fun h h2 => (GG.out.2.2.2.2.2.2.2.1 h (by simpa using h2)), fun h h2 => (GG.out.2.2.2.2.2.2.2.2.1 h (by simpa using h2)), GG.out.2.2.2.2.2.2.2.2.2⟩, hidD ⟨fun h => (SS0.out.1 (by simpa using h)), fun h => (SS0.out.2 (by simpa using h))⟩⟩
              · have hf0 : D 10 = false := by
                  cases h : D 10 with
                  | false => rfl
                  | true => rw [(hcl 10 _ rfl h 4 (by simp))] at hDi; cases hDi
                have hS0 := SS0.out.1 hf0
                clear hds
                refine wpOp_go rfl rfl (fun K hK => ?_)
                go_simp
                exact hK _ _ ⟨_, _, _, _, _, _, _, _, _, _, rfl, hidD ⟨GG.out.1, GG.out.2.1, GG.out.2.2.1, GG.out.2.2.2.1, fun _ => rfl, GG.out.2.2.2.2.2.1, fun h h2 => (GG.out.2.2.2.2.2.2.1 h (by simpa using h2)), fun h h2 => (GG.out.2.2.2.2.2.2.2.1 h (by simpa using h2)), fun h h2 => (GG.out.2.2.2.2.2.2.2.2.1 h (by simpa using h2)), GG.out.2.2.2.2.2.2.2.2.2⟩, hidD ⟨fun h => (SS0.out.1 (by simpa using h)), fun h => (SS0.out.2 (by simpa using h))⟩⟩
              · have hf0 : D 10 = false := by
                  cases h : D 10 with
                  | false => rfl
                  | true => rw [(hcl 10 _ rfl h 5 (by simp))] at hDi; cases hDi
                have hS0 := SS0.out.1 hf0
                obtain rfl := GG.out.2.2.2.1 (hds 3 (by simp))
                obtain rfl := GG.out.2.2.2.2.1 (hds 4 (by simp))
                clear hds
                refine wpOp_go rfl rfl (fun K hK => ?_)
                go_simp
                exact hK _ _ ⟨_, _, _, _, _, _, _, _, _, _, rfl, hidD ⟨GG.out.1, GG.out.2.1, GG.out.2.2.1, fun _ => rfl, fun _ => rfl, fun _ => rfl, fun h h2 => (GG.out.2.2.2.2.2.2.1 h (by simpa using h2)), fun h h2 => (GG.out.2.2.2.2.2.2.2.1 h (by simpa using h2)), fun h h2 => (GG.out.2.2.2.2.2.2.2.2.1 h (by simpa using h2)), GG.out.2.2.2.2.2.2.2.2.2⟩, hidD ⟨fun h => (SS0.out.1 (by simpa using h)), fun h => (SS0.out.2 (by simpa using h))⟩⟩
              · have hf0 : D 10 = false := by
                  cases h : D 10 with
                  | false => rfl
                  | true => rw [(hcl 10 _ rfl h 6 (by simp))] at hDi; cases hDi
                have hS0 := SS0.out.1 hf0
                obtain rfl := GG.out.2.2.2.2.2.1 (hds 5 (by simp))
                obtain ⟨xa, xb, xc, xd, e0, e1, e2, e3, hr⟩ := hS0.1.2.2.1.at HSL.out
                clear hds
                refine wpOp_go rfl rfl (fun K hK => ?_)
                go_simp
                exact hK _ _ ⟨_, _, _, _, _, _, _, _, _, _, rfl, hidD ⟨GG.out.1, GG.out.2.1, GG.out.2.2.1, GG.out.2.2.2.1, GG.out.2.2.2.2.1, fun _ => rfl, fun _ _ => hr, fun h h2 => (GG.out.2.2.2.2.2.2.2.1 h (by simpa using h2)), fun h h2 => (GG.out.2.2.2.2.2.2.2.2.1 h (by simpa using h2)), GG.out.2.2.2.2.2.2.2.2.2⟩, hidD ⟨fun h => (SS0.out.1 (by simpa using h)), fun h => (SS0.out.2 (by simpa using h))⟩⟩
              · have hf0 : D 10 = false := by
                  cases h : D 10 with
                  | false => rfl
                  | true => rw [(hcl 10 _ rfl h 7 (by simp))] at hDi; cases hDi
                have hS0 := SS0.out.1 hf0
                obtain ⟨hB0, s8, a8, l8, c8, t8, b8, k8, d8, n8, r8⟩ := hS0
                have e0 := n8.c0
                have e1 := n8.c1
                have e2 := n8.c2
                have e3 := n8.c3
                clear hds
                refine wpOp_go rfl rfl (fun K hK => ?_)
                go_simp
                exact hK _ _ ⟨_, _, _, _, _, _, _, _, _, _, rfl, hidD ⟨GG.out.1, GG.out.2.1, GG.out.2.2.1, GG.out.2.2.2.1, GG.out.2.2.2.2.1, GG.out.2.2.2.2.2.1, fun h h2 => (GG.out.2.2.2.2.2.2.1 h (by simpa using h2)), fun _ _ => r8, fun h h2 => (GG.out.2.2.2.2.2.2.2.2.1 h (by simpa using h2)), GG.out.2.2.2.2.2.2.2.2.2⟩, hidD ⟨fun h => (SS0.out.1 (by simpa using h)), fun h => (SS0.out.2 (by simpa using h))⟩⟩
              · have hf0 : D 10 = false := by
                  cases h : D 10 with
                  | false => rfl
                  | true => rw [(hcl 10 _ rfl h 8 (by simp))] at hDi; cases hDi
                have hS0 := SS0.out.1 hf0
                have h0 := GG.out.2.2.2.2.2.2.1 (hds 6 (by simp)) hf0
                have h1 := GG.out.2.2.2.2.2.2.2.1 (hds 7 (by simp)) hf0
                obtain rfl := GG.out.2.2.1 (hds 2 (by simp))
                clear hds
                have HC := hidD (qplus_c _ _ (cf S n) c V h0 h1 HQS.out HQC.out)
                clear h0 h1
                refine wpOp_go rfl rfl (fun K hK => ?_)
                go_simp
                go_wp2_with (go_at_call 87; refine HC.out.mono ?_; rintro e w5 ⟨v5, rfl, hv5, hb5⟩)
                exact ⟨_, _, _, _, _, _, _, _, _, _, rfl, hidD ⟨GG.out.1, GG.out.2.1, fun _ => rfl, GG.out.2.2.2.1, GG.out.2.2.2.2.1, GG.out.2.2.2.2.2.1, fun h h2 => (GG.out.2.2.2.2.2.2.1 h (by simpa using h2)).below hb5, fun h h2 => (GG.out.2.2.2.2.2.2.2.1 h (by simpa using h2)).below hb5, fun _ _ => hv5, GG.out.2.2.2.2.2.2.2.2.2⟩, hidD ⟨fun h => (SS0.out.1 (by simpa using h)).below hb5, fun h => (SS0.out.2 (by simpa using h)).below hb5⟩⟩
              · have hf0 : D 10 = false := by
                  cases h : D 10 with
                  | false => rfl
                  | true => rw [(hcl 10 _ rfl h 9 (by simp))] at hDi; cases hDi
                have hS0 := SS0.out.1 hf0
                obtain rfl := GG.out.1 (hds 0 (by simp))
                obtain rfl := GG.out.2.1 (hds 1 (by simp))
                clear hds
                refine wpOp_go rfl rfl (fun K hK => ?_)
                go_simp
                exact hK _ _ ⟨_, _, _, _, _, _, _, _, _, _, rfl, hidD ⟨fun _ => rfl, fun _ => rfl, GG.out.2.2.1, GG.out.2.2.2.1, GG.out.2.2.2.2.1, GG.out.2.2.2.2.2.1, fun h h2 => (GG.out.2.2.2.2.2.2.1 h (by simpa using h2)), fun h h2 => (GG.out.2.2.2.2.2.2.2.1 h (by simpa using h2)), fun h h2 => (GG.out.2.2.2.2.2.2.2.2.1 h (by simpa using h2)), fun _ => rfl⟩, hidD ⟨fun h => (SS0.out.1 (by simpa using h)), fun h => (SS0.out.2 (by simpa using h))⟩⟩
              · have hS0 := SS0.out.1 hDi
                have h0 := GG.out.2.2.2.2.2.2.2.2.1 (hds 8 (by simp)) hDi
                obtain rfl := GG.out.2.2.2.2.2.2.2.2.2 (hds 9 (by simp))
                have hE := hS0.1.2.2.1
                obtain ⟨xa, xb, xc, xd, e0, e1, e2, e3, _⟩ := hE.at HSL.out
                have f0 := hE.frozen (n * 4)
                have f1 := hE.frozen (n * 4 + 1)
                have f2 := hE.frozen (n * 4 + 2)
                have f3 := hE.frozen (n * 4 + 3)
                obtain ⟨s9, a9, l9, c9, t9, b9, k9, d9, rfl⟩ := IsRat.form h0
                clear hds
                refine wpOp_go rfl rfl (fun K hK => ?_)
                go_simp
                exact hK _ _ ⟨_, _, _, _, _, _, _, _, _, _, rfl, hidD ⟨GG.out.1, GG.out.2.1, GG.out.2.2.1, GG.out.2.2.2.1, GG.out.2.2.2.2.1, GG.out.2.2.2.2.2.1, fun _ h => by simp at h, fun _ h => by simp at h, fun _ h => by simp at h, fun _ => rfl⟩, hidD ⟨fun h => by simp at h, fun _ => hS0.1.put HSL.out h0⟩⟩
            case fin2t =>
              rintro D act V hDD ⟨t15x, t16x, t17x, t18x, t19x, t20x, t21x, t22x, t23x, t24x, rfl, GG, SS0⟩
              have HM3 := hidD (SS0.out.2 (hDD 10 (by decide)))
              clear GG SS0 hDD
              rw [HSF.out] at HM3
              go_wp2_with fail
              go_meet
              case rel => exact HM3
        clear ST0
        have HP6 := hcut
        clear hcut
        cases h43 : isAt (wlst s) J 43 with
        | true =>
          have hJ1 : J + 1 ≤ s.size := by have := isAt_lt h43; rw [wlst_len] at this; omega
          have HTT := hidD (show sumS (wlst s) f false (J + 1) S' = totS (wlst s) by have e := HTS.out; rw [if_pos h43] at e; exact e)
          have HF1 := hidD (fun (V : World) (hh : RcB V R s (k5 : Int)) => found_c R s k5 43 V hh hk5 hs true (by rw [HJ.out, h43]))
          rw [HJ.out] at HF1
          clear h43
          go_wp2_with (go_at_call 124; refine (HF1.out _ HP6.out.1).mono ?_; clear HF1; rintro e w7 ⟨rfl, hr7, hg7⟩; have HP7 := hidD (HP6.out.rc hr7 hg7); clear hr7 hg7)
          go_roundw
          case rel => exact ⟨false, J + 1, f, m + 1, S', rfl, hJ1, HP7, HS1, hidD ⟨by have := HT.out.1; have := HLT.out; have := HJ5.out; omega, by have := HT.out.2.1; have := HLT.out; have := HJ5.out; omega, HTT.out⟩⟩
          case measure =>
            have e1 := rcI_of (I := J + 1) HP7.out.1
            rw [e1, HRI.out]
            have := HLT.out
            have := HJ5.out
            omega
        | false =>
          have HF1 := hidD (fun (V : World) (hh : RcB V R s (k5 : Int)) => found_c R s k5 43 V hh hk5 hs false (by rw [HJ.out, h43]))
          rw [HJ.out] at HF1
          cases h45 : isAt (wlst s) J 45 with
          | true =>
            have hJ1 : J + 1 ≤ s.size := by have := isAt_lt h45; rw [wlst_len] at this; omega
            have HTT := hidD (show sumS (wlst s) f true (J + 1) S' = totS (wlst s) by have e := HTS.out; rw [if_neg (by rw [h43]; decide), if_pos h45] at e; exact e)
            have HF2 := hidD (fun (V : World) (hh : RcB V R s (J : Int)) => found_c R s J 45 V hh hJs hs true (by rw [HJJ.out, h45]))
            rw [HJJ.out] at HF2
            clear h43 h45
            go_wp2_with (first
              | (go_at_call 124; refine (HF1.out _ HP6.out.1).mono ?_; clear HF1; rintro e w7 ⟨rfl, hr7, hg7⟩; have HP7 := hidD (HP6.out.rc hr7 hg7); clear hr7 hg7)
              | (go_at_call 124; refine (HF2.out _ HP7.out.1).mono ?_; clear HF2; rintro e w8 ⟨rfl, hr8, hg8⟩; have HP8 := hidD (HP7.out.rc hr8 hg8); clear hr8 hg8))
            go_roundw
            case rel => exact ⟨true, J + 1, f, m + 1, S', rfl, hJ1, HP8, HS1, hidD ⟨by have := HT.out.1; have := HLT.out; have := HJ5.out; omega, by have := HT.out.2.1; have := HLT.out; have := HJ5.out; omega, HTT.out⟩⟩
            case measure =>
              have e1 := rcI_of (I := J + 1) HP8.out.1
              rw [e1, HRI.out]
              have := HLT.out
              have := HJ5.out
              omega
          | false =>
            have HF2 := hidD (fun (V : World) (hh : RcB V R s (J : Int)) => found_c R s J 45 V hh hJs hs false (by rw [HJJ.out, h45]))
            rw [HJJ.out] at HF2
            have HF3 := hidD (fun (V : World) (hh : RcB V R s (J : Int)) => ended_c R s J V hh hJs hs)
            rw [HJJ.out] at HF3
            by_cases hJe : J = s.size
            · have HTT := hidD (show totS (wlst s) = .ok S' J by have e := HTS.out; rw [if_neg (by rw [h43]; decide), if_neg (by rw [h45]; decide), if_pos (by rw [wlst_len]; exact hJe)] at e; exact e.symm)
              rw [show decide (J = s.size) = true from decide_eq_true hJe] at HF3
              have HMD := hidD (fun (V : World) (hE : Els true V b S') => ymade_c (.slice (some ⟨b, 0, none⟩) 9 9) S' V (by
                have hrow := hE.row (n := 9) (cap := 9) (by rw [HS1.out.1]; exact Nat.le_refl _) (Nat.le_refl _) (by omega) (by omega)
                rwa [List.take_of_length_le (by rw [HS1.out.1]; exact Nat.le_refl _)] at hrow) (Sqs.of fun i => Sq.of (HS1.out.2 i) (by have := HT.out.1; omega)))
              clear h43 h45 hJe
              go_wp2_with (first
                | (go_at_call 124; refine (HF1.out _ HP6.out.1).mono ?_; clear HF1; rintro e w7 ⟨rfl, hr7, hg7⟩; have HP7 := hidD (HP6.out.rc hr7 hg7); clear hr7 hg7)
                | (go_at_call 124; refine (HF2.out _ HP7.out.1).mono ?_; clear HF2; rintro e w8 ⟨rfl, hr8, hg8⟩; have HP8 := hidD (HP7.out.rc hr8 hg8); clear hr8 hg8)
                | (go_at_call 126; refine (HF3.out _ HP8.out.1).mono ?_; clear HF3; rintro e w9 ⟨rfl, hr9, hg9⟩; have HP9 := hidD (HP8.out.rc hr9 hg9); clear hr9 hg9)
                | (go_at_call 27; refine (HMD.out _ HP9.out.2.2.1).mono ?_; clear HMD; rintro e w10 ⟨u10, rfl, hu10, _, hq10⟩; obtain ⟨a7, l7, c7, rfl⟩ := hu10.form; have HP10 := hidD (HP9.out.below hq10); have x0 := HP10.out.2.1.cell; have x1 := HP10.out.2.1.frozen; have HU10 := hidD hu10.row; clear hu10 hq10))
              refine bodyPost_ret (v := .agg #[.slice a7 l7 c7]) (by simp [results, Tryz.results94, go_sem, x0]) rfl ⟨grown_new HP10.out.2.2.2.1 HP10.out.2.2.2.2.1 0 _, fun e q he => ?_, fun S'' k he => ?_⟩
              · rw [HTT.out] at he; cases he
              · rw [HTT.out] at he
                cases he
                exact ⟨_, rfl, ⟨_, rfl, boxP HP10.out.2.1 _ HU10.out⟩, m + 1, by have := HT.out.1; have := HLT.out; omega, HS1.out⟩
            · have HTT := hidD (show totS (wlst s) = .bad 2 J by have e := HTS.out; rw [if_neg (by rw [h43]; decide), if_neg (by rw [h45]; decide), if_neg (by rw [wlst_len]; exact hJe)] at e; exact e.symm)
              rw [show decide (J = s.size) = false from decide_eq_false hJe] at HF3
              clear h43 h45 hJe
              go_wp2_with (first
                | (go_at_call 124; refine (HF1.out _ HP6.out.1).mono ?_; clear HF1; rintro e w7 ⟨rfl, hr7, hg7⟩; have HP7 := hidD (HP6.out.rc hr7 hg7); clear hr7 hg7)
                | (go_at_call 124; refine (HF2.out _ HP7.out.1).mono ?_; clear HF2; rintro e w8 ⟨rfl, hr8, hg8⟩; have HP8 := hidD (HP7.out.rc hr8 hg8); clear hr8 hg8)
                | (go_at_call 126; refine (HF3.out _ HP8.out.1).mono ?_; clear HF3; rintro e w9 ⟨rfl, hr9, hg9⟩; have c19 := hr9.c1; have HP9 := hidD (HP8.out.rc hr9 hg9); clear hr9 hg9)
                | (go_at_call 127; refine (HF.out _ _ _).mono ?_; clear HF; rintro e w10 ⟨rfl, rfl⟩))
              refine ⟨rfl, HP9.out.2.2.2.1, fun e q he => ?_, fun S'' k he => ?_⟩
              · rw [HTT.out] at he; cases he; rfl
              · rw [HTT.out] at he; cases he
  | false =>
    go_wp2_with (go_at_call 124; refine HFD.out.mono ?_; clear HFD; rintro e w1 ⟨rfl, hr1, hg1⟩; have HP1 := hidD (HP0.out.rc hr1 hg1); clear hr1 hg1)
    go_loopw [4, 5, 6] (fun jv _ _ wr => ∃ (j : Bool) (I f m : Nat) (S : List Rat), jv = fnJ j ∧ I ≤ s.size ∧ Hid (PoB w wr R Q b s (I : Int) S) ∧ Hid (SumsAt S m) ∧ Hid (m ≤ I ∧ s.size - I < f ∧ sumS (wlst s) f j I S = totS (wlst s))) (fun _ _ _ wr => s.size - rdI wr R)
    case atStart =>
      have hsk : skB (wlst s) 0 ≤ s.size := by rw [← wlst_len]; exact skB_le (by omega)
      refine ⟨false, skB (wlst s) 0 + (if false = true then 1 else 0), s.size + 1, 0, List.replicate 9 0, rfl, ?_, HP1, hidD SumsAt.start, hidD ⟨by omega, by omega, ?_⟩⟩
      · first
          | simpa using hsk
          | (have h2 := isAt_lt HB0.out.symm
             rw [wlst_len] at h2
             simp
             omega)
      · unfold totS
        rw [← HB0.out, wlst_len]
        rfl
    case round =>
      clear HP1 HB0 HP0
      obtain ⟨j, I, f, m, S, rfl, hI, HP, HS, HT⟩ := hrel
      have HTM := hidD (dterm_c R s I wr HP.out.1 hI hs)
      obtain ⟨f, rfl⟩ : ∃ f', f = f' + 1 := ⟨f - 1, by have := HT.out.2.1; omega⟩
      cases ht : termS (wlst s) I with
      | bad e5 q5 =>
        have HTB := hidD ht
        have HTT := hidD (show totS (wlst s) = .bad e5 q5 by rw [← HT.out.2.2]; exact sumS_bad ht)
        clear ht
        go_wp2_with (go_at_call 125; refine HTM.out.mono ?_; clear HTM; rintro e w1 ⟨hg1, hb1, _⟩; obtain rfl := hb1 _ _ HTB.out; have HG1 := hidD (grown_trans HP.out.2.2.2.1 hg1); clear hg1 hb1)
        refine ⟨rfl, HG1.out, fun e q he => ?_, fun S' k he => ?_⟩
        · rw [HTT.out] at he; cases he; rfl
        · rw [HTT.out] at he; cases he
      | ok a5 k5 =>
        obtain ⟨c, n⟩ := a5
        have hlt := termS_lt (by rw [wlst_len]; exact hI) ht
        rw [wlst_len] at hlt
        have HLT := hidD hlt
        have HFR := hidD (termS_frac (by rw [wlst_len]; exact hI) ht)
        have HSM := hidD (sumS_ok (f := f) (b := j) (S := S) ht)
        have HTO := hidD ht
        have hn9 : n < 9 := by omega
        have hn9' : (n : Int) < 9 := by omega
        have HSL := hidD (show n < S.length by rw [HS.out.1]; omega)
        have HQS := hidD (show Sq (cf S n) from Sq.of (HS.out.2 n) (by have := HT.out.1; omega))
        have HQC := hidD (show Sq c from Sq.of HFR.out.sm (by omega))
        have HS1 := hidD (HS.out.next HFR.out hlt.2.2 j)
        obtain ⟨S', hS'⟩ : ∃ S', S.set n (if j then cf S n - c else cf S n + c) = S' := ⟨_, rfl⟩
        rw [hS'] at HS1 HSM
        have HSE := hidD hS'
        have HTS := hidD (HSM.out.symm.trans HT.out.2.2)
        have hk5 : k5 ≤ s.size := hlt.2.1
        obtain ⟨J, hJ⟩ : ∃ J, skB (wlst s) k5 = J := ⟨_, rfl⟩
        rw [hJ] at HTS
        have HJ := hidD hJ
        have hJs : J ≤ s.size := by rw [← hJ, ← wlst_len]; exact skB_le (by rw [wlst_len]; exact hk5)
        have HJJ := hidD (show skB (wlst s) J = J by rw [← hJ]; exact skB_idem _ _)
        have HJ5 := hidD (show k5 ≤ J by rw [← hJ]; exact skB_ge _ _)
        clear ht hlt hS' hJ HSM
        go_upto_region 6 with (go_at_call 125; refine HTM.out.mono ?_; clear HTM; rintro e w1 ⟨hg1, _, hb1⟩; obtain ⟨u1, rfl, hu1, hr1⟩ := hb1 _ _ _ HTO.out; obtain ⟨s9, a9, l9, c9, t9, b9, k9, d9, rfl⟩ := hu1.form; have HU := hidD hu1; have HP1 := hidD (HP.out.rc hr1 hg1); clear hg1 hb1 hu1 hr1)
        have hPX := PoX.new HP1.out HU.out
        obtain ⟨W1, hW1⟩ : ∃ W, w1.alloc (.cells #[.bool s9, .slice a9 l9 c9, .bool t9, .slice b9 k9 d9] 65) = W := ⟨_, rfl⟩
        obtain ⟨C, hC⟩ : ∃ C, w1.heap.size = C := ⟨_, rfl⟩
        rw [hW1, hC] at hPX
        rw [hW1, hC]
        have HRI := hidD (rcI_of HP.out.1)
        clear hW1 hC HU HP1 HP
        have ST0 := hPX.below ((Below.refl _ W1).drew)
        clear hPX
        go_cut [] (fun w' => Hid (PoB w w' R Q b s (k5 : Int) S'))
        case first =>
          cases j with
          | true =>
            have HSF := hidD (show S.set n (cf S n - c) = S' from HSE.out)
            unfold fnJ
            simp only [if_true]
            refine wp_region_tab hmx [[], [], [], [], [], [3, 4], [5], [], [2, 6, 7], [0, 1, 0, 1, 2, 3, 4, 5, 6, 7, 8], [9, 8, 8, 0, 1, 2, 3, 4, 5, 6, 7, 8]] (by kernel_rfl) (by decide)
              (fun D act V => ∃ (t15x t16x t17x t18x t19x t20x t21x t22x t23x t24x : Value), act = { tmps := #[Value.pointer (some { block := R, off := 0 }), undef, Value.pointer (some { block := Q, off := 0 }), Value.slice (some { block := b, off := 0 }) 9 9, Value.func (Fn.func 51) #[] #[], Value.pointer (some { block := C, off := 0 }), Value.int IntKind.i64 ↑n, Value.slice (some { block := b, off := 0 }) 9 9, Value.pointer (some { block := R, off := 0 }), Value.bool false, Value.tuple #[Value.agg #[Value.bool s9, Value.slice a9 l9 c9, Value.bool t9, Value.slice b9 k9 d9], Value.int IntKind.i64 ↑n], Value.pointer (some { block := R, off := 0 }), Value.tuple #[Value.agg #[Value.bool s9, Value.slice a9 l9 c9, Value.bool t9, Value.slice b9 k9 d9], Value.int IntKind.i64 ↑n], Value.agg #[Value.bool s9, Value.slice a9 l9 c9, Value.bool t9, Value.slice b9 k9 d9], Value.int IntKind.i64 ↑n, t15x, t16x, t17x, t18x, t19x, t20x, t21x, t22x, t23x, t24x, u25, u26, u27, u28, u29, u30, u31, u32, u33, u34, u35, u36, u37, u38, u39, u40, u41], defers := [] } ∧ Hid ((D 0 = true → t15x = .slice (some ⟨b, 0, none⟩) 9 9) ∧ (D 1 = true → t16x = .int .i64 (n : Int)) ∧ (D 2 = true → t17x = .func (.func 51) #[] #[]) ∧ (D 3 = true → t18x = .slice (some ⟨b, 0, none⟩) 9 9) ∧ (D 4 = true → t19x = .int .i64 (n : Int)) ∧ (D 5 = true → t20x = .pointer (some ⟨b, n * 4, none⟩)) ∧ (D 6 = true → D 10 = false → IsRat V t21x (cf S n)) ∧ (D 7 = true → D 10 = false → IsRat V t22x c) ∧ (D 8 = true → D 10 = false → IsRat V t23x (cf S n - c)) ∧ (D 9 = true → t24x = .pointer (some ⟨b, n * 4, none⟩))) ∧ Hid ((D 10 = false → PoX w V R Q b C s (k5 : Int) S c) ∧ (D 10 = true → PoB w V R Q b s (k5 : Int) (S.set n (cf S n - c)))))
              ⟨_, _, _, _, _, _, _, _, _, _, rfl, hidD ⟨by simp, by simp, by simp, by simp, by simp, by simp, by simp, by simp, by simp, by simp⟩, hidD ⟨fun _ => ST0, by simp⟩⟩ ?step1 ?fin1
            case step1 =>
              rintro D act V i ds hcl hi hds hDi ⟨t15x, t16x, t17x, t18x, t19x, t20x, t21x, t22x, t23x, t24x, rfl, GG, SS0⟩
              have hi6 : i < 11 := (List.getElem?_eq_some_iff.1 hi).1
              obtain rfl | rfl | rfl | rfl | rfl | rfl | rfl | rfl | rfl | rfl | rfl : i = 0 ∨ i = 1 ∨ i = 2 ∨ i = 3 ∨ i = 4 ∨ i = 5 ∨ i = 6 ∨ i = 7 ∨ i = 8 ∨ i = 9 ∨ i = 10 := by omega
              all_goals
                simp only [List.getElem?_cons_zero, List.getElem?_cons_succ, Option.some.injEq] at hi
                subst hi
              · have hf0 : D 10 = false := by
                  cases h : D 10 with
                  | false => rfl
                  | true => rw [(hcl 10 _ rfl h 0 (by simp))] at hDi; cases hDi
                have hS0 := SS0.out.1 hf0
                clear hds
                refine wpOp_go rfl rfl (fun K hK => ?_)
                go_simp
                exact hK _ _ ⟨_, _, _, _, _, _, _, _, _, _, rfl, hidD ⟨fun _ => rfl, GG.out.2.1, GG.out.2.2.1, GG.out.2.2.2.1, GG.out.2.2.2.2.1, GG.out.2.2.2.2.2.1, fun h h2 => (GG.out.2.2.2.2.2.2.1 h (by simpa using h2)), fun h h2 => (GG.out.2.2.2.2.2.2.2.1 h (by simpa using h2)), fun h h2 => (GG.out.2.2.2.2.2.2.2.2.1 h (by simpa using h2)), GG.out.2.2.2.2.2.2.2.2.2⟩, hidD ⟨fun h => (SS0.out.1 (by simpa using h)), fun h => (SS0.out.2 (by simpa using h))⟩⟩
              · have hf0 : D 10 = false := by
                  cases h : D 10 with
                  | false => rfl
                  | true => rw [(hcl 10 _ rfl h 1 (by simp))] at hDi; cases hDi
                have hS0 := SS0.out.1 hf0
                clear hds
                refine wpOp_go rfl rfl (fun K hK => ?_)
                go_simp
                exact hK _ _ ⟨_, _, _, _, _, _, _, _, _, _, rfl, hidD ⟨GG.out.1, fun _ => rfl, GG.out.2.2.1, GG.out.2.2.2.1, GG.out.2.2.2.2.1, GG.out.2.2.2.2.2.1, fun h h2 => (GG.out.2.2.2.2.2.2.1 h (by simpa using h2)), fun h h2 => (GG.out.2.2.2.2.2.2.2.1 h (by simpa using h2)), fun h h2 => (GG.out.2.2.2.2.2.2.2.2.1 h (by simpa using h2)), GG.out.2.2.2.2.2.2.2.2.2⟩, hidD ⟨fun h => (SS0.out.1 (by simpa using h)), fun h => (SS0.out.2 (by simpa using h))⟩⟩
              · have hf0 : D 10 = false := by
                  cases h : D 10 with
                  | false => rfl
                  | true => rw [(hcl 10 _ rfl h 2 (by simp))] at hDi; cases hDi
                have hS0 := SS0.out.1 hf0
                clear hds
                refine wpOp_go rfl rfl (fun K hK => ?_)
                go_simp
                exact hK _ _ ⟨_, _, _, _, _, _, _, _, _, _, rfl, hidD ⟨GG.out.1, GG.out.2.1, fun _ => rfl, GG.out.2.2.2.1, GG.out.2.2.2.2.1, GG.out.2.2.2.2.2.1, fun h h2 => (GG.out.2.2.2.2.2.2.1 h (by simpa using h2)), fun h h2 => (GG.out.2.2.2.2.2.2.2.1 h (by simpa using h2)), fun h h2 => (GG.out.2.2.2.2.2.2.2.2.1 h (by simpa using h2)), GG.out.2.2.2.2.2.2.2.2.2⟩, hidD ⟨fun h => (SS0.out.1 (by simpa using h)), fun h => (SS0.out.2 (by simpa using h))⟩⟩
              · have hf0 : D 10 = false := by
                  cases h : D 10 with
                  | false => rfl
                  | true => rw [(hcl 10 _ rfl h 3 (by simp))] at hDi; cases hDi
                have hS0 := SS0.out.1 hf0
                clear hds
                refine wpOp_go rfl rfl (fun K hK => ?_)
                go_simp
                exact hK _ _ ⟨_, _, _, _, _, _, _, _, _, _, rfl, hidD ⟨GG.out.1, GG.out.2.1, GG.out.2.2.1, fun _ => rfl, GG.out.2.2.2.2.1, GG.out.2.2.2.2.2.1, fun h h2 => (GG.out.2.2.2.2.2.2.1 h (by simpa using h2)), fun h h2 => (GG.out.2.2.2.2.2.2.2.1 h (by simpa using h2)), fun h h2 => (GG.out.2.2.2.2.2.2.2.2.1 h (by simpa using h2)), GG.out.2.2.2.2.2.2.2.2.2⟩, hidD ⟨fun h => (SS0.out.1 (by simpa using h)), fun h => (SS0.out.2 (by simpa using h))⟩⟩
              · have hf0 : D 10 = false := by
                  cases h : D 10 with
                  | false => rfl
                  | true => rw [(hcl 10 _ rfl h 4 (by simp))] at hDi; cases hDi
                have hS0 := SS0.out.1 hf0
                clear hds
                refine wpOp_go rfl rfl (fun K hK => ?_)
                go_simp
                exact hK _ _ ⟨_, _, _, _, _, _, _, _, _, _, rfl, hidD ⟨GG.out.1, GG.out.2.1, GG.out.2.2.1, GG.out.2.2.2.1, fun _ => rfl, GG.out.2.2.2.2.2.1, fun h h2 => (GG.out.2.2.2.2.2.2.1 h (by simpa using h2)), fun h h2 => (GG.out.2.2.2.2.2.2.2.1 h (by simpa using h2)), fun h h2 => (GG.out.2.2.2.2.2.2.2.2.1 h (by simpa using h2)), GG.out.2.2.2.2.2.2.2.2.2⟩, hidD ⟨fun h => (SS0.out.1 (by simpa using h)), fun h => (SS0.out.2 (by simpa using h))⟩⟩
              · have hf0 : D 10 = false := by
                  cases h : D 10 with
                  | false => rfl
                  | true => rw [(hcl 10 _ rfl h 5 (by simp))] at hDi; cases hDi
                have hS0 := SS0.out.1 hf0
                obtain rfl := GG.out.2.2.2.1 (hds 3 (by simp))
                obtain rfl := GG.out.2.2.2.2.1 (hds 4 (by simp))
                clear hds
                refine wpOp_go rfl rfl (fun K hK => ?_)
                go_simp
                exact hK _ _ ⟨_, _, _, _, _, _, _, _, _, _, rfl, hidD ⟨GG.out.1, GG.out.2.1, GG.out.2.2.1, fun _ => rfl, fun _ => rfl, fun _ => rfl, fun h h2 => (GG.out.2.2.2.2.2.2.1 h (by simpa using h2)), fun h h2 => (GG.out.2.2.2.2.2.2.2.1 h (by simpa using h2)), fun h h2 => (GG.out.2.2.2.2.2.2.2.2.1 h (by simpa using h2)), GG.out.2.2.2.2.2.2.2.2.2⟩, hidD ⟨fun h => (SS0.out.1 (by simpa using h)), fun h => (SS0.out.2 (by simpa using h))⟩⟩
              · have hf0 : D 10 = false := by
                  cases h : D 10 with
                  | false => rfl
                  | true => rw [(hcl 10 _ rfl h 6 (by simp))] at hDi; cases hDi
                have hS0 := SS0.out.1 hf0
                obtain rfl := GG.out.2.2.2.2.2.1 (hds 5 (by simp))
                obtain ⟨xa, xb, xc, xd, e0, e1, e2, e3, hr⟩ := hS0.1.2.2.1.at HSL.out
                clear hds
                refine wpOp_go rfl rfl (fun K hK => ?_)
                go_simp
                exact hK _ _ ⟨_, _, _, _, _, _, _, _, _, _, rfl, hidD ⟨GG.out.1, GG.out.2.1, GG.out.2.2.1, GG.out.2.2.2.1, GG.out.2.2.2.2.1, fun _ => rfl, fun _ _ => hr, fun h h2 => (GG.out.2.2.2.2.2.2.2.1 h (by simpa using h2)), fun h h2 => (GG.out.2.2.2.2.2.2.2.2.1 h (by simpa using h2)), GG.out.2.2.2.2.2.2.2.2.2⟩, hidD ⟨fun h => (SS0.out.1 (by simpa using h)), fun h => (SS0.out.2 (by simpa using h))⟩⟩
              · have hf0 : D 10 = false := by
                  cases h : D 10 with
                  | false => rfl
                  | true => rw [(hcl 10 _ rfl h 7 (by simp))] at hDi; cases hDi
                have hS0 := SS0.out.1 hf0
                obtain ⟨hB0, s8, a8, l8, c8, t8, b8, k8, d8, n8, r8⟩ := hS0
                have e0 := n8.c0
                have e1 := n8.c1
                have e2 := n8.c2
                have e3 := n8.c3
                clear hds
                refine wpOp_go rfl rfl (fun K hK => ?_)
                go_simp
                exact hK _ _ ⟨_, _, _, _, _, _, _, _, _, _, rfl, hidD ⟨GG.out.1, GG.out.2.1, GG.out.2.2.1, GG.out.2.2.2.1, GG.out.2.2.2.2.1, GG.out.2.2.2.2.2.1, fun h h2 => (GG.out.2.2.2.2.2.2.1 h (by simpa using h2)), fun _ _ => r8, fun h h2 => (GG.out.2.2.2.2.2.2.2.2.1 h (by simpa using h2)), GG.out.2.2.2.2.2.2.2.2.2⟩, hidD ⟨fun h => (SS0.out.1 (by simpa using h)), fun h => (SS0.out.2 (by simpa using h))⟩⟩
              · have hf0 : D 10 = false := by
                  cases h : D 10 with
                  | false => rfl
                  | true => rw [(hcl 10 _ rfl h 8 (by simp))] at hDi; cases hDi
                have hS0 := SS0.out.1 hf0
                have h0 := GG.out.2.2.2.2.2.2.1 (hds 6 (by simp)) hf0
                have h1 := GG.out.2.2.2.2.2.2.2.1 (hds 7 (by simp)) hf0
                obtain rfl := GG.out.2.2.1 (hds 2 (by simp))
                clear hds
                have HC := hidD (qminus_c _ _ (cf S n) c V h0 h1 HQS.out HQC.out)
                clear h0 h1
                refine wpOp_go rfl rfl (fun K hK => ?_)
                go_simp
                go_wp2_with (go_at_call 51; refine HC.out.mono ?_; rintro e w5 ⟨v5, rfl, hv5, hb5⟩)
                exact ⟨_, _, _, _, _, _, _, _, _, _, rfl, hidD ⟨GG.out.1, GG.out.2.1, fun _ => rfl, GG.out.2.2.2.1, GG.out.2.2.2.2.1, GG.out.2.2.2.2.2.1, fun h h2 => (GG.out.2.2.2.2.2.2.1 h (by simpa using h2)).below hb5, fun h h2 => (GG.out.2.2.2.2.2.2.2.1 h (by simpa using h2)).below hb5, fun _ _ => hv5, GG.out.2.2.2.2.2.2.2.2.2⟩, hidD ⟨fun h => (SS0.out.1 (by simpa using h)).below hb5, fun h => (SS0.out.2 (by simpa using h)).below hb5⟩⟩
              · have hf0 : D 10 = false := by
                  cases h : D 10 with
                  | false => rfl
                  | true => rw [(hcl 10 _ rfl h 9 (by simp))] at hDi; cases hDi
                have hS0 := SS0.out.1 hf0
                obtain rfl := GG.out.1 (hds 0 (by simp))
                obtain rfl := GG.out.2.1 (hds 1 (by simp))
                clear hds
                refine wpOp_go rfl rfl (fun K hK => ?_)
                go_simp
                exact hK _ _ ⟨_, _, _, _, _, _, _, _, _, _, rfl, hidD ⟨fun _ => rfl, fun _ => rfl, GG.out.2.2.1, GG.out.2.2.2.1, GG.out.2.2.2.2.1, GG.out.2.2.2.2.2.1, fun h h2 => (GG.out.2.2.2.2.2.2.1 h (by simpa using h2)), fun h h2 => (GG.out.2.2.2.2.2.2.2.1 h (by simpa using h2)), fun h h2 => (GG.out.2.2.2.2.2.2.2.2.1 h (by simpa using h2)), fun _ => rfl⟩, hidD ⟨fun h => (SS0.out.1 (by simpa using h)), fun h => (SS0.out.2 (by simpa using h))⟩⟩
              · have hS0 := SS0.out.1 hDi
                have h0 := GG.out.2.2.2.2.2.2.2.2.1 (hds 8 (by simp)) hDi
                obtain rfl := GG.out.2.2.2.2.2.2.2.2.2 (hds 9 (by simp))
                have hE := hS0.1.2.2.1
                obtain ⟨xa, xb, xc, xd, e0, e1, e2, e3, _⟩ := hE.at HSL.out
                have f0 := hE.frozen (n * 4)
                have f1 := hE.frozen (n * 4 + 1)
                have f2 := hE.frozen (n * 4 + 2)
                have f3 := hE.frozen (n * 4 + 3)
                obtain ⟨s9, a9, l9, c9, t9, b9, k9, d9, rfl⟩ := IsRat.form h0
                clear hds
                refine wpOp_go rfl rfl (fun K hK => ?_)
                go_simp
                exact hK _ _ ⟨_, _, _, _, _, _, _, _, _, _, rfl, hidD ⟨GG.out.1, GG.out.2.1, GG.out.2.2.1, GG.out.2.2.2.1, GG.out.2.2.2.2.1, GG.out.2.2.2.2.2.1, fun _ h => by simp at h, fun _ h => by simp at h, fun _ h => by simp at h, fun _ => rfl⟩, hidD ⟨fun h => by simp at h, fun _ => hS0.1.put HSL.out h0⟩⟩
            case fin1 =>
              rintro D act V hDD ⟨t15x, t16x, t17x, t18x, t19x, t20x, t21x, t22x, t23x, t24x, rfl, GG, SS0⟩
              have HM3 := hidD (SS0.out.2 (hDD 10 (by decide)))
              clear GG SS0 hDD
              rw [HSF.out] at HM3
              go_wp2_with fail
              go_meet
              case rel => exact HM3
          | false =>
            have HSF := hidD (show S.set n (cf S n + c) = S' from HSE.out)
            unfold fnJ
            simp only [Bool.false_eq_true, if_false]
            refine wp_region_tab hmx [[], [], [], [], [], [3, 4], [5], [], [2, 6, 7], [0, 1, 0, 1, 2, 3, 4, 5, 6, 7, 8], [9, 8, 8, 0, 1, 2, 3, 4, 5, 6, 7, 8]] (by kernel_rfl) (by decide)
              (fun D act V => ∃ (t15x t16x t17x t18x t19x t20x t21x t22x t23x t24x : Value), act = { tmps := #[Value.pointer (some { block := R, off := 0 }), undef, Value.pointer (some { block := Q, off := 0 }), Value.slice (some { block := b, off := 0 }) 9 9, Value.func (Fn.func 87) #[] #[], Value.pointer (some { block := C, off := 0 }), Value.int IntKind.i64 ↑n, Value.slice (some { block := b, off := 0 }) 9 9, Value.pointer (some { block := R, off := 0 }), Value.bool false, Value.tuple #[Value.agg #[Value.bool s9, Value.slice a9 l9 c9, Value.bool t9, Value.slice b9 k9 d9], Value.int IntKind.i64 ↑n], Value.pointer (some { block := R, off := 0 }), Value.tuple #[Value.agg #[Value.bool s9, Value.slice a9 l9 c9, Value.bool t9, Value.slice b9 k9 d9], Value.int IntKind.i64 ↑n], Value.agg #[Value.bool s9, Value.slice a9 l9 c9, Value.bool t9, Value.slice b9 k9 d9], Value.int IntKind.i64 ↑n, t15x, t16x, t17x, t18x, t19x, t20x, t21x, t22x, t23x, t24x, u25, u26, u27, u28, u29, u30, u31, u32, u33, u34, u35, u36, u37, u38, u39, u40, u41], defers := [] } ∧ Hid ((D 0 = true → t15x = .slice (some ⟨b, 0, none⟩) 9 9) ∧ (D 1 = true → t16x = .int .i64 (n : Int)) ∧ (D 2 = true → t17x = .func (.func 87) #[] #[]) ∧ (D 3 = true → t18x = .slice (some ⟨b, 0, none⟩) 9 9) ∧ (D 4 = true → t19x = .int .i64 (n : Int)) ∧ (D 5 = true → t20x = .pointer (some ⟨b, n * 4, none⟩)) ∧ (D 6 = true → D 10 = false → IsRat V t21x (cf S n)) ∧ (D 7 = true → D 10 = false → IsRat V t22x c) ∧ (D 8 = true → D 10 = false → IsRat V t23x (cf S n + c)) ∧ (D 9 = true → t24x = .pointer (some ⟨b, n * 4, none⟩))) ∧ Hid ((D 10 = false → PoX w V R Q b C s (k5 : Int) S c) ∧ (D 10 = true → PoB w V R Q b s (k5 : Int) (S.set n (cf S n + c)))))
              ⟨_, _, _, _, _, _, _, _, _, _, rfl, hidD ⟨by simp, by simp, by simp, by simp, by simp, by simp, by simp, by simp, by simp, by simp⟩, hidD ⟨fun _ => ST0, by simp⟩⟩ ?step2 ?fin2
            case step2 =>
              rintro D act V i ds hcl hi hds hDi ⟨t15x, t16x, t17x, t18x, t19x, t20x, t21x, t22x, t23x, t24x, rfl, GG, SS0⟩
              have hi6 : i < 11 := (List.getElem?_eq_some_iff.1 hi).1
              obtain rfl | rfl | rfl | rfl | rfl | rfl | rfl | rfl | rfl | rfl | rfl : i = 0 ∨ i = 1 ∨ i = 2 ∨ i = 3 ∨ i = 4 ∨ i = 5 ∨ i = 6 ∨ i = 7 ∨ i = 8 ∨ i = 9 ∨ i = 10 := by omega
              all_goals
                simp only [List.getElem?_cons_zero, List.getElem?_cons_succ, Option.some.injEq] at hi
                subst hi
              · have hf0 : D 10 = false := by
                  cases h : D 10 with
                  | false => rfl
                  | true => rw [(hcl 10 _ rfl h 0 (by simp))] at hDi; cases hDi
                have hS0 := SS0.out.1 hf0
                clear hds
                refine wpOp_go rfl rfl (fun K hK => ?_)
                go_simp
                exact hK _ _ ⟨_, _, _, _, _, _, _, _, _, _, rfl, hidD ⟨fun _ => rfl, GG.out.2.1, GG.out.2.2.1, GG.out.2.2.2.1, GG.out.2.2.2.2.1, GG.out.2.2.2.2.2.1, fun h h2 => (GG.out.2.2.2.2.2.2.1 h (by simpa using h2)), fun h h2 => (GG.out.2.2.2.2.2.2.2.1 h (by simpa using h2)), fun h h2 => (GG.out.2.2.2.2.2.2.2.2.1 h (by simpa using h2)), GG.out.2.2.2.2.2.2.2.2.2⟩, hidD ⟨fun h => (SS0.out.1 (by simpa using h)), fun h => (SS0.out.2 (by simpa using h))⟩⟩
              · have hf0 : D 10 = false := by
                  cases h : D 10 with
                  | false => rfl
                  | true => rw [(hcl 10 _ rfl h 1 (by simp))] at hDi; cases hDi
                have hS0 := SS0.out.1 hf0
                clear hds
                refine wpOp_go rfl rfl (fun K hK => ?_)
                go_simp
                exact hK _ _ ⟨_, _, _, _, _, _, _, _, _, _, rfl, hidD ⟨GG.out.1, fun _ => rfl, GG.out.2.2.1, GG.out.2.2.2.1, GG.out.2.2.2.2.1, GG.out.2.2.2.2.2.1, fun h h2 => (GG.out.2.2.2.2.2.2.1 h (by simpa using h2)), fun h h2 => (GG.out.2.2.2.2.2.2.2.1 h (by simpa using h2)), fun h h2 => (GG.out.2.2.2.2.2.2.2.2.1 h (by simpa using h2)), GG.out.2.2.2.2.2.2.2.2.2⟩, hidD ⟨fun h => (SS0.out.1 (by simpa using h)), fun h => (SS0.out.2 (by simpa using h))⟩⟩
              · have hf0 : D 10 = false := by
                  cases h : D 10 with
                  | false => rfl
                  | true => rw [(hcl 10 _ rfl h 2 (by simp))] at hDi; cases hDi
                have hS0 := SS0.out.1 hf0
                clear hds
                refine wpOp_go rfl rfl (fun K hK => ?_)
                go_simp
                exact hK _ _ ⟨_, _, _, _, _, _, _, _, _, _, rfl, hidD ⟨GG.out.1, GG.out.2.1, fun _ => rfl, GG.out.2.2.2.1, GG.out.2.2.2.2.1, GG.out.2.2.2.2.2.1, fun h h2 => (GG.out.2.2.2.2.2.2.1 h (by simpa using h2)), fun h h2 => (GG.out.2.2.2.2.2.2.2.1 h (by simpa using h2)), fun h h2 => (GG.out.2.2.2.2.2.2.2.2.1 h (by simpa using h2)), GG.out.2.2.2.2.2.2.2.2.2⟩, hidD ⟨fun h => (SS0.out.1 (by simpa using h)), fun h => (SS0.out.2 (by simpa using h))⟩⟩
              · have hf0 : D 10 = false := by
                  cases h : D 10 with
                  | false => rfl
                  | true => rw [(hcl 10 _ rfl h 3 (by simp))] at hDi; cases hDi
                have hS0 := SS0.out.1 hf0
                clear hds
                refine wpOp_go rfl rfl (fun K hK => ?_)
                go_simp
                exact hK _ _ ⟨_, _, _, _, _, _, _, _, _, _, rfl, hidD ⟨GG.out.1, GG.out.2.1, GG.out.2.2.1, fun _ => rfl, GG.out.2.2.2.2.1, GG.out.2.2.2.2.2.1, fun h h2 => (GG.out.2.2.2.2.2.2.1 h (by simpa using h2)), fun h h2 => (GG.out.2.2.2.2.2.2.2.1 h (by simpa using h2)), fun h h2 => (GG.out.2.2.2.2.2.2.2.2.1 h (by simpa using h2)), GG.out.2.2.2.2.2.2.2.2.2⟩, hidD ⟨fun h => (SS0.out.1 (by simpa using h)), fun h => (SS0.out.2 (by simpa using h))⟩⟩
              · have hf0 : D 10 = false := by
                  cases h : D 10 with
                  | false => rfl
                  | true => rw [(hcl 10 _ rfl h 4 (by simp))] at hDi; cases hDi
                have hS0 := SS0.out.1 hf0
                clear hds
                refine wpOp_go rfl rfl (fun K hK => ?_)
                go_simp
                exact hK _ _ ⟨_, _, _, _, _, _, _, _, _, _, rfl, hidD ⟨GG.out.1, GG.out.2.1, GG.out.2.2.1, GG.out.2.2.2.1, fun _ => rfl, GG.out.2.2.2.2.2.1, fun h h2 => (GG.out.2.2.2.2.2.2.1 h (by simpa using h2)), fun h h2 => (GG.out.2.2.2.2.2.2.2.1 h (by simpa using h2)), fun h h2 => (GG.out.2.2.2.2.2.2.2.2.1 h (by simpa using h2)), GG.out.2.2.2.2.2.2.2.2.2⟩, hidD ⟨fun h => (SS0.out.1 (by simpa using h)), fun h => (SS0.out.2 (by simpa using h))⟩⟩
              · have hf0 : D 10 = false := by
                  cases h : D 10 with
                  | false => rfl
                  | true => rw [(hcl 10 _ rfl h 5 (by simp))] at hDi; cases hDi
                have hS0 := SS0.out.1 hf0
                obtain rfl := GG.out.2.2.2.1 (hds 3 (by simp))
                obtain rfl := GG.out.2.2.2.2.1 (hds 4 (by simp))
                clear hds
                refine wpOp_go rfl rfl (fun K hK => ?_)
                go_simp
                exact hK _ _ ⟨_, _, _, _, _, _, _, _, _, _, rfl, hidD ⟨GG.out.1, GG.out.2.1, GG.out.2.2.1, fun _ => rfl, fun _ => rfl, fun _ => rfl, fun h h2 => (GG.out.2.2.2.2.2.2.1 h (by simpa using h2)), fun h h2 => (GG.out.2.2.2.2.2.2.2.1 h (by simpa using h2)), fun h h2 => (GG.out.2.2.2.2.2.2.2.2.1 h (by simpa using h2)), GG.out.2.2.2.2.2.2.2.2.2⟩, hidD ⟨fun h => (SS0.out.1 (by simpa using h)), fun h => (SS0.out.2 (by simpa using h))⟩⟩
              · have hf0 : D 10 = false := by
                  cases h : D 10 with
                  | false => rfl
                  | true => rw [(hcl 10 _ rfl h 6 (by simp))] at hDi; cases hDi
                have hS0 := SS0.out.1 hf0
                obtain rfl := GG.out.2.2.2.2.2.1 (hds 5 (by simp))
                obtain ⟨xa, xb, xc, xd, e0, e1, e2, e3, hr⟩ := hS0.1.2.2.1.at HSL.out
                clear hds
                refine wpOp_go rfl rfl (fun K hK => ?_)
                go_simp
                exact hK _ _ ⟨_, _, _, _, _, _, _, _, _, _, rfl, hidD ⟨GG.out.1, GG.out.2.1, GG.out.2.2.1, GG.out.2.2.2.1, GG.out.2.2.2.2.1, fun _ => rfl, fun _ _ => hr, fun h h2 => (GG.out.2.2.2.2.2.2.2.1 h (by simpa using h2)), fun h h2 => (GG.out.2.2.2.2.2.2.2.2.1 h (by simpa using h2)), GG.out.2.2.2.2.2.2.2.2.2⟩, hidD ⟨fun h => (SS0.out.1 (by simpa using h)), fun h => (SS0.out.2 (by simpa using h))⟩⟩
              · have hf0 : D 10 = false := by
                  cases h : D 10 with
                  | false => rfl
                  | true => rw [(hcl 10 _ rfl h 7 (by simp))] at hDi; cases hDi
                have hS0 := SS0.out.1 hf0
                obtain ⟨hB0, s8, a8, l8, c8, t8, b8, k8, d8, n8, r8⟩ := hS0
                have e0 := n8.c0
                have e1 := n8.c1
                have e2 := n8.c2
                have e3 := n8.c3
                clear hds
                refine wpOp_go rfl rfl (fun K hK => ?_)
                go_simp
                exact hK _ _ ⟨_, _, _, _, _, _, _, _, _, _, rfl, hidD ⟨GG.out.1, GG.out.2.1, GG.out.2.2.1, GG.out.2.2.2.1, GG.out.2.2.2.2.1, GG.out.2.2.2.2.2.1, fun h h2 => (GG.out.2.2.2.2.2.2.1 h (by simpa using h2)), fun _ _ => r8, fun h h2 => (GG.out.2.2.2.2.2.2.2.2.1 h (by simpa using h2)), GG.out.2.2.2.2.2.2.2.2.2⟩, hidD ⟨fun h => (SS0.out.1 (by simpa using h)), fun h => (SS0.out.2 (by simpa using h))⟩⟩
              · have hf0 : D 10 = false := by
                  cases h : D 10 with
                  | false => rfl
                  | true => rw [(hcl 10 _ rfl h 8 (by simp))] at hDi; cases hDi
                have hS0 := SS0.out.1 hf0
                have h0 := GG.out.2.2.2.2.2.2.1 (hds 6 (by simp)) hf0
                have h1 := GG.out.2.2.2.2.2.2.2.1 (hds 7 (by simp)) hf0
                obtain rfl := GG.out.2.2.1 (hds 2 (by simp))
                clear hds
                have HC := hidD (qplus_c _ _ (cf S n) c V h0 h1 HQS.out HQC.out)
                clear h0 h1
                refine wpOp_go rfl rfl (fun K hK => ?_)
                go_simp
                go_wp2_with (go_at_call 87; refine HC.out.mono ?_; rintro e w5 ⟨v5, rfl, hv5, hb5⟩)
                exact ⟨_, _, _, _, _, _, _, _, _, _, rfl, hidD ⟨GG.out.1, GG.out.2.1, fun _ => rfl, GG.out.2.2.2.1, GG.out.2.2.2.2.1, GG.out.2.2.2.2.2.1, fun h h2 => (GG.out.2.2.2.2.2.2.1 h (by simpa using h2)).below hb5, fun h h2 => (GG.out.2.2.2.2.2.2.2.1 h (by simpa using h2)).below hb5, fun _ _ => hv5, GG.out.2.2.2.2.2.2.2.2.2⟩, hidD ⟨fun h => (SS0.out.1 (by simpa using h)).below hb5, fun h => (SS0.out.2 (by simpa using h)).below hb5⟩⟩
              · have hf0 : D 10 = false := by
                  cases h : D 10 with
                  | false => rfl
                  | true => rw [(hcl 10 _ rfl h 9 (by simp))] at hDi; cases hDi
                have hS0 := SS0.out.1 hf0
                obtain rfl := GG.out.1 (hds 0 (by simp))
                obtain rfl := GG.out.2.1 (hds 1 (by simp))
                clear hds
                refine wpOp_go rfl rfl (fun K hK => ?_)
                go_simp
                exact hK _ _ ⟨_, _, _, _, _, _, _, _, _, _, rfl, hidD ⟨fun _ => rfl, fun _ => rfl, GG.out.2.2.1, GG.out.2.2.2.1, GG.out.2.2.2.2.1, GG.out.2.2.2.2.2.1, fun h h2 => (GG.out.2.2.2.2.2.2.1 h (by simpa using h2)), fun h h2 => (GG.out.2.2.2.2.2.2.2.1 h (by simpa using h2)), fun h h2 => (GG.out.2.2.2.2.2.2.2.2.1 h (by simpa using h2)), fun _ => rfl⟩, hidD ⟨fun h => (SS0.out.1 (by simpa using h)), fun h => (SS0.out.2 (by simpa using h))⟩⟩
              · have hS0 := SS0.out.1 hDi
                have h0 := GG.out.2.2.2.2.2.2.2.2.1 (hds 8 (by simp)) hDi
                obtain rfl := GG.out.2.2.2.2.2.2.2.2.2 (hds 9 (by simp))
                have hE := hS0.1.2.2.1
                obtain ⟨xa, xb, xc, xd, e0, e1, e2, e3, _⟩ := hE.at HSL.out
                have f0 := hE.frozen (n * 4)
                have f1 := hE.frozen (n * 4 + 1)
                have f2 := hE.frozen (n * 4 + 2)
                have f3 := hE.frozen (n * 4 + 3)
                obtain ⟨s9, a9, l9, c9, t9, b9, k9, d9, rfl⟩ := IsRat.form h0
                clear hds
                refine wpOp_go rfl rfl (fun K hK => ?_)
                go_simp
                exact hK _ _ ⟨_, _, _, _, _, _, _, _, _, _, rfl, hidD ⟨GG.out.1, GG.out.2.1, GG.out.2.2.1, GG.out.2.2.2.1, GG.out.2.2.2.2.1, GG.out.2.2.2.2.2.1, fun _ h => by simp at h, fun _ h => by simp at h, fun _ h => by simp at h, fun _ => rfl⟩, hidD ⟨fun h => by simp at h, fun _ => hS0.1.put HSL.out h0⟩⟩
            case fin2 =>
              rintro D act V hDD ⟨t15x, t16x, t17x, t18x, t19x, t20x, t21x, t22x, t23x, t24x, rfl, GG, SS0⟩
              have HM3 := hidD (SS0.out.2 (hDD 10 (by decide)))
              clear GG SS0 hDD
              rw [HSF.out] at HM3
              go_wp2_with fail
              go_meet
              case rel => exact HM3
        clear ST0
        have HP6 := hcut
        clear hcut
        cases h43 : isAt (wlst s) J 43 with
        | true =>
          have hJ1 : J + 1 ≤ s.size := by have := isAt_lt h43; rw [wlst_len] at this; omega
          have HTT := hidD (show sumS (wlst s) f false (J + 1) S' = totS (wlst s) by have e := HTS.out; rw [if_pos h43] at e; exact e)
          have HF1 := hidD (fun (V : World) (hh : RcB V R s (k5 : Int)) => found_c R s k5 43 V hh hk5 hs true (by rw [HJ.out, h43]))
          rw [HJ.out] at HF1
          clear h43
          go_wp2_with (go_at_call 124; refine (HF1.out _ HP6.out.1).mono ?_; clear HF1; rintro e w7 ⟨rfl, hr7, hg7⟩; have HP7 := hidD (HP6.out.rc hr7 hg7); clear hr7 hg7)
          go_roundw
          case rel => exact ⟨false, J + 1, f, m + 1, S', rfl, hJ1, HP7, HS1, hidD ⟨by have := HT.out.1; have := HLT.out; have := HJ5.out; omega, by have := HT.out.2.1; have := HLT.out; have := HJ5.out; omega, HTT.out⟩⟩
          case measure =>
            have e1 := rcI_of (I := J + 1) HP7.out.1
            rw [e1, HRI.out]
            have := HLT.out
            have := HJ5.out
            omega
        | false =>
          have HF1 := hidD (fun (V : World) (hh : RcB V R s (k5 : Int)) => found_c R s k5 43 V hh hk5 hs false (by rw [HJ.out, h43]))
          rw [HJ.out] at HF1
          cases h45 : isAt (wlst s) J 45 with
          | true =>
            have hJ1 : J + 1 ≤ s.size := by have := isAt_lt h45; rw [wlst_len] at this; omega
            have HTT := hidD (show sumS (wlst s) f true (J + 1) S' = totS (wlst s) by have e := HTS.out; rw [if_neg (by rw [h43]; decide), if_pos h45] at e; exact e)
            have HF2 := hidD (fun (V : World) (hh : RcB V R s (J : Int)) => found_c R s J 45 V hh hJs hs true (by rw [HJJ.out, h45]))
            rw [HJJ.out] at HF2
            clear h43 h45
            go_wp2_with (first
              | (go_at_call 124; refine (HF1.out _ HP6.out.1).mono ?_; clear HF1; rintro e w7 ⟨rfl, hr7, hg7⟩; have HP7 := hidD (HP6.out.rc hr7 hg7); clear hr7 hg7)
              | (go_at_call 124; refine (HF2.out _ HP7.out.1).mono ?_; clear HF2; rintro e w8 ⟨rfl, hr8, hg8⟩; have HP8 := hidD (HP7.out.rc hr8 hg8); clear hr8 hg8))
            go_roundw
            case rel => exact ⟨true, J + 1, f, m + 1, S', rfl, hJ1, HP8, HS1, hidD ⟨by have := HT.out.1; have := HLT.out; have := HJ5.out; omega, by have := HT.out.2.1; have := HLT.out; have := HJ5.out; omega, HTT.out⟩⟩
            case measure =>
              have e1 := rcI_of (I := J + 1) HP8.out.1
              rw [e1, HRI.out]
              have := HLT.out
              have := HJ5.out
              omega
          | false =>
            have HF2 := hidD (fun (V : World) (hh : RcB V R s (J : Int)) => found_c R s J 45 V hh hJs hs false (by rw [HJJ.out, h45]))
            rw [HJJ.out] at HF2
            have HF3 := hidD (fun (V : World) (hh : RcB V R s (J : Int)) => ended_c R s J V hh hJs hs)
            rw [HJJ.out] at HF3
            by_cases hJe : J = s.size
            · have HTT := hidD (show totS (wlst s) = .ok S' J by have e := HTS.out; rw [if_neg (by rw [h43]; decide), if_neg (by rw [h45]; decide), if_pos (by rw [wlst_len]; exact hJe)] at e; exact e.symm)
              rw [show decide (J = s.size) = true from decide_eq_true hJe] at HF3
              have HMD := hidD (fun (V : World) (hE : Els true V b S') => ymade_c (.slice (some ⟨b, 0, none⟩) 9 9) S' V (by
                have hrow := hE.row (n := 9) (cap := 9) (by rw [HS1.out.1]; exact Nat.le_refl _) (Nat.le_refl _) (by omega) (by omega)
                rwa [List.take_of_length_le (by rw [HS1.out.1]; exact Nat.le_refl _)] at hrow) (Sqs.of fun i => Sq.of (HS1.out.2 i) (by have := HT.out.1; omega)))
              clear h43 h45 hJe
              go_wp2_with (first
                | (go_at_call 124; refine (HF1.out _ HP6.out.1).mono ?_; clear HF1; rintro e w7 ⟨rfl, hr7, hg7⟩; have HP7 := hidD (HP6.out.rc hr7 hg7); clear hr7 hg7)
                | (go_at_call 124; refine (HF2.out _ HP7.out.1).mono ?_; clear HF2; rintro e w8 ⟨rfl, hr8, hg8⟩; have HP8 := hidD (HP7.out.rc hr8 hg8); clear hr8 hg8)
                | (go_at_call 126; refine (HF3.out _ HP8.out.1).mono ?_; clear HF3; rintro e w9 ⟨rfl, hr9, hg9⟩; have HP9 := hidD (HP8.out.rc hr9 hg9); clear hr9 hg9)
                | (go_at_call 27; refine (HMD.out _ HP9.out.2.2.1).mono ?_; clear HMD; rintro e w10 ⟨u10, rfl, hu10, _, hq10⟩; obtain ⟨a7, l7, c7, rfl⟩ := hu10.form; have HP10 := hidD (HP9.out.below hq10); have x0 := HP10.out.2.1.cell; have x1 := HP10.out.2.1.frozen; have HU10 := hidD hu10.row; clear hu10 hq10))
              refine bodyPost_ret (v := .agg #[.slice a7 l7 c7]) (by simp [results, Tryz.results94, go_sem, x0]) rfl ⟨grown_new HP10.out.2.2.2.1 HP10.out.2.2.2.2.1 0 _, fun e q he => ?_, fun S'' k he => ?_⟩
              · rw [HTT.out] at he; cases he
              · rw [HTT.out] at he
                cases he
                exact ⟨_, rfl, ⟨_, rfl, boxP HP10.out.2.1 _ HU10.out⟩, m + 1, by have := HT.out.1; have := HLT.out; omega, HS1.out⟩
            · have HTT := hidD (show totS (wlst s) = .bad 2 J by have e := HTS.out; rw [if_neg (by rw [h43]; decide), if_neg (by rw [h45]; decide), if_neg (by rw [wlst_len]; exact hJe)] at e; exact e.symm)
              rw [show decide (J = s.size) = false from decide_eq_false hJe] at HF3
              clear h43 h45 hJe
              go_wp2_with (first
                | (go_at_call 124; refine (HF1.out _ HP6.out.1).mono ?_; clear HF1; rintro e w7 ⟨rfl, hr7, hg7⟩; have HP7 := hidD (HP6.out.rc hr7 hg7); clear hr7 hg7)
                | (go_at_call 124; refine (HF2.out _ HP7.out.1).mono ?_; clear HF2; rintro e w8 ⟨rfl, hr8, hg8⟩; have HP8 := hidD (HP7.out.rc hr8 hg8); clear hr8 hg8)
                | (go_at_call 126; refine (HF3.out _ HP8.out.1).mono ?_; clear HF3; rintro e w9 ⟨rfl, hr9, hg9⟩; have c19 := hr9.c1; have HP9 := hidD (HP8.out.rc hr9 hg9); clear hr9 hg9)
                | (go_at_call 127; refine (HF.out _ _ _).mono ?_; clear HF; rintro e w10 ⟨rfl, rfl⟩))
              refine ⟨rfl, HP9.out.2.2.2.1, fun e q he => ?_, fun S'' k he => ?_⟩
              · rw [HTT.out] at he; cases he; rfl
              · rw [HTT.out] at he; cases he
end Go.Proofs.YteldjhhjnchdeaaGreatDoor
namespace Go.Proofs.YteldjhhjnchdeaaGreatDoor
open Go.RowKit Go.Shelf

attribute [local go_sem] Oper.semAt_some

/-- A fraction that can be worked with twice. -/
@[irreducible] def Sq1 (q : Rat) : Prop := SmQ 100000 q
theorem Sq1.of {k : Nat} {q : Rat} (h : SmQ k q) (hk : k ≤ 100000) : Sq1 q := by unfold Sq1; exact h.mono hk
theorem Sq1.sm {q : Rat} (h : Sq1 q) : SmQ 100000 q := by unfold Sq1 at h; exact h
theorem Sq1.sq {q : Rat} (h : Sq1 q) : Sq q := Sq.of h.sm (by omega)

theorem floor_divInt {n d : Int} (hd : 0 < d) : (Rat.divInt n d).num / ((Rat.divInt n d).den : Int) = n / d := by
  have h0 : d ≠ 0 := by omega
  have hg := gcd_posZ' (x := n) h0
  rw [reduced_num h0, reduced_den h0, if_neg (by omega)]
  obtain ⟨a, ha⟩ : ((Int.gcd n d : Nat) : Int) ∣ n := Int.gcd_dvd_left ..
  obtain ⟨b, hb⟩ : ((Int.gcd n d : Nat) : Int) ∣ d := Int.gcd_dvd_right ..
  generalize ((Int.gcd n d : Nat) : Int) = gg at *
  rw [ha, hb, Int.mul_ediv_cancel_left _ (by omega), Int.mul_ediv_cancel_left _ (by omega), Int.mul_ediv_mul_of_pos _ _ hg]

theorem floor_ten (q : Rat) (t : Int) : (q * (t : Rat)).num / ((q * (t : Rat)).den : Int) = q.num * t / (q.den : Int) := by
  have h : q * (t : Rat) = Rat.divInt (q.num * t) (q.den : Int) := by
    rw [← mul_eq]
    show Rat.divInt (q.num * t) ((q.den : Int) * 1) = _
    rw [Int.mul_one]
  rw [h, floor_divInt (by have := q.den_pos; omega)]

set_option maxRecDepth 100000 in
set_option maxHeartbeats 1000000 in
theorem rabs_c (va : Value) (x : Int) (w : World) (ha : IsBig w va x) :
    Calls Tryz.prog 38 #[va] w fun e w' => ∃ u, e = .returned u ∧ IsBig w' u (x.natAbs : Int) ∧ Below w.heap.size w w' := by
  obtain ⟨a900, l900, c900, s900, rfl⟩ := IsBig.form2 ha
  have M0 := (((Mem.nil w).push (.big (x)) ha).push (.big 0) (big0 _))
  simp only [World.size_alloc] at M0
  have M0 : Mem w ((w.alloc (.cells #[.slice a900 l900 c900, .bool s900] 83)).alloc (.cells #[.slice none 0 0, .bool false] 83)) [some (w.heap.size, .big (x)), some (w.heap.size + 1, .big (0))] := M0
  obtain ⟨W0, hW0⟩ : ∃ W0, (w.alloc (.cells #[.slice a900 l900 c900, .bool s900] 83)).alloc (.cells #[.slice none 0 0, .bool false] 83) = W0 := ⟨_, rfl⟩
  have HW0 := hidD hW0
  rw [hW0] at M0
  have M1 : Hid (Mem w W0 [some (w.heap.size, .big (x)), some (w.heap.size + 1, .big (0))]) := hidD M0
  clear M0 hW0 ha 
  go_enter Tryz.func38, Tryz.ntmps38
  go_upto_region 1 with fail
  rw [HW0.out]
  clear HW0
  obtain ⟨a1, l1, c1, s1, n1, i1⟩ := M1.out.big (i := 0) rfl
  have e1a := n1.c0
  have e1b := n1.c1
  obtain ⟨a2, l2, c2, s2, n2, i2⟩ := M1.out.big (i := 1) rfl
  have e2a := n2.c0
  have e2b := n2.c1
  have f2a := n2.f0
  have f2b := n2.f1
  have hI : IsBig W0 (.agg #[.slice a1 l1 c1, .bool false]) (x.natAbs : Int) := by
    obtain ⟨a, l, c, e, hr⟩ := i1
    simp only [Value.agg.injEq, Array.mk.injEq, List.cons.injEq, Value.slice.injEq, Value.bool.injEq, and_true] at e
    obtain ⟨⟨e1, e2, e3⟩, _⟩ := e
    exact ⟨a, l, c, by rw [decide_eq_false (by omega), e1, e2, e3], by rw [Int.natAbs_natCast]; exact hr⟩
  go_wp2_with fail
  have hq2 := M1.out.2.2
  have hge := M1.out.ge 1 rfl
  exact bodyPost_ret (v := .agg #[.slice a1 l1 c1, .bool false]) (by simp [results, Tryz.results38, go_sem, e2a, e2b]) rfl ⟨_, rfl, hI.box n2 rfl rfl, (hq2.setCell (p := ⟨_, 0, none⟩) hge _).setCell (p := ⟨_, 1, none⟩) hge _⟩

/-- The text of a value. -/
def txtOf : Value → ByteArray | .string s => s | _ => ⟨#[]⟩

theorem pad_loop {k j : Nat} {d : List UInt8} (h : j = 0 ∨ j + d.length ≤ k + 1) (hk : k < j + d.length) : List.replicate j 48 ++ d = padL k d := by
  unfold padL
  rw [show k + 1 - d.length = j by omega]

theorem points_text2 (z : Int) (k : Nat) (P E1 E2 : ByteArray) (m : Nat) (hP : P = ⟨(padL k (decN z.natAbs)).toArray⟩) (hm : m = P.size - k) (h1 : P.extract 0 m = E1) (h2 : P.extract m P.size = E2) :
    (⟨(pointsL z k).toArray⟩ : ByteArray) = if z < 0 then ⟨#[45]⟩ ++ (if 0 < k then E1 ++ ⟨#[46]⟩ ++ E2 else P) else (if 0 < k then E1 ++ ⟨#[46]⟩ ++ E2 else P) := by
  rw [points_text z k P E1 E2 m hP hm h1 h2]
  have hk0 : ¬ 0 < k → E1 = P := by
    intro h
    rw [← h1, hm, show P.size - k = P.size by omega]
    exact ByteArray.extract_zero_size
  by_cases hz : z < 0 <;> by_cases hk : 0 < k
  · simp only [hz, hk, if_true]
    rw [ByteArray.append_assoc, ByteArray.append_assoc]
  · simp only [hz, hk, if_true, if_false]
    rw [hk0 hk]
  · simp only [hz, hk, if_true, if_false]
    rw [ByteArray.append_assoc]
  · simp only [hz, hk, if_false]
    rw [hk0 hk]

end Go.Proofs.YteldjhhjnchdeaaGreatDoor
namespace Go.Proofs.YteldjhhjnchdeaaGreatDoor
open Go.RowKit Go.Shelf

attribute [local go_sem] Oper.semAt_some
set_option linter.unusedSimpArgs false

def BelB (w V : World) : Prop := Below w.heap.size w V
theorem BelB.below {w V V' : World} (h : BelB w V) (hb : Below V.heap.size V V') : BelB w V' := Below.trans h (hb.mono (Below.size h))
theorem sq_abs {q : Rat} (h : Sq q) : Sq (absQ q) := by
  unfold absQ
  split
  · exact h.neg
  · exact h
theorem term_fin {ps : List Rat} {k : Nat} {T : List UInt8} (hlt : k < ps.length) (hc : cf ps k ≠ 0) (hT : polyT (ps.drop (k + 1)) (k + 1) = T) : polyT (ps.drop k) k = (T ++ signL (cf ps k) T.isEmpty) ++ coefL (cf ps k) k ++ powL k := by
  rw [polyT_drop ps hlt, if_neg hc, hT]
  unfold termL
  simp only [List.append_assoc]
theorem textP_trim {ps : List Rat} (h0 : ps ≠ []) (h : trimQ ps = ps) : polyT ps 0 ≠ [] := by
  have h1 := trim_last h h0
  have hl : 0 < ps.length := List.length_pos_iff.2 h0
  have hk : ∀ j, j < ps.length → polyT (ps.drop (ps.length - 1 - j)) (ps.length - 1 - j) ≠ [] := by
    intro j
    induction j with
    | zero =>
      intro _
      rw [Nat.sub_zero, polyT_drop ps (by omega), if_neg h1]
      intro h2
      exact termL_ne _ _ _ (List.append_eq_nil_iff.1 h2).2
    | succ j ih =>
      intro hj
      rw [polyT_drop ps (by omega), show ps.length - 1 - (j + 1) + 1 = ps.length - 1 - j from by omega]
      split
      · exact ih (by omega)
      · intro h2
        exact termL_ne _ _ _ (List.append_eq_nil_iff.1 h2).2
  have := hk (ps.length - 1) (by omega)
  rw [Nat.sub_self, List.drop_zero] at this
  exact this
theorem sign_neg {q : Rat} {sg : Int} (h : q.num.sign = sg) (h0 : sg < 0) : q < 0 := neg_num.2 (by rw [← h] at h0; exact Int.sign_eq_neg_one_iff_neg.1 (by have := Int.sign_trichotomy q.num; omega))
theorem sign_pos {q : Rat} {sg : Int} (h : q.num.sign = sg) (h0 : ¬ sg < 0) : ¬ q < 0 := fun h1 => h0 (by rw [← h, Int.sign_eq_neg_one_iff_neg.2 (neg_num.1 h1)]; decide)

set_option maxRecDepth 100000 in
set_option maxHeartbeats 4000000 in
theorem xText_c (va : Value) (ps : List Rat) (w : World) (ha : RowK false w va ps) (hps : Sqs ps) (hT : ∀ m, (polyT (ps.drop m) m).length ≤ 140737488355328) (htr : trimQ ps = ps) (htab : Pow10 w) :
    Calls Tryz.prog 12 #[va] w fun e w' => e = .returned (.string ⟨(textP ps).toArray⟩) ∧ Below w.heap.size w w' := by
  have hmx : Tryz.prog.follows .mixedOrders = true := by kernel_rfl
  obtain ⟨a, la, ca, rfl⟩ := ha.form
  obtain ⟨hla, hca, hcma, hlma, s, t, aa, bb, ll, cc, kk, dd, hc⟩ := ha.formsF
  have HA := hidD hc
  have HP := hidD hps
  have HLA := hidD hla
  have HTL := hidD hT
  have HTR := hidD htr
  have HTB := hidD htab
  clear ha hps hla hca hcma hc hT htr htab
  by_cases h0 : la = 0
  · have h0b : ((la : Int) == 0) = true := by rw [h0]; rfl
    have HE := hidD (show (⟨(textP ps).toArray⟩ : ByteArray) = ⟨#[48]⟩ by rw [List.length_eq_zero_iff.1 (by have := HLA.out; omega : ps.length = 0)]; rfl)
    clear h0
    go_enter Tryz.func12, Tryz.ntmps12
    go_wp2
    go_ret
    exact ⟨by rw [HE.out]; rfl, Below.refl _ _⟩
  · have h0b : ((la : Int) == 0) = false := by rw [beq_eq_false_iff_ne]; omega
    go_enter Tryz.func12, Tryz.ntmps12
    go_wp2
    go_loopw [3, 4] (fun sv iv wr => ∃ m : Nat, m ≤ la ∧ sv = .string ⟨(polyT (ps.drop m) m).toArray⟩ ∧ iv = .int .i64 ((m : Int) - 1) ∧ Hid (Below w.heap.size w wr)) (fun _ i _ => (intOf i + 1).toNat)
    case atStart => exact ⟨la, Nat.le_refl _, by rw [List.drop_eq_nil_of_le (by have := HLA.out; omega)]; rfl, rfl, hidD (Below.refl _ _)⟩
    case round =>
      obtain ⟨m, hm, rfl, rfl, HG⟩ := hrel
      by_cases hm0 : m = 0
      · subst hm0
        have HE := hidD (show (⟨(textP ps).toArray⟩ : ByteArray) = ⟨(polyT (ps.drop 0) 0).toArray⟩ by unfold textP; rw [if_neg (textP_trim (fun h => h0 (by have := HLA.out; rw [h] at this; simpa using this)) HTR.out), List.drop_zero])
        obtain ⟨SS, hSS⟩ : ∃ S : ByteArray, ⟨(polyT (ps.drop 0) 0).toArray⟩ = S := ⟨_, rfl⟩
        rw [hSS] at HE ⊢
        clear hSS
        go_wp2
        go_ret
        exact ⟨by rw [HE.out]; rfl, HG.out⟩
      · obtain ⟨k, rfl⟩ : ∃ k, m = k + 1 := ⟨m - 1, by omega⟩
        have hk1 : ((k + 1 : Nat) : Int) - 1 = (k : Int) := by omega
        rw [hk1]
        have hlt : k < la := by omega
        have hlt2 : (k : Int) < (la : Int) := by omega
        obtain ⟨T, hTT⟩ : ∃ T : List UInt8, polyT (ps.drop (k + 1)) (k + 1) = T := ⟨_, rfl⟩
        rw [hTT]
        obtain ⟨ST, hST⟩ : ∃ S : ByteArray, (⟨T.toArray⟩ : ByteArray) = S := ⟨_, rfl⟩
        rw [hST]
        obtain ⟨hi, b, rfl, hb, c0, c1, c2, c3⟩ := HA.out k hlt
        have HCL := hidD (show ∀ V, Below w.heap.size w V → (V.cell? ⟨b, k * 4, none⟩ = some (.slice (aa k) (ll k) (cc k)) ∧ V.cell? ⟨b, k * 4 + 1, none⟩ = some (.bool (s k)) ∧ V.cell? ⟨b, k * 4 + 2, none⟩ = some (.slice (bb k) (kk k) (dd k)) ∧ V.cell? ⟨b, k * 4 + 3, none⟩ = some (.bool (t k))) ∧ IsRef V (.agg #[.slice (aa k) (ll k) (cc k), .bool (s k), .slice (bb k) (kk k) (dd k), .bool (t k)]) (cf ps k) from fun V hB => by
          exact ⟨⟨(hB.cell (p := ⟨b, _, none⟩) hb).trans c0, (hB.cell (p := ⟨b, _, none⟩) hb).trans c1, (hB.cell (p := ⟨b, _, none⟩) hb).trans c2, (hB.cell (p := ⟨b, _, none⟩) hb).trans c3⟩, hi.below hB⟩)
        clear hi c0 c1 c2 c3 hb
        obtain ⟨⟨e0, e1, e2, e3⟩, hr⟩ := HCL.out wr HG.out
        have HS1 := hidD (ssign_c _ _ wr hr)
        obtain ⟨sg, hsg⟩ : ∃ x, (cf ps k).num.sign = x := ⟨_, rfl⟩
        rw [hsg] at HS1
        have HSG := hidD hsg
        have HTT := hidD hTT
        have HST := hidD hST
        clear hr hTT hST hsg hk1 hm0
        by_cases hz : sg = 0
        · have hzb : (sg == 0) = true := by rw [hz]; rfl
          have HX := hidD (show ST = ⟨(polyT (ps.drop k) k).toArray⟩ by rw [polyT_drop ps (by have := HLA.out; omega), if_pos (Rat.num_eq_zero.1 (Int.sign_eq_zero_iff_zero.1 (HSG.out.trans hz))), HTT.out, HST.out])
          clear hz
          go_wp2_with (first
            | (go_at_call 36; refine HS1.out.mono ?_; clear HS1; rintro e w1 ⟨rfl, hb1⟩; have HG1 := hidD (HG.out.trans (hb1.mono HG.out.size)); clear hb1 e0 e1 e2 e3))
          go_roundw
          case rel => exact ⟨k, by omega, congrArg Value.string HX.out, by first | rfl | go_num, hidD HG1.out⟩
          case measure => first | (simp [intOf]; done) | (simp [intOf]; omega)
        · have hzb : (sg == 0) = false := by rw [beq_eq_false_iff_ne]; exact hz
          go_upto_region 8 with (first
            | (go_at_call 36; refine HS1.out.mono ?_; clear HS1; rintro e w1 ⟨rfl, hb1⟩; have HG1 := hidD (HG.out.trans (hb1.mono HG.out.size)); clear hb1 e0 e1 e2 e3; obtain ⟨⟨e0, e1, e2, e3⟩, hr⟩ := HCL.out w1 HG1.out; have HS2 := hidD (ssign_c _ _ w1 hr); rw [HSG.out] at HS2; clear hr))
          go_upto_if 27 with (first
            | (go_at_call 36; refine HS2.out.mono ?_; clear HS2; rintro e w2 ⟨rfl, hb2⟩; have HG2 := hidD (HG1.out.trans (hb2.mono HG1.out.size)); clear hb2 e0 e1 e2 e3))
          go_cut [3] (fun sv w' => sv = .string (ST ++ ⟨(signL (cf ps k) T.isEmpty).toArray⟩) ∧ w' = w2)
          case first =>
            have hzT : ST.size ≤ 140737488355328 := by
              rw [← HST.out, ← HTT.out]
              show (polyT (ps.drop (k + 1)) (k + 1)).toArray.size ≤ _
              rw [List.size_toArray]
              exact HTL.out _
            by_cases hneg : sg < 0
            · have HSL := hidD (show ST ++ ⟨#[45]⟩ = ST ++ ⟨(signL (cf ps k) T.isEmpty).toArray⟩ by unfold signL; rw [if_pos (sign_neg HSG.out hneg)])
              go_wp2_with fail
              go_meet
              case rel => exact ⟨by rw [← HSL.out], rfl⟩
            · have hnp := sign_pos HSG.out hneg
              by_cases hTe : T = []
              · have HSL := hidD (show (⟨#[]⟩ : ByteArray) = ⟨#[]⟩ ++ ⟨(signL (cf ps k) T.isEmpty).toArray⟩ by unfold signL; rw [if_neg hnp, hTe]; rfl)
                have hSe : ST = ⟨#[]⟩ := by rw [← HST.out, hTe]
                clear hnp hTe
                subst hSe
                go_wp2_with fail
                go_meet
                case rel => exact ⟨by rw [← HSL.out], rfl⟩
              · have HSL := hidD (show ST ++ ⟨#[43]⟩ = ST ++ ⟨(signL (cf ps k) T.isEmpty).toArray⟩ by unfold signL; rw [if_neg hnp, if_neg (by simpa using hTe)])
                have hSe : ST.toList.isEmpty = false := by
                  rw [← HST.out, ba_toList]
                  simpa using hTe
                clear hnp hTe
                go_wp2_with fail
                go_meet
                case rel => exact ⟨by rw [← HSL.out], rfl⟩
          case rest =>
            obtain ⟨rfl, rfl⟩ := hcut
            obtain ⟨SG, hSG⟩ : ∃ S, ST ++ ⟨(signL (cf ps k) T.isEmpty).toArray⟩ = S := ⟨_, rfl⟩
            rw [hSG]
            have HSGN := hidD hSG
            clear hSG
            obtain ⟨SA, hSA⟩ : ∃ S : ByteArray, ⟨(textQ (absQ (cf ps k))).toArray⟩ = S := ⟨_, rfl⟩
            have HSA := hidD hSA
            have HSQ := hidD (sq_abs (HP.out.at k))
            clear hSA
            go_wp2_with fail
            have ST0 : BelB w (wc.drew) := HG2.out.drew
            refine wp_region_tab hmx [[], [], [0, 1], [2], [3], [4], [], [], [6, 7], [8], [9], [5, 10], [11, 5], [12, 12, 0, 1, 2, 3, 4, 5, 6, 7, 8, 9, 10, 11, 12]] (by kernel_rfl) (by decide)
              (fun D act V => ∃ (t34x t35x t36x t37x t38x t39x t40x t41x t42x t43x t44x t45x t46x t5x : Value), act = { tmps := #[Value.slice (some { block := b, off := 0 }) la ca, undef, Value.string { data := #[] }, Value.string SG, Value.int IntKind.i64 ↑k, t5x, Value.slice (some { block := b, off := 0 }) la ca, Value.int IntKind.i64 ↑la, Value.bool false, Value.slice (some { block := b, off := 0 }) la ca, Value.int IntKind.i64 ↑la, Value.int IntKind.i64 (↑la - 1), u12, u13, u14, u15, u16, u17, u18, u19, u20, u21, u22, u23, u24, u25, u26, u27, u28, u29, u30, u31, u32, u33, t34x, t35x, t36x, t37x, t38x, t39x, t40x, t41x, t42x, t43x, t44x, t45x, t46x, u47, u48, u49, u50, u51, u52, u53, u54, u55, u56, u57, u58, u59, u60, u61, u62, u63, u64, u65, u66, undef], defers := [] } ∧ Hid ((D 0 = true → t34x = .slice (some ⟨b, 0, none⟩) la ca) ∧ (D 1 = true → t35x = .int .i64 (k : Int)) ∧ (D 2 = true → t36x = .pointer (some ⟨b, k * 4, none⟩)) ∧ (D 3 = true → t37x = .pointer (some ⟨b, k * 4, none⟩)) ∧ (D 4 = true → IsBig V t38x (cf ps k).num) ∧ (D 5 = true → IsBig V t39x ((cf ps k).num.natAbs : Int)) ∧ (D 6 = true → t40x = .slice (some ⟨b, 0, none⟩) la ca) ∧ (D 7 = true → t41x = .int .i64 (k : Int)) ∧ (D 8 = true → t42x = .pointer (some ⟨b, k * 4, none⟩)) ∧ (D 9 = true → t43x = .pointer (some ⟨b, k * 4 + 2, none⟩)) ∧ (D 10 = true → IsBig V t44x ((cf ps k).den : Int)) ∧ (D 11 = true → IsRef V t45x (absQ (cf ps k))) ∧ (D 12 = true → t46x = .string SA) ∧ (D 13 = true → t5x = .string SA)) ∧ Hid (BelB w V))
              ⟨_, _, _, _, _, _, _, _, _, _, _, _, _, _, rfl, hidD ⟨by simp, by simp, by simp, by simp, by simp, by simp, by simp, by simp, by simp, by simp, by simp, by simp, by simp, by simp⟩, hidD ST0⟩ ?step1 ?fin1
            case step1 =>
              rintro D act V i ds hcl hi hds hDi ⟨t34x, t35x, t36x, t37x, t38x, t39x, t40x, t41x, t42x, t43x, t44x, t45x, t46x, t5x, rfl, GG, SS0⟩
              have hi6 : i < 14 := (List.getElem?_eq_some_iff.1 hi).1
              obtain rfl | rfl | rfl | rfl | rfl | rfl | rfl | rfl | rfl | rfl | rfl | rfl | rfl | rfl : i = 0 ∨ i = 1 ∨ i = 2 ∨ i = 3 ∨ i = 4 ∨ i = 5 ∨ i = 6 ∨ i = 7 ∨ i = 8 ∨ i = 9 ∨ i = 10 ∨ i = 11 ∨ i = 12 ∨ i = 13 := by omega
              all_goals
                simp only [List.getElem?_cons_zero, List.getElem?_cons_succ, Option.some.injEq] at hi
                subst hi
              · have hS0 := SS0.out
                clear hds
                refine wpOp_go rfl rfl (fun K hK => ?_)
                go_simp
                exact hK _ _ ⟨_, _, _, _, _, _, _, _, _, _, _, _, _, _, rfl, hidD ⟨fun _ => rfl, GG.out.2.1, GG.out.2.2.1, GG.out.2.2.2.1, GG.out.2.2.2.2.1, GG.out.2.2.2.2.2.1, GG.out.2.2.2.2.2.2.1, GG.out.2.2.2.2.2.2.2.1, GG.out.2.2.2.2.2.2.2.2.1, GG.out.2.2.2.2.2.2.2.2.2.1, GG.out.2.2.2.2.2.2.2.2.2.2.1, GG.out.2.2.2.2.2.2.2.2.2.2.2.1, GG.out.2.2.2.2.2.2.2.2.2.2.2.2.1, GG.out.2.2.2.2.2.2.2.2.2.2.2.2.2⟩, hidD (SS0.out)⟩
              · have hS0 := SS0.out
                clear hds
                refine wpOp_go rfl rfl (fun K hK => ?_)
                go_simp
                exact hK _ _ ⟨_, _, _, _, _, _, _, _, _, _, _, _, _, _, rfl, hidD ⟨GG.out.1, fun _ => rfl, GG.out.2.2.1, GG.out.2.2.2.1, GG.out.2.2.2.2.1, GG.out.2.2.2.2.2.1, GG.out.2.2.2.2.2.2.1, GG.out.2.2.2.2.2.2.2.1, GG.out.2.2.2.2.2.2.2.2.1, GG.out.2.2.2.2.2.2.2.2.2.1, GG.out.2.2.2.2.2.2.2.2.2.2.1, GG.out.2.2.2.2.2.2.2.2.2.2.2.1, GG.out.2.2.2.2.2.2.2.2.2.2.2.2.1, GG.out.2.2.2.2.2.2.2.2.2.2.2.2.2⟩, hidD (SS0.out)⟩
              · have hS0 := SS0.out
                obtain rfl := GG.out.1 (hds 0 (by simp))
                obtain rfl := GG.out.2.1 (hds 1 (by simp))
                clear hds
                refine wpOp_go rfl rfl (fun K hK => ?_)
                go_simp
                exact hK _ _ ⟨_, _, _, _, _, _, _, _, _, _, _, _, _, _, rfl, hidD ⟨fun _ => rfl, fun _ => rfl, fun _ => rfl, GG.out.2.2.2.1, GG.out.2.2.2.2.1, GG.out.2.2.2.2.2.1, GG.out.2.2.2.2.2.2.1, GG.out.2.2.2.2.2.2.2.1, GG.out.2.2.2.2.2.2.2.2.1, GG.out.2.2.2.2.2.2.2.2.2.1, GG.out.2.2.2.2.2.2.2.2.2.2.1, GG.out.2.2.2.2.2.2.2.2.2.2.2.1, GG.out.2.2.2.2.2.2.2.2.2.2.2.2.1, GG.out.2.2.2.2.2.2.2.2.2.2.2.2.2⟩, hidD (SS0.out)⟩
              · have hS0 := SS0.out
                obtain rfl := GG.out.2.2.1 (hds 2 (by simp))
                clear hds
                refine wpOp_go rfl rfl (fun K hK => ?_)
                go_simp
                exact hK _ _ ⟨_, _, _, _, _, _, _, _, _, _, _, _, _, _, rfl, hidD ⟨GG.out.1, GG.out.2.1, fun _ => rfl, fun _ => rfl, GG.out.2.2.2.2.1, GG.out.2.2.2.2.2.1, GG.out.2.2.2.2.2.2.1, GG.out.2.2.2.2.2.2.2.1, GG.out.2.2.2.2.2.2.2.2.1, GG.out.2.2.2.2.2.2.2.2.2.1, GG.out.2.2.2.2.2.2.2.2.2.2.1, GG.out.2.2.2.2.2.2.2.2.2.2.2.1, GG.out.2.2.2.2.2.2.2.2.2.2.2.2.1, GG.out.2.2.2.2.2.2.2.2.2.2.2.2.2⟩, hidD (SS0.out)⟩
              · have hS0 := SS0.out
                obtain rfl := GG.out.2.2.2.1 (hds 3 (by simp))
                obtain ⟨⟨e0, e1, e2, e3⟩, hr⟩ := HCL.out V hS0
                obtain ⟨_, _, _, _, _, _, _, _, ev, hn, hd⟩ := hr
                cases ev
                clear hds
                refine wpOp_go rfl rfl (fun K hK => ?_)
                go_simp
                exact hK _ _ ⟨_, _, _, _, _, _, _, _, _, _, _, _, _, _, rfl, hidD ⟨GG.out.1, GG.out.2.1, GG.out.2.2.1, fun _ => rfl, fun _ => hn, GG.out.2.2.2.2.2.1, GG.out.2.2.2.2.2.2.1, GG.out.2.2.2.2.2.2.2.1, GG.out.2.2.2.2.2.2.2.2.1, GG.out.2.2.2.2.2.2.2.2.2.1, GG.out.2.2.2.2.2.2.2.2.2.2.1, GG.out.2.2.2.2.2.2.2.2.2.2.2.1, GG.out.2.2.2.2.2.2.2.2.2.2.2.2.1, GG.out.2.2.2.2.2.2.2.2.2.2.2.2.2⟩, hidD (SS0.out)⟩
              · have hS0 := SS0.out
                have h0 := GG.out.2.2.2.2.1 (hds 4 (by simp))
                clear hds
                have HC := hidD (rabs_c _ _ V h0)
                clear h0
                refine wpOp_go rfl rfl (fun K hK => ?_)
                go_simp
                go_wp2_with (go_at_call 38; refine HC.out.mono ?_; rintro e w5 ⟨v5, rfl, hv5, hb5⟩)
                exact ⟨_, _, _, _, _, _, _, _, _, _, _, _, _, _, rfl, hidD ⟨GG.out.1, GG.out.2.1, GG.out.2.2.1, GG.out.2.2.2.1, fun h => (GG.out.2.2.2.2.1 h).below hb5, fun _ => hv5, GG.out.2.2.2.2.2.2.1, GG.out.2.2.2.2.2.2.2.1, GG.out.2.2.2.2.2.2.2.2.1, GG.out.2.2.2.2.2.2.2.2.2.1, fun h => (GG.out.2.2.2.2.2.2.2.2.2.2.1 h).below hb5, fun h => (GG.out.2.2.2.2.2.2.2.2.2.2.2.1 h).below hb5, GG.out.2.2.2.2.2.2.2.2.2.2.2.2.1, GG.out.2.2.2.2.2.2.2.2.2.2.2.2.2⟩, hidD (SS0.out.below hb5)⟩
              · have hS0 := SS0.out
                clear hds
                refine wpOp_go rfl rfl (fun K hK => ?_)
                go_simp
                exact hK _ _ ⟨_, _, _, _, _, _, _, _, _, _, _, _, _, _, rfl, hidD ⟨GG.out.1, GG.out.2.1, GG.out.2.2.1, GG.out.2.2.2.1, GG.out.2.2.2.2.1, GG.out.2.2.2.2.2.1, fun _ => rfl, GG.out.2.2.2.2.2.2.2.1, GG.out.2.2.2.2.2.2.2.2.1, GG.out.2.2.2.2.2.2.2.2.2.1, GG.out.2.2.2.2.2.2.2.2.2.2.1, GG.out.2.2.2.2.2.2.2.2.2.2.2.1, GG.out.2.2.2.2.2.2.2.2.2.2.2.2.1, GG.out.2.2.2.2.2.2.2.2.2.2.2.2.2⟩, hidD (SS0.out)⟩
              · have hS0 := SS0.out
                clear hds
                refine wpOp_go rfl rfl (fun K hK => ?_)
                go_simp
                exact hK _ _ ⟨_, _, _, _, _, _, _, _, _, _, _, _, _, _, rfl, hidD ⟨GG.out.1, GG.out.2.1, GG.out.2.2.1, GG.out.2.2.2.1, GG.out.2.2.2.2.1, GG.out.2.2.2.2.2.1, GG.out.2.2.2.2.2.2.1, fun _ => rfl, GG.out.2.2.2.2.2.2.2.2.1, GG.out.2.2.2.2.2.2.2.2.2.1, GG.out.2.2.2.2.2.2.2.2.2.2.1, GG.out.2.2.2.2.2.2.2.2.2.2.2.1, GG.out.2.2.2.2.2.2.2.2.2.2.2.2.1, GG.out.2.2.2.2.2.2.2.2.2.2.2.2.2⟩, hidD (SS0.out)⟩
              · have hS0 := SS0.out
                obtain rfl := GG.out.2.2.2.2.2.2.1 (hds 6 (by simp))
                obtain rfl := GG.out.2.2.2.2.2.2.2.1 (hds 7 (by simp))
                clear hds
                refine wpOp_go rfl rfl (fun K hK => ?_)
                go_simp
                exact hK _ _ ⟨_, _, _, _, _, _, _, _, _, _, _, _, _, _, rfl, hidD ⟨GG.out.1, GG.out.2.1, GG.out.2.2.1, GG.out.2.2.2.1, GG.out.2.2.2.2.1, GG.out.2.2.2.2.2.1, fun _ => rfl, fun _ => rfl, fun _ => rfl, GG.out.2.2.2.2.2.2.2.2.2.1, GG.out.2.2.2.2.2.2.2.2.2.2.1, GG.out.2.2.2.2.2.2.2.2.2.2.2.1, GG.out.2.2.2.2.2.2.2.2.2.2.2.2.1, GG.out.2.2.2.2.2.2.2.2.2.2.2.2.2⟩, hidD (SS0.out)⟩
              · have hS0 := SS0.out
                obtain rfl := GG.out.2.2.2.2.2.2.2.2.1 (hds 8 (by simp))
                clear hds
                refine wpOp_go rfl rfl (fun K hK => ?_)
                go_simp
                exact hK _ _ ⟨_, _, _, _, _, _, _, _, _, _, _, _, _, _, rfl, hidD ⟨GG.out.1, GG.out.2.1, GG.out.2.2.1, GG.out.2.2.2.1, GG.out.2.2.2.2.1, GG.out.2.2.2.2.2.1, GG.out.2.2.2.2.2.2.1, GG.out.2.2.2.2.2.2.2.1, fun _ => rfl, fun _ => rfl, GG.out.2.2.2.2.2.2.2.2.2.2.1, GG.out.2.2.2.2.2.2.2.2.2.2.2.1, GG.out.2.2.2.2.2.2.2.2.2.2.2.2.1, GG.out.2.2.2.2.2.2.2.2.2.2.2.2.2⟩, hidD (SS0.out)⟩
              · have hS0 := SS0.out
                obtain rfl := GG.out.2.2.2.2.2.2.2.2.2.1 (hds 9 (by simp))
                obtain ⟨⟨e0, e1, e2, e3⟩, hr⟩ := HCL.out V hS0
                obtain ⟨_, _, _, _, _, _, _, _, ev, hn, hd⟩ := hr
                cases ev
                clear hds
                refine wpOp_go rfl rfl (fun K hK => ?_)
                go_simp
                exact hK _ _ ⟨_, _, _, _, _, _, _, _, _, _, _, _, _, _, rfl, hidD ⟨GG.out.1, GG.out.2.1, GG.out.2.2.1, GG.out.2.2.2.1, GG.out.2.2.2.2.1, GG.out.2.2.2.2.2.1, GG.out.2.2.2.2.2.2.1, GG.out.2.2.2.2.2.2.2.1, GG.out.2.2.2.2.2.2.2.2.1, fun _ => rfl, fun _ => hd, GG.out.2.2.2.2.2.2.2.2.2.2.2.1, GG.out.2.2.2.2.2.2.2.2.2.2.2.2.1, GG.out.2.2.2.2.2.2.2.2.2.2.2.2.2⟩, hidD (SS0.out)⟩
              · have hS0 := SS0.out
                have h0 := GG.out.2.2.2.2.2.1 (hds 5 (by simp))
                have h1 := GG.out.2.2.2.2.2.2.2.2.2.2.1 (hds 10 (by simp))
                obtain ⟨a91, l91, c91, s91, rfl⟩ := IsBig.form2 h0
                obtain ⟨a92, l92, c92, s92, rfl⟩ := IsBig.form2 h1
                clear hds
                refine wpOp_go rfl rfl (fun K hK => ?_)
                go_simp
                exact hK _ _ ⟨_, _, _, _, _, _, _, _, _, _, _, _, _, _, rfl, hidD ⟨GG.out.1, GG.out.2.1, GG.out.2.2.1, GG.out.2.2.2.1, GG.out.2.2.2.2.1, GG.out.2.2.2.2.2.1, GG.out.2.2.2.2.2.2.1, GG.out.2.2.2.2.2.2.2.1, GG.out.2.2.2.2.2.2.2.2.1, GG.out.2.2.2.2.2.2.2.2.2.1, GG.out.2.2.2.2.2.2.2.2.2.2.1, fun _ => ⟨_, _, _, _, _, _, _, _, rfl, by rw [(absQ_num _).1]; exact h0, by rw [(absQ_num _).2]; exact h1⟩, GG.out.2.2.2.2.2.2.2.2.2.2.2.2.1, GG.out.2.2.2.2.2.2.2.2.2.2.2.2.2⟩, hidD (SS0.out)⟩
              · have hS0 := SS0.out
                have h0 := GG.out.2.2.2.2.2.2.2.2.2.2.2.1 (hds 11 (by simp))
                clear hds
                have HC := hidD (stext_c _ (absQ (cf ps k)) V h0 HSQ.out)
                rw [HSA.out] at HC
                clear h0
                refine wpOp_go rfl rfl (fun K hK => ?_)
                go_simp
                go_wp2_with (go_at_call 37; refine HC.out.mono ?_; rintro e w5 ⟨rfl, hb5⟩)
                exact ⟨_, _, _, _, _, _, _, _, _, _, _, _, _, _, rfl, hidD ⟨GG.out.1, GG.out.2.1, GG.out.2.2.1, GG.out.2.2.2.1, fun h => (GG.out.2.2.2.2.1 h).below hb5, fun h => (GG.out.2.2.2.2.2.1 h).below hb5, GG.out.2.2.2.2.2.2.1, GG.out.2.2.2.2.2.2.2.1, GG.out.2.2.2.2.2.2.2.2.1, GG.out.2.2.2.2.2.2.2.2.2.1, fun h => (GG.out.2.2.2.2.2.2.2.2.2.2.1 h).below hb5, fun h => (GG.out.2.2.2.2.2.2.2.2.2.2.2.1 h).below hb5, fun _ => rfl, GG.out.2.2.2.2.2.2.2.2.2.2.2.2.2⟩, hidD (SS0.out.below hb5)⟩
              · have hS0 := SS0.out
                obtain rfl := GG.out.2.2.2.2.2.2.2.2.2.2.2.2.1 (hds 12 (by simp))
                clear hds
                refine wpOp_go rfl rfl (fun K hK => ?_)
                go_simp
                exact hK _ _ ⟨_, _, _, _, _, _, _, _, _, _, _, _, _, _, rfl, hidD ⟨GG.out.1, GG.out.2.1, GG.out.2.2.1, GG.out.2.2.2.1, GG.out.2.2.2.2.1, GG.out.2.2.2.2.2.1, GG.out.2.2.2.2.2.2.1, GG.out.2.2.2.2.2.2.2.1, GG.out.2.2.2.2.2.2.2.2.1, GG.out.2.2.2.2.2.2.2.2.2.1, GG.out.2.2.2.2.2.2.2.2.2.2.1, GG.out.2.2.2.2.2.2.2.2.2.2.2.1, fun _ => rfl, fun _ => rfl⟩, hidD (SS0.out)⟩
            case fin1 =>
              rintro D act V hDD ⟨t34x, t35x, t36x, t37x, t38x, t39x, t40x, t41x, t42x, t43x, t44x, t45x, t46x, t5x, rfl, GG, SS0⟩
              have HG3 := hidD (show Below w.heap.size w V from SS0.out)
              obtain rfl := GG.out.2.2.2.2.2.2.2.2.2.2.2.2.1 (hDD 12 (by decide))
              obtain rfl := GG.out.2.2.2.2.2.2.2.2.2.2.2.2.2 (hDD 13 (by decide))
              clear GG SS0 hDD
              have hcf : cf ps k ≠ 0 := fun h => by have := HSG.out; rw [h] at this; exact hz this.symm
              have HTF := hidD (term_fin (by have := HLA.out; omega) hcf HTT.out)
              obtain ⟨LG, hLG⟩ : ∃ l, T ++ signL (cf ps k) T.isEmpty = l := ⟨_, rfl⟩
              rw [hLG] at HTF
              have HLG := hidD (show (⟨LG.toArray⟩ : ByteArray) = SG by rw [← HSGN.out, ← HST.out, ← hLG, ba_app])
              clear hLG hcf
              have hzG : SG.size ≤ 140737488355329 := by
                rw [← HSGN.out, ← HST.out, ← HTT.out, ba_app]
                show ((polyT (ps.drop (k + 1)) (k + 1)) ++ _).toArray.size ≤ _
                rw [List.size_toArray, List.length_append]
                have h1 := HTL.out (k + 1)
                have h2 : (signL (cf ps k) (polyT (ps.drop (k + 1)) (k + 1)).isEmpty).length ≤ 1 := by
                  unfold signL
                  split
                  · simp
                  · split <;> simp
                omega
              have hzA : SA.size ≤ 2000000000 := by
                rw [← HSA.out]
                show (textQ (absQ (cf ps k))).toArray.size ≤ _
                rw [List.size_toArray]
                obtain ⟨e1, e2⟩ := absQ_num (cf ps k)
                have hs := HP.out.at k
                unfold textQ
                have h1 := decZ_len (absQ (cf ps k)).num
                have h2 := decZ_len ((absQ (cf ps k)).den : Int)
                have h3 := hs.num.words
                have h4 := hs.den.words
                rw [e1, Int.natAbs_natCast] at h1
                rw [e2] at h2
                rw [e1, e2]
                split
                · omega
                · rw [List.length_append, List.length_cons]; omega
              by_cases h49 : textQ (absQ (cf ps k)) = [49]
              · by_cases hk0 : k = 0
                · have hk1 : ¬ k = 1 := by omega
                  have HX := hidD (show (⟨LG.toArray⟩ : ByteArray) ++ ⟨[49].toArray⟩ = ⟨(polyT (ps.drop k) k).toArray⟩ by
                    rw [HTF.out, show coefL (cf ps k) k = textQ (absQ (cf ps k)) from by unfold coefL; rw [if_neg (by intro h; omega)], show powL k = [] from by unfold powL; rw [if_pos hk0], h49]
                    simp only [ba_app, List.append_assoc, List.append_nil, List.nil_append, List.cons_append])
                  rw [HLG.out] at HX
                  have hkb : ((k : Int) == 0) = true := by rw [hk0]; rfl
                  have hkg : ¬ (0 : Int) < (k : Int) := by omega
                  have hkg1 : ¬ (1 : Int) < (k : Int) := by omega
                  have hSA1 : SA = ⟨#[49]⟩ := by rw [← HSA.out, h49]
                  clear h49 hk1 hk0
                  subst hSA1
                  go_wp2_with fail
                  go_roundw
                  case rel => exact ⟨k, by omega, congrArg Value.string HX.out, by first | rfl | go_num, hidD HG3.out⟩
                  case measure => first | (simp [intOf]; done) | (simp [intOf]; omega)
                · by_cases hk1 : k = 1
                  · skip
                    have HX := hidD (show (⟨LG.toArray⟩ : ByteArray) ++ ⟨[120].toArray⟩ = ⟨(polyT (ps.drop k) k).toArray⟩ by
                      rw [HTF.out, show coefL (cf ps k) k = [] from by unfold coefL; rw [if_pos ⟨h49, by omega⟩], show powL k = [120] from by unfold powL; rw [if_neg hk0, if_pos hk1]]
                      simp only [ba_app, List.append_assoc, List.append_nil, List.nil_append, List.cons_append])
                    rw [HLG.out] at HX
                    have hkb : ((k : Int) == 0) = false := by rw [beq_eq_false_iff_ne]; omega
                    have hkg : (0 : Int) < (k : Int) := by omega
                    have hkg1 : ¬ (1 : Int) < (k : Int) := by omega
                    have hSA1 : SA = ⟨#[49]⟩ := by rw [← HSA.out, h49]
                    clear h49 hk0 hk1
                    subst hSA1
                    go_wp2_with fail
                    go_roundw
                    case rel => exact ⟨k, by omega, congrArg Value.string HX.out, by first | rfl | go_num, hidD HG3.out⟩
                    case measure => first | (simp [intOf]; done) | (simp [intOf]; omega)
                  · skip
                    have HX := hidD (show (⟨LG.toArray⟩ : ByteArray) ++ ⟨[120].toArray⟩ ++ ⟨[94].toArray⟩ ++ ⟨(decN k).toArray⟩ = ⟨(polyT (ps.drop k) k).toArray⟩ by
                      rw [HTF.out, show coefL (cf ps k) k = [] from by unfold coefL; rw [if_pos ⟨h49, by omega⟩], show powL k = 120 :: 94 :: decN k from by unfold powL; rw [if_neg hk0, if_neg hk1]]
                      simp only [ba_app, List.append_assoc, List.append_nil, List.nil_append, List.cons_append])
                    rw [HLG.out] at HX
                    have HIT := hidD (itoa_c k (by omega) V (tab_below HTB.out HG3.out))
                    obtain ⟨SD, hSD⟩ : ∃ S : ByteArray, ⟨(decN k).toArray⟩ = S := ⟨_, rfl⟩
                    rw [hSD] at HIT HX
                    have hzD : SD.size ≤ 2000 := by
                      rw [← hSD]
                      show (decN k).toArray.size ≤ _
                      rw [List.size_toArray]
                      have h3 : (limbs B64 k).length ≤ 1 := limbs_length_le two_le_B64 (by unfold B64; omega)
                      have := decN_len k
                      omega
                    clear hSD
                    have hkb : ((k : Int) == 0) = false := by rw [beq_eq_false_iff_ne]; omega
                    have hkg : (0 : Int) < (k : Int) := by omega
                    have hkg1 : (1 : Int) < (k : Int) := by omega
                    have hSA1 : SA = ⟨#[49]⟩ := by rw [← HSA.out, h49]
                    clear h49 hk0 hk1
                    subst hSA1
                    go_wp2_with (go_at_call 39; refine HIT.out.mono ?_; clear HIT; rintro e w9 ⟨rfl, hb9⟩; have HG9 := hidD (HG3.out.trans (hb9.mono HG3.out.size)); clear hb9)
                    go_roundw
                    case rel => exact ⟨k, by omega, congrArg Value.string HX.out, by first | rfl | go_num, hidD HG9.out⟩
                    case measure => first | (simp [intOf]; done) | (simp [intOf]; omega)
              · by_cases hk0 : k = 0
                · have hk1 : ¬ k = 1 := by omega
                  have HX := hidD (show (⟨LG.toArray⟩ : ByteArray) ++ ⟨(textQ (absQ (cf ps k))).toArray⟩ = ⟨(polyT (ps.drop k) k).toArray⟩ by
                    rw [HTF.out, show coefL (cf ps k) k = textQ (absQ (cf ps k)) from by unfold coefL; rw [if_neg (by intro h; omega)], show powL k = [] from by unfold powL; rw [if_pos hk0]]
                    simp only [ba_app, List.append_assoc, List.append_nil, List.nil_append, List.cons_append])
                  rw [HLG.out, HSA.out] at HX
                  have hkb : ((k : Int) == 0) = true := by rw [hk0]; rfl
                  have hkg : ¬ (0 : Int) < (k : Int) := by omega
                  have hkg1 : ¬ (1 : Int) < (k : Int) := by omega
                  have hne4 : ¬ SA.toList = [49] := by
                    rw [ba_toList, ← HSA.out]
                    simpa using h49
                  clear h49 hk1 hk0
                  go_wp2_with fail
                  go_roundw
                  case rel => exact ⟨k, by omega, congrArg Value.string HX.out, by first | rfl | go_num, hidD HG3.out⟩
                  case measure => first | (simp [intOf]; done) | (simp [intOf]; omega)
                · by_cases hk1 : k = 1
                  · skip
                    have HX := hidD (show (⟨LG.toArray⟩ : ByteArray) ++ ⟨(textQ (absQ (cf ps k))).toArray⟩ ++ ⟨[120].toArray⟩ = ⟨(polyT (ps.drop k) k).toArray⟩ by
                      rw [HTF.out, show coefL (cf ps k) k = textQ (absQ (cf ps k)) from by unfold coefL; rw [if_neg (fun h => h49 h.1)], show powL k = [120] from by unfold powL; rw [if_neg hk0, if_pos hk1]]
                      simp only [ba_app, List.append_assoc, List.append_nil, List.nil_append, List.cons_append])
                    rw [HLG.out, HSA.out] at HX
                    have hkb : ((k : Int) == 0) = false := by rw [beq_eq_false_iff_ne]; omega
                    have hkg : (0 : Int) < (k : Int) := by omega
                    have hkg1 : ¬ (1 : Int) < (k : Int) := by omega
                    have hne4 : ¬ SA.toList = [49] := by
                      rw [ba_toList, ← HSA.out]
                      simpa using h49
                    clear h49 hk0 hk1
                    go_wp2_with fail
                    go_roundw
                    case rel => exact ⟨k, by omega, congrArg Value.string HX.out, by first | rfl | go_num, hidD HG3.out⟩
                    case measure => first | (simp [intOf]; done) | (simp [intOf]; omega)
                  · skip
                    have HX := hidD (show (⟨LG.toArray⟩ : ByteArray) ++ ⟨(textQ (absQ (cf ps k))).toArray⟩ ++ ⟨[120].toArray⟩ ++ ⟨[94].toArray⟩ ++ ⟨(decN k).toArray⟩ = ⟨(polyT (ps.drop k) k).toArray⟩ by
                      rw [HTF.out, show coefL (cf ps k) k = textQ (absQ (cf ps k)) from by unfold coefL; rw [if_neg (fun h => h49 h.1)], show powL k = 120 :: 94 :: decN k from by unfold powL; rw [if_neg hk0, if_neg hk1]]
                      simp only [ba_app, List.append_assoc, List.append_nil, List.nil_append, List.cons_append])
                    rw [HLG.out, HSA.out] at HX
                    have HIT := hidD (itoa_c k (by omega) V (tab_below HTB.out HG3.out))
                    obtain ⟨SD, hSD⟩ : ∃ S : ByteArray, ⟨(decN k).toArray⟩ = S := ⟨_, rfl⟩
                    rw [hSD] at HIT HX
                    have hzD : SD.size ≤ 2000 := by
                      rw [← hSD]
                      show (decN k).toArray.size ≤ _
                      rw [List.size_toArray]
                      have h3 : (limbs B64 k).length ≤ 1 := limbs_length_le two_le_B64 (by unfold B64; omega)
                      have := decN_len k
                      omega
                    clear hSD
                    have hkb : ((k : Int) == 0) = false := by rw [beq_eq_false_iff_ne]; omega
                    have hkg : (0 : Int) < (k : Int) := by omega
                    have hkg1 : (1 : Int) < (k : Int) := by omega
                    have hne4 : ¬ SA.toList = [49] := by
                      rw [ba_toList, ← HSA.out]
                      simpa using h49
                    clear h49 hk0 hk1
                    go_wp2_with (go_at_call 39; refine HIT.out.mono ?_; clear HIT; rintro e w9 ⟨rfl, hb9⟩; have HG9 := hidD (HG3.out.trans (hb9.mono HG3.out.size)); clear hb9)
                    go_roundw
                    case rel => exact ⟨k, by omega, congrArg Value.string HX.out, by first | rfl | go_num, hidD HG9.out⟩
                    case measure => first | (simp [intOf]; done) | (simp [intOf]; omega)
end Go.Proofs.YteldjhhjnchdeaaGreatDoor
namespace Go.Proofs.YteldjhhjnchdeaaGreatDoor
open Go.RowKit Go.Shelf

attribute [local go_sem] Oper.semAt_some

/-- What a call of the document's Parse leaves. -/
def ParseF (l : List UInt8) (w : World) (e : Ending) (w' : World) : Prop := ∃ u, e = .returned (.tuple #[u, .bool (parseQ l).isSome]) ∧ IsRef w' u (valQ l) ∧ Below w.heap.size w w'
theorem ParseF.of {l : List UInt8} {w w' : World} {u : Value} {o : Option Rat} (h : parseQ l = o) {b : Bool} (hb : o.isSome = b) (hu : IsRef w' u (o.getD 0)) (hB : Below w.heap.size w w') : ParseF l w (.returned (.tuple #[u, .bool b])) w' :=
  ⟨u, by rw [h, hb], by unfold valQ; rw [h]; exact hu, hB⟩

theorem byte_no_slash {s : ByteArray} {i : Nat} (h : i < s.size) (hi : i < slashAt (wlst s)) : ((s[i].toNat : Int) == 47) = false := by
  have h1 : (wlst s)[i]? = some s[i] := by
    unfold wlst
    rw [Array.getElem?_toList, Array.getElem?_eq_getElem (by exact h)]
    rfl
  have h2 : s[i] ≠ 47 := by
    rcases slash_index (wlst s) with ⟨_, h3⟩ | ⟨_, h3⟩
    · have := (Lib.indexByte_some h3).2 i hi
      rw [h1] at this
      exact fun e => this (by rw [e])
    · have := Lib.indexByte_none h3 i
      rw [h1] at this
      exact fun e => this (by rw [e])
  rw [beq_eq_false_iff_ne]
  intro h3
  apply h2
  apply UInt8.toNat_inj.1
  show s[i].toNat = 47
  omega
theorem byte_eq {s : ByteArray} {k : Nat} (hk : slashAt (wlst s) = k) (h : k < s.size) : ((s[k].toNat : Int) == 47) = true := by
  have hl := wlst_length s
  have h1 : (wlst s)[k]? = some s[k] := by
    unfold wlst
    rw [Array.getElem?_toList, Array.getElem?_eq_getElem (by exact h)]
    rfl
  rcases slash_index (wlst s) with ⟨_, h3⟩ | ⟨h3, _⟩
  · have h4 := (Lib.indexByte_some h3).1
    rw [hk, h1] at h4
    have h5 : s[k] = 47 := by simpa using h4
    rw [h5]; rfl
  · omega

end Go.Proofs.YteldjhhjnchdeaaGreatDoor
namespace Go.Proofs.YteldjhhjnchdeaaGreatDoor
open Go.RowKit Go.Shelf

attribute [local go_sem] Oper.semAt_some

set_option maxRecDepth 100000 in
set_option maxHeartbeats 1000000 in
theorem num_c (va : Value) (q : Rat) (w : World) (ha : IsRat w va q) :
    Calls Tryz.prog 96 #[va] w fun e w' => ∃ u, e = .returned u ∧ IsInt w' u q.num ∧ Below w.heap.size w w' := by
  obtain ⟨s900, a900, l900, c900, t900, b900, k900, d900, rfl⟩ := IsRat.form ha
  have M0 := (((Mem.nil w).push (.rat (q)) ha).push (.int 0) (int0 _))
  simp only [World.size_alloc] at M0
  have M0 : Mem w ((w.alloc (.cells #[.bool s900, .slice a900 l900 c900, .bool t900, .slice b900 k900 d900] 65)).alloc (.cells #[.bool false, .slice none 0 0] 63)) [some (w.heap.size, .rat (q)), some (w.heap.size + 1, .int (0))] := M0
  obtain ⟨W0, hW0⟩ : ∃ W0, (w.alloc (.cells #[.bool s900, .slice a900 l900 c900, .bool t900, .slice b900 k900 d900] 65)).alloc (.cells #[.bool false, .slice none 0 0] 63) = W0 := ⟨_, rfl⟩
  have HW0 := hidD hW0
  rw [hW0] at M0
  have M1 : Hid (Mem w W0 [some (w.heap.size, .rat (q)), some (w.heap.size + 1, .int (0))]) := hidD M0
  clear M0 hW0 ha 
  go_enter Tryz.func96, Tryz.ntmps96
  go_upto_region 1 with fail
  rw [HW0.out]
  clear HW0
  obtain ⟨s1, a1, l1, c1, t1, b1, k1, d1, n1, r1, i1, j1⟩ := M1.out.rat (i := 0) rfl
  have e1a := n1.c0
  have e1b := n1.c1
  have e1c := n1.c2
  have e1d := n1.c3
  obtain ⟨s2, a2, l2, c2, n2, i2⟩ := M1.out.int (i := 1) rfl
  have e2a := n2.c0
  have e2b := n2.c1
  have f2a := n2.f0
  have f2b := n2.f1
  have hB := M1.out.2.2
  have hge := M1.out.ge 1 rfl
  go_wp2_with fail
  exact bodyPost_ret (v := .agg #[.bool s1, .slice a1 l1 c1]) (by simp [results, Tryz.results96, go_sem, e2a, e2b]) rfl ⟨_, rfl, i1.box n2 rfl rfl, (hB.setCell (p := ⟨_, 0, none⟩) hge _).setCell (p := ⟨_, 1, none⟩) hge _⟩

/-- The fractions of alive. -/
def aliveP : Rat := ⟨3, 2, by decide, by decide⟩
def aliveQ : Rat := ⟨9, 4, by decide, by decide⟩

theorem aliveP_parse : parseQ [54, 47, 52] = some aliveP := by
  have h1 : slashAt [54, 47, 52] = 1 := by decide
  have h2 : good [54] = true := by decide
  have h3 : good [52] = true := by decide
  have h4 : valZ [54] = 6 := by decide
  have h5 : valZ [52] = 4 := by decide
  rw [pq_slash (by decide) (by rw [h1]; decide), h1]
  show (if good [54] = true ∧ good [52] = true ∧ 0 < valZ [52] then some (Rat.divInt (valZ [54]) (valZ [52])) else none) = _
  rw [if_pos ⟨h2, h3, by rw [h5]; decide⟩, h4, h5]
  exact congrArg some (by decide)
theorem aliveP_mul : aliveP * aliveP = aliveQ := by
  rw [← mul_eq]
  decide
theorem decZ_of {l : List UInt8} {z : Int} (h : good l = true) (hv : valZ l = z) : decZ z = l := by rw [← hv]; exact good_dec h
theorem aliveP_text : textQ aliveP = [51, 47, 50] := by
  unfold textQ
  rw [if_neg (by decide), show decZ aliveP.num = [51] from decZ_of (by decide) (by decide), show decZ (aliveP.den : Int) = [50] from decZ_of (by decide) (by decide)]
  rfl
theorem aliveQ_text : textQ aliveQ = [57, 47, 52] := by
  unfold textQ
  rw [if_neg (by decide), show decZ aliveQ.num = [57] from decZ_of (by decide) (by decide), show decZ (aliveQ.den : Int) = [52] from decZ_of (by decide) (by decide)]
  rfl
theorem aliveQ_cmp : cmpQ aliveQ aliveP = 1 := by decide
theorem aliveP_sq : Sq aliveP := Sq.of (k := 1) ⟨by show Sm 1 3; unfold Sm B64; decide, by show Sm 1 2; unfold Sm B64; decide⟩ (by omega)
theorem aliveQ_sq : Sq aliveQ := Sq.of (k := 1) ⟨by show Sm 1 9; unfold Sm B64; decide, by show Sm 1 4; unfold Sm B64; decide⟩ (by omega)

end Go.Proofs.YteldjhhjnchdeaaGreatDoor
