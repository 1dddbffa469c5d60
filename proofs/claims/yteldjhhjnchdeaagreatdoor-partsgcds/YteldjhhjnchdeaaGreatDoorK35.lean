import Derived.Test.YteldjhhjnchdeaaGreatDoorK34
import Derived.Test.YteldjhhjnchdeaaGreatDoorK28
import Derived.Test.YteldjhhjnchdeaaGreatDoorShelf
import Derived.Test.YteldjhhjnchdeaaGreatDoorK33
import Derived.Test.YteldjhhjnchdeaaGreatDoorK09
namespace Go.Proofs.YteldjhhjnchdeaaGreatDoor
open Go.RowKit Go.Shelf

attribute [local go_sem] Oper.semAt_some

theorem yisDigit_b (c : UInt8) (w : World) : Calls Tryz.prog 171 #[.int .u8 (c.toNat : Int)] w fun r w' => r = .returned (.bool (isD c)) ∧ Below w.heap.size w w' := by
  refine (yisDigit_c c w).mono ?_
  rintro e w' ⟨rfl, rfl⟩
  exact ⟨rfl, Below.refl _ _⟩
theorem digAt_bytes {s : ByteArray} {j : Nat} (hj : j < s.size) : digAt (wlst s) j = isD s[j] := by
  unfold digAt
  rw [List.getElem?_eq_getElem (by rw [wlst_len]; exact hj)]
  rfl
theorem digAt_end {s : ByteArray} {j : Nat} (hj : s.size ≤ j) : digAt (wlst s) j = false := by
  unfold digAt
  rw [List.getElem?_eq_none (by rw [wlst_len]; exact hj)]
  rfl

set_option maxRecDepth 100000 in
set_option maxHeartbeats 4000000 in
theorem atDigit_c (R : Nat) (s : ByteArray) (I : Nat) (w : World) (h : RcB w R s I) (hI : I ≤ s.size) (hs : s.size ≤ 300) :
    Calls Tryz.prog 149 #[.pointer (some ⟨R, 0, none⟩)] w fun r w' => r = .returned (.bool (digAt (wlst s) (skB (wlst s) I))) ∧ RcB w' R s (skB (wlst s) I : Nat) ∧ w.grownBy w' (some R) := by
  have hmx : Tryz.prog.follows .mixedOrders = true := by kernel_rfl
  have HEN := hidD (fun (V : World) (hh : RcB V R s I) => ended_c R s I V hh hI hs)
  obtain ⟨j, hj⟩ : ∃ j, skB (wlst s) I = j := ⟨_, rfl⟩
  have hjs : j ≤ s.size := by rw [← hj, ← wlst_len]; exact skB_le (by rw [wlst_len]; exact hI)
  rw [hj] at HEN ⊢
  have HH := hidD h
  clear h hj
  by_cases hje : j = s.size
  · rw [digAt_end (by omega : s.size ≤ j)]
    rw [show decide (j = s.size) = true from decide_eq_true hje] at HEN
    clear hje
    go_enter Tryz.func149, Tryz.ntmps149
    go_wp2_with fail
    have ST0 : FdS w w.drew R s I := ⟨HH.out, rfl, rfl, rfl, Nat.le_refl _, fun _ _ _ => rfl⟩
    refine wp_region_tab hmx [[], [0], [1], [2, 1], [3], [4, 3], [5, 3], [6, 3], [3], [8, 3], [9, 3], [10, 3], [7, 11, 3], [12, 3, 3], [3, 13], [14, 13, 0, 1, 2, 3, 4, 5, 6, 7, 8, 9, 10, 11, 12, 13, 14]] (by kernel_rfl) (by decide)
      (fun D act V => ∃ (t3x t4x t5x t6x t7x t8x t9x t10x t11x t12x t13x t14x t15x t16x t17x t2x : Value), act = { tmps := #[Value.pointer (some { block := R, off := 0 }), undef, t2x, t3x, t4x, t5x, t6x, t7x, t8x, t9x, t10x, t11x, t12x, t13x, t14x, t15x, t16x, t17x], defers := [] } ∧ Hid ((D 0 = true → t3x = .pointer (some ⟨R, 0, none⟩)) ∧ (D 1 = true → t4x = .bool true) ∧ (D 2 = true → t5x = .bool false) ∧ (D 3 = true → t6x = .bool false) ∧ (D 4 = true → True) ∧ (D 5 = true → True) ∧ (D 6 = true → True) ∧ (D 7 = true → True) ∧ (D 8 = true → True) ∧ (D 9 = true → True) ∧ (D 10 = true → True) ∧ (D 11 = true → True) ∧ (D 12 = true → True) ∧ (D 13 = true → True) ∧ (D 14 = true → t17x = .bool false) ∧ (D 15 = true → t2x = .bool false)) ∧ Hid ((D 1 = false → FdS w V R s I) ∧ (D 1 = true → FdS w V R s (j : Int))))
      ⟨_, _, _, _, _, _, _, _, _, _, _, _, _, _, _, _, rfl, hidD ⟨by simp, by simp, by simp, by simp, by simp, by simp, by simp, by simp, by simp, by simp, by simp, by simp, by simp, by simp, by simp, by simp⟩, hidD ⟨fun _ => ST0, by simp⟩⟩ ?step1 ?fin1
    case step1 =>
      rintro D act V i ds hcl hi hds hDi ⟨t3x, t4x, t5x, t6x, t7x, t8x, t9x, t10x, t11x, t12x, t13x, t14x, t15x, t16x, t17x, t2x, rfl, GG, SS0⟩
      have hi6 : i < 16 := (List.getElem?_eq_some_iff.1 hi).1
      obtain rfl | rfl | rfl | rfl | rfl | rfl | rfl | rfl | rfl | rfl | rfl | rfl | rfl | rfl | rfl | rfl : i = 0 ∨ i = 1 ∨ i = 2 ∨ i = 3 ∨ i = 4 ∨ i = 5 ∨ i = 6 ∨ i = 7 ∨ i = 8 ∨ i = 9 ∨ i = 10 ∨ i = 11 ∨ i = 12 ∨ i = 13 ∨ i = 14 ∨ i = 15 := by omega
      all_goals
        simp only [List.getElem?_cons_zero, List.getElem?_cons_succ, Option.some.injEq] at hi
        subst hi
      · have hf0 : D 1 = false := by
          cases h : D 1 with
          | false => rfl
          | true => rw [(hcl 1 _ rfl h 0 (by simp))] at hDi; cases hDi
        have hS0 := SS0.out.1 hf0
        clear hds
        refine wpOp_go rfl rfl (fun K hK => ?_)
        go_simp
        exact hK _ _ ⟨_, _, _, _, _, _, _, _, _, _, _, _, _, _, _, _, rfl, hidD ⟨fun _ => rfl, GG.out.2.1, GG.out.2.2.1, GG.out.2.2.2.1, GG.out.2.2.2.2.1, GG.out.2.2.2.2.2.1, GG.out.2.2.2.2.2.2.1, GG.out.2.2.2.2.2.2.2.1, GG.out.2.2.2.2.2.2.2.2.1, GG.out.2.2.2.2.2.2.2.2.2.1, GG.out.2.2.2.2.2.2.2.2.2.2.1, GG.out.2.2.2.2.2.2.2.2.2.2.2.1, GG.out.2.2.2.2.2.2.2.2.2.2.2.2.1, GG.out.2.2.2.2.2.2.2.2.2.2.2.2.2.1, GG.out.2.2.2.2.2.2.2.2.2.2.2.2.2.2.1, GG.out.2.2.2.2.2.2.2.2.2.2.2.2.2.2.2⟩, hidD ⟨fun h => (SS0.out.1 (by simpa using h)), fun h => (SS0.out.2 (by simpa using h))⟩⟩
      · have hS0 := SS0.out.1 hDi
        obtain rfl := GG.out.1 (hds 0 (by simp))
        clear hds
        have HC := hidD (HEN.out V hS0.1)
        refine wpOp_go rfl rfl (fun K hK => ?_)
        go_simp
        go_wp2_with (go_at_call 126; refine HC.out.mono ?_; rintro e w5 ⟨rfl, hr5, hg5⟩)
        exact ⟨_, _, _, _, _, _, _, _, _, _, _, _, _, _, _, _, rfl, hidD ⟨fun _ => rfl, fun _ => rfl, GG.out.2.2.1, GG.out.2.2.2.1, GG.out.2.2.2.2.1, GG.out.2.2.2.2.2.1, GG.out.2.2.2.2.2.2.1, GG.out.2.2.2.2.2.2.2.1, GG.out.2.2.2.2.2.2.2.2.1, GG.out.2.2.2.2.2.2.2.2.2.1, GG.out.2.2.2.2.2.2.2.2.2.2.1, GG.out.2.2.2.2.2.2.2.2.2.2.2.1, GG.out.2.2.2.2.2.2.2.2.2.2.2.2.1, GG.out.2.2.2.2.2.2.2.2.2.2.2.2.2.1, GG.out.2.2.2.2.2.2.2.2.2.2.2.2.2.2.1, GG.out.2.2.2.2.2.2.2.2.2.2.2.2.2.2.2⟩, hidD ⟨fun h => by simp at h, fun _ => ⟨hr5, grown_trans hS0.2 hg5⟩⟩⟩
      · obtain rfl := GG.out.2.1 (hds 1 (by simp))
        clear hds
        refine wpOp_go rfl rfl (fun K hK => ?_)
        go_simp
        exact hK _ _ ⟨_, _, _, _, _, _, _, _, _, _, _, _, _, _, _, _, rfl, hidD ⟨GG.out.1, fun _ => rfl, fun _ => rfl, GG.out.2.2.2.1, GG.out.2.2.2.2.1, GG.out.2.2.2.2.2.1, GG.out.2.2.2.2.2.2.1, GG.out.2.2.2.2.2.2.2.1, GG.out.2.2.2.2.2.2.2.2.1, GG.out.2.2.2.2.2.2.2.2.2.1, GG.out.2.2.2.2.2.2.2.2.2.2.1, GG.out.2.2.2.2.2.2.2.2.2.2.2.1, GG.out.2.2.2.2.2.2.2.2.2.2.2.2.1, GG.out.2.2.2.2.2.2.2.2.2.2.2.2.2.1, GG.out.2.2.2.2.2.2.2.2.2.2.2.2.2.2.1, GG.out.2.2.2.2.2.2.2.2.2.2.2.2.2.2.2⟩, hidD ⟨fun h => (SS0.out.1 (by simpa using h)), fun h => (SS0.out.2 (by simpa using h))⟩⟩
      · obtain rfl := GG.out.2.2.1 (hds 2 (by simp))
        clear hds
        refine wpOp_go rfl rfl (fun K hK => ?_)
        go_simp
        exact hK _ _ ⟨_, _, _, _, _, _, _, _, _, _, _, _, _, _, _, _, rfl, hidD ⟨GG.out.1, GG.out.2.1, fun _ => rfl, fun _ => rfl, GG.out.2.2.2.2.1, GG.out.2.2.2.2.2.1, GG.out.2.2.2.2.2.2.1, GG.out.2.2.2.2.2.2.2.1, GG.out.2.2.2.2.2.2.2.2.1, GG.out.2.2.2.2.2.2.2.2.2.1, GG.out.2.2.2.2.2.2.2.2.2.2.1, GG.out.2.2.2.2.2.2.2.2.2.2.2.1, GG.out.2.2.2.2.2.2.2.2.2.2.2.2.1, GG.out.2.2.2.2.2.2.2.2.2.2.2.2.2.1, GG.out.2.2.2.2.2.2.2.2.2.2.2.2.2.2.1, GG.out.2.2.2.2.2.2.2.2.2.2.2.2.2.2.2⟩, hidD ⟨fun h => (SS0.out.1 (by simpa using h)), fun h => (SS0.out.2 (by simpa using h))⟩⟩
      · obtain rfl := GG.out.2.2.2.1 (hds 3 (by simp))
        clear hds
        refine wpOp_no rfl rfl ?_
        exact ⟨_, _, _, _, _, _, _, _, _, _, _, _, _, _, _, _, rfl, hidD ⟨GG.out.1, GG.out.2.1, GG.out.2.2.1, fun _ => rfl, fun _ => trivial, GG.out.2.2.2.2.2.1, GG.out.2.2.2.2.2.2.1, GG.out.2.2.2.2.2.2.2.1, GG.out.2.2.2.2.2.2.2.2.1, GG.out.2.2.2.2.2.2.2.2.2.1, GG.out.2.2.2.2.2.2.2.2.2.2.1, GG.out.2.2.2.2.2.2.2.2.2.2.2.1, GG.out.2.2.2.2.2.2.2.2.2.2.2.2.1, GG.out.2.2.2.2.2.2.2.2.2.2.2.2.2.1, GG.out.2.2.2.2.2.2.2.2.2.2.2.2.2.2.1, GG.out.2.2.2.2.2.2.2.2.2.2.2.2.2.2.2⟩, hidD ⟨fun h => (SS0.out.1 (by simpa using h)), fun h => (SS0.out.2 (by simpa using h))⟩⟩
      · obtain rfl := GG.out.2.2.2.1 (hds 3 (by simp))
        clear hds
        refine wpOp_no rfl rfl ?_
        exact ⟨_, _, _, _, _, _, _, _, _, _, _, _, _, _, _, _, rfl, hidD ⟨GG.out.1, GG.out.2.1, GG.out.2.2.1, fun _ => rfl, GG.out.2.2.2.2.1, fun _ => trivial, GG.out.2.2.2.2.2.2.1, GG.out.2.2.2.2.2.2.2.1, GG.out.2.2.2.2.2.2.2.2.1, GG.out.2.2.2.2.2.2.2.2.2.1, GG.out.2.2.2.2.2.2.2.2.2.2.1, GG.out.2.2.2.2.2.2.2.2.2.2.2.1, GG.out.2.2.2.2.2.2.2.2.2.2.2.2.1, GG.out.2.2.2.2.2.2.2.2.2.2.2.2.2.1, GG.out.2.2.2.2.2.2.2.2.2.2.2.2.2.2.1, GG.out.2.2.2.2.2.2.2.2.2.2.2.2.2.2.2⟩, hidD ⟨fun h => (SS0.out.1 (by simpa using h)), fun h => (SS0.out.2 (by simpa using h))⟩⟩
      · obtain rfl := GG.out.2.2.2.1 (hds 3 (by simp))
        clear hds
        refine wpOp_no rfl rfl ?_
        exact ⟨_, _, _, _, _, _, _, _, _, _, _, _, _, _, _, _, rfl, hidD ⟨GG.out.1, GG.out.2.1, GG.out.2.2.1, fun _ => rfl, GG.out.2.2.2.2.1, GG.out.2.2.2.2.2.1, fun _ => trivial, GG.out.2.2.2.2.2.2.2.1, GG.out.2.2.2.2.2.2.2.2.1, GG.out.2.2.2.2.2.2.2.2.2.1, GG.out.2.2.2.2.2.2.2.2.2.2.1, GG.out.2.2.2.2.2.2.2.2.2.2.2.1, GG.out.2.2.2.2.2.2.2.2.2.2.2.2.1, GG.out.2.2.2.2.2.2.2.2.2.2.2.2.2.1, GG.out.2.2.2.2.2.2.2.2.2.2.2.2.2.2.1, GG.out.2.2.2.2.2.2.2.2.2.2.2.2.2.2.2⟩, hidD ⟨fun h => (SS0.out.1 (by simpa using h)), fun h => (SS0.out.2 (by simpa using h))⟩⟩
      · obtain rfl := GG.out.2.2.2.1 (hds 3 (by simp))
        clear hds
        refine wpOp_no rfl rfl ?_
        exact ⟨_, _, _, _, _, _, _, _, _, _, _, _, _, _, _, _, rfl, hidD ⟨GG.out.1, GG.out.2.1, GG.out.2.2.1, fun _ => rfl, GG.out.2.2.2.2.1, GG.out.2.2.2.2.2.1, GG.out.2.2.2.2.2.2.1, fun _ => trivial, GG.out.2.2.2.2.2.2.2.2.1, GG.out.2.2.2.2.2.2.2.2.2.1, GG.out.2.2.2.2.2.2.2.2.2.2.1, GG.out.2.2.2.2.2.2.2.2.2.2.2.1, GG.out.2.2.2.2.2.2.2.2.2.2.2.2.1, GG.out.2.2.2.2.2.2.2.2.2.2.2.2.2.1, GG.out.2.2.2.2.2.2.2.2.2.2.2.2.2.2.1, GG.out.2.2.2.2.2.2.2.2.2.2.2.2.2.2.2⟩, hidD ⟨fun h => (SS0.out.1 (by simpa using h)), fun h => (SS0.out.2 (by simpa using h))⟩⟩
      · obtain rfl := GG.out.2.2.2.1 (hds 3 (by simp))
        clear hds
        refine wpOp_no rfl rfl ?_
        exact ⟨_, _, _, _, _, _, _, _, _, _, _, _, _, _, _, _, rfl, hidD ⟨GG.out.1, GG.out.2.1, GG.out.2.2.1, fun _ => rfl, GG.out.2.2.2.2.1, GG.out.2.2.2.2.2.1, GG.out.2.2.2.2.2.2.1, GG.out.2.2.2.2.2.2.2.1, fun _ => trivial, GG.out.2.2.2.2.2.2.2.2.2.1, GG.out.2.2.2.2.2.2.2.2.2.2.1, GG.out.2.2.2.2.2.2.2.2.2.2.2.1, GG.out.2.2.2.2.2.2.2.2.2.2.2.2.1, GG.out.2.2.2.2.2.2.2.2.2.2.2.2.2.1, GG.out.2.2.2.2.2.2.2.2.2.2.2.2.2.2.1, GG.out.2.2.2.2.2.2.2.2.2.2.2.2.2.2.2⟩, hidD ⟨fun h => (SS0.out.1 (by simpa using h)), fun h => (SS0.out.2 (by simpa using h))⟩⟩
      · obtain rfl := GG.out.2.2.2.1 (hds 3 (by simp))
        clear hds
        refine wpOp_no rfl rfl ?_
        exact ⟨_, _, _, _, _, _, _, _, _, _, _, _, _, _, _, _, rfl, hidD ⟨GG.out.1, GG.out.2.1, GG.out.2.2.1, fun _ => rfl, GG.out.2.2.2.2.1, GG.out.2.2.2.2.2.1, GG.out.2.2.2.2.2.2.1, GG.out.2.2.2.2.2.2.2.1, GG.out.2.2.2.2.2.2.2.2.1, fun _ => trivial, GG.out.2.2.2.2.2.2.2.2.2.2.1, GG.out.2.2.2.2.2.2.2.2.2.2.2.1, GG.out.2.2.2.2.2.2.2.2.2.2.2.2.1, GG.out.2.2.2.2.2.2.2.2.2.2.2.2.2.1, GG.out.2.2.2.2.2.2.2.2.2.2.2.2.2.2.1, GG.out.2.2.2.2.2.2.2.2.2.2.2.2.2.2.2⟩, hidD ⟨fun h => (SS0.out.1 (by simpa using h)), fun h => (SS0.out.2 (by simpa using h))⟩⟩
      · obtain rfl := GG.out.2.2.2.1 (hds 3 (by simp))
        clear hds
        refine wpOp_no rfl rfl ?_
        exact ⟨_, _, _, _, _, _, _, _, _, _, _, _, _, _, _, _, rfl, hidD ⟨GG.out.1, GG.out.2.1, GG.out.2.2.1, fun _ => rfl, GG.out.2.2.2.2.1, GG.out.2.2.2.2.2.1, GG.out.2.2.2.2.2.2.1, GG.out.2.2.2.2.2.2.2.1, GG.out.2.2.2.2.2.2.2.2.1, GG.out.2.2.2.2.2.2.2.2.2.1, fun _ => trivial, GG.out.2.2.2.2.2.2.2.2.2.2.2.1, GG.out.2.2.2.2.2.2.2.2.2.2.2.2.1, GG.out.2.2.2.2.2.2.2.2.2.2.2.2.2.1, GG.out.2.2.2.2.2.2.2.2.2.2.2.2.2.2.1, GG.out.2.2.2.2.2.2.2.2.2.2.2.2.2.2.2⟩, hidD ⟨fun h => (SS0.out.1 (by simpa using h)), fun h => (SS0.out.2 (by simpa using h))⟩⟩
      · obtain rfl := GG.out.2.2.2.1 (hds 3 (by simp))
        clear hds
        refine wpOp_no rfl rfl ?_
        exact ⟨_, _, _, _, _, _, _, _, _, _, _, _, _, _, _, _, rfl, hidD ⟨GG.out.1, GG.out.2.1, GG.out.2.2.1, fun _ => rfl, GG.out.2.2.2.2.1, GG.out.2.2.2.2.2.1, GG.out.2.2.2.2.2.2.1, GG.out.2.2.2.2.2.2.2.1, GG.out.2.2.2.2.2.2.2.2.1, GG.out.2.2.2.2.2.2.2.2.2.1, GG.out.2.2.2.2.2.2.2.2.2.2.1, fun _ => trivial, GG.out.2.2.2.2.2.2.2.2.2.2.2.2.1, GG.out.2.2.2.2.2.2.2.2.2.2.2.2.2.1, GG.out.2.2.2.2.2.2.2.2.2.2.2.2.2.2.1, GG.out.2.2.2.2.2.2.2.2.2.2.2.2.2.2.2⟩, hidD ⟨fun h => (SS0.out.1 (by simpa using h)), fun h => (SS0.out.2 (by simpa using h))⟩⟩
      · obtain rfl := GG.out.2.2.2.1 (hds 3 (by simp))
        clear hds
        refine wpOp_no rfl rfl ?_
        exact ⟨_, _, _, _, _, _, _, _, _, _, _, _, _, _, _, _, rfl, hidD ⟨GG.out.1, GG.out.2.1, GG.out.2.2.1, fun _ => rfl, GG.out.2.2.2.2.1, GG.out.2.2.2.2.2.1, GG.out.2.2.2.2.2.2.1, GG.out.2.2.2.2.2.2.2.1, GG.out.2.2.2.2.2.2.2.2.1, GG.out.2.2.2.2.2.2.2.2.2.1, GG.out.2.2.2.2.2.2.2.2.2.2.1, GG.out.2.2.2.2.2.2.2.2.2.2.2.1, fun _ => trivial, GG.out.2.2.2.2.2.2.2.2.2.2.2.2.2.1, GG.out.2.2.2.2.2.2.2.2.2.2.2.2.2.2.1, GG.out.2.2.2.2.2.2.2.2.2.2.2.2.2.2.2⟩, hidD ⟨fun h => (SS0.out.1 (by simpa using h)), fun h => (SS0.out.2 (by simpa using h))⟩⟩
      · obtain rfl := GG.out.2.2.2.1 (hds 3 (by simp))
        clear hds
        refine wpOp_no rfl rfl ?_
        exact ⟨_, _, _, _, _, _, _, _, _, _, _, _, _, _, _, _, rfl, hidD ⟨GG.out.1, GG.out.2.1, GG.out.2.2.1, fun _ => rfl, GG.out.2.2.2.2.1, GG.out.2.2.2.2.2.1, GG.out.2.2.2.2.2.2.1, GG.out.2.2.2.2.2.2.2.1, GG.out.2.2.2.2.2.2.2.2.1, GG.out.2.2.2.2.2.2.2.2.2.1, GG.out.2.2.2.2.2.2.2.2.2.2.1, GG.out.2.2.2.2.2.2.2.2.2.2.2.1, GG.out.2.2.2.2.2.2.2.2.2.2.2.2.1, fun _ => trivial, GG.out.2.2.2.2.2.2.2.2.2.2.2.2.2.2.1, GG.out.2.2.2.2.2.2.2.2.2.2.2.2.2.2.2⟩, hidD ⟨fun h => (SS0.out.1 (by simpa using h)), fun h => (SS0.out.2 (by simpa using h))⟩⟩
      · obtain rfl := GG.out.2.2.2.1 (hds 3 (by simp))
        clear hds
        refine wpOp_go rfl rfl (fun K hK => ?_)
        go_simp
        exact hK _ _ ⟨_, _, _, _, _, _, _, _, _, _, _, _, _, _, _, _, rfl, hidD ⟨GG.out.1, GG.out.2.1, GG.out.2.2.1, fun _ => rfl, GG.out.2.2.2.2.1, GG.out.2.2.2.2.2.1, GG.out.2.2.2.2.2.2.1, GG.out.2.2.2.2.2.2.2.1, GG.out.2.2.2.2.2.2.2.2.1, GG.out.2.2.2.2.2.2.2.2.2.1, GG.out.2.2.2.2.2.2.2.2.2.2.1, GG.out.2.2.2.2.2.2.2.2.2.2.2.1, GG.out.2.2.2.2.2.2.2.2.2.2.2.2.1, GG.out.2.2.2.2.2.2.2.2.2.2.2.2.2.1, fun _ => rfl, GG.out.2.2.2.2.2.2.2.2.2.2.2.2.2.2.2⟩, hidD ⟨fun h => (SS0.out.1 (by simpa using h)), fun h => (SS0.out.2 (by simpa using h))⟩⟩
      · obtain rfl := GG.out.2.2.2.2.2.2.2.2.2.2.2.2.2.2.1 (hds 14 (by simp))
        clear hds
        refine wpOp_go rfl rfl (fun K hK => ?_)
        go_simp
        exact hK _ _ ⟨_, _, _, _, _, _, _, _, _, _, _, _, _, _, _, _, rfl, hidD ⟨GG.out.1, GG.out.2.1, GG.out.2.2.1, GG.out.2.2.2.1, GG.out.2.2.2.2.1, GG.out.2.2.2.2.2.1, GG.out.2.2.2.2.2.2.1, GG.out.2.2.2.2.2.2.2.1, GG.out.2.2.2.2.2.2.2.2.1, GG.out.2.2.2.2.2.2.2.2.2.1, GG.out.2.2.2.2.2.2.2.2.2.2.1, GG.out.2.2.2.2.2.2.2.2.2.2.2.1, GG.out.2.2.2.2.2.2.2.2.2.2.2.2.1, GG.out.2.2.2.2.2.2.2.2.2.2.2.2.2.1, fun _ => rfl, fun _ => rfl⟩, hidD ⟨fun h => (SS0.out.1 (by simpa using h)), fun h => (SS0.out.2 (by simpa using h))⟩⟩
    case fin1 =>
      rintro D act V hDD ⟨t3x, t4x, t5x, t6x, t7x, t8x, t9x, t10x, t11x, t12x, t13x, t14x, t15x, t16x, t17x, t2x, rfl, GG, SS0⟩
      have HF := hidD (SS0.out.2 (hDD 1 (by decide)))
      obtain rfl := GG.out.2.2.2.2.2.2.2.2.2.2.2.2.2.2.2 (hDD 15 (by decide))
      clear GG SS0 hDD
      go_wp2_with fail
      go_ret
      exact ⟨rfl, HF.out.1, HF.out.2⟩
  · have hlt : j < s.size := by omega
    have hlt2 : (j : Int) < (s.size : Int) := by omega
    rw [show decide (j = s.size) = false from decide_eq_false hje] at HEN
    rw [digAt_bytes hlt]
    have HID := hidD (fun (V : World) => yisDigit_b s[j] V)
    obtain ⟨dg, hdg⟩ : ∃ x, isD s[j] = x := ⟨_, rfl⟩
    rw [hdg] at HID ⊢
    clear hje hdg
    go_enter Tryz.func149, Tryz.ntmps149
    go_wp2_with fail
    have ST0 : FdS w w.drew R s I := ⟨HH.out, rfl, rfl, rfl, Nat.le_refl _, fun _ _ _ => rfl⟩
    refine wp_region_tab hmx [[], [0], [1], [2, 1], [3], [4, 3], [5, 3], [6, 3], [3], [8, 3], [9, 3], [10, 3], [7, 11, 3], [12, 3, 3], [3, 13], [14, 13, 0, 1, 2, 3, 4, 5, 6, 7, 8, 9, 10, 11, 12, 13, 14]] (by kernel_rfl) (by decide)
      (fun D act V => ∃ (t3x t4x t5x t6x t7x t8x t9x t10x t11x t12x t13x t14x t15x t16x t17x t2x : Value), act = { tmps := #[Value.pointer (some { block := R, off := 0 }), undef, t2x, t3x, t4x, t5x, t6x, t7x, t8x, t9x, t10x, t11x, t12x, t13x, t14x, t15x, t16x, t17x], defers := [] } ∧ Hid ((D 0 = true → t3x = .pointer (some ⟨R, 0, none⟩)) ∧ (D 1 = true → t4x = .bool false) ∧ (D 2 = true → t5x = .bool true) ∧ (D 3 = true → t6x = .bool true) ∧ (D 4 = true → t7x = .pointer (some ⟨R, 0, none⟩)) ∧ (D 5 = true → t8x = .pointer (some ⟨R, 0, none⟩)) ∧ (D 6 = true → t9x = .pointer (some ⟨R, 0, none⟩)) ∧ (D 7 = true → t10x = .string s) ∧ (D 8 = true → t11x = .pointer (some ⟨R, 0, none⟩)) ∧ (D 9 = true → t12x = .pointer (some ⟨R, 0, none⟩)) ∧ (D 10 = true → t13x = .pointer (some ⟨R, 1, none⟩)) ∧ (D 11 = true → t14x = .int .i64 (j : Int)) ∧ (D 12 = true → t15x = .int .u8 (s[j].toNat : Int)) ∧ (D 13 = true → t16x = .bool dg) ∧ (D 14 = true → t17x = .bool dg) ∧ (D 15 = true → t2x = .bool dg)) ∧ Hid ((D 1 = false → FdS w V R s I) ∧ (D 1 = true → FdS w V R s (j : Int))))
      ⟨_, _, _, _, _, _, _, _, _, _, _, _, _, _, _, _, rfl, hidD ⟨by simp, by simp, by simp, by simp, by simp, by simp, by simp, by simp, by simp, by simp, by simp, by simp, by simp, by simp, by simp, by simp⟩, hidD ⟨fun _ => ST0, by simp⟩⟩ ?step2 ?fin2
    case step2 =>
      rintro D act V i ds hcl hi hds hDi ⟨t3x, t4x, t5x, t6x, t7x, t8x, t9x, t10x, t11x, t12x, t13x, t14x, t15x, t16x, t17x, t2x, rfl, GG, SS0⟩
      have hi6 : i < 16 := (List.getElem?_eq_some_iff.1 hi).1
      obtain rfl | rfl | rfl | rfl | rfl | rfl | rfl | rfl | rfl | rfl | rfl | rfl | rfl | rfl | rfl | rfl : i = 0 ∨ i = 1 ∨ i = 2 ∨ i = 3 ∨ i = 4 ∨ i = 5 ∨ i = 6 ∨ i = 7 ∨ i = 8 ∨ i = 9 ∨ i = 10 ∨ i = 11 ∨ i = 12 ∨ i = 13 ∨ i = 14 ∨ i = 15 := by omega
      all_goals
        simp only [List.getElem?_cons_zero, List.getElem?_cons_succ, Option.some.injEq] at hi
        subst hi
      · have hf0 : D 1 = false := by
          cases h : D 1 with
          | false => rfl
          | true => rw [(hcl 1 _ rfl h 0 (by simp))] at hDi; cases hDi
        have hS0 := SS0.out.1 hf0
        clear hds
        refine wpOp_go rfl rfl (fun K hK => ?_)
        go_simp
        exact hK _ _ ⟨_, _, _, _, _, _, _, _, _, _, _, _, _, _, _, _, rfl, hidD ⟨fun _ => rfl, GG.out.2.1, GG.out.2.2.1, GG.out.2.2.2.1, GG.out.2.2.2.2.1, GG.out.2.2.2.2.2.1, GG.out.2.2.2.2.2.2.1, GG.out.2.2.2.2.2.2.2.1, GG.out.2.2.2.2.2.2.2.2.1, GG.out.2.2.2.2.2.2.2.2.2.1, GG.out.2.2.2.2.2.2.2.2.2.2.1, GG.out.2.2.2.2.2.2.2.2.2.2.2.1, GG.out.2.2.2.2.2.2.2.2.2.2.2.2.1, GG.out.2.2.2.2.2.2.2.2.2.2.2.2.2.1, GG.out.2.2.2.2.2.2.2.2.2.2.2.2.2.2.1, GG.out.2.2.2.2.2.2.2.2.2.2.2.2.2.2.2⟩, hidD ⟨fun h => (SS0.out.1 (by simpa using h)), fun h => (SS0.out.2 (by simpa using h))⟩⟩
      · have hS0 := SS0.out.1 hDi
        obtain rfl := GG.out.1 (hds 0 (by simp))
        clear hds
        have HC := hidD (HEN.out V hS0.1)
        refine wpOp_go rfl rfl (fun K hK => ?_)
        go_simp
        go_wp2_with (go_at_call 126; refine HC.out.mono ?_; rintro e w5 ⟨rfl, hr5, hg5⟩)
        exact ⟨_, _, _, _, _, _, _, _, _, _, _, _, _, _, _, _, rfl, hidD ⟨fun _ => rfl, fun _ => rfl, GG.out.2.2.1, GG.out.2.2.2.1, GG.out.2.2.2.2.1, GG.out.2.2.2.2.2.1, GG.out.2.2.2.2.2.2.1, GG.out.2.2.2.2.2.2.2.1, GG.out.2.2.2.2.2.2.2.2.1, GG.out.2.2.2.2.2.2.2.2.2.1, GG.out.2.2.2.2.2.2.2.2.2.2.1, GG.out.2.2.2.2.2.2.2.2.2.2.2.1, GG.out.2.2.2.2.2.2.2.2.2.2.2.2.1, GG.out.2.2.2.2.2.2.2.2.2.2.2.2.2.1, GG.out.2.2.2.2.2.2.2.2.2.2.2.2.2.2.1, GG.out.2.2.2.2.2.2.2.2.2.2.2.2.2.2.2⟩, hidD ⟨fun h => by simp at h, fun _ => ⟨hr5, grown_trans hS0.2 hg5⟩⟩⟩
      · obtain rfl := GG.out.2.1 (hds 1 (by simp))
        clear hds
        refine wpOp_go rfl rfl (fun K hK => ?_)
        go_simp
        exact hK _ _ ⟨_, _, _, _, _, _, _, _, _, _, _, _, _, _, _, _, rfl, hidD ⟨GG.out.1, fun _ => rfl, fun _ => rfl, GG.out.2.2.2.1, GG.out.2.2.2.2.1, GG.out.2.2.2.2.2.1, GG.out.2.2.2.2.2.2.1, GG.out.2.2.2.2.2.2.2.1, GG.out.2.2.2.2.2.2.2.2.1, GG.out.2.2.2.2.2.2.2.2.2.1, GG.out.2.2.2.2.2.2.2.2.2.2.1, GG.out.2.2.2.2.2.2.2.2.2.2.2.1, GG.out.2.2.2.2.2.2.2.2.2.2.2.2.1, GG.out.2.2.2.2.2.2.2.2.2.2.2.2.2.1, GG.out.2.2.2.2.2.2.2.2.2.2.2.2.2.2.1, GG.out.2.2.2.2.2.2.2.2.2.2.2.2.2.2.2⟩, hidD ⟨fun h => (SS0.out.1 (by simpa using h)), fun h => (SS0.out.2 (by simpa using h))⟩⟩
      · obtain rfl := GG.out.2.2.1 (hds 2 (by simp))
        clear hds
        refine wpOp_go rfl rfl (fun K hK => ?_)
        go_simp
        exact hK _ _ ⟨_, _, _, _, _, _, _, _, _, _, _, _, _, _, _, _, rfl, hidD ⟨GG.out.1, GG.out.2.1, fun _ => rfl, fun _ => rfl, GG.out.2.2.2.2.1, GG.out.2.2.2.2.2.1, GG.out.2.2.2.2.2.2.1, GG.out.2.2.2.2.2.2.2.1, GG.out.2.2.2.2.2.2.2.2.1, GG.out.2.2.2.2.2.2.2.2.2.1, GG.out.2.2.2.2.2.2.2.2.2.2.1, GG.out.2.2.2.2.2.2.2.2.2.2.2.1, GG.out.2.2.2.2.2.2.2.2.2.2.2.2.1, GG.out.2.2.2.2.2.2.2.2.2.2.2.2.2.1, GG.out.2.2.2.2.2.2.2.2.2.2.2.2.2.2.1, GG.out.2.2.2.2.2.2.2.2.2.2.2.2.2.2.2⟩, hidD ⟨fun h => (SS0.out.1 (by simpa using h)), fun h => (SS0.out.2 (by simpa using h))⟩⟩
      · obtain rfl := GG.out.2.2.2.1 (hds 3 (by simp))
        clear hds
        refine wpOp_yes rfl rfl (fun K hK => ?_)
        go_simp
        exact hK _ _ ⟨_, _, _, _, _, _, _, _, _, _, _, _, _, _, _, _, rfl, hidD ⟨GG.out.1, GG.out.2.1, GG.out.2.2.1, fun _ => rfl, fun _ => rfl, GG.out.2.2.2.2.2.1, GG.out.2.2.2.2.2.2.1, GG.out.2.2.2.2.2.2.2.1, GG.out.2.2.2.2.2.2.2.2.1, GG.out.2.2.2.2.2.2.2.2.2.1, GG.out.2.2.2.2.2.2.2.2.2.2.1, GG.out.2.2.2.2.2.2.2.2.2.2.2.1, GG.out.2.2.2.2.2.2.2.2.2.2.2.2.1, GG.out.2.2.2.2.2.2.2.2.2.2.2.2.2.1, GG.out.2.2.2.2.2.2.2.2.2.2.2.2.2.2.1, GG.out.2.2.2.2.2.2.2.2.2.2.2.2.2.2.2⟩, hidD ⟨fun h => (SS0.out.1 (by simpa using h)), fun h => (SS0.out.2 (by simpa using h))⟩⟩
      · obtain rfl := GG.out.2.2.2.2.1 (hds 4 (by simp))
        obtain rfl := GG.out.2.2.2.1 (hds 3 (by simp))
        clear hds
        refine wpOp_yes rfl rfl (fun K hK => ?_)
        go_simp
        exact hK _ _ ⟨_, _, _, _, _, _, _, _, _, _, _, _, _, _, _, _, rfl, hidD ⟨GG.out.1, GG.out.2.1, GG.out.2.2.1, fun _ => rfl, fun _ => rfl, fun _ => rfl, GG.out.2.2.2.2.2.2.1, GG.out.2.2.2.2.2.2.2.1, GG.out.2.2.2.2.2.2.2.2.1, GG.out.2.2.2.2.2.2.2.2.2.1, GG.out.2.2.2.2.2.2.2.2.2.2.1, GG.out.2.2.2.2.2.2.2.2.2.2.2.1, GG.out.2.2.2.2.2.2.2.2.2.2.2.2.1, GG.out.2.2.2.2.2.2.2.2.2.2.2.2.2.1, GG.out.2.2.2.2.2.2.2.2.2.2.2.2.2.2.1, GG.out.2.2.2.2.2.2.2.2.2.2.2.2.2.2.2⟩, hidD ⟨fun h => (SS0.out.1 (by simpa using h)), fun h => (SS0.out.2 (by simpa using h))⟩⟩
      · obtain rfl := GG.out.2.2.2.2.2.1 (hds 5 (by simp))
        obtain rfl := GG.out.2.2.2.1 (hds 3 (by simp))
        clear hds
        refine wpOp_yes rfl rfl (fun K hK => ?_)
        go_simp
        exact hK _ _ ⟨_, _, _, _, _, _, _, _, _, _, _, _, _, _, _, _, rfl, hidD ⟨GG.out.1, GG.out.2.1, GG.out.2.2.1, fun _ => rfl, GG.out.2.2.2.2.1, fun _ => rfl, fun _ => rfl, GG.out.2.2.2.2.2.2.2.1, GG.out.2.2.2.2.2.2.2.2.1, GG.out.2.2.2.2.2.2.2.2.2.1, GG.out.2.2.2.2.2.2.2.2.2.2.1, GG.out.2.2.2.2.2.2.2.2.2.2.2.1, GG.out.2.2.2.2.2.2.2.2.2.2.2.2.1, GG.out.2.2.2.2.2.2.2.2.2.2.2.2.2.1, GG.out.2.2.2.2.2.2.2.2.2.2.2.2.2.2.1, GG.out.2.2.2.2.2.2.2.2.2.2.2.2.2.2.2⟩, hidD ⟨fun h => (SS0.out.1 (by simpa using h)), fun h => (SS0.out.2 (by simpa using h))⟩⟩
      · obtain rfl := GG.out.2.2.2.2.2.2.1 (hds 6 (by simp))
        obtain rfl := GG.out.2.2.2.1 (hds 3 (by simp))
        have hD1 : D 1 = true := hcl 2 _ rfl (hcl 3 _ rfl (hds 3 (by simp)) 2 (by simp)) 1 (by simp)
        have c0 := (SS0.out.2 hD1).1.c0
        clear hds
        refine wpOp_yes rfl rfl (fun K hK => ?_)
        go_simp
        exact hK _ _ ⟨_, _, _, _, _, _, _, _, _, _, _, _, _, _, _, _, rfl, hidD ⟨GG.out.1, GG.out.2.1, GG.out.2.2.1, fun _ => rfl, GG.out.2.2.2.2.1, GG.out.2.2.2.2.2.1, fun _ => rfl, fun _ => rfl, GG.out.2.2.2.2.2.2.2.2.1, GG.out.2.2.2.2.2.2.2.2.2.1, GG.out.2.2.2.2.2.2.2.2.2.2.1, GG.out.2.2.2.2.2.2.2.2.2.2.2.1, GG.out.2.2.2.2.2.2.2.2.2.2.2.2.1, GG.out.2.2.2.2.2.2.2.2.2.2.2.2.2.1, GG.out.2.2.2.2.2.2.2.2.2.2.2.2.2.2.1, GG.out.2.2.2.2.2.2.2.2.2.2.2.2.2.2.2⟩, hidD ⟨fun h => (SS0.out.1 (by simpa using h)), fun h => (SS0.out.2 (by simpa using h))⟩⟩
      · obtain rfl := GG.out.2.2.2.1 (hds 3 (by simp))
        clear hds
        refine wpOp_yes rfl rfl (fun K hK => ?_)
        go_simp
        exact hK _ _ ⟨_, _, _, _, _, _, _, _, _, _, _, _, _, _, _, _, rfl, hidD ⟨GG.out.1, GG.out.2.1, GG.out.2.2.1, fun _ => rfl, GG.out.2.2.2.2.1, GG.out.2.2.2.2.2.1, GG.out.2.2.2.2.2.2.1, GG.out.2.2.2.2.2.2.2.1, fun _ => rfl, GG.out.2.2.2.2.2.2.2.2.2.1, GG.out.2.2.2.2.2.2.2.2.2.2.1, GG.out.2.2.2.2.2.2.2.2.2.2.2.1, GG.out.2.2.2.2.2.2.2.2.2.2.2.2.1, GG.out.2.2.2.2.2.2.2.2.2.2.2.2.2.1, GG.out.2.2.2.2.2.2.2.2.2.2.2.2.2.2.1, GG.out.2.2.2.2.2.2.2.2.2.2.2.2.2.2.2⟩, hidD ⟨fun h => (SS0.out.1 (by simpa using h)), fun h => (SS0.out.2 (by simpa using h))⟩⟩
      · obtain rfl := GG.out.2.2.2.2.2.2.2.2.1 (hds 8 (by simp))
        obtain rfl := GG.out.2.2.2.1 (hds 3 (by simp))
        clear hds
        refine wpOp_yes rfl rfl (fun K hK => ?_)
        go_simp
        exact hK _ _ ⟨_, _, _, _, _, _, _, _, _, _, _, _, _, _, _, _, rfl, hidD ⟨GG.out.1, GG.out.2.1, GG.out.2.2.1, fun _ => rfl, GG.out.2.2.2.2.1, GG.out.2.2.2.2.2.1, GG.out.2.2.2.2.2.2.1, GG.out.2.2.2.2.2.2.2.1, fun _ => rfl, fun _ => rfl, GG.out.2.2.2.2.2.2.2.2.2.2.1, GG.out.2.2.2.2.2.2.2.2.2.2.2.1, GG.out.2.2.2.2.2.2.2.2.2.2.2.2.1, GG.out.2.2.2.2.2.2.2.2.2.2.2.2.2.1, GG.out.2.2.2.2.2.2.2.2.2.2.2.2.2.2.1, GG.out.2.2.2.2.2.2.2.2.2.2.2.2.2.2.2⟩, hidD ⟨fun h => (SS0.out.1 (by simpa using h)), fun h => (SS0.out.2 (by simpa using h))⟩⟩
      · obtain rfl := GG.out.2.2.2.2.2.2.2.2.2.1 (hds 9 (by simp))
        obtain rfl := GG.out.2.2.2.1 (hds 3 (by simp))
        clear hds
        refine wpOp_yes rfl rfl (fun K hK => ?_)
        go_simp
        exact hK _ _ ⟨_, _, _, _, _, _, _, _, _, _, _, _, _, _, _, _, rfl, hidD ⟨GG.out.1, GG.out.2.1, GG.out.2.2.1, fun _ => rfl, GG.out.2.2.2.2.1, GG.out.2.2.2.2.2.1, GG.out.2.2.2.2.2.2.1, GG.out.2.2.2.2.2.2.2.1, GG.out.2.2.2.2.2.2.2.2.1, fun _ => rfl, fun _ => rfl, GG.out.2.2.2.2.2.2.2.2.2.2.2.1, GG.out.2.2.2.2.2.2.2.2.2.2.2.2.1, GG.out.2.2.2.2.2.2.2.2.2.2.2.2.2.1, GG.out.2.2.2.2.2.2.2.2.2.2.2.2.2.2.1, GG.out.2.2.2.2.2.2.2.2.2.2.2.2.2.2.2⟩, hidD ⟨fun h => (SS0.out.1 (by simpa using h)), fun h => (SS0.out.2 (by simpa using h))⟩⟩
      · obtain rfl := GG.out.2.2.2.2.2.2.2.2.2.2.1 (hds 10 (by simp))
        obtain rfl := GG.out.2.2.2.1 (hds 3 (by simp))
        have hD1 : D 1 = true := hcl 2 _ rfl (hcl 3 _ rfl (hds 3 (by simp)) 2 (by simp)) 1 (by simp)
        have c1 := (SS0.out.2 hD1).1.c1
        clear hds
        refine wpOp_yes rfl rfl (fun K hK => ?_)
        go_simp
        exact hK _ _ ⟨_, _, _, _, _, _, _, _, _, _, _, _, _, _, _, _, rfl, hidD ⟨GG.out.1, GG.out.2.1, GG.out.2.2.1, fun _ => rfl, GG.out.2.2.2.2.1, GG.out.2.2.2.2.2.1, GG.out.2.2.2.2.2.2.1, GG.out.2.2.2.2.2.2.2.1, GG.out.2.2.2.2.2.2.2.2.1, GG.out.2.2.2.2.2.2.2.2.2.1, fun _ => rfl, fun _ => rfl, GG.out.2.2.2.2.2.2.2.2.2.2.2.2.1, GG.out.2.2.2.2.2.2.2.2.2.2.2.2.2.1, GG.out.2.2.2.2.2.2.2.2.2.2.2.2.2.2.1, GG.out.2.2.2.2.2.2.2.2.2.2.2.2.2.2.2⟩, hidD ⟨fun h => (SS0.out.1 (by simpa using h)), fun h => (SS0.out.2 (by simpa using h))⟩⟩
      · obtain rfl := GG.out.2.2.2.2.2.2.2.1 (hds 7 (by simp))
        obtain rfl := GG.out.2.2.2.2.2.2.2.2.2.2.2.1 (hds 11 (by simp))
        obtain rfl := GG.out.2.2.2.1 (hds 3 (by simp))
        clear hds
        refine wpOp_yes rfl rfl (fun K hK => ?_)
        go_simp
        exact hK _ _ ⟨_, _, _, _, _, _, _, _, _, _, _, _, _, _, _, _, rfl, hidD ⟨GG.out.1, GG.out.2.1, GG.out.2.2.1, fun _ => rfl, GG.out.2.2.2.2.1, GG.out.2.2.2.2.2.1, GG.out.2.2.2.2.2.2.1, fun _ => rfl, GG.out.2.2.2.2.2.2.2.2.1, GG.out.2.2.2.2.2.2.2.2.2.1, GG.out.2.2.2.2.2.2.2.2.2.2.1, fun _ => rfl, fun _ => rfl, GG.out.2.2.2.2.2.2.2.2.2.2.2.2.2.1, GG.out.2.2.2.2.2.2.2.2.2.2.2.2.2.2.1, GG.out.2.2.2.2.2.2.2.2.2.2.2.2.2.2.2⟩, hidD ⟨fun h => (SS0.out.1 (by simpa using h)), fun h => (SS0.out.2 (by simpa using h))⟩⟩
      · obtain rfl := GG.out.2.2.2.2.2.2.2.2.2.2.2.2.1 (hds 12 (by simp))
        obtain rfl := GG.out.2.2.2.1 (hds 3 (by simp))
        clear hds
        have HC := hidD (HID.out V)
        refine wpOp_yes rfl rfl (fun K hK => ?_)
        go_simp
        go_wp2_with (go_at_call 171; refine HC.out.mono ?_; rintro e w5 ⟨rfl, hb5⟩)
        exact ⟨_, _, _, _, _, _, _, _, _, _, _, _, _, _, _, _, rfl, hidD ⟨GG.out.1, GG.out.2.1, GG.out.2.2.1, fun _ => rfl, GG.out.2.2.2.2.1, GG.out.2.2.2.2.2.1, GG.out.2.2.2.2.2.2.1, GG.out.2.2.2.2.2.2.2.1, GG.out.2.2.2.2.2.2.2.2.1, GG.out.2.2.2.2.2.2.2.2.2.1, GG.out.2.2.2.2.2.2.2.2.2.2.1, GG.out.2.2.2.2.2.2.2.2.2.2.2.1, fun _ => rfl, fun _ => rfl, GG.out.2.2.2.2.2.2.2.2.2.2.2.2.2.2.1, GG.out.2.2.2.2.2.2.2.2.2.2.2.2.2.2.2⟩, hidD ⟨fun h => (SS0.out.1 (by simpa using h)).below hb5, fun h => (SS0.out.2 (by simpa using h)).below hb5⟩⟩
      · obtain rfl := GG.out.2.2.2.1 (hds 3 (by simp))
        obtain rfl := GG.out.2.2.2.2.2.2.2.2.2.2.2.2.2.1 (hds 13 (by simp))
        clear hds
        refine wpOp_go rfl rfl (fun K hK => ?_)
        go_simp
        exact hK _ _ ⟨_, _, _, _, _, _, _, _, _, _, _, _, _, _, _, _, rfl, hidD ⟨GG.out.1, GG.out.2.1, GG.out.2.2.1, fun _ => rfl, GG.out.2.2.2.2.1, GG.out.2.2.2.2.2.1, GG.out.2.2.2.2.2.2.1, GG.out.2.2.2.2.2.2.2.1, GG.out.2.2.2.2.2.2.2.2.1, GG.out.2.2.2.2.2.2.2.2.2.1, GG.out.2.2.2.2.2.2.2.2.2.2.1, GG.out.2.2.2.2.2.2.2.2.2.2.2.1, GG.out.2.2.2.2.2.2.2.2.2.2.2.2.1, fun _ => rfl, fun _ => rfl, GG.out.2.2.2.2.2.2.2.2.2.2.2.2.2.2.2⟩, hidD ⟨fun h => (SS0.out.1 (by simpa using h)), fun h => (SS0.out.2 (by simpa using h))⟩⟩
      · obtain rfl := GG.out.2.2.2.2.2.2.2.2.2.2.2.2.2.2.1 (hds 14 (by simp))
        clear hds
        refine wpOp_go rfl rfl (fun K hK => ?_)
        go_simp
        exact hK _ _ ⟨_, _, _, _, _, _, _, _, _, _, _, _, _, _, _, _, rfl, hidD ⟨GG.out.1, GG.out.2.1, GG.out.2.2.1, GG.out.2.2.2.1, GG.out.2.2.2.2.1, GG.out.2.2.2.2.2.1, GG.out.2.2.2.2.2.2.1, GG.out.2.2.2.2.2.2.2.1, GG.out.2.2.2.2.2.2.2.2.1, GG.out.2.2.2.2.2.2.2.2.2.1, GG.out.2.2.2.2.2.2.2.2.2.2.1, GG.out.2.2.2.2.2.2.2.2.2.2.2.1, GG.out.2.2.2.2.2.2.2.2.2.2.2.2.1, GG.out.2.2.2.2.2.2.2.2.2.2.2.2.2.1, fun _ => rfl, fun _ => rfl⟩, hidD ⟨fun h => (SS0.out.1 (by simpa using h)), fun h => (SS0.out.2 (by simpa using h))⟩⟩
    case fin2 =>
      rintro D act V hDD ⟨t3x, t4x, t5x, t6x, t7x, t8x, t9x, t10x, t11x, t12x, t13x, t14x, t15x, t16x, t17x, t2x, rfl, GG, SS0⟩
      have HF := hidD (SS0.out.2 (hDD 1 (by decide)))
      obtain rfl := GG.out.2.2.2.2.2.2.2.2.2.2.2.2.2.2.2 (hDD 15 (by decide))
      clear GG SS0 hDD
      go_wp2_with fail
      go_ret
      exact ⟨rfl, HF.out.1, HF.out.2⟩
end Go.Proofs.YteldjhhjnchdeaaGreatDoor
namespace Go.Proofs.YteldjhhjnchdeaaGreatDoor
open Go.RowKit Go.Shelf

attribute [local go_sem] Oper.semAt_some

/-- Digits without needless zeros. -/
def nzL (ds : List UInt8) : List UInt8 := if Lib.trimLeftB ds 48 = [] then [48] else Lib.trimLeftB ds 48
/-- What the code's reader does with a NUMBER. -/
def NumC (w : World) (R : Nat) (s : ByteArray) (I : Nat) (r : Ending) (w' : World) : Prop :=
  w.grownBy w' (some R) ∧ (∀ e q, numS (wlst s) I = .bad e q → r = .panicked [{ v := faultV e q, recovered := false }]) ∧ (∀ ds q k, numS (wlst s) I = .ok (ds, q) k → r = .returned (.tuple #[.string ⟨(nzL ds).toArray⟩, .int .i64 (q : Int)]) ∧ RcB w' R s (k : Int))
theorem extract_list (s : ByteArray) (p d : Nat) : (s.extract p (p + d)).data.toList = ((wlst s).drop p).take d := by
  unfold wlst
  simp [ByteArray.data_extract, Array.toList_extract, List.extract_eq_take_drop]

set_option maxRecDepth 100000 in
set_option maxHeartbeats 4000000 in
theorem dnumber_c (R : Nat) (s : ByteArray) (I : Nat) (w : World) (h : RcB w R s I) (hI : I ≤ s.size) (hs : s.size ≤ 300) :
    Calls Tryz.prog 172 #[.pointer (some ⟨R, 0, none⟩)] w fun r w' => NumC w R s I r w' := by
  obtain ⟨p, hp⟩ : ∃ p, skB (wlst s) I = p := ⟨_, rfl⟩
  have HAD := hidD (atDigit_c R s I w h hI hs)
  rw [hp] at HAD
  have hps : p ≤ s.size := by rw [← hp, ← wlst_len]; exact skB_le (by rw [wlst_len]; exact hI)
  have HP := hidD hp
  have HF := hidD (fun (e q : Int) (V : World) => dfail_c (.pointer (some ⟨R, 0, none⟩)) e q V)
  clear h hI hp
  cases hdg : digAt (wlst s) p with
  | false =>
    have HN := hidD (show numS (wlst s) I = .bad 2 p by unfold numS; rw [HP.out, if_pos (digAt_dg hdg)])
    rw [hdg] at HAD
    clear hdg
    go_enter Tryz.func172, Tryz.ntmps172
    go_wp2_with first
      | (go_at_call 149; refine HAD.out.mono ?_; clear HAD; rintro e w1 ⟨rfl, hr1, hg1⟩; have c1 := hr1.c1; have HG1 := hidD hg1; clear hr1 hg1)
      | (go_at_call 127; refine (HF.out _ _ _).mono ?_; clear HF; rintro e w2 ⟨rfl, rfl⟩)
    refine ⟨rfl, HG1.out, fun e q he => ?_, fun ds q k he => ?_⟩
    · rw [HN.out] at he; cases he; rfl
    · rw [HN.out] at he; cases he
  | true =>
    rw [hdg] at HAD
    have HDG0 := hidD hdg
    clear hdg
    go_enter Tryz.func172, Tryz.ntmps172
    go_upto_region 4 with first
      | (go_at_call 149; refine HAD.out.mono ?_; clear HAD; rintro e w1 ⟨rfl, hr1, hg1⟩; have HR1 := hidD hr1; have c1 := hr1.c1; have HG1 := hidD hg1; clear hr1 hg1)
    go_loopw [] (fun wr => ∃ d : Nat, p + d ≤ s.size ∧ Hid (RcB wr R s ((p + d : Nat) : Int) ∧ w.grownBy wr (some R) ∧ ∃ n, NumAt (wlst s) p d n)) (fun wr => s.size - rdI wr R)
    case atStart => exact ⟨0, by omega, hidD ⟨HR1.out, HG1.out, 0, NumAt.zero (by rw [wlst_len]; exact hps)⟩⟩
    case round =>
      clear c1
      obtain ⟨d, hds, HR⟩ := hrel
      obtain ⟨j, hj⟩ : ∃ j, j = p + d := ⟨_, rfl⟩
      have HJ := hidD hj
      rw [← hj] at hds HR
      clear hj
      have c0 := HR.out.1.c0
      have c1 := HR.out.1.c1
      have f1 := HR.out.1.f 1
      by_cases hlt : j < s.size
      · have hlt2 : (j : Int) < (s.size : Int) := by omega
        have hj0 : (0 : Int) ≤ (j : Int) := by omega
        have HX := hidD (yisDigit_c s[j])
        by_cases hdig : isD s[j] = true
        · rw [hdig] at HX
          have HDG := hidD hdig
          clear hdig
          go_wp2_with fail
          go_quiet ((go_at_call 171; exact Calls.quiet_of_same (HX.out _)))
          have HRI := hidD (rcI_of HR.out.1)
          go_wp2_with fail
          go_roundw
          case rel =>
            refine ⟨d + 1, ?_, hidD ⟨?_, ?_, ?_⟩⟩
            · have := HJ.out; omega
            · have := (HR.out.1.drewN nq).set1 ((j : Int) + 1)
              rw [show ((j : Int) + 1) = ((p + (d + 1) : Nat) : Int) from by have := HJ.out; omega] at this ⊢
              exact this
            · exact grown_trans (grown_trans HR.out.2.1 (grown_drewN _ _ _)) (grown_set _ R 1 _)
            · obtain ⟨n, hn⟩ := HR.out.2.2
              by_cases hd12 : d < 12
              · exact ⟨_, hn.next1 (by rw [wlst_len]; have := HJ.out; omega) (by simp only [← HJ.out]; exact HDG.out) hd12⟩
              · exact ⟨_, hn.next2 (by rw [wlst_len]; have := HJ.out; omega) (by simp only [← HJ.out]; exact HDG.out) (by omega)⟩
          case measure =>
            have e2 := rcI_of ((HR.out.1.drewN nq).set1 ((j + 1 : Nat) : Int))
            rw [show ((j + 1 : Nat) : Int) = (j : Int) + 1 from by omega] at e2
            rw [e2, HRI.out]
            omega
        · have hdig := Bool.eq_false_iff.2 hdig
          rw [hdig] at HX
          have HDE := hidD (show dgE (wlst s) p = j by rw [HJ.out]; exact HR.out.2.2.choose_spec.dg (fun hl => by simp only [← HJ.out]; exact hdig))
          clear hdig
          go_wp2_with fail
          go_quiet ((go_at_call 171; exact Calls.quiet_of_same (HX.out _)))
          have HRF := hidD (HR.out.1.drewN nq)
          have HG := hidD (show w.grownBy (wr.drewN nq) (some R) from grown_trans HR.out.2.1 (grown_drewN _ _ _))
          have HNA := hidD HR.out.2.2
          have hd0 : d ≠ 0 := fun e => by
            have h5 := HDE.out
            have h6 := HJ.out
            rw [e, Nat.add_zero] at h6
            have h7 := HDG0.out
            have h8 := runTo_at (f := isD) (l := wlst s) (i := p)
            rw [show runTo isD (wlst s) p = j from h5] at h8
            rw [← h6] at h7
            by_cases h9 : j < s.size
            · have := h8 (by rw [wlst_len]; exact h9)
              rw [digAt_bytes h9] at h7
              exact absurd (this.symm.trans h7) (by decide)
            · rw [digAt_end (by omega)] at h7
              cases h7
          have hpj : (p : Int) ≤ (j : Int) := by have := HJ.out; omega
          have hpj2 : p ≤ j := by have := HJ.out; omega
          obtain ⟨SX, hSX⟩ : ∃ S, s.extract p j = S := ⟨_, rfl⟩
          have hsz : SX.size = d := by rw [← hSX, ByteArray.size_extract]; have := HJ.out; omega
          have HSX := hidD hSX
          have c0' := HRF.out.c0
          have c1' := HRF.out.c1
          go_wp2_with fail
          go_quiet (fail)
          have HGN := hidD (show ∀ N, w.grownBy (wr.drewN N) (some R) from fun N => grown_trans HR.out.2.1 (grown_drewN _ _ _))
          have HRN := hidD (show ∀ N, RcB (wr.drewN N) R s (j : Int) from fun N => HR.out.1.drewN N)
          clear hSX c0' c1' c0 c1
          have hjp : ¬ j = p := by have := HJ.out; omega
          have HDS := hidD (show SX.data.toList = ((wlst s).drop p).take (j - p) by rw [← HSX.out, HJ.out, extract_list, show p + d - p = d from by omega])
          by_cases hd12 : 12 < d
          · have hd12' : (12 : Int) < (d : Int) := by omega
            have HN := hidD (show numS (wlst s) I = .bad 3 p by unfold numS; rw [HP.out, HDE.out, if_neg hjp, if_pos (by have := HJ.out; omega)])
            go_wp2_with (go_at_call 127; refine (HF.out _ _ _).mono ?_; clear HF; rintro e w2 ⟨rfl, rfl⟩)
            refine ⟨rfl, HGN.out _, fun e q he => ?_, fun ds q k he => ?_⟩
            · rw [HN.out] at he; cases he; rfl
            · rw [HN.out] at he; cases he
          · have hd12' : ¬ (12 : Int) < (d : Int) := by omega
            have HN := hidD (show numS (wlst s) I = .ok (SX.data.toList, p) j by unfold numS; rw [HP.out, HDE.out, if_neg hjp, if_neg (by have := HJ.out; omega), HDS.out])
            have HTL := hidD (fun (V : World) => Tryz.strings_TrimLeft_one SX 48 (by decide) V)
            obtain ⟨SY, hSY⟩ : ∃ S : ByteArray, ⟨(Lib.trimLeftB SX.data.toList 48).toArray⟩ = S := ⟨_, rfl⟩
            rw [hSY] at HTL
            have HSY := hidD hSY
            by_cases he : Lib.trimLeftB SX.data.toList 48 = []
            · have hSe : SY = ⟨#[]⟩ := by rw [← hSY, he]
              have HNZ := hidD (show nzL SX.data.toList = [48] by unfold nzL; rw [if_pos he])
              clear hSY he HSY
              subst hSe
              go_wp2_with (go_at_call 188; refine (HTL.out _).mono ?_; clear HTL; rintro e w2 ⟨rfl, rfl⟩)
              refine bodyPost_ret (v := .tuple #[.string ⟨#[48]⟩, .int .i64 (p : Int)]) (by simp [results, Tryz.results172, go_sem]) rfl ⟨HGN.out _, fun e q h5 => ?_, fun ds q k h5 => ?_⟩
              · rw [HN.out] at h5; cases h5
              · rw [HN.out] at h5; cases h5
                exact ⟨by rw [HNZ.out], HRN.out _⟩
            · have hSe : SY.toList.isEmpty = false := by
                rw [← hSY, ba_toList]
                simpa using he
              have HNZ := hidD (show (⟨(nzL SX.data.toList).toArray⟩ : ByteArray) = SY by unfold nzL; rw [if_neg he]; exact hSY)
              clear hSY he
              go_wp2_with (go_at_call 188; refine (HTL.out _).mono ?_; clear HTL; rintro e w2 ⟨rfl, rfl⟩)
              refine bodyPost_ret (v := .tuple #[.string SY, .int .i64 (p : Int)]) (by simp [results, Tryz.results172, go_sem]) rfl ⟨HGN.out _, fun e q h5 => ?_, fun ds q k h5 => ?_⟩
              · rw [HN.out] at h5; cases h5
              · rw [HN.out] at h5; cases h5
                exact ⟨by rw [HNZ.out], HRN.out _⟩
      · have HDE := hidD (show dgE (wlst s) p = j by rw [HJ.out]; exact HR.out.2.2.choose_spec.dg (fun hl => absurd hl (by rw [wlst_len]; have := HJ.out; omega)))
        have hd' : decide (j < s.size) = false := decide_eq_false (by omega)
        go_wp2_with fail
        go_quiet (fail)
        have HRF := hidD (HR.out.1.drewN nq)
        have HG := hidD (show w.grownBy (wr.drewN nq) (some R) from grown_trans HR.out.2.1 (grown_drewN _ _ _))
        have HNA := hidD HR.out.2.2
        have hd0 : d ≠ 0 := fun e => by
          have h5 := HDE.out
          have h6 := HJ.out
          rw [e, Nat.add_zero] at h6
          have h7 := HDG0.out
          have h8 := runTo_at (f := isD) (l := wlst s) (i := p)
          rw [show runTo isD (wlst s) p = j from h5] at h8
          rw [← h6] at h7
          by_cases h9 : j < s.size
          · have := h8 (by rw [wlst_len]; exact h9)
            rw [digAt_bytes h9] at h7
            exact absurd (this.symm.trans h7) (by decide)
          · rw [digAt_end (by omega)] at h7
            cases h7
        have hpj : (p : Int) ≤ (j : Int) := by have := HJ.out; omega
        have hpj2 : p ≤ j := by have := HJ.out; omega
        obtain ⟨SX, hSX⟩ : ∃ S, s.extract p j = S := ⟨_, rfl⟩
        have hsz : SX.size = d := by rw [← hSX, ByteArray.size_extract]; have := HJ.out; omega
        have HSX := hidD hSX
        have c0' := HRF.out.c0
        have c1' := HRF.out.c1
        go_wp2_with fail
        go_quiet (fail)
        have HGN := hidD (show ∀ N, w.grownBy (wr.drewN N) (some R) from fun N => grown_trans HR.out.2.1 (grown_drewN _ _ _))
        have HRN := hidD (show ∀ N, RcB (wr.drewN N) R s (j : Int) from fun N => HR.out.1.drewN N)
        clear hSX c0' c1' c0 c1
        have hjp : ¬ j = p := by have := HJ.out; omega
        have HDS := hidD (show SX.data.toList = ((wlst s).drop p).take (j - p) by rw [← HSX.out, HJ.out, extract_list, show p + d - p = d from by omega])
        by_cases hd12 : 12 < d
        · have hd12' : (12 : Int) < (d : Int) := by omega
          have HN := hidD (show numS (wlst s) I = .bad 3 p by unfold numS; rw [HP.out, HDE.out, if_neg hjp, if_pos (by have := HJ.out; omega)])
          go_wp2_with (go_at_call 127; refine (HF.out _ _ _).mono ?_; clear HF; rintro e w2 ⟨rfl, rfl⟩)
          refine ⟨rfl, HGN.out _, fun e q he => ?_, fun ds q k he => ?_⟩
          · rw [HN.out] at he; cases he; rfl
          · rw [HN.out] at he; cases he
        · have hd12' : ¬ (12 : Int) < (d : Int) := by omega
          have HN := hidD (show numS (wlst s) I = .ok (SX.data.toList, p) j by unfold numS; rw [HP.out, HDE.out, if_neg hjp, if_neg (by have := HJ.out; omega), HDS.out])
          have HTL := hidD (fun (V : World) => Tryz.strings_TrimLeft_one SX 48 (by decide) V)
          obtain ⟨SY, hSY⟩ : ∃ S : ByteArray, ⟨(Lib.trimLeftB SX.data.toList 48).toArray⟩ = S := ⟨_, rfl⟩
          rw [hSY] at HTL
          have HSY := hidD hSY
          by_cases he : Lib.trimLeftB SX.data.toList 48 = []
          · have hSe : SY = ⟨#[]⟩ := by rw [← hSY, he]
            have HNZ := hidD (show nzL SX.data.toList = [48] by unfold nzL; rw [if_pos he])
            clear hSY he HSY
            subst hSe
            go_wp2_with (go_at_call 188; refine (HTL.out _).mono ?_; clear HTL; rintro e w2 ⟨rfl, rfl⟩)
            refine bodyPost_ret (v := .tuple #[.string ⟨#[48]⟩, .int .i64 (p : Int)]) (by simp [results, Tryz.results172, go_sem]) rfl ⟨HGN.out _, fun e q h5 => ?_, fun ds q k h5 => ?_⟩
            · rw [HN.out] at h5; cases h5
            · rw [HN.out] at h5; cases h5
              exact ⟨by rw [HNZ.out], HRN.out _⟩
          · have hSe : SY.toList.isEmpty = false := by
              rw [← hSY, ba_toList]
              simpa using he
            have HNZ := hidD (show (⟨(nzL SX.data.toList).toArray⟩ : ByteArray) = SY by unfold nzL; rw [if_neg he]; exact hSY)
            clear hSY he
            go_wp2_with (go_at_call 188; refine (HTL.out _).mono ?_; clear HTL; rintro e w2 ⟨rfl, rfl⟩)
            refine bodyPost_ret (v := .tuple #[.string SY, .int .i64 (p : Int)]) (by simp [results, Tryz.results172, go_sem]) rfl ⟨HGN.out _, fun e q h5 => ?_, fun ds q k h5 => ?_⟩
            · rw [HN.out] at h5; cases h5
            · rw [HN.out] at h5; cases h5
              exact ⟨by rw [HNZ.out], HRN.out _⟩
end Go.Proofs.YteldjhhjnchdeaaGreatDoor
namespace Go.Proofs.YteldjhhjnchdeaaGreatDoor
open Go.RowKit Go.Shelf

attribute [local go_sem] Oper.semAt_some

theorem num_cons (c : UInt8) (t : List UInt8) : num (c :: t) = num t + 10 ^ t.length * (c.toNat - 48) := by
  have h := num_append [c] t
  rw [List.singleton_append] at h
  rw [h]
  have e : num [c] = c.toNat - 48 := by simp [num, dgs, val]
  rw [e]
theorem num_drop (ds : List UInt8) : num (ds.dropWhile (· == 48)) = num ds := by
  induction ds with
  | nil => rfl
  | cons c t ih =>
    by_cases h : c = 48
    · subst h
      rw [List.dropWhile_cons_of_pos (by simp), ih, num_cons]
      simp
    · rw [List.dropWhile_cons_of_neg (by simpa using h)]
theorem all_drop {ds : List UInt8} (h : ds.all isD = true) : (ds.dropWhile (· == 48)).all isD = true := by
  rw [List.all_eq_true] at h ⊢
  intro c hc
  exact h c ((List.dropWhile_sublist _).subset hc)
theorem nzL_spec {ds : List UInt8} (h : ds.all isD = true) : num (nzL ds) = num ds ∧ (nzL ds).all isD = true ∧ nzL ds ≠ [] ∧ (1 < (nzL ds).length → 10 ≤ num ds) ∧ (nzL ds).length ≤ ds.length + 1 := by
  unfold nzL Lib.trimLeftB
  have h1 := num_drop ds
  have h2 := all_drop h
  have h3 := (List.dropWhile_sublist (l := ds) (· == 48)).length_le
  split
  · rename_i he
    rw [he] at h1
    refine ⟨?_, by decide, by simp, by simp, by simp⟩
    rw [← h1]
    decide
  · rename_i he
    refine ⟨h1, h2, he, fun hl => ?_, by omega⟩
    cases hd : ds.dropWhile (· == 48) with
    | nil => exact absurd hd he
    | cons c t =>
      rw [hd] at h1 h2 hl
      have hc : c ≠ 48 := by
        intro e
        have := List.head?_dropWhile_not (p := fun x : UInt8 => x == 48) (l := ds)
        rw [hd] at this
        simp [e] at this
      have hb := isD_bounds (List.all_eq_true.1 h2 c (List.mem_cons_self ..))
      have hc2 : c.toNat ≠ 48 := fun e => hc (UInt8.toNat_inj.1 e)
      rw [← h1, num_cons]
      have h5 : 10 ^ 1 ≤ 10 ^ t.length := Nat.pow_le_pow_right (by omega) (by simp at hl; omega)
      have h6 : 10 ^ t.length * 1 ≤ 10 ^ t.length * (c.toNat - 48) := Nat.mul_le_mul_left _ (by omega)
      omega

/-- What the code's reader does behind x. -/
def PowC (w : World) (R : Nat) (s : ByteArray) (I : Nat) (r : Ending) (w' : World) : Prop :=
  w.grownBy w' (some R) ∧ (∀ e q, powS (wlst s) I = .bad e q → r = .panicked [{ v := faultV e q, recovered := false }]) ∧ (∀ n k, powS (wlst s) I = .ok n k → r = .returned (.int .i64 (n : Int)) ∧ RcB w' R s (k : Int))

set_option maxRecDepth 100000 in
set_option maxHeartbeats 4000000 in
theorem dpower_c (R : Nat) (s : ByteArray) (I : Nat) (w : World) (h : RcB w R s I) (hI : I ≤ s.size) (hs : s.size ≤ 300) :
    Calls Tryz.prog 151 #[.pointer (some ⟨R, 0, none⟩)] w fun r w' => PowC w R s I r w' := by
  obtain ⟨b, hb⟩ : ∃ b, b = isAt (wlst s) (skB (wlst s) I) 94 := ⟨_, rfl⟩
  have HX := hidD (found_c R s I 94 w h hI hs b hb)
  obtain ⟨j, hj⟩ : ∃ j, skB (wlst s) I = j := ⟨_, rfl⟩
  rw [hj] at HX hb
  have HF := hidD (fun (e q : Int) (V : World) => dfail_c (.pointer (some ⟨R, 0, none⟩)) e q V)
  have HJ := hidD hj
  clear h hj
  cases b with
  | false =>
    have HN := hidD (show powS (wlst s) I = .ok 1 j by unfold powS; rw [HJ.out, ← hb]; simp)
    clear hb
    go_enter Tryz.func151, Tryz.ntmps151
    go_wp2_with (go_at_call 124; refine HX.out.mono ?_; clear HX; rintro e w1 ⟨rfl, hr1, hg1⟩; have HR1 := hidD hr1; have HG1 := hidD hg1; clear hr1 hg1)
    go_ret
    refine ⟨HG1.out, fun e q he => ?_, fun n k he => ?_⟩
    · rw [HN.out] at he; cases he
    · rw [HN.out] at he; cases he; exact ⟨rfl, HR1.out⟩
  | true =>
    have hj1 : j + 1 ≤ s.size := by have := isAt_lt hb.symm; rw [wlst_len] at this; omega
    have HNU := hidD (fun (V : World) (hh : RcB V R s ((j + 1 : Nat) : Int)) => dnumber_c R s (j + 1) V hh hj1 hs)
    have HPW := hidD (show powS (wlst s) I = (match numS (wlst s) (j + 1) with | .bad e p => .bad e p | .ok (ds, p) k => if 8 < num ds then .bad 3 p else .ok (num ds) k) by
      unfold powS
      rw [HJ.out, if_pos hb.symm]
      rcases numS (wlst s) (j + 1) with ⟨e, p⟩ | ⟨⟨ds, p⟩, k⟩ <;> rfl)
    clear hb
    cases hn : numS (wlst s) (j + 1) with
    | bad e0 q0 =>
      rw [hn] at HPW
      have HNN := hidD hn
      clear hn
      go_enter Tryz.func151, Tryz.ntmps151
      go_wp2_with (first
        | (go_at_call 124; refine HX.out.mono ?_; clear HX; rintro e w1 ⟨rfl, hr1, hg1⟩; have HR1 := hidD hr1; have HG1 := hidD hg1; clear hr1 hg1)
        | (go_at_call 172; refine (HNU.out _ HR1.out).mono ?_; clear HNU; rintro e w2 ⟨hg2, hb2, _⟩; obtain rfl := hb2 _ _ HNN.out; have HG2 := hidD (grown_trans HG1.out hg2); clear hg2 hb2))
      refine ⟨rfl, HG2.out, fun e q he => ?_, fun n k he => ?_⟩
      · rw [HPW.out] at he; cases he; rfl
      · rw [HPW.out] at he; cases he
    | ok a0 k0 =>
      obtain ⟨ds, p0⟩ := a0
      rw [hn] at HPW
      have HNN := hidD hn
      obtain ⟨g1, g2, g3, g4, g5⟩ := nzL_spec (numS_ok (by rw [wlst_len]; omega) hn).2.2.2.2.2.2.2.2
      clear hn
      cases hz : nzL ds with
      | nil => exact absurd hz g3
      | cons c0 t0 =>
        rw [hz] at g1 g2 g4 g5
        have hcb := isD_bounds (List.all_eq_true.1 g2 c0 (List.mem_cons_self ..))
        have hlen := (numS_ok (by rw [wlst_len]; omega) HNN.out).2.2.2.2.2.2.2.1
        have hlen2 := (numS_ok (by rw [wlst_len]; omega) HNN.out).2.2.2.2.2.1
        cases t0 with
        | cons c1 t1 =>
          have h8 : 8 < num ds := by have := g4 (by simp); omega
          obtain ⟨SD, hSD⟩ : ∃ S : ByteArray, ⟨(c0 :: c1 :: t1).toArray⟩ = S := ⟨_, rfl⟩
          have HZ := hidD (show (⟨(nzL ds).toArray⟩ : ByteArray) = SD by rw [hz]; exact hSD)
          have hsz : 1 < SD.size := by rw [← hSD]; show 1 < (c0 :: c1 :: t1).toArray.size; simp
          have hsz2 : SD.size ≤ 13 := by rw [← hSD]; show (c0 :: c1 :: t1).toArray.size ≤ 13; rw [List.size_toArray]; omega
          have hsz' : (1 : Int) < (SD.size : Int) := by omega
          have HH8 := hidD h8
          clear hSD hz g1 g2 g3 g4 g5 h8 hlen hlen2
          go_enter Tryz.func151, Tryz.ntmps151
          go_wp2_with (first
          | (go_at_call 124; refine HX.out.mono ?_; clear HX; rintro e w1 ⟨rfl, hr1, hg1⟩; have HR1 := hidD hr1; have HG1 := hidD hg1; clear hr1 hg1)
          | (go_at_call 172; refine (HNU.out _ HR1.out).mono ?_; clear HNU; rintro e w2 ⟨hg2, _, hb2⟩; obtain ⟨rfl, hr2⟩ := hb2 _ _ _ HNN.out; rw [HZ.out]; have HR2 := hidD hr2; have HG2 := hidD (grown_trans HG1.out hg2); clear hg2 hb2 hr2)
          | (go_at_call 127; refine (HF.out _ _ _).mono ?_; clear HF; rintro e w3 ⟨rfl, rfl⟩))
          refine ⟨rfl, HG2.out, fun e q he => ?_, fun n k he => ?_⟩
          · rw [HPW.out, if_pos HH8.out] at he; cases he; rfl
          · rw [HPW.out, if_pos HH8.out] at he; cases he
        | nil =>
          have hnum : num ds = c0.toNat - 48 := by rw [← g1]; simp [num, dgs, val]
          obtain ⟨SD, hSD⟩ : ∃ S : ByteArray, (⟨#[c0]⟩ : ByteArray) = S := ⟨_, rfl⟩
          have HZ := hidD (show (⟨(nzL ds).toArray⟩ : ByteArray) = SD by rw [hz]; exact hSD)
          have hsz : SD.size = 1 := by rw [← hSD]; rfl
          have hix : ∀ h : 0 < SD.size, SD[0]'h = c0 := by subst hSD; intro _; rfl
          have hmod : ((c0.toNat : Int) - 48) % 256 = (c0.toNat : Int) - 48 := by omega
          clear hSD
          have HNM := hidD hnum
          clear hz g1 g2 g3 g4 g5 hlen hlen2 hnum
          by_cases h8 : 8 < c0.toNat - 48
          · have h8' : (8 : Int) < (c0.toNat : Int) - 48 := by omega
            go_enter Tryz.func151, Tryz.ntmps151
            go_wp2_with (first
          | (go_at_call 124; refine HX.out.mono ?_; clear HX; rintro e w1 ⟨rfl, hr1, hg1⟩; have HR1 := hidD hr1; have HG1 := hidD hg1; clear hr1 hg1)
          | (go_at_call 172; refine (HNU.out _ HR1.out).mono ?_; clear HNU; rintro e w2 ⟨hg2, _, hb2⟩; obtain ⟨rfl, hr2⟩ := hb2 _ _ _ HNN.out; rw [HZ.out]; have HR2 := hidD hr2; have HG2 := hidD (grown_trans HG1.out hg2); clear hg2 hb2 hr2)
          | (go_at_call 127; refine (HF.out _ _ _).mono ?_; clear HF; rintro e w3 ⟨rfl, rfl⟩))
            refine ⟨rfl, HG2.out, fun e q he => ?_, fun n k he => ?_⟩
            · rw [HPW.out, if_pos (by rw [HNM.out]; omega)] at he; cases he; rfl
            · rw [HPW.out, if_pos (by rw [HNM.out]; omega)] at he; cases he
          · have h8' : ¬ (8 : Int) < (c0.toNat : Int) - 48 := by omega
            go_enter Tryz.func151, Tryz.ntmps151
            go_wp2_with (first
          | (go_at_call 124; refine HX.out.mono ?_; clear HX; rintro e w1 ⟨rfl, hr1, hg1⟩; have HR1 := hidD hr1; have HG1 := hidD hg1; clear hr1 hg1)
          | (go_at_call 172; refine (HNU.out _ HR1.out).mono ?_; clear HNU; rintro e w2 ⟨hg2, _, hb2⟩; obtain ⟨rfl, hr2⟩ := hb2 _ _ _ HNN.out; rw [HZ.out]; have HR2 := hidD hr2; have HG2 := hidD (grown_trans HG1.out hg2); clear hg2 hb2 hr2)
          | (go_at_call 127; refine (HF.out _ _ _).mono ?_; clear HF; rintro e w3 ⟨rfl, rfl⟩))
            go_ret
            refine ⟨HG2.out, fun e q he => ?_, fun n k he => ?_⟩
            · rw [HPW.out, if_neg (by rw [HNM.out]; omega)] at he; cases he
            · rw [HPW.out, if_neg (by rw [HNM.out]; omega)] at he; cases he
              refine ⟨?_, HR2.out⟩
              rw [HNM.out]
              show Ending.returned (.int .i64 ((c0.toNat : Int) - 48)) = _
              rw [show ((c0.toNat : Int) - 48) = ((c0.toNat - 48 : Nat) : Int) from by omega]
end Go.Proofs.YteldjhhjnchdeaaGreatDoor
namespace Go.Proofs.YteldjhhjnchdeaaGreatDoor
open Go.RowKit Go.Shelf

attribute [local go_sem] Oper.semAt_some

/-- A slope's coefficients. -/
def slF (ps : List Rat) (i : Nat) : Rat := cf ps (i + 1) * (((i + 1 : Nat) : Int) : Rat)
theorem cast_sq {K : Nat} (h : K ≤ 1099511627776) : Sq (((K : Nat) : Int) : Rat) :=
  Sq.of (k := 1) ⟨by unfold Sm; rw [Rat.num_intCast]; unfold B64; simp; omega, by unfold Sm; rw [Rat.den_intCast]; unfold B64; decide⟩ (by omega)

set_option maxRecDepth 100000 in
set_option maxHeartbeats 4000000 in
theorem xSlope_c (va : Value) (ps : List Rat) (w : World) (ha : RowK false w va ps) (hps : Sqs ps) (hlen : ps.length < 1099511627776) :
    Calls Tryz.prog 47 #[va] w fun e w' => ∃ u, e = .returned u ∧ RowK false w' u (slopeQ ps) ∧ Below w.heap.size w w' := by
  have hmx : Tryz.prog.follows .mixedOrders = true := by kernel_rfl
  obtain ⟨a, la, ca, rfl⟩ := ha.form
  obtain ⟨hla, hca, hcma, hlma, s, t, aa, bb, ll, cc, kk, dd, hc⟩ := ha.formsF
  have HA := hidD hc
  have HP := hidD hps
  have HLA := hidD hla
  have HLN := hidD hlen
  clear ha hps hla hca hcma hc hlen
  go_enter Tryz.func47, Tryz.ntmps47
  go_wp2
  go_loopw [3, 4] (fun o i wr => ∃ k K : Nat, Hid (K = k + 1 ∧ (k = 0 ∨ K ≤ la)) ∧ i = .int .i64 (K : Int) ∧ (∃ oa oc, o = .slice oa k oc) ∧ Hid (OutB false w wr o (tellL (slF ps) k))) (fun _ i _ => la + 1 - (intOf i).toNat)
  case atStart => exact ⟨0, 1, hidD ⟨rfl, Or.inl rfl⟩, rfl, ⟨_, _, rfl⟩, hidD ⟨OutK.nil _ _ _, Below.refl _ _⟩⟩
  case round =>
    obtain ⟨k, K, HKK, rfl, ⟨oa, oc, rfl⟩, HR⟩ := hrel
    by_cases hlt : K < la
    · have hlt2 : (K : Int) < (la : Int) := by omega
      obtain ⟨hi, b, rfl, hb, c0, c1, c2, c3⟩ := HA.out K hlt
      have HCL := hidD (show ∀ V, Below w.heap.size w V → (V.cell? ⟨b, K * 4, none⟩ = some (.slice (aa K) (ll K) (cc K)) ∧ V.cell? ⟨b, K * 4 + 1, none⟩ = some (.bool (s K)) ∧ V.cell? ⟨b, K * 4 + 2, none⟩ = some (.slice (bb K) (kk K) (dd K)) ∧ V.cell? ⟨b, K * 4 + 3, none⟩ = some (.bool (t K))) ∧ IsRef V (.agg #[.slice (aa K) (ll K) (cc K), .bool (s K), .slice (bb K) (kk K) (dd K), .bool (t K)]) (cf ps K) from fun V hB => by
        exact ⟨⟨(hB.cell (p := ⟨b, _, none⟩) hb).trans c0, (hB.cell (p := ⟨b, _, none⟩) hb).trans c1, (hB.cell (p := ⟨b, _, none⟩) hb).trans c2, (hB.cell (p := ⟨b, _, none⟩) hb).trans c3⟩, hi.below hB⟩)
      have HK := hidD (show k + 1 ≤ 1099511627776 ∧ K ≤ 1099511627776 by have := HLN.out; have := HLA.out; have := HKK.out; omega)
      have HFN := hidD (show cf ps K * ((K : Int) : Rat) = slF ps k by rw [HKK.out.1]; rfl)
      clear hi c0 c1 c2 c3 hb
      go_wp2_with fail
      have ST0 := HR.out.below ((Below.refl _ wr).drew)
      refine wp_region_tab hmx [[], [], [], [1, 2], [3], [], [5], [4, 6, 6], [7], [0, 8, 7], [9, 9, 0, 1, 2, 3, 4, 5, 6, 7, 8, 9]] (by kernel_rfl) (by decide)
        (fun D act V => ∃ (t11x t12x t13x t14x t15x t16x t17x t18x t19x t20x t3x : Value), act = { tmps := #[Value.slice (some { block := b, off := 0 }) la ca, undef, Value.slice none 0 0, t3x, Value.int IntKind.i64 ↑K, Value.int IntKind.i64 ↑K, Value.slice (some { block := b, off := 0 }) la ca, Value.int IntKind.i64 ↑la, Value.bool true, u9, u10, t11x, t12x, t13x, t14x, t15x, t16x, t17x, t18x, t19x, t20x, undef, undef], defers := [] } ∧ Hid ((D 0 = true → t11x = .slice oa k oc) ∧ (D 1 = true → t12x = .slice (some ⟨b, 0, none⟩) la ca) ∧ (D 2 = true → t13x = .int .i64 (K : Int)) ∧ (D 3 = true → t14x = .pointer (some ⟨b, K * 4, none⟩)) ∧ (D 4 = true → D 9 = false → IsRef V t15x (cf ps K)) ∧ (D 5 = true → t16x = .int .i64 (K : Int)) ∧ (D 6 = true → D 9 = false → IsRef V t17x ((K : Int) : Rat)) ∧ (D 7 = true → D 9 = false → IsRef V t18x (slF ps k)) ∧ (D 8 = true → ∃ a l c, t19x = .slice a l c) ∧ (D 9 = true → ∃ a l c, t20x = .slice a l c) ∧ ((D 10 = false → t3x = Value.slice oa k oc) ∧ (D 10 = true → t3x = t20x))) ∧ Hid ((D 8 = false → OutB false w V (.slice oa k oc) (tellL (slF ps) k)) ∧ (D 8 = true → D 9 = false → ∃ (V0 : World) (x y z u : Value), V = V0.alloc (.cells #[x, y, z, u] (tyK false)) ∧ (OutB false w V0 (.slice oa k oc) (tellL (slF ps) k)) ∧ IsK false V0 (.agg #[x, y, z, u]) (slF ps k) ∧ t19x = .slice (some ⟨V0.heap.size, 0, none⟩) 1 1) ∧ (D 9 = true → OutB false w V t20x (tellL (slF ps) k ++ [slF ps k]))))
        ⟨_, _, _, _, _, _, _, _, _, _, _, rfl, hidD ⟨by simp, by simp, by simp, by simp, by simp, by simp, by simp, by simp, by simp, by simp, ⟨fun _ => rfl, by simp⟩⟩, hidD ⟨fun _ => ST0, by simp, by simp⟩⟩ ?step1 ?fin1
      case step1 =>
        rintro D act V i ds hcl hi hds hDi ⟨t11x, t12x, t13x, t14x, t15x, t16x, t17x, t18x, t19x, t20x, t3x, rfl, GG, SS0⟩
        have hi6 : i < 11 := (List.getElem?_eq_some_iff.1 hi).1
        obtain rfl | rfl | rfl | rfl | rfl | rfl | rfl | rfl | rfl | rfl | rfl : i = 0 ∨ i = 1 ∨ i = 2 ∨ i = 3 ∨ i = 4 ∨ i = 5 ∨ i = 6 ∨ i = 7 ∨ i = 8 ∨ i = 9 ∨ i = 10 := by omega
        all_goals
          simp only [List.getElem?_cons_zero, List.getElem?_cons_succ, Option.some.injEq] at hi
          subst hi
        · have hf0 : D 9 = false := by
            cases h : D 9 with
            | false => rfl
            | true => rw [(hcl 9 _ rfl h 0 (by simp))] at hDi; cases hDi
          have ho10 : D 10 = false := by
            cases h : D 10 with
            | false => rfl
            | true => rw [(hcl 10 _ rfl h 0 (by simp))] at hDi; cases hDi
          obtain rfl := GG.out.2.2.2.2.2.2.2.2.2.2.1 ho10
          clear hds
          refine wpOp_go rfl rfl (fun K hK => ?_)
          go_simp
          exact hK _ _ ⟨_, _, _, _, _, _, _, _, _, _, _, rfl, hidD ⟨fun _ => rfl, GG.out.2.1, GG.out.2.2.1, GG.out.2.2.2.1, fun h h2 => (GG.out.2.2.2.2.1 h (by simpa using h2)), GG.out.2.2.2.2.2.1, fun h h2 => (GG.out.2.2.2.2.2.2.1 h (by simpa using h2)), fun h h2 => (GG.out.2.2.2.2.2.2.2.1 h (by simpa using h2)), GG.out.2.2.2.2.2.2.2.2.1, GG.out.2.2.2.2.2.2.2.2.2.1, ⟨fun _ => rfl, fun h => by simp [ho10] at h⟩⟩, hidD ⟨fun h => SS0.out.1 (by simpa using h), fun h h2 => SS0.out.2.1 (by simpa using h) (by simpa using h2), fun h => SS0.out.2.2 (by simpa using h)⟩⟩
        · have hf0 : D 9 = false := by
            cases h : D 9 with
            | false => rfl
            | true => rw [(hcl 3 _ rfl (hcl 4 _ rfl (hcl 7 _ rfl (hcl 8 _ rfl (hcl 9 _ rfl h 8 (by simp)) 7 (by simp)) 4 (by simp)) 3 (by simp)) 1 (by simp))] at hDi; cases hDi
          have hg0 : D 8 = false := by
            cases h : D 8 with
            | false => rfl
            | true => rw [(hcl 3 _ rfl (hcl 4 _ rfl (hcl 7 _ rfl (hcl 8 _ rfl h 7 (by simp)) 4 (by simp)) 3 (by simp)) 1 (by simp))] at hDi; cases hDi
          have hS0 := SS0.out.1 hg0
          clear hds
          refine wpOp_go rfl rfl (fun K hK => ?_)
          go_simp
          exact hK _ _ ⟨_, _, _, _, _, _, _, _, _, _, _, rfl, hidD ⟨GG.out.1, fun _ => rfl, GG.out.2.2.1, GG.out.2.2.2.1, fun h h2 => (GG.out.2.2.2.2.1 h (by simpa using h2)), GG.out.2.2.2.2.2.1, fun h h2 => (GG.out.2.2.2.2.2.2.1 h (by simpa using h2)), fun h h2 => (GG.out.2.2.2.2.2.2.2.1 h (by simpa using h2)), GG.out.2.2.2.2.2.2.2.2.1, GG.out.2.2.2.2.2.2.2.2.2.1, ⟨fun h => GG.out.2.2.2.2.2.2.2.2.2.2.1 (by simpa using h), fun h => GG.out.2.2.2.2.2.2.2.2.2.2.2 (by simpa using h)⟩⟩, hidD ⟨fun _ => hS0, fun h => by simp [hg0] at h, fun h => by simp [hf0] at h⟩⟩
        · have hf0 : D 9 = false := by
            cases h : D 9 with
            | false => rfl
            | true => rw [(hcl 3 _ rfl (hcl 4 _ rfl (hcl 7 _ rfl (hcl 8 _ rfl (hcl 9 _ rfl h 8 (by simp)) 7 (by simp)) 4 (by simp)) 3 (by simp)) 2 (by simp))] at hDi; cases hDi
          have hg0 : D 8 = false := by
            cases h : D 8 with
            | false => rfl
            | true => rw [(hcl 3 _ rfl (hcl 4 _ rfl (hcl 7 _ rfl (hcl 8 _ rfl h 7 (by simp)) 4 (by simp)) 3 (by simp)) 2 (by simp))] at hDi; cases hDi
          have hS0 := SS0.out.1 hg0
          clear hds
          refine wpOp_go rfl rfl (fun K hK => ?_)
          go_simp
          exact hK _ _ ⟨_, _, _, _, _, _, _, _, _, _, _, rfl, hidD ⟨GG.out.1, GG.out.2.1, fun _ => rfl, GG.out.2.2.2.1, fun h h2 => (GG.out.2.2.2.2.1 h (by simpa using h2)), GG.out.2.2.2.2.2.1, fun h h2 => (GG.out.2.2.2.2.2.2.1 h (by simpa using h2)), fun h h2 => (GG.out.2.2.2.2.2.2.2.1 h (by simpa using h2)), GG.out.2.2.2.2.2.2.2.2.1, GG.out.2.2.2.2.2.2.2.2.2.1, ⟨fun h => GG.out.2.2.2.2.2.2.2.2.2.2.1 (by simpa using h), fun h => GG.out.2.2.2.2.2.2.2.2.2.2.2 (by simpa using h)⟩⟩, hidD ⟨fun _ => hS0, fun h => by simp [hg0] at h, fun h => by simp [hf0] at h⟩⟩
        · have hf0 : D 9 = false := by
            cases h : D 9 with
            | false => rfl
            | true => rw [(hcl 4 _ rfl (hcl 7 _ rfl (hcl 8 _ rfl (hcl 9 _ rfl h 8 (by simp)) 7 (by simp)) 4 (by simp)) 3 (by simp))] at hDi; cases hDi
          have hg0 : D 8 = false := by
            cases h : D 8 with
            | false => rfl
            | true => rw [(hcl 4 _ rfl (hcl 7 _ rfl (hcl 8 _ rfl h 7 (by simp)) 4 (by simp)) 3 (by simp))] at hDi; cases hDi
          have hS0 := SS0.out.1 hg0
          obtain rfl := GG.out.2.1 (hds 1 (by simp))
          obtain rfl := GG.out.2.2.1 (hds 2 (by simp))
          clear hds
          refine wpOp_go rfl rfl (fun K hK => ?_)
          go_simp
          exact hK _ _ ⟨_, _, _, _, _, _, _, _, _, _, _, rfl, hidD ⟨GG.out.1, fun _ => rfl, fun _ => rfl, fun _ => rfl, fun h h2 => (GG.out.2.2.2.2.1 h (by simpa using h2)), GG.out.2.2.2.2.2.1, fun h h2 => (GG.out.2.2.2.2.2.2.1 h (by simpa using h2)), fun h h2 => (GG.out.2.2.2.2.2.2.2.1 h (by simpa using h2)), GG.out.2.2.2.2.2.2.2.2.1, GG.out.2.2.2.2.2.2.2.2.2.1, ⟨fun h => GG.out.2.2.2.2.2.2.2.2.2.2.1 (by simpa using h), fun h => GG.out.2.2.2.2.2.2.2.2.2.2.2 (by simpa using h)⟩⟩, hidD ⟨fun _ => hS0, fun h => by simp [hg0] at h, fun h => by simp [hf0] at h⟩⟩
        · have hf0 : D 9 = false := by
            cases h : D 9 with
            | false => rfl
            | true => rw [(hcl 7 _ rfl (hcl 8 _ rfl (hcl 9 _ rfl h 8 (by simp)) 7 (by simp)) 4 (by simp))] at hDi; cases hDi
          have hg0 : D 8 = false := by
            cases h : D 8 with
            | false => rfl
            | true => rw [(hcl 7 _ rfl (hcl 8 _ rfl h 7 (by simp)) 4 (by simp))] at hDi; cases hDi
          have hS0 := SS0.out.1 hg0
          obtain rfl := GG.out.2.2.2.1 (hds 3 (by simp))
          obtain ⟨⟨e0, e1, e2, e3⟩, hr⟩ := HCL.out V hS0.2
          clear hds
          refine wpOp_go rfl rfl (fun K hK => ?_)
          go_simp
          exact hK _ _ ⟨_, _, _, _, _, _, _, _, _, _, _, rfl, hidD ⟨GG.out.1, GG.out.2.1, GG.out.2.2.1, fun _ => rfl, fun _ _ => hr, GG.out.2.2.2.2.2.1, fun h h2 => (GG.out.2.2.2.2.2.2.1 h (by simpa using h2)), fun h h2 => (GG.out.2.2.2.2.2.2.2.1 h (by simpa using h2)), GG.out.2.2.2.2.2.2.2.2.1, GG.out.2.2.2.2.2.2.2.2.2.1, ⟨fun h => GG.out.2.2.2.2.2.2.2.2.2.2.1 (by simpa using h), fun h => GG.out.2.2.2.2.2.2.2.2.2.2.2 (by simpa using h)⟩⟩, hidD ⟨fun _ => hS0, fun h => by simp [hg0] at h, fun h => by simp [hf0] at h⟩⟩
        · have hf0 : D 9 = false := by
            cases h : D 9 with
            | false => rfl
            | true => rw [(hcl 6 _ rfl (hcl 7 _ rfl (hcl 8 _ rfl (hcl 9 _ rfl h 8 (by simp)) 7 (by simp)) 6 (by simp)) 5 (by simp))] at hDi; cases hDi
          have hg0 : D 8 = false := by
            cases h : D 8 with
            | false => rfl
            | true => rw [(hcl 6 _ rfl (hcl 7 _ rfl (hcl 8 _ rfl h 7 (by simp)) 6 (by simp)) 5 (by simp))] at hDi; cases hDi
          have hS0 := SS0.out.1 hg0
          clear hds
          refine wpOp_go rfl rfl (fun K hK => ?_)
          go_simp
          exact hK _ _ ⟨_, _, _, _, _, _, _, _, _, _, _, rfl, hidD ⟨GG.out.1, GG.out.2.1, GG.out.2.2.1, GG.out.2.2.2.1, fun h h2 => (GG.out.2.2.2.2.1 h (by simpa using h2)), fun _ => rfl, fun h h2 => (GG.out.2.2.2.2.2.2.1 h (by simpa using h2)), fun h h2 => (GG.out.2.2.2.2.2.2.2.1 h (by simpa using h2)), GG.out.2.2.2.2.2.2.2.2.1, GG.out.2.2.2.2.2.2.2.2.2.1, ⟨fun h => GG.out.2.2.2.2.2.2.2.2.2.2.1 (by simpa using h), fun h => GG.out.2.2.2.2.2.2.2.2.2.2.2 (by simpa using h)⟩⟩, hidD ⟨fun _ => hS0, fun h => by simp [hg0] at h, fun h => by simp [hf0] at h⟩⟩
        · have hf0 : D 9 = false := by
            cases h : D 9 with
            | false => rfl
            | true => rw [(hcl 7 _ rfl (hcl 8 _ rfl (hcl 9 _ rfl h 8 (by simp)) 7 (by simp)) 6 (by simp))] at hDi; cases hDi
          have hg0 : D 8 = false := by
            cases h : D 8 with
            | false => rfl
            | true => rw [(hcl 7 _ rfl (hcl 8 _ rfl h 7 (by simp)) 6 (by simp))] at hDi; cases hDi
          have hS0 := SS0.out.1 hg0
          obtain rfl := GG.out.2.2.2.2.2.1 (hds 5 (by simp))
          clear hds
          have HC := hidD (swhole_c (K : Int) (by omega) (by have := HK.out; omega) V)
          refine wpOp_go rfl rfl (fun K hK => ?_)
          go_simp
          go_wp2_with (go_at_call 42; refine HC.out.mono ?_; rintro e w5 ⟨v5, rfl, hv5, hb5⟩)
          exact ⟨_, _, _, _, _, _, _, _, _, _, _, rfl, hidD ⟨GG.out.1, GG.out.2.1, GG.out.2.2.1, GG.out.2.2.2.1, fun h h2 => (GG.out.2.2.2.2.1 h (by simpa using h2)).below hb5, fun _ => rfl, fun _ _ => hv5, fun h h2 => (GG.out.2.2.2.2.2.2.2.1 h (by simpa using h2)).below hb5, GG.out.2.2.2.2.2.2.2.2.1, GG.out.2.2.2.2.2.2.2.2.2.1, ⟨fun h => GG.out.2.2.2.2.2.2.2.2.2.2.1 (by simpa using h), fun h => GG.out.2.2.2.2.2.2.2.2.2.2.2 (by simpa using h)⟩⟩, hidD ⟨fun _ => hS0.below hb5, fun h => by simp [hg0] at h, fun h => by simp [hf0] at h⟩⟩
        · have hf0 : D 9 = false := by
            cases h : D 9 with
            | false => rfl
            | true => rw [(hcl 9 _ rfl h 7 (by simp))] at hDi; cases hDi
          have hg0 : D 8 = false := by
            cases h : D 8 with
            | false => rfl
            | true => rw [(hcl 8 _ rfl h 7 (by simp))] at hDi; cases hDi
          have hS0 := SS0.out.1 hg0
          have h0 := GG.out.2.2.2.2.1 (hds 4 (by simp)) hf0
          have h1 := GG.out.2.2.2.2.2.2.1 (hds 6 (by simp)) hf0
          clear hds
          have HC := hidD (stimes_c _ _ (cf ps K) ((K : Int) : Rat) V h0 h1 (HP.out.at K) (cast_sq HK.out.2))
          rw [HFN.out] at HC
          clear h0 h1
          refine wpOp_go rfl rfl (fun K hK => ?_)
          go_simp
          go_wp2_with (go_at_call 44; refine HC.out.mono ?_; rintro e w5 ⟨v5, rfl, hv5, hb5⟩)
          exact ⟨_, _, _, _, _, _, _, _, _, _, _, rfl, hidD ⟨GG.out.1, GG.out.2.1, GG.out.2.2.1, GG.out.2.2.2.1, fun h h2 => (GG.out.2.2.2.2.1 h (by simpa using h2)).below hb5, GG.out.2.2.2.2.2.1, fun h h2 => (GG.out.2.2.2.2.2.2.1 h (by simpa using h2)).below hb5, fun _ _ => hv5, GG.out.2.2.2.2.2.2.2.2.1, GG.out.2.2.2.2.2.2.2.2.2.1, ⟨fun h => GG.out.2.2.2.2.2.2.2.2.2.2.1 (by simpa using h), fun h => GG.out.2.2.2.2.2.2.2.2.2.2.2 (by simpa using h)⟩⟩, hidD ⟨fun _ => hS0.below hb5, fun h => by simp [hg0] at h, fun h => by simp [hf0] at h⟩⟩
        · have hf0 : D 9 = false := by
            cases h : D 9 with
            | false => rfl
            | true => rw [(hcl 9 _ rfl h 8 (by simp))] at hDi; cases hDi
          have hS0 := SS0.out.1 hDi
          have h0 := GG.out.2.2.2.2.2.2.2.1 (hds 7 (by simp)) hf0
          obtain ⟨a9, l9, c9, s9, b9, k9, d9, t9, rfl⟩ := IsRef.form h0
          clear hds
          refine wpOp_go rfl rfl (fun K hK => ?_)
          go_simp
          exact hK _ _ ⟨_, _, _, _, _, _, _, _, _, _, _, rfl, hidD ⟨GG.out.1, GG.out.2.1, GG.out.2.2.1, GG.out.2.2.2.1, fun h h2 => (GG.out.2.2.2.2.1 h (by simpa using h2)).below ((Below.refl _ V).alloc (Nat.le_refl _) _), GG.out.2.2.2.2.2.1, fun h h2 => (GG.out.2.2.2.2.2.2.1 h (by simpa using h2)).below ((Below.refl _ V).alloc (Nat.le_refl _) _), fun h h2 => (GG.out.2.2.2.2.2.2.2.1 h (by simpa using h2)).below ((Below.refl _ V).alloc (Nat.le_refl _) _), fun _ => ⟨_, _, _, rfl⟩, GG.out.2.2.2.2.2.2.2.2.2.1, ⟨fun h => GG.out.2.2.2.2.2.2.2.2.2.2.1 (by simpa using h), fun h => GG.out.2.2.2.2.2.2.2.2.2.2.2 (by simpa using h)⟩⟩, hidD ⟨fun h => by simp at h, fun _ _ => ⟨V, _, _, _, _, rfl, hS0, h0, rfl⟩, fun h => by simp [hf0] at h⟩⟩
        · obtain ⟨V0, x9, y9, z9, u9, rfl, hS0, hq9, hb9⟩ := SS0.out.2.1 (hds 8 (by simp)) hDi
          obtain rfl := GG.out.1 (hds 0 (by simp))
          have ho10 : D 10 = false := by
            cases h : D 10 with
            | false => rfl
            | true => rw [(hcl 10 _ rfl h 9 (by simp))] at hDi; cases hDi
          have hds8 := hds 8 (by simp)
          obtain ⟨v5, w5, hap, ho5, hk5, hb5⟩ := out_append false w.heap.size V0 _ _ hS0.1 hq9 (by rw [tellL_length]; exact HK.out.1) hS0.2.size
          dsimp only [tsK, tyK] at hap
          subst hb9
          obtain ⟨a6, c6, e6, _⟩ := ho5.form
          subst e6
          clear hds
          refine wpOp_go rfl rfl (fun K hK => ?_)
          refine Lib.wp_append_run _ _ _ 30 30 rfl _ _ rfl rfl _ _ hap (hK _ _ ?_)
          exact ⟨_, _, _, _, _, _, _, _, _, _, _, rfl, hidD ⟨fun _ => rfl, GG.out.2.1, GG.out.2.2.1, GG.out.2.2.2.1, fun _ h => by simp at h, GG.out.2.2.2.2.2.1, fun _ h => by simp at h, fun _ h => by simp at h, GG.out.2.2.2.2.2.2.2.2.1, fun _ => ⟨_, _, _, rfl⟩, ⟨fun h => GG.out.2.2.2.2.2.2.2.2.2.2.1 (by simpa using h), fun h => by simp [ho10] at h⟩⟩, hidD ⟨fun h => by simp [hds8] at h, fun _ h => by simp at h, fun _ => ⟨ho5, hb5 _ _ (Nat.le_refl _) hS0.2⟩⟩⟩
        · clear hds
          refine wpOp_go rfl rfl (fun K hK => ?_)
          go_simp
          exact hK _ _ ⟨_, _, _, _, _, _, _, _, _, _, _, rfl, hidD ⟨GG.out.1, GG.out.2.1, GG.out.2.2.1, GG.out.2.2.2.1, fun h h2 => (GG.out.2.2.2.2.1 h (by simpa using h2)), GG.out.2.2.2.2.2.1, fun h h2 => (GG.out.2.2.2.2.2.2.1 h (by simpa using h2)), fun h h2 => (GG.out.2.2.2.2.2.2.2.1 h (by simpa using h2)), GG.out.2.2.2.2.2.2.2.2.1, GG.out.2.2.2.2.2.2.2.2.2.1, ⟨fun h => by simp at h, fun _ => rfl⟩⟩, hidD ⟨fun h => SS0.out.1 (by simpa using h), fun h h2 => SS0.out.2.1 (by simpa using h) (by simpa using h2), fun h => SS0.out.2.2 (by simpa using h)⟩⟩
      case fin1 =>
        rintro D act V hDD ⟨t11x, t12x, t13x, t14x, t15x, t16x, t17x, t18x, t19x, t20x, t3x, rfl, GG, SS0⟩
        have HO := hidD (SS0.out.2.2 (hDD 9 (by decide)))
        obtain rfl := GG.out.2.2.2.2.2.2.2.2.2.2.2 (hDD 10 (by decide))
        clear GG SS0 hDD
        obtain ⟨a9, c9, e9, _⟩ := HO.out.1.form
        rw [← tellL_succ, tellL_length] at e9
        subst e9
        go_wp2_with fail
        go_roundw
        case rel => exact ⟨k + 1, K + 1, hidD ⟨by have := HKK.out; omega, Or.inr (by omega)⟩, by go_num, ⟨a9, c9, rfl⟩, hidD (by rw [tellL_succ]; exact HO.out)⟩
        case measure => simp [intOf]; omega
    · have hlt2 : ¬ (K : Int) < (la : Int) := by omega
      have HT := hidD (xTrim_c _ _ wr (HR.out.1.row (by rw [tellL_length]; have := HKK.out; have := HLN.out; have := HLA.out; omega)))
      have HE := hidD (show trimQ (tellL (slF ps) k) = slopeQ ps from trim_ext fun j => by
        rw [cf_tellL, cf_slopeR]
        split
        · rfl
        · rw [cf_ge (by have := HLA.out; have := HKK.out; omega)]; grind)
      rw [HE.out] at HT
      go_wp2_with (go_at_call 45; refine HT.out.mono ?_; clear HT; rintro e w1 ⟨u1, rfl, hu1, hb1⟩; obtain ⟨a7, l7, c7, rfl⟩ := hu1.form)
      go_ret
      exact ⟨_, rfl, hu1, HR.out.2.trans (hb1.mono HR.out.2.size)⟩
end Go.Proofs.YteldjhhjnchdeaaGreatDoor
namespace Go.Proofs.YteldjhhjnchdeaaGreatDoor
open Go.RowKit Go.Shelf

attribute [local go_sem] Oper.semAt_some

/-- A row being appended to, and the box of the sum. -/
def XtB (w V : World) (o : Value) (C : Nat) (qs : List Rat) (c : Rat) : Prop :=
  OutB false w V o qs ∧ w.heap.size ≤ C ∧ (∀ g l c, o = .slice (some ⟨g, 0, none⟩) l c → g ≠ C) ∧ ∃ a l c' s b k d t, Box4 V C 85 (.slice a l c') (.bool s) (.slice b k d) (.bool t) ∧ IsRef V (.agg #[.slice a l c', .bool s, .slice b k d, .bool t]) c
theorem XtB.below {w V V' : World} {o : Value} {C : Nat} {qs : List Rat} {c : Rat} (h : XtB w V o C qs c) (hb : Below V.heap.size V V') : XtB w V' o C qs c := by
  obtain ⟨h1, h2, h3, a, l, c', s, b, k, d, t, h4, h5⟩ := h
  exact ⟨h1.below hb, h2, h3, a, l, c', s, b, k, d, t, h4.below hb, h5.below hb⟩
theorem OutK.put4 {r : Bool} {base : Nat} {V : World} {o : Value} {qs : List Rat} (h : OutK r base V o qs) {C : Nat} {ty : TypeId} {x y z u : Value} (q : Box4 V C ty x y z u) (n0 : noInt x = true) (n1 : noInt y = true) (n2 : noInt z = true) (n3 : noInt u = true) (hne : ∀ g l c, o = .slice (some ⟨g, 0, none⟩) l c → g ≠ C) (x' y' z' u' : Value) : OutK r base (put4 V C x' y' z' u') o qs := by
  rcases h with h | ⟨g, cap, cur, h1, h2, h3, h4, h5, h6, h7, h8⟩
  · exact Or.inl h
  · have hg := hne g _ _ h1
    refine Or.inr ⟨g, cap, cur, h1, h2, ?_, h4, h5, h6, h7, h8.keep (fun _ _ _ hr => Row.put4 hr q n0 n1 n2 n3 _ _ _ _)⟩
    have g0 := (Below.heap_setCell V ⟨C, 0, none⟩ x' g hg).trans h3
    have g1 := (Below.heap_setCell _ ⟨C, 1, none⟩ y' g hg).trans g0
    have g2 := (Below.heap_setCell _ ⟨C, 2, none⟩ z' g hg).trans g1
    exact (Below.heap_setCell _ ⟨C, 3, none⟩ u' g hg).trans g2
theorem XtB.put {w V : World} {o : Value} {C : Nat} {qs : List Rat} {c c2 : Rat} (h : XtB w V o C qs c) {a : Option Addr} {l c' : Nat} {s : Bool} {b : Option Addr} {k d : Nat} {t : Bool} (hv : IsRef V (.agg #[.slice a l c', .bool s, .slice b k d, .bool t]) c2) :
    XtB w (put4 V C (.slice a l c') (.bool s) (.slice b k d) (.bool t)) o C qs c2 := by
  obtain ⟨h1, h2, h3, a0, l0, c0, s0, b0, k0, d0, t0, h4, h5⟩ := h
  exact ⟨⟨h1.1.put4 h4 rfl rfl rfl rfl h3 _ _ _ _, below_put4 h1.2 h2 _ _ _ _⟩, h2, h3, _, _, _, _, _, _, _, _, h4.put _ _ _ _, hv.put4 h4 rfl rfl rfl rfl _ _ _ _⟩
theorem XtB.new {w V : World} {o : Value} {qs : List Rat} {c : Rat} (h : OutB false w V o qs) {a : Option Addr} {l c' : Nat} {s : Bool} {b : Option Addr} {k d : Nat} {t : Bool} (hv : IsRef V (.agg #[.slice a l c', .bool s, .slice b k d, .bool t]) c) :
    XtB w (V.alloc (.cells #[.slice a l c', .bool s, .slice b k d, .bool t] 85)) o V.heap.size qs c := by
  have ha : Below V.heap.size V (V.alloc (.cells #[.slice a l c', .bool s, .slice b k d, .bool t] 85)) := (Below.refl _ V).alloc (Nat.le_refl _) _
  refine ⟨h.below ha, h.2.size, fun g l c e => ?_, _, _, _, _, _, _, _, _, Box4.new _ _ _ _ _ _, hv.below ha⟩
  rcases h.1 with ⟨h1, _⟩ | ⟨g', cap, cur, h1, h2, h3, _⟩
  · rw [h1] at e; cases e
  · rw [h1] at e
    cases e
    have := (Array.getElem?_eq_some_iff.1 h3).1
    omega
theorem conv_succ (ps qs : List Rat) {k i : Nat} (h : k ≤ i) : conv ps qs (k + 1) i = conv ps qs k i + cf ps k * cf qs (i - k) := by
  show sumN (k + 1) _ = _
  rw [sumN, if_pos h]
  rfl
theorem conv_far (p q : List Rat) {k : Nat} (h : p.length + q.length ≤ k) : ∀ n, conv p q n k = 0 := by
  intro n
  induction n with
  | zero => rfl
  | succ n ih =>
    show conv p q n k + (if n ≤ k then cf p n * cf q (k - n) else 0) = 0
    rw [ih, Rat.zero_add]
    split
    · by_cases hn : n < p.length
      · rw [cf_ge (p := q) (by omega), Rat.mul_zero]
      · rw [cf_ge (p := p) (by omega), Rat.zero_mul]
    · rfl
theorem conv_sq {ps qs : List Rat} (h : M3.TimesOk ps qs) (n k : Nat) : Sq (conv ps qs n k) := by
  have h1 := h.2 (n + qs.length) n 0 k
  rw [show addAt (mulAt ps qs (n + qs.length) n) n (cf ps n) qs 0 = mulAt ps qs (n + qs.length) n from rfl, cf_mulAt _ _ _ _ _ (Or.inr (by omega))] at h1
  exact h1
theorem trim_conv (ps qs : List Rat) (n : Nat) (h : ps.length + qs.length ≤ n) : trimQ (tellL (fun i => conv ps qs (i + 1) i) n) = mulQ ps qs := trim_ext fun j => by
  rw [cf_tellL, cf_mulR]
  split
  · by_cases hj : j + 1 ≤ ps.length
    · rw [conv_few ps qs hj]
    · rw [conv_more ps qs (by omega)]
  · rw [conv_far ps qs (by omega)]

set_option maxRecDepth 100000 in
set_option maxHeartbeats 8000000 in
theorem xTimes_c (va vb : Value) (ps qs : List Rat) (w : World) (ha : RowK false w va ps) (hb : RowK false w vb qs) (hps : Sqs ps) (hqs : Sqs qs) (hok : M3.TimesOk ps qs) (hlen : ps.length + qs.length < 1099511627776) :
    Calls Tryz.prog 14 #[va, vb] w fun e w' => ∃ u, e = .returned u ∧ RowK false w' u (mulQ ps qs) ∧ Below w.heap.size w w' := by
  have hmx : Tryz.prog.follows .mixedOrders = true := by kernel_rfl
  obtain ⟨a, la, ca, rfl⟩ := ha.form
  obtain ⟨b, lb, cb, rfl⟩ := hb.form
  obtain ⟨hla, hca, hcma, hlma, s, t, aa, bb, ll, cc, kk, dd, hc⟩ := ha.formsF
  obtain ⟨hlb, hcb, hcmb, hlmb, s', t', aa', bb', ll', cc', kk', dd', hc'⟩ := hb.formsF
  have HA := hidD hc
  have HB := hidD hc'
  have HP := hidD hps
  have HQ := hidD hqs
  have HLA := hidD hla
  have HLB := hidD hlb
  have HOK := hidD hok
  have HLN := hidD hlen
  have HCV := hidD (fun n k => conv_sq hok n k)
  obtain ⟨n, hn⟩ : ∃ n, la + lb = n := ⟨_, rfl⟩
  have hnn : (la : Int) + (lb : Int) = (n : Int) := by omega
  have hnb : n < 1099511627776 := by omega
  have hwr : IntKind.i64.wrap (n : Int) = (n : Int) := by rw [IntKind.wrap_i64]; omega
  have HN := hidD hn
  have HSW := hidD (fun (V : World) => swhole_c 0 (by omega) (by omega) V)
  clear ha hb hps hqs hok hla hlb hc hc' hlen hn hca hcma hcb hcmb hlma hlmb
  go_enter Tryz.func14, Tryz.ntmps14
  go_wp2
  go_loopw [5, 6] (fun o iv wr => ∃ i : Nat, i ≤ n ∧ iv = .int .i64 (i : Int) ∧ (∃ oa oc, o = .slice oa i oc) ∧ Hid (OutB false w wr o (tellL (fun i => conv ps qs (i + 1) i) i))) (fun _ iv _ => n - (intOf iv).toNat)
  case atStart => exact ⟨0, Nat.zero_le _, rfl, ⟨_, _, rfl⟩, hidD ⟨OutK.nil _ _ _, Below.refl _ _⟩⟩
  case round =>
    obtain ⟨i, hi, rfl, ⟨oa, oc, rfl⟩, HR⟩ := hrel
    by_cases hlt : i < n
    · have hlt2 : (i : Int) < (n : Int) := by omega
      obtain ⟨outs, hou⟩ : ∃ l, tellL (fun i => conv ps qs (i + 1) i) i = l := ⟨_, rfl⟩
      rw [hou] at HR
      have HOU := hidD hou
      clear hou
      go_upto_region 6 with (go_at_call 42; refine (HSW.out _).mono ?_; rintro e w1 ⟨u1, rfl, hu1, hb1⟩; obtain ⟨a0, l0, c0, s0, b0, k0, d0, t0, rfl⟩ := IsRef.form hu1)
      have hX := XtB.new (HR.out.below hb1) hu1
      obtain ⟨W1, hW1⟩ : ∃ W, w1.alloc (.cells #[.slice a0 l0 c0, .bool s0, .slice b0 k0 d0, .bool t0] 85) = W := ⟨_, rfl⟩
      obtain ⟨C, hC⟩ : ∃ C, w1.heap.size = C := ⟨_, rfl⟩
      rw [hW1, hC] at hX
      rw [hW1, hC]
      have HX := hidD (show XtB w W1 (.slice oa i oc) C outs 0 from hX)
      clear hX hu1 hb1 hW1 hC HR
      go_wp2
      go_loopw [8] (fun kv wr => ∃ k : Nat, k ≤ i + 1 ∧ kv = .int .i64 (k : Int) ∧ Hid (XtB w wr (.slice oa i oc) C outs (conv ps qs k i))) (fun kv _ => i + 1 - (intOf kv).toNat)
      case atStart => exact ⟨0, Nat.zero_le _, rfl, HX⟩
      case round =>
        obtain ⟨k, hk, rfl, HY⟩ := hrel
        clear HX
        by_cases hki : k ≤ i
        · have hki2 : (k : Int) ≤ (i : Int) := by omega
          obtain ⟨m, hm⟩ : ∃ m : Nat, i - k = m := ⟨_, rfl⟩
          have hmi : (i : Int) - (k : Int) = (m : Int) := by omega
          have hwm : IntKind.i64.wrap (m : Int) = (m : Int) := by rw [IntKind.wrap_i64]; omega
          have HCS := hidD (show conv ps qs k i + cf ps k * cf qs m = conv ps qs (k + 1) i by rw [conv_succ ps qs hki, hm])
          have HQC := hidD (HCV.out k i)
          clear hm
          by_cases hka : k < la
          · have hka2 : (k : Int) < (la : Int) := by omega
            by_cases hmb : m < lb
            · have hmb2 : (m : Int) < (lb : Int) := by omega
              obtain ⟨hi1, b1, rfl, hb1, c10, c11, c12, c13⟩ := HA.out k hka
              obtain ⟨hi2, b2, rfl, hb2, c20, c21, c22, c23⟩ := HB.out m hmb
              have HCL1 := hidD (show ∀ V, Below w.heap.size w V → (V.cell? ⟨b1, k * 4, none⟩ = some (.slice (aa k) (ll k) (cc k)) ∧ V.cell? ⟨b1, k * 4 + 1, none⟩ = some (.bool (s k)) ∧ V.cell? ⟨b1, k * 4 + 2, none⟩ = some (.slice (bb k) (kk k) (dd k)) ∧ V.cell? ⟨b1, k * 4 + 3, none⟩ = some (.bool (t k))) ∧ IsRef V (.agg #[.slice (aa k) (ll k) (cc k), .bool (s k), .slice (bb k) (kk k) (dd k), .bool (t k)]) (cf ps k) from fun V hB => by
                exact ⟨⟨(hB.cell (p := ⟨b1, _, none⟩) hb1).trans c10, (hB.cell (p := ⟨b1, _, none⟩) hb1).trans c11, (hB.cell (p := ⟨b1, _, none⟩) hb1).trans c12, (hB.cell (p := ⟨b1, _, none⟩) hb1).trans c13⟩, hi1.below hB⟩)
              have HCL2 := hidD (show ∀ V, Below w.heap.size w V → (V.cell? ⟨b2, m * 4, none⟩ = some (.slice (aa' m) (ll' m) (cc' m)) ∧ V.cell? ⟨b2, m * 4 + 1, none⟩ = some (.bool (s' m)) ∧ V.cell? ⟨b2, m * 4 + 2, none⟩ = some (.slice (bb' m) (kk' m) (dd' m)) ∧ V.cell? ⟨b2, m * 4 + 3, none⟩ = some (.bool (t' m))) ∧ IsRef V (.agg #[.slice (aa' m) (ll' m) (cc' m), .bool (s' m), .slice (bb' m) (kk' m) (dd' m), .bool (t' m)]) (cf qs m) from fun V hB => by
                exact ⟨⟨(hB.cell (p := ⟨b2, _, none⟩) hb2).trans c20, (hB.cell (p := ⟨b2, _, none⟩) hb2).trans c21, (hB.cell (p := ⟨b2, _, none⟩) hb2).trans c22, (hB.cell (p := ⟨b2, _, none⟩) hb2).trans c23⟩, hi2.below hB⟩)
              obtain ⟨y, hy⟩ : ∃ y, conv ps qs k i = y := ⟨_, rfl⟩
              rw [hy] at HY HCS HQC
              clear hi1 hb1 c10 c11 c12 c13 hi2 hb2 c20 c21 c22 c23 hy
              go_wp2_with fail
              have ST0 := HY.out.below ((Below.refl _ wr).drew)
              refine wp_region_tab hmx [[], [], [], [1, 2], [3], [], [], [], [6, 7], [5, 8], [9], [4, 10], [0, 11, 11], [12, 12, 0, 1, 2, 3, 4, 5, 6, 7, 8, 9, 10, 11, 12]] (by kernel_rfl) (by decide)
                (fun D act V => ∃ (t36x t37x t38x t39x t40x t41x t42x t43x t44x t45x t46x t47x t48x : Value), act = { tmps := #[Value.slice (some { block := b1, off := 0 }) la ca, Value.slice (some { block := b2, off := 0 }) lb cb, undef, undef, Value.slice none 0 0, Value.slice oa i oc, Value.int IntKind.i64 ↑i, Value.pointer (some { block := C, off := 0 }), Value.int IntKind.i64 ↑k, Value.int IntKind.i64 ↑i, Value.slice (some { block := b1, off := 0 }) la ca, Value.int IntKind.i64 ↑la, Value.slice (some { block := b2, off := 0 }) lb cb, Value.int IntKind.i64 ↑lb, Value.int IntKind.i64 ↑n, Value.bool true, u16, u17, Value.agg #[Value.slice a0 l0 c0, Value.bool s0, Value.slice b0 k0 d0, Value.bool t0], Value.int IntKind.i64 ↑k, Value.int IntKind.i64 ↑i, Value.bool true, u22, u23, Value.int IntKind.i64 ↑k, Value.slice (some { block := b1, off := 0 }) la ca, Value.int IntKind.i64 ↑la, Value.bool true, Value.bool true, Value.int IntKind.i64 ↑i, Value.int IntKind.i64 ↑k, Value.int IntKind.i64 ↑m, Value.slice (some { block := b2, off := 0 }) lb cb, Value.int IntKind.i64 ↑lb, Value.bool true, Value.bool true, t36x, t37x, t38x, t39x, t40x, t41x, t42x, t43x, t44x, t45x, t46x, t47x, t48x, u49, u50, u51, u52, undef, undef], defers := [] } ∧ Hid ((D 0 = true → D 13 = false → IsRef V t36x y) ∧ (D 1 = true → t37x = .slice (some ⟨b1, 0, none⟩) la ca) ∧ (D 2 = true → t38x = .int .i64 (k : Int)) ∧ (D 3 = true → t39x = .pointer (some ⟨b1, k * 4, none⟩)) ∧ (D 4 = true → D 13 = false → IsRef V t40x (cf ps k)) ∧ (D 5 = true → t41x = .slice (some ⟨b2, 0, none⟩) lb cb) ∧ (D 6 = true → t42x = .int .i64 (i : Int)) ∧ (D 7 = true → t43x = .int .i64 (k : Int)) ∧ (D 8 = true → t44x = .int .i64 (m : Int)) ∧ (D 9 = true → t45x = .pointer (some ⟨b2, m * 4, none⟩)) ∧ (D 10 = true → D 13 = false → IsRef V t46x (cf qs m)) ∧ (D 11 = true → D 13 = false → IsRef V t47x (cf ps k * cf qs m)) ∧ (D 12 = true → D 13 = false → IsRef V t48x (conv ps qs (k + 1) i))) ∧ Hid ((D 13 = false → XtB w V (.slice oa i oc) C outs y) ∧ (D 13 = true → XtB w V (.slice oa i oc) C outs (conv ps qs (k + 1) i))))
                ⟨_, _, _, _, _, _, _, _, _, _, _, _, _, rfl, hidD ⟨by simp, by simp, by simp, by simp, by simp, by simp, by simp, by simp, by simp, by simp, by simp, by simp, by simp⟩, hidD ⟨fun _ => ST0, by simp⟩⟩ ?step1 ?fin1
              case step1 =>
                rintro D act V i ds hcl hi hds hDi ⟨t36x, t37x, t38x, t39x, t40x, t41x, t42x, t43x, t44x, t45x, t46x, t47x, t48x, rfl, GG, SS0⟩
                have hi6 : i < 14 := (List.getElem?_eq_some_iff.1 hi).1
                obtain rfl | rfl | rfl | rfl | rfl | rfl | rfl | rfl | rfl | rfl | rfl | rfl | rfl | rfl : i = 0 ∨ i = 1 ∨ i = 2 ∨ i = 3 ∨ i = 4 ∨ i = 5 ∨ i = 6 ∨ i = 7 ∨ i = 8 ∨ i = 9 ∨ i = 10 ∨ i = 11 ∨ i = 12 ∨ i = 13 := by omega
                all_goals
                  simp only [List.getElem?_cons_zero, List.getElem?_cons_succ, Option.some.injEq] at hi
                  subst hi
                · have hf0 : D 13 = false := by
                    cases h : D 13 with
                    | false => rfl
                    | true => rw [(hcl 13 _ rfl h 0 (by simp))] at hDi; cases hDi
                  have hS0 := SS0.out.1 hf0
                  obtain ⟨_, _, _, a5, l5, c5, s5, b5, k5, d5, t5, n5, r5⟩ := id hS0
                  have e0 := n5.c0
                  have e1 := n5.c1
                  have e2 := n5.c2
                  have e3 := n5.c3
                  clear hds
                  refine wpOp_go rfl rfl (fun K hK => ?_)
                  go_simp
                  exact hK _ _ ⟨_, _, _, _, _, _, _, _, _, _, _, _, _, rfl, hidD ⟨fun _ _ => r5, GG.out.2.1, GG.out.2.2.1, GG.out.2.2.2.1, fun h h2 => (GG.out.2.2.2.2.1 h (by simpa using h2)), GG.out.2.2.2.2.2.1, GG.out.2.2.2.2.2.2.1, GG.out.2.2.2.2.2.2.2.1, GG.out.2.2.2.2.2.2.2.2.1, GG.out.2.2.2.2.2.2.2.2.2.1, fun h h2 => (GG.out.2.2.2.2.2.2.2.2.2.2.1 h (by simpa using h2)), fun h h2 => (GG.out.2.2.2.2.2.2.2.2.2.2.2.1 h (by simpa using h2)), fun h h2 => (GG.out.2.2.2.2.2.2.2.2.2.2.2.2 h (by simpa using h2))⟩, hidD ⟨fun h => (SS0.out.1 (by simpa using h)), fun h => (SS0.out.2 (by simpa using h))⟩⟩
                · have hf0 : D 13 = false := by
                    cases h : D 13 with
                    | false => rfl
                    | true => rw [(hcl 13 _ rfl h 1 (by simp))] at hDi; cases hDi
                  have hS0 := SS0.out.1 hf0
                  clear hds
                  refine wpOp_go rfl rfl (fun K hK => ?_)
                  go_simp
                  exact hK _ _ ⟨_, _, _, _, _, _, _, _, _, _, _, _, _, rfl, hidD ⟨fun h h2 => (GG.out.1 h (by simpa using h2)), fun _ => rfl, GG.out.2.2.1, GG.out.2.2.2.1, fun h h2 => (GG.out.2.2.2.2.1 h (by simpa using h2)), GG.out.2.2.2.2.2.1, GG.out.2.2.2.2.2.2.1, GG.out.2.2.2.2.2.2.2.1, GG.out.2.2.2.2.2.2.2.2.1, GG.out.2.2.2.2.2.2.2.2.2.1, fun h h2 => (GG.out.2.2.2.2.2.2.2.2.2.2.1 h (by simpa using h2)), fun h h2 => (GG.out.2.2.2.2.2.2.2.2.2.2.2.1 h (by simpa using h2)), fun h h2 => (GG.out.2.2.2.2.2.2.2.2.2.2.2.2 h (by simpa using h2))⟩, hidD ⟨fun h => (SS0.out.1 (by simpa using h)), fun h => (SS0.out.2 (by simpa using h))⟩⟩
                · have hf0 : D 13 = false := by
                    cases h : D 13 with
                    | false => rfl
                    | true => rw [(hcl 13 _ rfl h 2 (by simp))] at hDi; cases hDi
                  have hS0 := SS0.out.1 hf0
                  clear hds
                  refine wpOp_go rfl rfl (fun K hK => ?_)
                  go_simp
                  exact hK _ _ ⟨_, _, _, _, _, _, _, _, _, _, _, _, _, rfl, hidD ⟨fun h h2 => (GG.out.1 h (by simpa using h2)), GG.out.2.1, fun _ => rfl, GG.out.2.2.2.1, fun h h2 => (GG.out.2.2.2.2.1 h (by simpa using h2)), GG.out.2.2.2.2.2.1, GG.out.2.2.2.2.2.2.1, GG.out.2.2.2.2.2.2.2.1, GG.out.2.2.2.2.2.2.2.2.1, GG.out.2.2.2.2.2.2.2.2.2.1, fun h h2 => (GG.out.2.2.2.2.2.2.2.2.2.2.1 h (by simpa using h2)), fun h h2 => (GG.out.2.2.2.2.2.2.2.2.2.2.2.1 h (by simpa using h2)), fun h h2 => (GG.out.2.2.2.2.2.2.2.2.2.2.2.2 h (by simpa using h2))⟩, hidD ⟨fun h => (SS0.out.1 (by simpa using h)), fun h => (SS0.out.2 (by simpa using h))⟩⟩
                · have hf0 : D 13 = false := by
                    cases h : D 13 with
                    | false => rfl
                    | true => rw [(hcl 13 _ rfl h 3 (by simp))] at hDi; cases hDi
                  have hS0 := SS0.out.1 hf0
                  obtain rfl := GG.out.2.1 (hds 1 (by simp))
                  obtain rfl := GG.out.2.2.1 (hds 2 (by simp))
                  clear hds
                  refine wpOp_go rfl rfl (fun K hK => ?_)
                  go_simp
                  exact hK _ _ ⟨_, _, _, _, _, _, _, _, _, _, _, _, _, rfl, hidD ⟨fun h h2 => (GG.out.1 h (by simpa using h2)), fun _ => rfl, fun _ => rfl, fun _ => rfl, fun h h2 => (GG.out.2.2.2.2.1 h (by simpa using h2)), GG.out.2.2.2.2.2.1, GG.out.2.2.2.2.2.2.1, GG.out.2.2.2.2.2.2.2.1, GG.out.2.2.2.2.2.2.2.2.1, GG.out.2.2.2.2.2.2.2.2.2.1, fun h h2 => (GG.out.2.2.2.2.2.2.2.2.2.2.1 h (by simpa using h2)), fun h h2 => (GG.out.2.2.2.2.2.2.2.2.2.2.2.1 h (by simpa using h2)), fun h h2 => (GG.out.2.2.2.2.2.2.2.2.2.2.2.2 h (by simpa using h2))⟩, hidD ⟨fun h => (SS0.out.1 (by simpa using h)), fun h => (SS0.out.2 (by simpa using h))⟩⟩
                · have hf0 : D 13 = false := by
                    cases h : D 13 with
                    | false => rfl
                    | true => rw [(hcl 13 _ rfl h 4 (by simp))] at hDi; cases hDi
                  have hS0 := SS0.out.1 hf0
                  obtain rfl := GG.out.2.2.2.1 (hds 3 (by simp))
                  obtain ⟨⟨e0, e1, e2, e3⟩, hr⟩ := HCL1.out V hS0.1.2
                  clear hds
                  refine wpOp_go rfl rfl (fun K hK => ?_)
                  go_simp
                  exact hK _ _ ⟨_, _, _, _, _, _, _, _, _, _, _, _, _, rfl, hidD ⟨fun h h2 => (GG.out.1 h (by simpa using h2)), GG.out.2.1, GG.out.2.2.1, fun _ => rfl, fun _ _ => hr, GG.out.2.2.2.2.2.1, GG.out.2.2.2.2.2.2.1, GG.out.2.2.2.2.2.2.2.1, GG.out.2.2.2.2.2.2.2.2.1, GG.out.2.2.2.2.2.2.2.2.2.1, fun h h2 => (GG.out.2.2.2.2.2.2.2.2.2.2.1 h (by simpa using h2)), fun h h2 => (GG.out.2.2.2.2.2.2.2.2.2.2.2.1 h (by simpa using h2)), fun h h2 => (GG.out.2.2.2.2.2.2.2.2.2.2.2.2 h (by simpa using h2))⟩, hidD ⟨fun h => (SS0.out.1 (by simpa using h)), fun h => (SS0.out.2 (by simpa using h))⟩⟩
                · have hf0 : D 13 = false := by
                    cases h : D 13 with
                    | false => rfl
                    | true => rw [(hcl 13 _ rfl h 5 (by simp))] at hDi; cases hDi
                  have hS0 := SS0.out.1 hf0
                  clear hds
                  refine wpOp_go rfl rfl (fun K hK => ?_)
                  go_simp
                  exact hK _ _ ⟨_, _, _, _, _, _, _, _, _, _, _, _, _, rfl, hidD ⟨fun h h2 => (GG.out.1 h (by simpa using h2)), GG.out.2.1, GG.out.2.2.1, GG.out.2.2.2.1, fun h h2 => (GG.out.2.2.2.2.1 h (by simpa using h2)), fun _ => rfl, GG.out.2.2.2.2.2.2.1, GG.out.2.2.2.2.2.2.2.1, GG.out.2.2.2.2.2.2.2.2.1, GG.out.2.2.2.2.2.2.2.2.2.1, fun h h2 => (GG.out.2.2.2.2.2.2.2.2.2.2.1 h (by simpa using h2)), fun h h2 => (GG.out.2.2.2.2.2.2.2.2.2.2.2.1 h (by simpa using h2)), fun h h2 => (GG.out.2.2.2.2.2.2.2.2.2.2.2.2 h (by simpa using h2))⟩, hidD ⟨fun h => (SS0.out.1 (by simpa using h)), fun h => (SS0.out.2 (by simpa using h))⟩⟩
                · have hf0 : D 13 = false := by
                    cases h : D 13 with
                    | false => rfl
                    | true => rw [(hcl 13 _ rfl h 6 (by simp))] at hDi; cases hDi
                  have hS0 := SS0.out.1 hf0
                  clear hds
                  refine wpOp_go rfl rfl (fun K hK => ?_)
                  go_simp
                  exact hK _ _ ⟨_, _, _, _, _, _, _, _, _, _, _, _, _, rfl, hidD ⟨fun h h2 => (GG.out.1 h (by simpa using h2)), GG.out.2.1, GG.out.2.2.1, GG.out.2.2.2.1, fun h h2 => (GG.out.2.2.2.2.1 h (by simpa using h2)), GG.out.2.2.2.2.2.1, fun _ => rfl, GG.out.2.2.2.2.2.2.2.1, GG.out.2.2.2.2.2.2.2.2.1, GG.out.2.2.2.2.2.2.2.2.2.1, fun h h2 => (GG.out.2.2.2.2.2.2.2.2.2.2.1 h (by simpa using h2)), fun h h2 => (GG.out.2.2.2.2.2.2.2.2.2.2.2.1 h (by simpa using h2)), fun h h2 => (GG.out.2.2.2.2.2.2.2.2.2.2.2.2 h (by simpa using h2))⟩, hidD ⟨fun h => (SS0.out.1 (by simpa using h)), fun h => (SS0.out.2 (by simpa using h))⟩⟩
                · have hf0 : D 13 = false := by
                    cases h : D 13 with
                    | false => rfl
                    | true => rw [(hcl 13 _ rfl h 7 (by simp))] at hDi; cases hDi
                  have hS0 := SS0.out.1 hf0
                  clear hds
                  refine wpOp_go rfl rfl (fun K hK => ?_)
                  go_simp
                  exact hK _ _ ⟨_, _, _, _, _, _, _, _, _, _, _, _, _, rfl, hidD ⟨fun h h2 => (GG.out.1 h (by simpa using h2)), GG.out.2.1, GG.out.2.2.1, GG.out.2.2.2.1, fun h h2 => (GG.out.2.2.2.2.1 h (by simpa using h2)), GG.out.2.2.2.2.2.1, GG.out.2.2.2.2.2.2.1, fun _ => rfl, GG.out.2.2.2.2.2.2.2.2.1, GG.out.2.2.2.2.2.2.2.2.2.1, fun h h2 => (GG.out.2.2.2.2.2.2.2.2.2.2.1 h (by simpa using h2)), fun h h2 => (GG.out.2.2.2.2.2.2.2.2.2.2.2.1 h (by simpa using h2)), fun h h2 => (GG.out.2.2.2.2.2.2.2.2.2.2.2.2 h (by simpa using h2))⟩, hidD ⟨fun h => (SS0.out.1 (by simpa using h)), fun h => (SS0.out.2 (by simpa using h))⟩⟩
                · have hf0 : D 13 = false := by
                    cases h : D 13 with
                    | false => rfl
                    | true => rw [(hcl 13 _ rfl h 8 (by simp))] at hDi; cases hDi
                  have hS0 := SS0.out.1 hf0
                  obtain rfl := GG.out.2.2.2.2.2.2.1 (hds 6 (by simp))
                  obtain rfl := GG.out.2.2.2.2.2.2.2.1 (hds 7 (by simp))
                  clear hds
                  refine wpOp_go rfl rfl (fun K hK => ?_)
                  go_simp
                  exact hK _ _ ⟨_, _, _, _, _, _, _, _, _, _, _, _, _, rfl, hidD ⟨fun h h2 => (GG.out.1 h (by simpa using h2)), GG.out.2.1, GG.out.2.2.1, GG.out.2.2.2.1, fun h h2 => (GG.out.2.2.2.2.1 h (by simpa using h2)), GG.out.2.2.2.2.2.1, fun _ => rfl, fun _ => rfl, fun _ => rfl, GG.out.2.2.2.2.2.2.2.2.2.1, fun h h2 => (GG.out.2.2.2.2.2.2.2.2.2.2.1 h (by simpa using h2)), fun h h2 => (GG.out.2.2.2.2.2.2.2.2.2.2.2.1 h (by simpa using h2)), fun h h2 => (GG.out.2.2.2.2.2.2.2.2.2.2.2.2 h (by simpa using h2))⟩, hidD ⟨fun h => (SS0.out.1 (by simpa using h)), fun h => (SS0.out.2 (by simpa using h))⟩⟩
                · have hf0 : D 13 = false := by
                    cases h : D 13 with
                    | false => rfl
                    | true => rw [(hcl 13 _ rfl h 9 (by simp))] at hDi; cases hDi
                  have hS0 := SS0.out.1 hf0
                  obtain rfl := GG.out.2.2.2.2.2.1 (hds 5 (by simp))
                  obtain rfl := GG.out.2.2.2.2.2.2.2.2.1 (hds 8 (by simp))
                  clear hds
                  refine wpOp_go rfl rfl (fun K hK => ?_)
                  go_simp
                  exact hK _ _ ⟨_, _, _, _, _, _, _, _, _, _, _, _, _, rfl, hidD ⟨fun h h2 => (GG.out.1 h (by simpa using h2)), GG.out.2.1, GG.out.2.2.1, GG.out.2.2.2.1, fun h h2 => (GG.out.2.2.2.2.1 h (by simpa using h2)), fun _ => rfl, GG.out.2.2.2.2.2.2.1, GG.out.2.2.2.2.2.2.2.1, fun _ => rfl, fun _ => rfl, fun h h2 => (GG.out.2.2.2.2.2.2.2.2.2.2.1 h (by simpa using h2)), fun h h2 => (GG.out.2.2.2.2.2.2.2.2.2.2.2.1 h (by simpa using h2)), fun h h2 => (GG.out.2.2.2.2.2.2.2.2.2.2.2.2 h (by simpa using h2))⟩, hidD ⟨fun h => (SS0.out.1 (by simpa using h)), fun h => (SS0.out.2 (by simpa using h))⟩⟩
                · have hf0 : D 13 = false := by
                    cases h : D 13 with
                    | false => rfl
                    | true => rw [(hcl 13 _ rfl h 10 (by simp))] at hDi; cases hDi
                  have hS0 := SS0.out.1 hf0
                  obtain rfl := GG.out.2.2.2.2.2.2.2.2.2.1 (hds 9 (by simp))
                  obtain ⟨⟨e0, e1, e2, e3⟩, hr⟩ := HCL2.out V hS0.1.2
                  clear hds
                  refine wpOp_go rfl rfl (fun K hK => ?_)
                  go_simp
                  exact hK _ _ ⟨_, _, _, _, _, _, _, _, _, _, _, _, _, rfl, hidD ⟨fun h h2 => (GG.out.1 h (by simpa using h2)), GG.out.2.1, GG.out.2.2.1, GG.out.2.2.2.1, fun h h2 => (GG.out.2.2.2.2.1 h (by simpa using h2)), GG.out.2.2.2.2.2.1, GG.out.2.2.2.2.2.2.1, GG.out.2.2.2.2.2.2.2.1, GG.out.2.2.2.2.2.2.2.2.1, fun _ => rfl, fun _ _ => hr, fun h h2 => (GG.out.2.2.2.2.2.2.2.2.2.2.2.1 h (by simpa using h2)), fun h h2 => (GG.out.2.2.2.2.2.2.2.2.2.2.2.2 h (by simpa using h2))⟩, hidD ⟨fun h => (SS0.out.1 (by simpa using h)), fun h => (SS0.out.2 (by simpa using h))⟩⟩
                · have hf0 : D 13 = false := by
                    cases h : D 13 with
                    | false => rfl
                    | true => rw [(hcl 13 _ rfl h 11 (by simp))] at hDi; cases hDi
                  have hS0 := SS0.out.1 hf0
                  have h0 := GG.out.2.2.2.2.1 (hds 4 (by simp)) hf0
                  have h1 := GG.out.2.2.2.2.2.2.2.2.2.2.1 (hds 10 (by simp)) hf0
                  clear hds
                  have HC := hidD (stimes_c _ _ (cf ps k) (cf qs m) V h0 h1 (HP.out.at k) (HQ.out.at m))
                  clear h0 h1
                  refine wpOp_go rfl rfl (fun K hK => ?_)
                  go_simp
                  go_wp2_with (go_at_call 44; refine HC.out.mono ?_; rintro e w5 ⟨v5, rfl, hv5, hb5⟩)
                  exact ⟨_, _, _, _, _, _, _, _, _, _, _, _, _, rfl, hidD ⟨fun h h2 => (GG.out.1 h (by simpa using h2)).below hb5, GG.out.2.1, GG.out.2.2.1, GG.out.2.2.2.1, fun h h2 => (GG.out.2.2.2.2.1 h (by simpa using h2)).below hb5, GG.out.2.2.2.2.2.1, GG.out.2.2.2.2.2.2.1, GG.out.2.2.2.2.2.2.2.1, GG.out.2.2.2.2.2.2.2.2.1, GG.out.2.2.2.2.2.2.2.2.2.1, fun h h2 => (GG.out.2.2.2.2.2.2.2.2.2.2.1 h (by simpa using h2)).below hb5, fun _ _ => hv5, fun h h2 => (GG.out.2.2.2.2.2.2.2.2.2.2.2.2 h (by simpa using h2)).below hb5⟩, hidD ⟨fun h => (SS0.out.1 (by simpa using h)).below hb5, fun h => (SS0.out.2 (by simpa using h)).below hb5⟩⟩
                · have hf0 : D 13 = false := by
                    cases h : D 13 with
                    | false => rfl
                    | true => rw [(hcl 13 _ rfl h 12 (by simp))] at hDi; cases hDi
                  have hS0 := SS0.out.1 hf0
                  have h0 := GG.out.1 (hds 0 (by simp)) hf0
                  have h1 := GG.out.2.2.2.2.2.2.2.2.2.2.2.1 (hds 11 (by simp)) hf0
                  clear hds
                  have HC := hidD (ssum_c _ _ y (cf ps k * cf qs m) V h0 h1 HQC.out (HOK.out.1 k m))
                  rw [HCS.out] at HC
                  clear h0 h1
                  refine wpOp_go rfl rfl (fun K hK => ?_)
                  go_simp
                  go_wp2_with (go_at_call 43; refine HC.out.mono ?_; rintro e w5 ⟨v5, rfl, hv5, hb5⟩)
                  exact ⟨_, _, _, _, _, _, _, _, _, _, _, _, _, rfl, hidD ⟨fun h h2 => (GG.out.1 h (by simpa using h2)).below hb5, GG.out.2.1, GG.out.2.2.1, GG.out.2.2.2.1, fun h h2 => (GG.out.2.2.2.2.1 h (by simpa using h2)).below hb5, GG.out.2.2.2.2.2.1, GG.out.2.2.2.2.2.2.1, GG.out.2.2.2.2.2.2.2.1, GG.out.2.2.2.2.2.2.2.2.1, GG.out.2.2.2.2.2.2.2.2.2.1, fun h h2 => (GG.out.2.2.2.2.2.2.2.2.2.2.1 h (by simpa using h2)).below hb5, fun h h2 => (GG.out.2.2.2.2.2.2.2.2.2.2.2.1 h (by simpa using h2)).below hb5, fun _ _ => hv5⟩, hidD ⟨fun h => (SS0.out.1 (by simpa using h)).below hb5, fun h => (SS0.out.2 (by simpa using h)).below hb5⟩⟩
                · have hS0 := SS0.out.1 hDi
                  have h0 := GG.out.2.2.2.2.2.2.2.2.2.2.2.2 (hds 12 (by simp)) hDi
                  obtain ⟨a9, l9, c9, s9, b9, k9, d9, t9, rfl⟩ := IsRef.form h0
                  obtain ⟨_, _, _, a5, l5, c5, s5, b5, k5, d5, t5, n5, r5⟩ := id hS0
                  have e0 := n5.c0
                  have e1 := n5.c1
                  have e2 := n5.c2
                  have e3 := n5.c3
                  have f0 := n5.f0
                  have f1 := n5.f1
                  have f2 := n5.f2
                  have f3 := n5.f3
                  clear hds
                  refine wpOp_go rfl rfl (fun K hK => ?_)
                  go_simp
                  exact hK _ _ ⟨_, _, _, _, _, _, _, _, _, _, _, _, _, rfl, hidD ⟨fun _ h => by simp at h, GG.out.2.1, GG.out.2.2.1, GG.out.2.2.2.1, fun _ h => by simp at h, GG.out.2.2.2.2.2.1, GG.out.2.2.2.2.2.2.1, GG.out.2.2.2.2.2.2.2.1, GG.out.2.2.2.2.2.2.2.2.1, GG.out.2.2.2.2.2.2.2.2.2.1, fun _ h => by simp at h, fun _ h => by simp at h, fun _ h => by simp at h⟩, hidD ⟨fun h => by simp at h, fun _ => hS0.put h0⟩⟩
              case fin1 =>
                rintro D act V hDD ⟨t36x, t37x, t38x, t39x, t40x, t41x, t42x, t43x, t44x, t45x, t46x, t47x, t48x, rfl, GG, SS0⟩
                have HO := hidD (SS0.out.2 (hDD 13 (by decide)))
                clear GG SS0 hDD
                go_wp2_with fail
                go_roundw
                case rel => exact ⟨k + 1, by omega, by go_num, HO⟩
                case measure => simp [intOf]; omega
            · have hmb2 : ¬ (m : Int) < (lb : Int) := by omega
              have HZ := hidD (show conv ps qs (k + 1) i = conv ps qs k i by rw [← HCS.out, cf_ge (p := qs) (by have := HLB.out; omega), Rat.mul_zero, Rat.add_zero])
              go_wp2_with fail
              go_roundw
              case rel => exact ⟨k + 1, by omega, by go_num, hidD (by rw [HZ.out]; exact HY.out)⟩
              case measure => simp [intOf]; omega
          · have hka2 : ¬ (k : Int) < (la : Int) := by omega
            have HZ := hidD (show conv ps qs (k + 1) i = conv ps qs k i by rw [← HCS.out, cf_ge (p := ps) (by have := HLA.out; omega), Rat.zero_mul, Rat.add_zero])
            go_wp2_with fail
            go_roundw
            case rel => exact ⟨k + 1, by omega, by go_num, hidD (by rw [HZ.out]; exact HY.out)⟩
            case measure => simp [intOf]; omega
        · obtain rfl : k = i + 1 := by omega
          have hki2 : ¬ ((i + 1 : Nat) : Int) ≤ (i : Int) := by omega
          obtain ⟨_, _, _, a5, l5, c5, s5, b5, k5, d5, t5, n5, r5⟩ := id HY.out
          have e0 := n5.c0
          have e1 := n5.c1
          have e2 := n5.c2
          have e3 := n5.c3
          obtain ⟨v9, w9, hap, ho9, hk9, hb9⟩ := out_append false w.heap.size wr _ _ HY.out.1.1 r5 (by rw [← HOU.out, tellL_length]; omega) HY.out.1.2.size
          dsimp only [tsK, tyK] at hap
          have HO9 := hidD ho9
          have HB9 := hidD (hb9 w.heap.size w (Nat.le_refl _) HY.out.1.2)
          clear ho9 hk9 hb9 n5 r5
          go_wp2_with (at_builtin; refine Lib.wpList_append_run _ rfl _ _ 30 30 rfl _ _ rfl rfl _ _ hap ?_)
          obtain ⟨a9, c9, e9, _⟩ := HO9.out.form
          rw [← HOU.out, List.length_append, tellL_length] at e9
          go_roundw
          case rel => exact ⟨i + 1, by omega, by go_num, ⟨a9, c9, e9⟩, hidD ⟨by rw [tellL_succ, HOU.out]; exact HO9.out, HB9.out⟩⟩
          case measure => simp [intOf]; omega
    · obtain rfl : i = n := by omega
      have HT := hidD (xTrim_c _ _ wr (HR.out.1.row (by rw [tellL_length]; omega)))
      rw [trim_conv ps qs i (by have := HN.out; have := HLA.out; have := HLB.out; omega)] at HT
      go_wp2_with (go_at_call 45; refine HT.out.mono ?_; clear HT; rintro e w1 ⟨u1, rfl, hu1, hb1⟩; obtain ⟨a7, l7, c7, rfl⟩ := hu1.form)
      go_ret
      exact ⟨_, rfl, hu1, HR.out.2.trans (hb1.mono HR.out.2.size)⟩
end Go.Proofs.YteldjhhjnchdeaaGreatDoor
