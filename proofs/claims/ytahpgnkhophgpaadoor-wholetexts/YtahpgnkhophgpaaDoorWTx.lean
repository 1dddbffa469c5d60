import Derived.Test.YtahpgnkhophgpaaDoorTx3
import Derived.Test.YtahpgnkhophgpaaDoorPrs
import Derived.Test.YtahpgnkhophgpaaDoorRefT
namespace Go.Proofs.YtahpgnkhophgpaaDoor
open Go.RowKit Go.Shelf

set_option maxHeartbeats 1000000 in
theorem itext_0 (a : Option Addr) (cap : Nat) (w : World) :
    Calls Tryd.prog 8 #[.agg #[.bool false, .slice a 0 cap]] w fun e w' => e = .returned (.string ⟨#[48]⟩) ∧ Below w.heap.size w w' := by
  have b0 := Box2.new w 25 (.bool false) (.slice a 0 cap)
  have k1 := b0.c1
  go_enter Tryd.func8, Tryd.ntmps8
  go_wp2
  go_ret
  exact ⟨rfl, (Below.refl _ w).alloc (Nat.le_refl _) _⟩

set_option maxHeartbeats 1000000 in
theorem itext_w (s : Bool) (a : Option Addr) (l cap : Nat) (T : ByteArray) (w : World) (hl : 0 < l) (hT : T.size ≤ 100000000000000)
    (HT : ∀ V, Below w.heap.size w V → Calls Tryd.prog 30 #[.slice a l cap] V fun e w' => e = .returned (.string T) ∧ Below V.heap.size V w') :
    Calls Tryd.prog 8 #[.agg #[.bool s, .slice a l cap]] w fun e w' => e = .returned (.string (if s then (⟨#[45]⟩ : ByteArray) ++ T else T)) ∧ Below w.heap.size w w' := by
  have b0 := Box2.new w 25 (.bool s) (.slice a l cap)
  have hB0 : Below w.heap.size w (w.alloc (.cells #[.bool s, .slice a l cap] 25)) := (Below.refl _ w).alloc (Nat.le_refl _) _
  have k0 := b0.c0
  have k1 := b0.c1
  have hl0 : ¬ l = 0 := by omega
  have HTH := hidD HT
  clear HT
  cases s
  all_goals
    go_enter Tryd.func8, Tryd.ntmps8
    go_wp2_with (go_at_call 30; refine (HTH.out _ hB0).mono ?_; rintro e w1 ⟨rfl, hb1⟩)
    go_ret
    exact ⟨by simp, Below.then hB0 hb1⟩

theorem decN_len (n : Nat) : (decN n).length ≤ 20 * (limbs B64 n).length + 1 := by
  unfold decN
  split
  · simp
  · rw [txt_length]
    have h1 : n < B64 ^ (limbs B64 n).length := by
      have := val_lt (dig_limbs two_le_B64 n)
      rwa [val_limbs two_le_B64] at this
    have h2 : B64 ^ (limbs B64 n).length ≤ 10 ^ (20 * (limbs B64 n).length) := by
      rw [Nat.pow_mul]
      exact Nat.pow_le_pow_left (by unfold B64; omega) _
    have := limbs_length_le (B := 10) (by omega) (Nat.lt_of_lt_of_le h1 h2)
    omega

theorem itext_c (v : Value) (z : Int) (w : World) (h : IsInt w v z) (htab : Lib.TabIs Tryd.prog w "internal/strconv.uint64pow10" .u64 Lib.pow10Tab) :
    Calls Tryd.prog 8 #[v] w fun e w' => e = .returned (.string ⟨(decZ z).toArray⟩) ∧ Below w.heap.size w w' := by
  obtain ⟨a, l, cap, rfl, hu⟩ := h
  have hl := hu.len
  by_cases h0 : z.natAbs = 0
  · have hz : z = 0 := by omega
    subst hz
    have hl0 : l = 0 := by rw [hl]; simp [limbs_zero]
    subst hl0
    exact itext_0 a cap w
  · have hlp : 0 < l := by rw [hl]; exact wlen_pos_iff.2 h0
    refine (itext_w _ a l cap ⟨(decN z.natAbs).toArray⟩ w hlp (by
      have h1 := decN_len z.natAbs
      have h2 := (row_fn hu).2.2.2.1
      show (decN z.natAbs).toArray.size ≤ _
      rw [List.size_toArray]; omega) (fun V hV => mtext_w a l cap z.natAbs V (Row.below hu hV) h0 (tab_below htab hV))).mono ?_
    rintro e w' ⟨rfl, hB⟩
    refine ⟨?_, hB⟩
    congr 2
    unfold decZ
    by_cases hz : z < 0
    · simp only [hz, decide_true, if_true]; exact ba_cons _ _
    · simp only [hz, decide_false, if_false, Bool.false_eq_true]
end Go.Proofs.YtahpgnkhophgpaaDoor
