import Derived.Test.YtahpgnkhophgpaaDoorPrs
namespace Go.Proofs.YtahpgnkhophgpaaDoor
open Go.RowKit Go.Shelf

/-- A new block of one word as a row. -/
theorem row_one (W : World) (v : Nat) : Row .u64 (W.alloc (.cells #[.int .u64 (v : Nat)] 56)) (.slice (some ⟨W.heap.size, 0, none⟩) 1 1) [v] := by
  refine ⟨_, 1, rfl, by simp, by omega, by simp, Or.inr ⟨W.heap.size, 0, rfl, by simp, fun j hj => ?_⟩⟩
  have : j = 0 := by simp at hj; omega
  subst this
  exact (Boxed.new W 56 (.int .u64 (v : Nat))).cell

theorem limbs_one {n : Nat} (h0 : n ≠ 0) (h : n < B64) : limbs B64 n = [n] := by
  rw [limbs_pos two_le_B64 h0, Nat.mod_eq_of_lt h, Nat.div_eq_of_lt h, limbs_zero]

theorem trim_one {n : Nat} (h : n < B64) : trimL [n] = limbs B64 n := by
  have := limbs_val two_le_B64 (ds := [n]) (Dig.cons h (Dig.nil _))
  rw [← this]
  simp [val]

set_option maxRecDepth 100000 in
set_option maxHeartbeats 1000000 in
theorem iofPos (N : Nat) (hN : N ≤ 9223372036854775807) (w : World) : Calls Tryd.prog 10 #[.int .i64 (N : Int)] w fun e w' => ∃ u, e = .returned u ∧ IsInt w' u N ∧ Below w.heap.size w w' := by
  have hg : ¬ ((N : Int) < 0) := by omega
  have ec : IntKind.u64.wrap (N : Int) = (N : Int) := by rw [IntKind.wrap_u64]; omega
  have HT := hidR (trim_one (n := N) (by unfold B64; omega))
  have bR := (Box2.new w 25 (.bool false) (.slice none 0 0)).alloc (.cells #[.int .u64 (N : Nat)] 56)
  have hB0 : Below w.heap.size w ((w.alloc (.cells #[.bool false, .slice none 0 0] 25)).alloc (.cells #[.int .u64 (N : Nat)] 56)) := ((Below.refl _ _).alloc (Nat.le_refl _) _).alloc (by simp) _
  have hrow := row_one (w.alloc (.cells #[.bool false, .slice none 0 0] 25)) N
  rw [World.size_alloc] at hrow
  have e0 : (N : Int) = sgn false N := rfl
  have HE := hidR e0
  clear e0
  go_enter Tryd.func10, Tryd.ntmps10
  go_wp2_with (first
    | (go_at_call 31; refine (trimmed_c _ _ _ hrow).mono ?_; rintro e w1 ⟨u, rfl, hu, hb1⟩; rw [HT.out] at hu; obtain ⟨au, cu, rfl⟩ := UN.form hu; have bR := bR.below hb1; have hB0 := Below.then hB0 hb1)
    | (go_at_call 27; refine (signed_s _ _ _ _ hu).mono ?_; rintro e w2 ⟨v, rfl, hv, hb2⟩; have bR := bR.below hb2; have hB0 := Below.then hB0 hb2; rw [← HE.out] at hv; obtain ⟨a3, l3, c3, rfl, hr3⟩ := hv; have q0 := bR.c0; have q1 := bR.c1; have f0 := bR.f0; have f1 := bR.f1))
  obtain ⟨hr, hB2⟩ := set2_fin (.bool (decide ((N : Int) < 0))) (.slice a3 l3 c3) hB0 (Nat.le_refl _) bR rfl rfl hr3
  exact bodyPost_ret (v := .agg #[.bool (decide ((N : Int) < 0)), .slice a3 l3 c3]) (by simp [results, Tryd.results10, go_sem, q0, q1]) rfl ⟨_, rfl, ⟨a3, l3, c3, rfl, hr⟩, hB2⟩

set_option maxRecDepth 100000 in
set_option maxHeartbeats 1000000 in
theorem iofNeg (N : Nat) (h0 : 1 ≤ N) (hN : N ≤ 9223372036854775808) (w : World) : Calls Tryd.prog 10 #[.int .i64 (-(N : Int))] w fun e w' => ∃ u, e = .returned u ∧ IsInt w' u (-(N : Int)) ∧ Below w.heap.size w w' := by
  have hg : -(N : Int) < 0 := by omega
  have ec : IntKind.u64.wrap (-(IntKind.u64.wrap (-(N : Int)))) = (N : Int) := by simp only [IntKind.wrap_u64]; omega
  have HT := hidR (limbs_one (n := N) (by omega) (by unfold B64; omega))
  have bR := (Box2.new w 25 (.bool false) (.slice none 0 0)).alloc (.cells #[.int .u64 (N : Nat)] 56)
  have hB0 : Below w.heap.size w ((w.alloc (.cells #[.bool false, .slice none 0 0] 25)).alloc (.cells #[.int .u64 (N : Nat)] 56)) := ((Below.refl _ _).alloc (Nat.le_refl _) _).alloc (by simp) _
  have hrow := row_one (w.alloc (.cells #[.bool false, .slice none 0 0] 25)) N
  rw [World.size_alloc, ← HT.out] at hrow
  have hrow : UN ((w.alloc (.cells #[.bool false, .slice none 0 0] 25)).alloc (.cells #[.int .u64 (N : Nat)] 56)) (.slice (some ⟨w.heap.size + 1, 0, none⟩) 1 1) N := hrow
  have e0 : -(N : Int) = sgn true N := rfl
  have HE := hidR e0
  clear e0
  go_enter Tryd.func10, Tryd.ntmps10
  go_wp2_with (first
    | (go_at_call 27; refine (signed_s _ _ _ _ hrow).mono ?_; rintro e w2 ⟨v, rfl, hv, hb2⟩; have bR := bR.below hb2; have hB0 := Below.then hB0 hb2; rw [← HE.out] at hv; obtain ⟨a3, l3, c3, rfl, hr3⟩ := hv; have q0 := bR.c0; have q1 := bR.c1; have f0 := bR.f0; have f1 := bR.f1))
  obtain ⟨hr, hB2⟩ := set2_fin (.bool true) (.slice a3 l3 c3) hB0 (Nat.le_refl _) bR rfl rfl hr3
  exact bodyPost_ret (v := .agg #[.bool true, .slice a3 l3 c3]) (by simp [results, Tryd.results10, go_sem, q0, q1]) rfl ⟨_, rfl, ⟨a3, l3, c3, by rw [show decide (-(N : Int) < 0) = true from decide_eq_true hg], hr⟩, hB2⟩

theorem iof_c (n : Int) (h1 : -9223372036854775808 ≤ n) (h2 : n ≤ 9223372036854775807) (w : World) : Calls Tryd.prog 10 #[.int .i64 n] w fun e w' => ∃ u, e = .returned u ∧ IsInt w' u n ∧ Below w.heap.size w w' := by
  by_cases h : n < 0
  · have e : n = -(n.natAbs : Int) := by omega
    rw [e]
    exact iofNeg n.natAbs (by omega) (by omega) w
  · have e : n = (n.natAbs : Int) := by omega
    rw [e]
    exact iofPos n.natAbs (by omega) w
end Go.Proofs.YtahpgnkhophgpaaDoor
