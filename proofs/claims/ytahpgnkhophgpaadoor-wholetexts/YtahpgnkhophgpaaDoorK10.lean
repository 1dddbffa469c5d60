import Derived.Test.YtahpgnkhophgpaaDoorK09
import Derived.Test.YtahpgnkhophgpaaDoorK05
import Derived.Test.YtahpgnkhophgpaaDoorK06
namespace Go.Proofs.YtahpgnkhophgpaaDoor
open Go.RowKit Go.Shelf

/-- A new block of one word as a row. -/
theorem row_one (W : World) (v : Nat) : Row .u64 (W.alloc (.cells #[.int .u64 (v : Nat)] 56)) (.slice (some ⟨W.heap.size, 0, none⟩) 1 1) [v] := by
  refine ⟨_, 1, rfl, by simp, by omega, by simp, Or.inr ⟨W.heap.size, 0, rfl, by simp, fun j hj => ?_⟩⟩
  have : j = 0 := by simp at hj; omega
  subst this
  exact (Boxed.new W 56 (.int .u64 (v : Nat))).cell

theorem limbs_one {n : Nat} (h0 : n ≠ 0) (h : n < B64) : limbs B64 n = [n] := by
  rw [limbs_pos two_le_B64 h0, Nat.mod_eq_of_lt h, Nat.div_eq_of_lt h, limbs_zero]

theorem trim_one {n : Nat} (h : n < B64) : trimL [n] = limbs B64 n := by
  have := limbs_val two_le_B64 (ds := [n]) (Dig.cons h (Dig.nil _))
  rw [← this]
  simp [val]

set_option maxRecDepth 100000 in
set_option maxHeartbeats 1000000 in
theorem iofPos (N : Nat) (hN : N ≤ 9223372036854775807) (w : World) : Calls Tryd.prog 10 #[.int .i64 (N : Int)] w fun e w' => ∃ u, e = .returned u ∧ IsInt w' u N ∧ Below w.heap.size w w' := by
  have hg : ¬ ((N : Int) < 0) := by omega
  have ec : IntKind.u64.wrap (N : Int) = (N : Int) := by rw [IntKind.wrap_u64]; omega
  have HT := hidR (trim_one (n := N) (by unfold B64; omega))
  have bR := (Box2.new w 25 (.bool false) (.slice none 0 0)).alloc (.cells #[.int .u64 (N : Nat)] 56)
  have hB0 : Below w.heap.size w ((w.alloc (.cells #[.bool false, .slice none 0 0] 25)).alloc (.cells #[.int .u64 (N : Nat)] 56)) := ((Below.refl _ _).alloc (Nat.le_refl _) _).alloc (by simp) _
  have hrow := row_one (w.alloc (.cells #[.bool false, .slice none 0 0] 25)) N
  rw [World.size_alloc] at hrow
  have e0 : (N : Int) = sgn false N := rfl
  have HE := hidR e0
  clear e0
  go_enter Tryd.func10, Tryd.ntmps10
  go_wp2_with (first
    | (go_at_call 31; refine (trimmed_c _ _ _ hrow).mono ?_; rintro e w1 ⟨u, rfl, hu, hb1⟩; rw [HT.out] at hu; obtain ⟨au, cu, rfl⟩ := UN.form hu; have bR := bR.below hb1; have hB0 := Below.then hB0 hb1)
    | (go_at_call 27; refine (signed_s _ _ _ _ hu).mono ?_; rintro e w2 ⟨v, rfl, hv, hb2⟩; have bR := bR.below hb2; have hB0 := Below.then hB0 hb2; rw [← HE.out] at hv; obtain ⟨a3, l3, c3, rfl, hr3⟩ := hv; have q0 := bR.c0; have q1 := bR.c1; have f0 := bR.f0; have f1 := bR.f1))
  obtain ⟨hr, hB2⟩ := set2_fin (.bool (decide ((N : Int) < 0))) (.slice a3 l3 c3) hB0 (Nat.le_refl _) bR rfl rfl hr3
  exact bodyPost_ret (v := .agg #[.bool (decide ((N : Int) < 0)), .slice a3 l3 c3]) (by simp [results, Tryd.results10, go_sem, q0, q1]) rfl ⟨_, rfl, ⟨a3, l3, c3, rfl, hr⟩, hB2⟩

set_option maxRecDepth 100000 in
set_option maxHeartbeats 1000000 in
theorem iofNeg (N : Nat) (h0 : 1 ≤ N) (hN : N ≤ 9223372036854775808) (w : World) : Calls Tryd.prog 10 #[.int .i64 (-(N : Int))] w fun e w' => ∃ u, e = .returned u ∧ IsInt w' u (-(N : Int)) ∧ Below w.heap.size w w' := by
  have hg : -(N : Int) < 0 := by omega
  have ec : IntKind.u64.wrap (-(IntKind.u64.wrap (-(N : Int)))) = (N : Int) := by simp only [IntKind.wrap_u64]; omega
  have HT := hidR (limbs_one (n := N) (by omega) (by unfold B64; omega))
  have bR := (Box2.new w 25 (.bool false) (.slice none 0 0)).alloc (.cells #[.int .u64 (N : Nat)] 56)
  have hB0 : Below w.heap.size w ((w.alloc (.cells #[.bool false, .slice none 0 0] 25)).alloc (.cells #[.int .u64 (N : Nat)] 56)) := ((Below.refl _ _).alloc (Nat.le_refl _) _).alloc (by simp) _
  have hrow := row_one (w.alloc (.cells #[.bool false, .slice none 0 0] 25)) N
  rw [World.size_alloc, ← HT.out] at hrow
  have hrow : UN ((w.alloc (.cells #[.bool false, .slice none 0 0] 25)).alloc (.cells #[.int .u64 (N : Nat)] 56)) (.slice (some ⟨w.heap.size + 1, 0, none⟩) 1 1) N := hrow
  have e0 : -(N : Int) = sgn true N := rfl
  have HE := hidR e0
  clear e0
  go_enter Tryd.func10, Tryd.ntmps10
  go_wp2_with (first
    | (go_at_call 27; refine (signed_s _ _ _ _ hrow).mono ?_; rintro e w2 ⟨v, rfl, hv, hb2⟩; have bR := bR.below hb2; have hB0 := Below.then hB0 hb2; rw [← HE.out] at hv; obtain ⟨a3, l3, c3, rfl, hr3⟩ := hv; have q0 := bR.c0; have q1 := bR.c1; have f0 := bR.f0; have f1 := bR.f1))
  obtain ⟨hr, hB2⟩ := set2_fin (.bool true) (.slice a3 l3 c3) hB0 (Nat.le_refl _) bR rfl rfl hr3
  exact bodyPost_ret (v := .agg #[.bool true, .slice a3 l3 c3]) (by simp [results, Tryd.results10, go_sem, q0, q1]) rfl ⟨_, rfl, ⟨a3, l3, c3, by rw [show decide (-(N : Int) < 0) = true from decide_eq_true hg], hr⟩, hB2⟩

theorem iof_c (n : Int) (h1 : -9223372036854775808 ≤ n) (h2 : n ≤ 9223372036854775807) (w : World) : Calls Tryd.prog 10 #[.int .i64 n] w fun e w' => ∃ u, e = .returned u ∧ IsInt w' u n ∧ Below w.heap.size w w' := by
  by_cases h : n < 0
  · have e : n = -(n.natAbs : Int) := by omega
    rw [e]
    exact iofNeg n.natAbs (by omega) (by omega) w
  · have e : n = (n.natAbs : Int) := by omega
    rw [e]
    exact iofPos n.natAbs (by omega) w
end Go.Proofs.YtahpgnkhophgpaaDoor

namespace Go.Proofs.YtahpgnkhophgpaaDoor
open Go.RowKit Go.Shelf

theorem uorder_n (va vb : Value) (m n : Nat) (w : World) (ha : UN w va m) (hb : UN w vb n) :
    Calls Tryd.prog 34 #[va, vb] w fun e w' => e = .returned (.int .i64 (cmpN m n)) ∧ Below w.heap.size w w' := by
  have h := morder_c va vb _ _ w ha hb (dig_limbs two_le_B64 m) (dig_limbs two_le_B64 n) (top_limbs two_le_B64 m) (top_limbs two_le_B64 n)
  rw [val_limbs two_le_B64, val_limbs two_le_B64] at h
  exact h

set_option maxHeartbeats 2000000 in
/-- The sum of two numbers of one sign. -/
theorem iplusSame_w (a b : Option Addr) (la lb ca cb m n : Nat) (s : Bool) (w : World) (ra : UN w (.slice a la ca) m) (rb : UN w (.slice b lb cb) n) (hma : la < 1099511627776) (hmb : lb < 1099511627776) :
    Calls Tryd.prog 15 #[.agg #[.bool s, .slice a la ca], .agg #[.bool s, .slice b lb cb]] w fun e w' => ∃ c lc cc, e = .returned (.agg #[.bool (s && decide (0 < lc)), .slice c lc cc]) ∧ UN w' (.slice c lc cc) (m + n) ∧ Below w.heap.size w w' := by
  have ne2 : ¬ (w.heap.size = w.heap.size + 1 + 1) := by omega
  go_enter Tryd.func15, Tryd.ntmps15
  go_wp2_with fail
  have hB0 := below_3 w (.cells #[.bool s, .slice a la ca] 25) (.cells #[.bool s, .slice b lb cb] 25) (.cells #[.bool false, .slice none 0 0] 25)
  have b0 := ((Box2.new w 25 (.bool s) (.slice a la ca)).alloc (.cells #[.bool s, .slice b lb cb] 25)).alloc (.cells #[.bool false, .slice none 0 0] 25)
  have b1 := (Box2.new (w.alloc (.cells #[.bool s, .slice a la ca] 25)) 25 (.bool s) (.slice b lb cb)).alloc (.cells #[.bool false, .slice none 0 0] 25)
  have bR := Box2.new ((w.alloc (.cells #[.bool s, .slice a la ca] 25)).alloc (.cells #[.bool s, .slice b lb cb] 25)) 25 (.bool false) (.slice none 0 0)
  simp only [World.size_alloc] at b1 bR
  go_region_held3 (fun w' => w'.cell? ⟨w.heap.size, 1, none⟩ = some (.slice a la ca) ∧ w'.cell? ⟨w.heap.size + 1, 1, none⟩ = some (.slice b lb cb) ∧ w'.cell? ⟨w.heap.size, 0, none⟩ = some (.bool s)) (refine ⟨?_, ?_, ?_⟩ <;> (first | (go_keep; done) | ((repeat rw [cell_set_nb (by omega)]); simp [*]; done)))
    (first
      | (go_at_call 33; refine (rplus_w _ _ _ _ _ _ m n _ ?_ ?_ hma hmb).mono ?_; exact ra.below hB0.drew; exact rb.below hB0.drew; rintro e w1 ⟨u, rfl, hu, hb1⟩; obtain ⟨a', c', rfl⟩ := hu.form; have b0 := b0.drew.below hb1; have b1 := b1.drew.below hb1; have bR := bR.drew.below hb1; have hB0 := Below.then hB0.drew hb1; have k0 := b0.c1; have k1 := b0.c0; have k2 := b1.c1)
      | (go_at_call 27; refine (signed_w _ _ _ _ _).mono ?_; rintro e w2 ⟨rfl, hb2⟩; have hu := Row.below hu hb2; have b0 := b0.below hb2; have b1 := b1.below hb2; have bR := bR.below hb2; have hB0 := Below.then hB0 hb2; have k0 := b0.c1; have k1 := b0.c0; have k2 := b1.c1; have r0 := bR.c0; have r1 := bR.c1; have f0 := bR.f0; have f1 := bR.f1))
  all_goals go_wp2_with fail
  obtain ⟨hr, hB2⟩ := set2_fin (.bool (s && decide (0 < (limbs B64 (m + n)).length))) (.slice a' (limbs B64 (m + n)).length c') hB0 (by omega) bR rfl rfl hu
  exact bodyPost_ret (v := .agg #[.bool (s && decide (0 < (limbs B64 (m + n)).length)), .slice a' (limbs B64 (m + n)).length c']) (by simp [results, Tryd.results15, go_sem, r0, r1]) rfl ⟨_, _, _, rfl, hr, hB2⟩

set_option maxHeartbeats 2000000 in
/-- The sum of two numbers of two signs, the first one not the lesser. -/
theorem iplusDiff_w (a b : Option Addr) (la lb ca cb m n : Nat) (s : Bool) (w : World) (ra : UN w (.slice a la ca) m) (rb : UN w (.slice b lb cb) n) (hmn : n ≤ m) :
    Calls Tryd.prog 15 #[.agg #[.bool s, .slice a la ca], .agg #[.bool (!s), .slice b lb cb]] w fun e w' => ∃ c lc cc, e = .returned (.agg #[.bool (s && decide (0 < lc)), .slice c lc cc]) ∧ UN w' (.slice c lc cc) (m - n) ∧ Below w.heap.size w w' := by
  have ne2 : ¬ (w.heap.size = w.heap.size + 1 + 1) := by omega
  have hs : (s == !s) = false := by cases s <;> rfl
  have hcmp := cmpN_ge hmn
  have HC : Hid (n ≤ m) := hmn
  clear hmn
  have hB0 := below_3 w (.cells #[.bool s, .slice a la ca] 25) (.cells #[.bool (!s), .slice b lb cb] 25) (.cells #[.bool false, .slice none 0 0] 25)
  have b0 := ((Box2.new w 25 (.bool s) (.slice a la ca)).alloc (.cells #[.bool (!s), .slice b lb cb] 25)).alloc (.cells #[.bool false, .slice none 0 0] 25)
  have b1 := (Box2.new (w.alloc (.cells #[.bool s, .slice a la ca] 25)) 25 (.bool (!s)) (.slice b lb cb)).alloc (.cells #[.bool false, .slice none 0 0] 25)
  have bR := Box2.new ((w.alloc (.cells #[.bool s, .slice a la ca] 25)).alloc (.cells #[.bool (!s), .slice b lb cb] 25)) 25 (.bool false) (.slice none 0 0)
  simp only [World.size_alloc] at b1 bR
  go_enter Tryd.func15, Tryd.ntmps15
  go_wp2_with (first
    | (go_at_call 34; refine (uorder_n _ _ m n _ ?_ ?_).mono ?_; exact ra.below hB0; exact rb.below hB0; rintro e w0 ⟨rfl, hb0⟩; have b0 := b0.below hb0; have b1 := b1.below hb0; have bR := bR.below hb0; have hB0 := Below.then hB0 hb0; have k0 := b0.c1; have k1 := b0.c0; have k2 := b1.c1))
  go_region_held3 (fun w' => w'.cell? ⟨w.heap.size, 1, none⟩ = some (.slice a la ca) ∧ w'.cell? ⟨w.heap.size + 1, 1, none⟩ = some (.slice b lb cb) ∧ w'.cell? ⟨w.heap.size, 0, none⟩ = some (.bool s)) (refine ⟨?_, ?_, ?_⟩ <;> (first | (go_keep; done) | ((repeat rw [cell_set_nb (by omega)]); simp [*]; done)))
    (first
      | (go_at_call 35; refine (rminus_w _ _ _ _ _ _ m n _ ?_ ?_ HC.out).mono ?_; exact ra.below hB0.drew; exact rb.below hB0.drew; rintro e w1 ⟨u, rfl, hu, hb1⟩; obtain ⟨a', c', rfl⟩ := hu.form; have b0 := b0.drew.below hb1; have b1 := b1.drew.below hb1; have bR := bR.drew.below hb1; have hB0 := Below.then hB0.drew hb1; have k0 := b0.c1; have k1 := b0.c0; have k2 := b1.c1)
      | (go_at_call 27; refine (signed_w _ _ _ _ _).mono ?_; rintro e w2 ⟨rfl, hb2⟩; have hu := Row.below hu hb2; have b0 := b0.below hb2; have b1 := b1.below hb2; have bR := bR.below hb2; have hB0 := Below.then hB0 hb2; have k0 := b0.c1; have k1 := b0.c0; have k2 := b1.c1; have r0 := bR.c0; have r1 := bR.c1; have f0 := bR.f0; have f1 := bR.f1))
  all_goals go_wp2_with fail
  obtain ⟨hr, hB2⟩ := set2_fin (.bool (s && decide (0 < (limbs B64 (m - n)).length))) (.slice a' (limbs B64 (m - n)).length c') hB0 (by omega) bR rfl rfl hu
  exact bodyPost_ret (v := .agg #[.bool (s && decide (0 < (limbs B64 (m - n)).length)), .slice a' (limbs B64 (m - n)).length c']) (by simp [results, Tryd.results15, go_sem, r0, r1]) rfl ⟨_, _, _, rfl, hr, hB2⟩

set_option maxHeartbeats 2000000 in
/-- The sum of two numbers of two signs, the first one the lesser. -/
theorem iplusLess_w (a b : Option Addr) (la lb ca cb m n : Nat) (s : Bool) (w : World) (ra : UN w (.slice a la ca) m) (rb : UN w (.slice b lb cb) n) (hmn : m < n) :
    Calls Tryd.prog 15 #[.agg #[.bool s, .slice a la ca], .agg #[.bool (!s), .slice b lb cb]] w fun e w' => ∃ c lc cc, e = .returned (.agg #[.bool ((!s) && decide (0 < lc)), .slice c lc cc]) ∧ UN w' (.slice c lc cc) (n - m) ∧ Below w.heap.size w w' := by
  have ne2 : ¬ (w.heap.size = w.heap.size + 1 + 1) := by omega
  have hs : (s == !s) = false := by cases s <;> rfl
  have hcmp : cmpN m n < 0 := by rw [cmpN_lt hmn]; omega
  have HC : Hid (m < n) := hmn
  clear hmn
  have hB0 := below_3 w (.cells #[.bool s, .slice a la ca] 25) (.cells #[.bool (!s), .slice b lb cb] 25) (.cells #[.bool false, .slice none 0 0] 25)
  have b0 := ((Box2.new w 25 (.bool s) (.slice a la ca)).alloc (.cells #[.bool (!s), .slice b lb cb] 25)).alloc (.cells #[.bool false, .slice none 0 0] 25)
  have b1 := (Box2.new (w.alloc (.cells #[.bool s, .slice a la ca] 25)) 25 (.bool (!s)) (.slice b lb cb)).alloc (.cells #[.bool false, .slice none 0 0] 25)
  have bR := Box2.new ((w.alloc (.cells #[.bool s, .slice a la ca] 25)).alloc (.cells #[.bool (!s), .slice b lb cb] 25)) 25 (.bool false) (.slice none 0 0)
  simp only [World.size_alloc] at b1 bR
  go_enter Tryd.func15, Tryd.ntmps15
  go_wp2_with (first
    | (go_at_call 34; refine (uorder_n _ _ m n _ ?_ ?_).mono ?_; exact ra.below hB0; exact rb.below hB0; rintro e w0 ⟨rfl, hb0⟩; have b0 := b0.below hb0; have b1 := b1.below hb0; have bR := bR.below hb0; have hB0 := Below.then hB0 hb0; have k0 := b0.c1; have k1 := b1.c0; have k2 := b1.c1))
  go_region_held3 (fun w' => w'.cell? ⟨w.heap.size, 1, none⟩ = some (.slice a la ca) ∧ w'.cell? ⟨w.heap.size + 1, 1, none⟩ = some (.slice b lb cb) ∧ w'.cell? ⟨w.heap.size + 1, 0, none⟩ = some (.bool (!s))) (refine ⟨?_, ?_, ?_⟩ <;> (first | (go_keep; done) | ((repeat rw [cell_set_nb (by omega)]); simp [*]; done)))
    (first
      | (go_at_call 35; refine (rminus_w _ _ _ _ _ _ n m _ ?_ ?_ (Nat.le_of_lt HC.out)).mono ?_; exact rb.below hB0.drew; exact ra.below hB0.drew; rintro e w1 ⟨u, rfl, hu, hb1⟩; obtain ⟨a', c', rfl⟩ := hu.form; have b0 := b0.drew.below hb1; have b1 := b1.drew.below hb1; have bR := bR.drew.below hb1; have hB0 := Below.then hB0.drew hb1; have k0 := b0.c1; have k1 := b1.c0; have k2 := b1.c1)
      | (go_at_call 27; refine (signed_w _ _ _ _ _).mono ?_; rintro e w2 ⟨rfl, hb2⟩; have hu := Row.below hu hb2; have b0 := b0.below hb2; have b1 := b1.below hb2; have bR := bR.below hb2; have hB0 := Below.then hB0 hb2; have k0 := b0.c1; have k1 := b1.c0; have k2 := b1.c1; have r0 := bR.c0; have r1 := bR.c1; have f0 := bR.f0; have f1 := bR.f1))
  all_goals go_wp2_with fail
  obtain ⟨hr, hB2⟩ := set2_fin (.bool ((!s) && decide (0 < (limbs B64 (n - m)).length))) (.slice a' (limbs B64 (n - m)).length c') hB0 (by omega) bR rfl rfl hu
  exact bodyPost_ret (v := .agg #[.bool ((!s) && decide (0 < (limbs B64 (n - m)).length)), .slice a' (limbs B64 (n - m)).length c']) (by simp [results, Tryd.results15, go_sem, r0, r1]) rfl ⟨_, _, _, rfl, hr, hB2⟩
end Go.Proofs.YtahpgnkhophgpaaDoor

namespace Go.Proofs.YtahpgnkhophgpaaDoor
open Go.RowKit Go.Shelf

theorem IsInt.of {W : World} {s : Bool} {a : Option Addr} {l cap n : Nat} {z : Int} (h : UN W (.slice a l cap) n) (hz : z = if s then -(n : Int) else n) : IsInt W (.agg #[.bool (s && decide (0 < l)), .slice a l cap]) z := by
  have hl := h.len
  subst hz
  refine ⟨a, l, cap, agg_bool' ?_, ?_⟩
  · rw [hl, Bool.eq_iff_iff]
    simp only [Bool.and_eq_true, decide_eq_true_eq]
    rw [wlen_pos_iff]
    cases s
    · simp
    · simp; omega
  · have e : (if s then -(n : Int) else n).natAbs = n := by cases s <;> simp
    rw [e]
    exact h

theorem iplus_c (va vb : Value) (x y : Int) (w : World) (hx : IsInt w va x) (hy : IsInt w vb y) (hlx : (limbs B64 x.natAbs).length < 1099511627776) (hly : (limbs B64 y.natAbs).length < 1099511627776) :
    Calls Tryd.prog 15 #[va, vb] w fun e w' => ∃ u, e = .returned u ∧ IsInt w' u (x + y) ∧ Below w.heap.size w w' := by
  obtain ⟨a, la, ca, rfl, hu⟩ := hx
  obtain ⟨b, lb, cb, rfl, hv⟩ := hy
  have ela := hu.len
  have elb := hv.len
  by_cases hs : decide (y < 0) = decide (x < 0)
  · rw [hs]
    refine (iplusSame_w a b la lb ca cb _ _ _ w hu hv (by omega) (by omega)).mono ?_
    rintro e w' ⟨c, lc, cc, rfl, hr, hB⟩
    refine ⟨_, rfl, IsInt.of hr ?_, hB⟩
    by_cases h1 : x < 0
    · have h2 : y < 0 := by have := decide_eq_true h1; rw [← hs] at this; exact of_decide_eq_true this
      simp only [h1, decide_true, if_true]; omega
    · have h2 : ¬ y < 0 := by have := decide_eq_false h1; rw [← hs] at this; exact of_decide_eq_false this
      simp only [h1, decide_false, Bool.false_eq_true, if_false]; omega
  · have hs' : decide (y < 0) = !decide (x < 0) := by
      revert hs
      cases decide (y < 0) <;> cases decide (x < 0) <;> simp
    rw [hs']
    by_cases hmn : y.natAbs ≤ x.natAbs
    · refine (iplusDiff_w a b la lb ca cb _ _ _ w hu hv hmn).mono ?_
      rintro e w' ⟨c, lc, cc, rfl, hr, hB⟩
      refine ⟨_, rfl, IsInt.of hr ?_, hB⟩
      by_cases h1 : x < 0
      · have h2 : ¬ y < 0 := by rw [decide_eq_true h1] at hs'; exact of_decide_eq_false hs'
        simp only [h1, decide_true, if_true]; omega
      · have h2 : y < 0 := by rw [decide_eq_false h1] at hs'; exact of_decide_eq_true hs'
        simp only [h1, decide_false, Bool.false_eq_true, if_false]; omega
    · refine (iplusLess_w a b la lb ca cb _ _ _ w hu hv (by omega)).mono ?_
      rintro e w' ⟨c, lc, cc, rfl, hr, hB⟩
      refine ⟨_, rfl, IsInt.of hr ?_, hB⟩
      by_cases h1 : x < 0
      · have h2 : ¬ y < 0 := by rw [decide_eq_true h1] at hs'; exact of_decide_eq_false hs'
        simp only [h1, decide_true, Bool.not_true, Bool.false_eq_true, if_false]; omega
      · have h2 : y < 0 := by rw [decide_eq_false h1] at hs'; exact of_decide_eq_true hs'
        simp only [h1, decide_false, Bool.not_false, if_true]; omega

/-- The order of two whole numbers. -/
def cmpI (x y : Int) : Int := if x < y then -1 else if y < x then 1 else 0

theorem belowI2 (w : World) (o1 o2 : Obj) : Below w.heap.size w ((w.alloc o1).alloc o2) :=
  ((Below.refl _ w).alloc (Nat.le_refl _) _).alloc (by simp) _

set_option maxHeartbeats 2000000 in
theorem iorder_w (a b : Option Addr) (la lb ca cb m n : Nat) (s t : Bool) (w : World) (ra : UN w (.slice a la ca) m) (rb : UN w (.slice b lb cb) n) :
    Calls Tryd.prog 17 #[.agg #[.bool s, .slice a la ca], .agg #[.bool t, .slice b lb cb]] w fun e w' => e = .returned (.int .i64 (if s = t then (if s then cmpN n m else cmpN m n) else (if t then 1 else -1))) ∧ Below w.heap.size w w' := by
  have hB0 := belowI2 w (.cells #[.bool s, .slice a la ca] 25) (.cells #[.bool t, .slice b lb cb] 25)
  have b0 := (Box2.new w 25 (.bool s) (.slice a la ca)).alloc (.cells #[.bool t, .slice b lb cb] 25)
  have b1 := Box2.new (w.alloc (.cells #[.bool s, .slice a la ca] 25)) 25 (.bool t) (.slice b lb cb)
  simp only [World.size_alloc] at b1
  cases s <;> cases t
  all_goals
    go_enter Tryd.func17, Tryd.ntmps17
    go_wp2_with (first
      | (go_at_call 34; refine (uorder_n _ _ n m _ ?_ ?_).mono ?_; exact rb.below hB0; exact ra.below hB0; rintro e w0 ⟨rfl, hb0⟩)
      | (go_at_call 34; refine (uorder_n _ _ m n _ ?_ ?_).mono ?_; exact ra.below hB0; exact rb.below hB0; rintro e w0 ⟨rfl, hb0⟩)
      | (go_at_call 36; refine (sign_c _ _).mono ?_; rintro e w0 ⟨rfl, rfl⟩))
    go_ret
    first
      | exact ⟨rfl, Below.then hB0 hb0⟩
      | exact ⟨rfl, hB0⟩

theorem iorder_c (va vb : Value) (x y : Int) (w : World) (hx : IsInt w va x) (hy : IsInt w vb y) :
    Calls Tryd.prog 17 #[va, vb] w fun e w' => e = .returned (.int .i64 (cmpI x y)) ∧ Below w.heap.size w w' := by
  obtain ⟨a, la, ca, rfl, hu⟩ := hx
  obtain ⟨b, lb, cb, rfl, hv⟩ := hy
  refine (iorder_w a b la lb ca cb _ _ _ _ w hu hv).mono ?_
  rintro e w' ⟨rfl, hB⟩
  refine ⟨?_, hB⟩
  congr 2
  unfold cmpI cmpN
  by_cases h1 : x < 0 <;> by_cases h2 : y < 0 <;> simp only [h1, h2, decide_true, decide_false, if_true, if_false, Bool.false_eq_true, reduceCtorEq]
  all_goals (repeat' split) <;> omega
end Go.Proofs.YtahpgnkhophgpaaDoor

namespace Go.Proofs.YtahpgnkhophgpaaDoor
open Go.RowKit Go.Shelf

attribute [local go_sem] Oper.semAt_some

/-- The text that alive reads, and the one that it awaits. -/
def aliveA : List UInt8 := [45, 49, 50, 51, 52, 53, 54, 55, 56, 57, 48, 49, 50, 51, 52, 53, 54, 55, 56, 57, 48, 49, 50, 51, 52, 53, 54, 55, 56, 57, 48]
def aliveB : List UInt8 := [45, 49, 50, 51, 52, 53, 54, 55, 56, 57, 48, 49, 50, 51, 52, 53, 54, 55, 56, 57, 48, 49, 50, 51, 52, 53, 54, 55, 56, 56, 57]
def aliveN : Int := -123456789012345678901234567890

theorem aliveA_good : good aliveA = true := by decide
theorem aliveB_good : good aliveB = true := by decide
theorem aliveA_val : valZ aliveA = aliveN := by decide
theorem aliveB_val : valZ aliveB = aliveN + 1 := by decide
theorem aliveB_text : decZ (aliveN + 1) = aliveB := by rw [← aliveB_val]; exact good_dec aliveB_good
theorem aliveN_len : (limbs B64 aliveN.natAbs).length < 1099511627776 := by
  have := limbs_length_le two_le_B64 (n := aliveN.natAbs) (k := 2) (by unfold B64 aliveN; decide)
  omega
theorem one_len : (limbs B64 (1 : Int).natAbs).length < 1099511627776 := by
  have := limbs_length_le two_le_B64 (n := (1 : Int).natAbs) (k := 1) (by unfold B64; decide)
  omega
theorem alive_cmp : cmpI (aliveN + 1) aliveN = 1 := by decide

theorem IsInt.set {W : World} {v : Value} {z : Int} (h : IsInt W v z) {p : Addr} {u0 : Value} (hp : W.cell? p = some u0) (hn : noInt u0 = true) (u : Value) : IsInt (W.setCell p u) v z := by
  obtain ⟨a, l, cap, e, hr⟩ := h
  exact ⟨a, l, cap, e, Row.set hr hp hn u⟩

theorem IsInt.form {W : World} {v : Value} {z : Int} (h : IsInt W v z) : ∃ a l cap, v = .agg #[.bool (decide (z < 0)), .slice a l cap] := by
  obtain ⟨a, l, cap, e, _⟩ := h
  exact ⟨a, l, cap, e⟩

theorem IsInt.alloc {W : World} {v : Value} {z : Int} (h : IsInt W v z) (o : Obj) : IsInt (W.alloc o) v z := h.below ((Below.refl _ W).alloc (Nat.le_refl _) o)
theorem IsInt.drew {W : World} {v : Value} {z : Int} (h : IsInt W v z) : IsInt W.drew v z := h

/-- A number that is laid into a box of its own leaves the others. -/
theorem IsInt.box {W : World} {R : Nat} {t : TypeId} {u0 u1 x0 x1 v : Value} {z : Int} (h : IsInt W v z) (q : Box2 W R t u0 u1) (n0 : noInt u0 = true) (n1 : noInt u1 = true) : IsInt ((W.setCell ⟨R, 0, none⟩ x0).setCell ⟨R, 1, none⟩ x1) v z := by
  obtain ⟨a, l, cap, e, hr⟩ := h
  exact ⟨a, l, cap, e, Row.set (Row.set hr q.c0 n0 _) (u0 := u1) (q.set0 x0).c1 n1 _⟩

set_option maxRecDepth 100000 in
set_option maxHeartbeats 2000000 in
theorem alive_c (w : World) (htab : Lib.TabIs Tryd.prog w "internal/strconv.uint64pow10" .u64 Lib.pow10Tab) :
    Calls Tryd.prog 12 #[] w fun e w' => e = .returned (.bool true) ∧ Below w.heap.size w w' := by
  have HT := hidD htab
  have hmx : Tryd.prog.follows .mixedOrders = true := by kernel_rfl
  clear htab
  go_enter Tryd.func12, Tryd.ntmps12
  go_upto_region 2 with (go_at_call 6; refine (iparse_c ⟨aliveA.toArray⟩ (by decide) _).mono ?_; rintro e w1 ⟨h1, _, hb1⟩; obtain ⟨u, rfl, hu⟩ := h1 aliveA_good; have hu : IsInt w1 u aliveN := (by rw [← aliveA_val]; exact hu); clear h1; obtain ⟨ua, ul, uc, rfl⟩ := hu.form; obtain ⟨s, hs⟩ : ∃ s, decide (aliveN < 0) = s := ⟨_, rfl⟩; rw [hs] at hu; rw [hs]; clear hs)
  obtain ⟨W0, hW0⟩ : ∃ W0, w1.alloc (.cells #[.bool s, .slice ua ul uc] 25) = W0 := ⟨_, rfl⟩
  have x1 : Box2 W0 w1.heap.size 25 (.bool s) (.slice ua ul uc) := by rw [← hW0]; exact Box2.new _ _ _ _
  have x2 : IsInt W0 (.agg #[.bool s, .slice ua ul uc]) aliveN := by rw [← hW0]; exact hu.alloc _
  have x3 : Below w.heap.size w W0 := by rw [← hW0]; exact hb1.alloc hb1.size _
  obtain ⟨B1, hB1⟩ : ∃ B1, B1 = w1.heap.size := ⟨_, rfl⟩
  have hwB := hb1.size
  rw [hW0]
  rw [← hB1] at x1 hwB ⊢
  clear hW0 hu hb1 hB1
  refine wp_region_tab hmx [[], [], [0, 1, 1], [], [3, 2, 2, 0, 1, 2, 3]] (by kernel_rfl) (by decide)
    (fun D a V => ∃ t3 t8 t9 t10 : Value, a = { tmps := #[.bool false, .pointer (some ⟨B1, 0, none⟩), .bool true, t3, .tuple #[.agg #[.bool s, .slice ua ul uc], .bool true], .tuple #[.agg #[.bool s, .slice ua ul uc], .bool true], .agg #[.bool s, .slice ua ul uc], .bool true, t8, t9, t10, undef, undef, undef, undef, undef, undef, undef, undef, undef, undef, undef, undef], defers := [] } ∧
      (D 0 = true → t8 = .agg #[.bool s, .slice ua ul uc]) ∧ (D 1 = true → IsInt V t9 1) ∧ (D 2 = true → IsInt V t10 (aliveN + 1)) ∧
      (D 3 = true → D 4 = false → ∃ B3, t3 = .pointer (some ⟨B3, 0, none⟩) ∧ Box2 V B3 25 (.bool false) (.slice none 0 0) ∧ w.heap.size ≤ B3 ∧ B3 ≠ B1) ∧
      (D 4 = true → ∃ B3 s3 a3 l3 c3, t3 = .pointer (some ⟨B3, 0, none⟩) ∧ t10 = .agg #[.bool s3, .slice a3 l3 c3] ∧ Box2 V B3 25 (.bool s3) (.slice a3 l3 c3)) ∧
      Box2 V B1 25 (.bool s) (.slice ua ul uc) ∧ IsInt V (.agg #[.bool s, .slice ua ul uc]) aliveN ∧ Below w.heap.size w V)
    ⟨_, _, _, _, rfl, by simp, by simp, by simp, by simp, by simp, x1.drew, x2.drew, x3.drew⟩ ?step ?fin
  case fin =>
    rintro D a V hDD ⟨t3, t8, t9, t10, rfl, g0, g1, g2, g3, g4, hb, hi, hB⟩
    obtain ⟨B3, s3, a3, l3, c3, rfl, rfl, hb3⟩ := g4 (hDD 4 (by decide))
    have hi10 := g2 (hDD 2 (by decide))
    clear g0 g1 g2 g3 g4 hDD x1 x2 x3
    have HTX := hidD (show Calls Tryd.prog 8 #[.agg #[.bool s3, .slice a3 l3 c3]] V fun e w' => e = .returned (.string ⟨#[45, 49, 50, 51, 52, 53, 54, 55, 56, 57, 48, 49, 50, 51, 52, 53, 54, 55, 56, 57, 48, 49, 50, 51, 52, 53, 54, 55, 56, 56, 57]⟩) ∧ Below V.heap.size V w' by
      have h1 := itext_c _ _ V hi10 (tab_below HT.out hB)
      rw [aliveB_text] at h1
      exact h1)
    have HOR := hidD (fun (V' : World) (h : Below V.heap.size V V') => show Calls Tryd.prog 17 #[.agg #[.bool s3, .slice a3 l3 c3], .agg #[.bool s, .slice ua ul uc]] V' fun e w' => e = .returned (.int .i64 1) ∧ Below V'.heap.size V' w' by
      have h1 := iorder_c _ _ _ _ V' (hi10.below h) (hi.below h)
      rw [alive_cmp] at h1
      exact h1)
    have k0 := hb.c0
    have k1 := hb.c1
    have k2 := hb3.c0
    have k3 := hb3.c1
    go_wp2_with (first
      | (go_at_call 8; refine HTX.out.mono ?_; rintro e w5 ⟨rfl, hb5⟩; have m0 := (hb.below hb5).c0; have m1 := (hb.below hb5).c1; have m2 := (hb3.below hb5).c0; have m3 := (hb3.below hb5).c1)
      | (go_at_call 17; refine (HOR.out _ hb5).mono ?_; rintro e w6 ⟨rfl, hb6⟩))
    go_ret
    exact ⟨rfl, (hB.trans (hb5.mono hB.size)).trans (hb6.mono (Nat.le_trans hB.size hb5.size))⟩
  case step =>
    rintro D a V i ds hcl2 hi2 hds hDi ⟨t3, t8, t9, t10, rfl, g0, g1, g2, g3, g4, hb, hi, hB⟩
    have hi6 : i < 5 := (List.getElem?_eq_some_iff.1 hi2).1
    obtain rfl | rfl | rfl | rfl | rfl : i = 0 ∨ i = 1 ∨ i = 2 ∨ i = 3 ∨ i = 4 := by omega
    all_goals
      simp only [List.getElem?_cons_zero, List.getElem?_cons_succ, Option.some.injEq] at hi2
      subst hi2
    · have k0 := hb.c0
      have k1 := hb.c1
      clear hds
      refine wpOp_go rfl rfl (fun K hK => ?_)
      go_simp
      exact hK _ _ ⟨_, _, _, _, rfl, fun _ => rfl, g1, g2, g3, g4, hb, hi, hB⟩
    · clear hds
      have HG := hidD g4
      have HG3 := hidD g3
      refine wpOp_go rfl rfl (fun K hK => ?_)
      go_simp
      go_wp2_with (go_at_call 10; refine (iof_c 1 (by omega) (by omega) _).mono ?_; rintro e w5 ⟨v5, rfl, hv5, hb5⟩)
      exact ⟨_, _, _, _, rfl, g0, fun _ => hv5, fun h => (g2 h).below hb5, fun h h' => by
        obtain ⟨B3, e, q, q2, q3⟩ := g3 h h'
        exact ⟨B3, e, q.below hb5, q2, q3⟩, fun h => by
        obtain ⟨B3, s3, a3, l3, c3, e, e2, q⟩ := g4 h
        exact ⟨B3, s3, a3, l3, c3, e, e2, q.below hb5⟩, hb.below hb5, hi.below hb5, hB.trans (hb5.mono hB.size)⟩
    · obtain rfl := g0 (hds 0 (by simp))
      have h9 := g1 (hds 1 (by simp))
      have hf4 : D 4 = false := by
        cases h : D 4 with
        | false => rfl
        | true => rw [hcl2 4 _ rfl h 2 (by simp)] at hDi; cases hDi
      clear hds
      refine wpOp_go rfl rfl (fun K hK => ?_)
      go_simp
      go_wp2_with (go_at_call 15; refine (iplus_c _ _ aliveN 1 _ hi h9 aliveN_len one_len).mono ?_; rintro e w5 ⟨v5, rfl, hv5, hb5⟩)
      exact ⟨_, _, _, _, rfl, fun _ => rfl, fun _ => h9.below hb5, fun _ => hv5, fun h h' => by
        obtain ⟨B3, e, q, q2, q3⟩ := g3 h h'
        exact ⟨B3, e, q.below hb5, q2, q3⟩, fun h => by simp [hf4] at h, hb.below hb5, hi.below hb5, hB.trans (hb5.mono hB.size)⟩
    · have hf4 : D 4 = false := by
        cases h : D 4 with
        | false => rfl
        | true => rw [hcl2 4 _ rfl h 3 (by simp)] at hDi; cases hDi
      clear hds
      refine wpOp_go rfl rfl (fun K hK => ?_)
      go_simp
      exact hK _ _ ⟨_, _, _, _, rfl, g0, fun h => (g1 h).alloc _, fun h => (g2 h).alloc _, fun _ _ => ⟨_, rfl, Box2.new _ _ _ _, hB.size, fun e => by have := hb.lt; omega⟩, fun h => by simp [hf4] at h, hb.alloc _, hi.alloc _, hB.alloc hB.size _⟩
    · obtain ⟨B3, rfl, hb3, hw3, hne3⟩ := g3 (hds 3 (by simp)) hDi
      have h10 := g2 (hds 2 (by simp))
      obtain ⟨a3, l3, c3, rfl⟩ := h10.form
      have k0 := hb3.c0
      have k1 := hb3.c1
      have f0 := hb3.f0
      have f1 := hb3.f1
      clear g4
      refine wpOp_go rfl rfl (fun K hK => ?_)
      go_simp
      exact hK _ _ ⟨_, _, _, _, rfl, (by first | exact g0 | exact fun _ => rfl), fun h => (g1 h).box hb3 rfl rfl, fun _ => h10.box hb3 rfl rfl, fun _ h => by simp at h, fun _ => ⟨B3, _, a3, l3, c3, rfl, rfl, (hb3.set0 _).set1 _⟩, (hb.far (p := ⟨B3, 0, none⟩) (fun e => hne3 e.symm) _).far (p := ⟨B3, 1, none⟩) (fun e => hne3 e.symm) _, hi.box hb3 rfl rfl, (hB.setCell (p := ⟨B3, 0, none⟩) hw3 _).setCell (p := ⟨B3, 1, none⟩) hw3 _⟩
end Go.Proofs.YtahpgnkhophgpaaDoor

namespace Go.Proofs.YtahpgnkhophgpaaDoor
open Go.RowKit Go.Shelf

theorem Box2.kept {W W' : World} {row : Option Nat} {B : Nat} {t : TypeId} {x y : Value} (h : Box2 W B t x y) (hg : W.grownBy W' row) (hne : some B ≠ row) : Box2 W' B t x y := (hg.block B h.lt hne).trans h

/-- What the loop of an int's digits knows. -/
def OfAt (N c : Nat) (acc : List Nat) : Prop := Dig 10000 acc ∧ val 10000 acc + 10000 ^ acc.length * c = N ∧ acc.length ≤ 100 ∧ (acc = [] ∨ c ≠ 0 ∨ 10000 ^ (acc.length - 1) ≤ val 10000 acc)

theorem OfAt.step {N c : Nat} {acc : List Nat} (h : OfAt N c acc) (hN : N ≤ 9223372036854775808) (hc : c ≠ 0) : OfAt N (c / 10000) (acc ++ [c % 10000]) := by
  obtain ⟨h1, h2, h3, h4⟩ := h
  refine ⟨h1.append (Dig.cons (Nat.mod_lt _ (by omega)) (Dig.nil _)), ?_, ?_, ?_⟩
  · rw [val_snoc, List.length_append, List.length_singleton, Nat.pow_succ, Nat.mul_assoc, Nat.add_assoc, ← Nat.mul_add, Nat.mod_add_div]
    exact h2
  · rcases Nat.lt_or_ge acc.length 20 with h | h
    · simp; omega
    · have g1 : (10000 : Nat) ^ 20 ≤ 10000 ^ acc.length := Nat.pow_le_pow_right (by omega) h
      have g2 : 10000 ^ acc.length * 1 ≤ 10000 ^ acc.length * c := Nat.mul_le_mul_left _ (by omega)
      have g3 : (10000 : Nat) ^ 20 = 100000000000000000000000000000000000000000000000000000000000000000000000000000000 := by decide
      omega
  · right
    by_cases g : c / 10000 = 0
    · right
      rw [List.length_append, List.length_singleton, Nat.add_sub_cancel, val_snoc]
      have : c % 10000 ≠ 0 := by omega
      have := Nat.mul_le_mul_left (10000 ^ acc.length) (show 1 ≤ c % 10000 by omega)
      omega
    · exact Or.inl g

theorem OfAt.done {N : Nat} {acc : List Nat} (h : OfAt N 0 acc) : acc = limbs 10000 N := by
  obtain ⟨h1, h2, h3, h4⟩ := h
  rw [Nat.mul_zero, Nat.add_zero] at h2
  rw [← h2]
  refine (limbs_val_top (by omega) h1 (top_of_pow (by omega) h1 ?_)).symm
  rcases h4 with h | h | h
  · exact Or.inl h
  · exact absurd rfl h
  · exact Or.inr h

theorem append_fld {k : IntKind} {w wr w3 : World} {B base : Nat} {e t : TypeId} {o : Obj} {v v' y : Value} {acc : List Nat} {D : Int} (d : Nat) (hD : D = (d : Nat)) (hb0 : w.heap.size ≤ B) (hbB : B < base) (hB : Below w.heap.size w wr) (bx : Box2 wr B t v y) (hown : wr.ownsRow base e 1 v acc.length (cellsOf k acc))
    (hown' : w3.ownsRow base e 1 v' (acc.length + 1) (cellsOf k acc ++ [.int k D])) (hgrow : (wr.alloc o).grownBy w3 v.ownBlock) :
    ∃ g cv, v' = .slice (some ⟨g, 0, none⟩) (acc ++ [d]).length cv ∧ (w3.setCell ⟨B, 0, none⟩ v').ownsRow base e 1 v' (acc ++ [d]).length (cellsOf k (acc ++ [d])) ∧ Box2 w3 B t v y ∧ Below w.heap.size w w3 ∧ base ≤ w3.heap.size ∧ (∀ B' t' x' y', B' < base → Box2 wr B' t' x' y' → Box2 w3 B' t' x' y') := by
  obtain ⟨g, cv, hv⟩ := ownsRow_succ hown'
  subst hD
  have hrow : ∀ q, v.ownBlock = some q → base ≤ q ∧ q < wr.heap.size := fun q hq => hown.lt q hq
  have hk : ∀ B' t' x' y', B' < base → Box2 wr B' t' x' y' → Box2 w3 B' t' x' y' := fun B' t' x' y' h b => (b.alloc o).kept hgrow (fun e' => by have := (hrow B' e'.symm).1; omega)
  have ho : w3.ownsRow base e 1 v' (acc ++ [d]).length (cellsOf k (acc ++ [d])) := by rw [cellsOf_snoc]; simpa using hown'
  refine ⟨g, cv, by rw [hv]; simp, ownsRow_setCell_below ho hbB v', hk _ _ _ _ hbB bx, ?_, ?_, hk⟩
  · exact (hB.alloc hB.size _).grown hgrow (by simp; have := hB.size; omega) (fun q hq => by have := (hrow q hq).1; omega)
  · rcases ho.2 with ⟨h, _⟩ | ⟨g', cap', cur', _, hge, hgb, _⟩
    · rw [hv] at h; cases h
    · have := (Array.getElem?_eq_some_iff.1 hgb).1
      omega
end Go.Proofs.YtahpgnkhophgpaaDoor

namespace Go.Proofs.YtahpgnkhophgpaaDoor
open Go.RowKit Go.Shelf

set_option maxRecDepth 100000 in
set_option maxHeartbeats 2000000 in
theorem ofPos_w (N : Nat) (hN : N ≤ 9223372036854775807) (w : World) :
    Calls Tryd.prog 11 #[.int .i64 N] w fun e w' => ∃ u, e = .returned u ∧ IsBig w' u N ∧ Below w.heap.size w w' := by
  obtain ⟨i0, hi, hz0, hz1, hz2⟩ := info_parts Tryd.infoInt
  have bR := (Box2.new w 30 (.slice none 0 0) (.bool false)).alloc (.cells #[.slice none 0 0, .bool false] 30)
  have bb := Box2.new (w.alloc (.cells #[.slice none 0 0, .bool false] 30)) 30 (.slice none 0 0) (.bool false)
  simp only [World.size_alloc] at bb
  have hB0 := below_2 w (.cells #[.slice none 0 0, .bool false] 30) (.cells #[.slice none 0 0, .bool false] 30)
  have HF : Hid (∀ acc, OfAt N 0 acc → acc = limbs 10000 N) := fun acc h => h.done
  have HS : Hid (∀ c acc, OfAt N c acc → c ≠ 0 → OfAt N (c / 10000) (acc ++ [c % 10000])) := fun c acc h hc => h.step (by omega) hc
  go_enter Tryd.func11, Tryd.ntmps11
  go_wp2
  go_loopw [0] (fun nv wr => ∃ (c : Nat) (acc : List Nat) (ao : Option Addr) (cv : Nat), nv = .int .i64 c ∧ c ≤ N ∧ acc.length ≤ 100 ∧ Hid (OfAt N c acc) ∧ Box2 wr w.heap.size 30 (.slice none 0 0) (.bool false) ∧ Box2 wr (w.heap.size + 1) 30 (.slice ao acc.length cv) (.bool false) ∧ wr.ownsRow (w.heap.size + 1 + 1) 3 1 (.slice ao acc.length cv) acc.length (cellsOf .i64 acc) ∧ Below w.heap.size w wr ∧ w.heap.size + 1 + 1 ≤ wr.heap.size)
    (fun nv _ => (intOf nv).toNat)
  case atStart => exact ⟨N, [], none, 0, rfl, Nat.le_refl _, by simp, ⟨Dig.nil _, by simp [val], by simp, Or.inl rfl⟩, bR, bb, World.ownsRow_nil _ _ _ _, hB0, by simp⟩
  case round =>
    clear bR bb hB0
    obtain ⟨c, acc, ao, cv, rfl, hcN, hla, HA, bR, bb, hown, hB, hsz⟩ := hrel
    have c0 := bb.c0
    have c1 := bb.c1
    have f0 := bb.f0
    by_cases hc : c = 0
    · subst hc
      have e := HF.out acc HA.out
      have r0 := bR.c0
      have r1 := bR.c1
      have g0 := bR.f0
      have g1 := bR.f1
      clear HF HS
      go_wp2
      subst e
      obtain ⟨hr, hB2⟩ := set2_fin (.slice ao (limbs 10000 N).length cv) (.bool false) hB (Nat.le_refl _) bR rfl rfl (Row.of_owns hown (by omega))
      exact bodyPost_ret (v := .agg #[.slice ao (limbs 10000 N).length cv, .bool false]) (by simp [results, Tryd.results11, go_sem, r0, r1]) rfl ⟨_, rfl, ⟨ao, _, cv, by rw [show decide ((N : Int) < 0) = false from decide_eq_false (by omega)], hr⟩, hB2⟩
    · have hc0 : ((c : Int) != 0) = true := by rw [bne_iff_ne]; omega
      have HN := hide (HS.out c acc HA.out hc)
      go_wp2_with (first
        | (at_builtin; refine wpList_append_own _ rfl _ _ 28 rfl (w.heap.size + 1 + 1) 3 i0 (.int .i64 0) 1 8 Tryd.underlying28 hi hz0 hz1 hz2 rfl (by decide) (.slice ao acc.length cv) acc.length (cellsOf .i64 acc) rfl (hown.alloc _) ⟨wr.heap.size, 0, none⟩ 1 1 [_] rfl rfl (cell_one_new _ _ _) (by simp [Value.oneCell']) (by unfold maxLen; omega) (by omega) (by simp; omega) ?_; intro v' w3 hown' hgrow hnil; obtain ⟨g, cv', e1, ho, bb3, hB3, hsz3, hk3⟩ := append_fld (c % 10000) (by omega) (by omega) (by omega) hB bb hown hown' hgrow; have d0 := bb3.c0; have d1 := bb3.f0; subst e1))
      have hl1 : (acc ++ [c % 10000]).length ≤ 100 := HN.out.2.2.1
      have el : (acc ++ [c % 10000]).length = acc.length + 1 := by simp
      go_roundw
      case rel => exact ⟨c / 10000, acc ++ [c % 10000], some ⟨g, 0, none⟩, cv', by simp, by omega, hl1, HN, (hk3 _ _ _ _ (by omega) bR).far (by simp) _, by rw [el]; exact bb3.set0 _, by rw [el] at ho ⊢; exact ho, hB3.setCell (by simp) _, by simpa [World.setCell] using hsz3⟩
      case measure => simp [intOf]; omega
theorem tmod_neg (c : Nat) : (-(c : Int)).tmod 10000 = -((c % 10000 : Nat) : Int) := by
  rw [Int.neg_tmod, Int.tmod_eq_emod_of_nonneg (by omega)]; rfl

theorem tdiv_neg (c : Nat) : (-(c : Int)).tdiv 10000 = -((c / 10000 : Nat) : Int) := by
  rw [Int.neg_tdiv, Int.tdiv_eq_ediv_of_nonneg (by omega)]; rfl

set_option maxRecDepth 100000 in
set_option maxHeartbeats 2000000 in
theorem ofNeg_w (N : Nat) (h0 : 1 ≤ N) (hN : N ≤ 9223372036854775808) (w : World) :
    Calls Tryd.prog 11 #[.int .i64 (-(N : Int))] w fun e w' => ∃ u, e = .returned u ∧ IsBig w' u (-(N : Int)) ∧ Below w.heap.size w w' := by
  have h0' : 0 < N := h0
  obtain ⟨i0, hi, hz0, hz1, hz2⟩ := info_parts Tryd.infoInt
  have bR := (Box2.new w 30 (.slice none 0 0) (.bool false)).alloc (.cells #[.slice none 0 0, .bool true] 30)
  have bb := Box2.new (w.alloc (.cells #[.slice none 0 0, .bool false] 30)) 30 (.slice none 0 0) (.bool true)
  simp only [World.size_alloc] at bb
  have hB0 := below_2 w (.cells #[.slice none 0 0, .bool false] 30) (.cells #[.slice none 0 0, .bool true] 30)
  have HF : Hid (∀ acc, OfAt N 0 acc → acc = limbs 10000 N) := fun acc h => h.done
  have HS : Hid (∀ c acc, OfAt N c acc → c ≠ 0 → OfAt N (c / 10000) (acc ++ [c % 10000])) := fun c acc h hc => h.step (by omega) hc
  go_enter Tryd.func11, Tryd.ntmps11
  go_wp2
  go_loopw [0] (fun nv wr => ∃ (c : Nat) (acc : List Nat) (ao : Option Addr) (cv : Nat), nv = .int .i64 (-(c : Int)) ∧ c ≤ N ∧ acc.length ≤ 100 ∧ Hid (OfAt N c acc) ∧ Box2 wr w.heap.size 30 (.slice none 0 0) (.bool false) ∧ Box2 wr (w.heap.size + 1) 30 (.slice ao acc.length cv) (.bool true) ∧ wr.ownsRow (w.heap.size + 1 + 1) 3 1 (.slice ao acc.length cv) acc.length (cellsOf .i64 acc) ∧ Below w.heap.size w wr ∧ w.heap.size + 1 + 1 ≤ wr.heap.size)
    (fun nv _ => (-(intOf nv)).toNat)
  case atStart => exact ⟨N, [], none, 0, rfl, Nat.le_refl _, by simp, ⟨Dig.nil _, by simp [val], by simp, Or.inl rfl⟩, bR, bb, World.ownsRow_nil _ _ _ _, hB0, by simp⟩
  case round =>
    clear bR bb hB0
    obtain ⟨c, acc, ao, cv, rfl, hcN, hla, HA, bR, bb, hown, hB, hsz⟩ := hrel
    have c0 := bb.c0
    have c1 := bb.c1
    have f0 := bb.f0
    have ht := tmod_neg c
    have hd := tdiv_neg c
    by_cases hc : c = 0
    · subst hc
      have e := HF.out acc HA.out
      have r0 := bR.c0
      have r1 := bR.c1
      have g0 := bR.f0
      have g1 := bR.f1
      clear HF HS ht hd
      go_wp2
      subst e
      obtain ⟨hr, hB2⟩ := set2_fin (.slice ao (limbs 10000 N).length cv) (.bool true) hB (Nat.le_refl _) bR rfl rfl (Row.of_owns hown (by omega))
      exact bodyPost_ret (v := .agg #[.slice ao (limbs 10000 N).length cv, .bool true]) (by simp [results, Tryd.results11, go_sem, r0, r1]) rfl ⟨_, rfl, ⟨ao, _, cv, by rw [show decide (-(N : Int) < 0) = true from decide_eq_true (by omega)], by rw [Int.natAbs_neg]; exact hr⟩, hB2⟩
    · have hc0 : ((-(c : Int)) != 0) = true := by rw [bne_iff_ne]; omega
      have HN := hide (HS.out c acc HA.out hc)
      by_cases hm : c % 10000 = 0
      · have hmI : (c : Int) % 10000 = 0 := by omega
        have HM := hide hm
        clear hm
        go_wp2_with (first
          | (at_builtin; refine wpList_append_own _ rfl _ _ 28 rfl (w.heap.size + 1 + 1) 3 i0 (.int .i64 0) 1 8 Tryd.underlying28 hi hz0 hz1 hz2 rfl (by decide) (.slice ao acc.length cv) acc.length (cellsOf .i64 acc) rfl (hown.alloc _) ⟨wr.heap.size, 0, none⟩ 1 1 [_] rfl rfl (cell_one_new _ _ _) (by simp [Value.oneCell']) (by unfold maxLen; omega) (by omega) (by simp; omega) ?_; intro v' w3 hown' hgrow hnil; obtain ⟨g, cv', e1, ho, bb3, hB3, hsz3, hk3⟩ := append_fld (c % 10000) (by omega) (by omega) (by omega) hB bb hown hown' hgrow; have d0 := bb3.c0; have d1 := bb3.f0; subst e1))
        have hl1 : (acc ++ [c % 10000]).length ≤ 100 := HN.out.2.2.1
        have el : (acc ++ [c % 10000]).length = acc.length + 1 := by simp
        go_roundw
        case rel => exact ⟨c / 10000, acc ++ [c % 10000], some ⟨g, 0, none⟩, cv', by simp, by omega, hl1, HN, (hk3 _ _ _ _ (by omega) bR).far (by simp) _, by rw [el]; exact bb3.set0 _, by rw [el] at ho ⊢; exact ho, hB3.setCell (by simp) _, by simpa [World.setCell] using hsz3⟩
        case measure => simp [intOf]; omega
      · have hmI : 0 < (c : Int) % 10000 := by omega
        go_wp2_with (first
          | (at_builtin; refine wpList_append_own _ rfl _ _ 28 rfl (w.heap.size + 1 + 1) 3 i0 (.int .i64 0) 1 8 Tryd.underlying28 hi hz0 hz1 hz2 rfl (by decide) (.slice ao acc.length cv) acc.length (cellsOf .i64 acc) rfl (hown.alloc _) ⟨wr.heap.size, 0, none⟩ 1 1 [_] rfl rfl (cell_one_new _ _ _) (by simp [Value.oneCell']) (by unfold maxLen; omega) (by omega) (by simp; omega) ?_; intro v' w3 hown' hgrow hnil; obtain ⟨g, cv', e1, ho, bb3, hB3, hsz3, hk3⟩ := append_fld (c % 10000) (by omega) (by omega) (by omega) hB bb hown hown' hgrow; have d0 := bb3.c0; have d1 := bb3.f0; subst e1))
        have hl1 : (acc ++ [c % 10000]).length ≤ 100 := HN.out.2.2.1
        have el : (acc ++ [c % 10000]).length = acc.length + 1 := by simp
        go_roundw
        case rel => exact ⟨c / 10000, acc ++ [c % 10000], some ⟨g, 0, none⟩, cv', by simp, by omega, hl1, HN, (hk3 _ _ _ _ (by omega) bR).far (by simp) _, by rw [el]; exact bb3.set0 _, by rw [el] at ho ⊢; exact ho, hB3.setCell (by simp) _, by simpa [World.setCell] using hsz3⟩
        case measure => simp [intOf]; omega

theorem of_c (n : Int) (h1 : -9223372036854775808 ≤ n) (h2 : n ≤ 9223372036854775807) (w : World) :
    Calls Tryd.prog 11 #[.int .i64 n] w fun e w' => ∃ u, e = .returned u ∧ IsBig w' u n ∧ Below w.heap.size w w' := by
  by_cases h : n < 0
  · have e : n = -(n.natAbs : Int) := by omega
    rw [e]
    exact ofNeg_w n.natAbs (by omega) (by omega) w
  · have e : n = (n.natAbs : Int) := by omega
    rw [e]
    exact ofPos_w n.natAbs (by omega) w
end Go.Proofs.YtahpgnkhophgpaaDoor

