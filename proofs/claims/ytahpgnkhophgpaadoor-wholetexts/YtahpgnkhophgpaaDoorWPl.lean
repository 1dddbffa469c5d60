import Derived.Test.YtahpgnkhophgpaaDoorOrd
import Derived.Test.YtahpgnkhophgpaaDoorRef6
namespace Go.Proofs.YtahpgnkhophgpaaDoor
open Go.RowKit Go.Shelf

theorem uorder_n (va vb : Value) (m n : Nat) (w : World) (ha : UN w va m) (hb : UN w vb n) :
    Calls Tryd.prog 34 #[va, vb] w fun e w' => e = .returned (.int .i64 (cmpN m n)) ∧ Below w.heap.size w w' := by
  have h := morder_c va vb _ _ w ha hb (dig_limbs two_le_B64 m) (dig_limbs two_le_B64 n) (top_limbs two_le_B64 m) (top_limbs two_le_B64 n)
  rw [val_limbs two_le_B64, val_limbs two_le_B64] at h
  exact h

set_option maxHeartbeats 2000000 in
/-- The sum of two numbers of one sign. -/
theorem iplusSame_w (a b : Option Addr) (la lb ca cb m n : Nat) (s : Bool) (w : World) (ra : UN w (.slice a la ca) m) (rb : UN w (.slice b lb cb) n) (hma : la < 1099511627776) (hmb : lb < 1099511627776) :
    Calls Tryd.prog 15 #[.agg #[.bool s, .slice a la ca], .agg #[.bool s, .slice b lb cb]] w fun e w' => ∃ c lc cc, e = .returned (.agg #[.bool (s && decide (0 < lc)), .slice c lc cc]) ∧ UN w' (.slice c lc cc) (m + n) ∧ Below w.heap.size w w' := by
  have ne2 : ¬ (w.heap.size = w.heap.size + 1 + 1) := by omega
  go_enter Tryd.func15, Tryd.ntmps15
  go_wp2_with fail
  have hB0 := below_3 w (.cells #[.bool s, .slice a la ca] 25) (.cells #[.bool s, .slice b lb cb] 25) (.cells #[.bool false, .slice none 0 0] 25)
  have b0 := ((Box2.new w 25 (.bool s) (.slice a la ca)).alloc (.cells #[.bool s, .slice b lb cb] 25)).alloc (.cells #[.bool false, .slice none 0 0] 25)
  have b1 := (Box2.new (w.alloc (.cells #[.bool s, .slice a la ca] 25)) 25 (.bool s) (.slice b lb cb)).alloc (.cells #[.bool false, .slice none 0 0] 25)
  have bR := Box2.new ((w.alloc (.cells #[.bool s, .slice a la ca] 25)).alloc (.cells #[.bool s, .slice b lb cb] 25)) 25 (.bool false) (.slice none 0 0)
  simp only [World.size_alloc] at b1 bR
  go_region_held3 (fun w' => w'.cell? ⟨w.heap.size, 1, none⟩ = some (.slice a la ca) ∧ w'.cell? ⟨w.heap.size + 1, 1, none⟩ = some (.slice b lb cb) ∧ w'.cell? ⟨w.heap.size, 0, none⟩ = some (.bool s)) (refine ⟨?_, ?_, ?_⟩ <;> (first | (go_keep; done) | ((repeat rw [cell_set_nb (by omega)]); simp [*]; done)))
    (first
      | (go_at_call 33; refine (rplus_w _ _ _ _ _ _ m n _ ?_ ?_ hma hmb).mono ?_; exact ra.below hB0.drew; exact rb.below hB0.drew; rintro e w1 ⟨u, rfl, hu, hb1⟩; obtain ⟨a', c', rfl⟩ := hu.form; have b0 := b0.drew.below hb1; have b1 := b1.drew.below hb1; have bR := bR.drew.below hb1; have hB0 := Below.then hB0.drew hb1; have k0 := b0.c1; have k1 := b0.c0; have k2 := b1.c1)
      | (go_at_call 27; refine (signed_w _ _ _ _ _).mono ?_; rintro e w2 ⟨rfl, hb2⟩; have hu := Row.below hu hb2; have b0 := b0.below hb2; have b1 := b1.below hb2; have bR := bR.below hb2; have hB0 := Below.then hB0 hb2; have k0 := b0.c1; have k1 := b0.c0; have k2 := b1.c1; have r0 := bR.c0; have r1 := bR.c1; have f0 := bR.f0; have f1 := bR.f1))
  all_goals go_wp2_with fail
  obtain ⟨hr, hB2⟩ := set2_fin (.bool (s && decide (0 < (limbs B64 (m + n)).length))) (.slice a' (limbs B64 (m + n)).length c') hB0 (by omega) bR rfl rfl hu
  exact bodyPost_ret (v := .agg #[.bool (s && decide (0 < (limbs B64 (m + n)).length)), .slice a' (limbs B64 (m + n)).length c']) (by simp [results, Tryd.results15, go_sem, r0, r1]) rfl ⟨_, _, _, rfl, hr, hB2⟩

set_option maxHeartbeats 2000000 in
/-- The sum of two numbers of two signs, the first one not the lesser. -/
theorem iplusDiff_w (a b : Option Addr) (la lb ca cb m n : Nat) (s : Bool) (w : World) (ra : UN w (.slice a la ca) m) (rb : UN w (.slice b lb cb) n) (hmn : n ≤ m) :
    Calls Tryd.prog 15 #[.agg #[.bool s, .slice a la ca], .agg #[.bool (!s), .slice b lb cb]] w fun e w' => ∃ c lc cc, e = .returned (.agg #[.bool (s && decide (0 < lc)), .slice c lc cc]) ∧ UN w' (.slice c lc cc) (m - n) ∧ Below w.heap.size w w' := by
  have ne2 : ¬ (w.heap.size = w.heap.size + 1 + 1) := by omega
  have hs : (s == !s) = false := by cases s <;> rfl
  have hcmp := cmpN_ge hmn
  have HC : Hid (n ≤ m) := hmn
  clear hmn
  have hB0 := below_3 w (.cells #[.bool s, .slice a la ca] 25) (.cells #[.bool (!s), .slice b lb cb] 25) (.cells #[.bool false, .slice none 0 0] 25)
  have b0 := ((Box2.new w 25 (.bool s) (.slice a la ca)).alloc (.cells #[.bool (!s), .slice b lb cb] 25)).alloc (.cells #[.bool false, .slice none 0 0] 25)
  have b1 := (Box2.new (w.alloc (.cells #[.bool s, .slice a la ca] 25)) 25 (.bool (!s)) (.slice b lb cb)).alloc (.cells #[.bool false, .slice none 0 0] 25)
  have bR := Box2.new ((w.alloc (.cells #[.bool s, .slice a la ca] 25)).alloc (.cells #[.bool (!s), .slice b lb cb] 25)) 25 (.bool false) (.slice none 0 0)
  simp only [World.size_alloc] at b1 bR
  go_enter Tryd.func15, Tryd.ntmps15
  go_wp2_with (first
    | (go_at_call 34; refine (uorder_n _ _ m n _ ?_ ?_).mono ?_; exact ra.below hB0; exact rb.below hB0; rintro e w0 ⟨rfl, hb0⟩; have b0 := b0.below hb0; have b1 := b1.below hb0; have bR := bR.below hb0; have hB0 := Below.then hB0 hb0; have k0 := b0.c1; have k1 := b0.c0; have k2 := b1.c1))
  go_region_held3 (fun w' => w'.cell? ⟨w.heap.size, 1, none⟩ = some (.slice a la ca) ∧ w'.cell? ⟨w.heap.size + 1, 1, none⟩ = some (.slice b lb cb) ∧ w'.cell? ⟨w.heap.size, 0, none⟩ = some (.bool s)) (refine ⟨?_, ?_, ?_⟩ <;> (first | (go_keep; done) | ((repeat rw [cell_set_nb (by omega)]); simp [*]; done)))
    (first
      | (go_at_call 35; refine (rminus_w _ _ _ _ _ _ m n _ ?_ ?_ HC.out).mono ?_; exact ra.below hB0.drew; exact rb.below hB0.drew; rintro e w1 ⟨u, rfl, hu, hb1⟩; obtain ⟨a', c', rfl⟩ := hu.form; have b0 := b0.drew.below hb1; have b1 := b1.drew.below hb1; have bR := bR.drew.below hb1; have hB0 := Below.then hB0.drew hb1; have k0 := b0.c1; have k1 := b0.c0; have k2 := b1.c1)
      | (go_at_call 27; refine (signed_w _ _ _ _ _).mono ?_; rintro e w2 ⟨rfl, hb2⟩; have hu := Row.below hu hb2; have b0 := b0.below hb2; have b1 := b1.below hb2; have bR := bR.below hb2; have hB0 := Below.then hB0 hb2; have k0 := b0.c1; have k1 := b0.c0; have k2 := b1.c1; have r0 := bR.c0; have r1 := bR.c1; have f0 := bR.f0; have f1 := bR.f1))
  all_goals go_wp2_with fail
  obtain ⟨hr, hB2⟩ := set2_fin (.bool (s && decide (0 < (limbs B64 (m - n)).length))) (.slice a' (limbs B64 (m - n)).length c') hB0 (by omega) bR rfl rfl hu
  exact bodyPost_ret (v := .agg #[.bool (s && decide (0 < (limbs B64 (m - n)).length)), .slice a' (limbs B64 (m - n)).length c']) (by simp [results, Tryd.results15, go_sem, r0, r1]) rfl ⟨_, _, _, rfl, hr, hB2⟩

set_option maxHeartbeats 2000000 in
/-- The sum of two numbers of two signs, the first one the lesser. -/
theorem iplusLess_w (a b : Option Addr) (la lb ca cb m n : Nat) (s : Bool) (w : World) (ra : UN w (.slice a la ca) m) (rb : UN w (.slice b lb cb) n) (hmn : m < n) :
    Calls Tryd.prog 15 #[.agg #[.bool s, .slice a la ca], .agg #[.bool (!s), .slice b lb cb]] w fun e w' => ∃ c lc cc, e = .returned (.agg #[.bool ((!s) && decide (0 < lc)), .slice c lc cc]) ∧ UN w' (.slice c lc cc) (n - m) ∧ Below w.heap.size w w' := by
  have ne2 : ¬ (w.heap.size = w.heap.size + 1 + 1) := by omega
  have hs : (s == !s) = false := by cases s <;> rfl
  have hcmp : cmpN m n < 0 := by rw [cmpN_lt hmn]; omega
  have HC : Hid (m < n) := hmn
  clear hmn
  have hB0 := below_3 w (.cells #[.bool s, .slice a la ca] 25) (.cells #[.bool (!s), .slice b lb cb] 25) (.cells #[.bool false, .slice none 0 0] 25)
  have b0 := ((Box2.new w 25 (.bool s) (.slice a la ca)).alloc (.cells #[.bool (!s), .slice b lb cb] 25)).alloc (.cells #[.bool false, .slice none 0 0] 25)
  have b1 := (Box2.new (w.alloc (.cells #[.bool s, .slice a la ca] 25)) 25 (.bool (!s)) (.slice b lb cb)).alloc (.cells #[.bool false, .slice none 0 0] 25)
  have bR := Box2.new ((w.alloc (.cells #[.bool s, .slice a la ca] 25)).alloc (.cells #[.bool (!s), .slice b lb cb] 25)) 25 (.bool false) (.slice none 0 0)
  simp only [World.size_alloc] at b1 bR
  go_enter Tryd.func15, Tryd.ntmps15
  go_wp2_with (first
    | (go_at_call 34; refine (uorder_n _ _ m n _ ?_ ?_).mono ?_; exact ra.below hB0; exact rb.below hB0; rintro e w0 ⟨rfl, hb0⟩; have b0 := b0.below hb0; have b1 := b1.below hb0; have bR := bR.below hb0; have hB0 := Below.then hB0 hb0; have k0 := b0.c1; have k1 := b1.c0; have k2 := b1.c1))
  go_region_held3 (fun w' => w'.cell? ⟨w.heap.size, 1, none⟩ = some (.slice a la ca) ∧ w'.cell? ⟨w.heap.size + 1, 1, none⟩ = some (.slice b lb cb) ∧ w'.cell? ⟨w.heap.size + 1, 0, none⟩ = some (.bool (!s))) (refine ⟨?_, ?_, ?_⟩ <;> (first | (go_keep; done) | ((repeat rw [cell_set_nb (by omega)]); simp [*]; done)))
    (first
      | (go_at_call 35; refine (rminus_w _ _ _ _ _ _ n m _ ?_ ?_ (Nat.le_of_lt HC.out)).mono ?_; exact rb.below hB0.drew; exact ra.below hB0.drew; rintro e w1 ⟨u, rfl, hu, hb1⟩; obtain ⟨a', c', rfl⟩ := hu.form; have b0 := b0.drew.below hb1; have b1 := b1.drew.below hb1; have bR := bR.drew.below hb1; have hB0 := Below.then hB0.drew hb1; have k0 := b0.c1; have k1 := b1.c0; have k2 := b1.c1)
      | (go_at_call 27; refine (signed_w _ _ _ _ _).mono ?_; rintro e w2 ⟨rfl, hb2⟩; have hu := Row.below hu hb2; have b0 := b0.below hb2; have b1 := b1.below hb2; have bR := bR.below hb2; have hB0 := Below.then hB0 hb2; have k0 := b0.c1; have k1 := b1.c0; have k2 := b1.c1; have r0 := bR.c0; have r1 := bR.c1; have f0 := bR.f0; have f1 := bR.f1))
  all_goals go_wp2_with fail
  obtain ⟨hr, hB2⟩ := set2_fin (.bool ((!s) && decide (0 < (limbs B64 (n - m)).length))) (.slice a' (limbs B64 (n - m)).length c') hB0 (by omega) bR rfl rfl hu
  exact bodyPost_ret (v := .agg #[.bool ((!s) && decide (0 < (limbs B64 (n - m)).length)), .slice a' (limbs B64 (n - m)).length c']) (by simp [results, Tryd.results15, go_sem, r0, r1]) rfl ⟨_, _, _, rfl, hr, hB2⟩
end Go.Proofs.YtahpgnkhophgpaaDoor
