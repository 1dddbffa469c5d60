import Derived.Test.YtahpgnkhophgpaaDoorBox
namespace Go.Proofs.YtahpgnkhophgpaaDoor
open Go.RowKit Go.Shelf

theorem order_n (va vb : Value) (m n : Nat) (w : World) (ha : RN w va m) (hb : RN w vb n) :
    Calls Tryd.prog 39 #[va, vb] w fun e w' => e = .returned (.int .i64 (cmpN m n)) ∧ Below w.heap.size w w' := by
  have h := order_c 10000 (by omega) va vb _ _ w ha hb (dig_limbs (by omega) m) (dig_limbs (by omega) n) (top_limbs (by omega) m) (top_limbs (by omega) n)
  rw [val_limbs (by omega), val_limbs (by omega)] at h
  exact h

theorem below_3 (w : World) (o1 o2 o3 : Obj) : Below w.heap.size w (((w.alloc o1).alloc o2).alloc o3) :=
  (((Below.refl _ w).alloc (Nat.le_refl _) _).alloc (by simp) _).alloc (by simp; omega) _

theorem cmpN_ge {m n : Nat} (h : n ≤ m) : 0 ≤ cmpN m n := by
  rcases Nat.lt_or_ge n m with g | g
  · rw [cmpN_gt g]; omega
  · have : m = n := by omega
    rw [this, cmpN_self]; omega

set_option maxHeartbeats 2000000 in
/-- The sum of two numbers of one sign. -/
theorem sumSame_w (a b : Option Addr) (la lb ca cb m n : Nat) (s : Bool) (w : World) (ra : RN w (.slice a la ca) m) (rb : RN w (.slice b lb cb) n) (hma : (limbs 10000 m).length ≤ 1000000000) (hmb : (limbs 10000 n).length ≤ 1000000000) :
    Calls Tryd.prog 18 #[.agg #[.slice a la ca, .bool s], .agg #[.slice b lb cb, .bool s]] w fun e w' => ∃ c lc cc, e = .returned (.agg #[.slice c lc cc, .bool (s && decide (0 < lc))]) ∧ RN w' (.slice c lc cc) (m + n) ∧ Below w.heap.size w w' := by
  have ne2 : ¬ (w.heap.size = w.heap.size + 1 + 1) := by omega
  go_enter Tryd.func18, Tryd.ntmps18
  go_wp2_with fail
  have hB0 := below_3 w (.cells #[.slice a la ca, .bool s] 30) (.cells #[.slice b lb cb, .bool s] 30) (.cells #[.slice none 0 0, .bool false] 30)
  have b0 := ((Box2.new w 30 (.slice a la ca) (.bool s)).alloc (.cells #[.slice b lb cb, .bool s] 30)).alloc (.cells #[.slice none 0 0, .bool false] 30)
  have b1 := (Box2.new (w.alloc (.cells #[.slice a la ca, .bool s] 30)) 30 (.slice b lb cb) (.bool s)).alloc (.cells #[.slice none 0 0, .bool false] 30)
  have bR := Box2.new ((w.alloc (.cells #[.slice a la ca, .bool s] 30)).alloc (.cells #[.slice b lb cb, .bool s] 30)) 30 (.slice none 0 0) (.bool false)
  simp only [World.size_alloc] at b1 bR
  go_region_held3 (fun w' => w'.cell? ⟨w.heap.size, 0, none⟩ = some (.slice a la ca) ∧ w'.cell? ⟨w.heap.size + 1, 0, none⟩ = some (.slice b lb cb) ∧ w'.cell? ⟨w.heap.size, 1, none⟩ = some (.bool s)) (refine ⟨?_, ?_, ?_⟩ <;> (first | (go_keep; done) | ((repeat rw [cell_set_nb (by omega)]); simp [*]; done)))
    (first
      | (go_at_call 38; refine (plus_c _ _ m n _ ?_ ?_ hma hmb).mono ?_; exact ra.below hB0.drew; exact rb.below hB0.drew; rintro e w1 ⟨u, rfl, hu, hb1⟩; obtain ⟨a', c', rfl⟩ := hu.form; have b0 := b0.drew.below hb1; have b1 := b1.drew.below hb1; have bR := bR.drew.below hb1; have hB0 := Below.then hB0.drew hb1; have k0 := b0.c0; have k1 := b0.c1; have k2 := b1.c0)
      | (go_at_call 37; refine (made_c _ _ _ _ _).mono ?_; rintro e w2 ⟨rfl, hb2⟩; have hu := Row.below hu hb2; have b0 := b0.below hb2; have b1 := b1.below hb2; have bR := bR.below hb2; have hB0 := Below.then hB0 hb2; have k0 := b0.c0; have k1 := b0.c1; have k2 := b1.c0; have r0 := bR.c0; have r1 := bR.c1; have f0 := bR.f0; have f1 := bR.f1))
  all_goals go_wp2_with fail
  obtain ⟨hr, hB2⟩ := set2_fin (.slice a' (limbs 10000 (m + n)).length c') (.bool (s && decide (0 < (limbs 10000 (m + n)).length))) hB0 (by omega) bR rfl rfl hu
  exact bodyPost_ret (v := .agg #[.slice a' (limbs 10000 (m + n)).length c', .bool (s && decide (0 < (limbs 10000 (m + n)).length))]) (by simp [results, Tryd.results18, go_sem, r0, r1]) rfl ⟨_, _, _, rfl, hr, hB2⟩

set_option maxHeartbeats 2000000 in
/-- The sum of two numbers of two signs, the first one not the lesser. -/
theorem sumDiff_w (a b : Option Addr) (la lb ca cb m n : Nat) (s : Bool) (w : World) (ra : RN w (.slice a la ca) m) (rb : RN w (.slice b lb cb) n) (hma : (limbs 10000 m).length ≤ 1000000000) (hmn : n ≤ m) :
    Calls Tryd.prog 18 #[.agg #[.slice a la ca, .bool s], .agg #[.slice b lb cb, .bool (!s)]] w fun e w' => ∃ c lc cc, e = .returned (.agg #[.slice c lc cc, .bool (s && decide (0 < lc))]) ∧ RN w' (.slice c lc cc) (m - n) ∧ Below w.heap.size w w' := by
  have ne2 : ¬ (w.heap.size = w.heap.size + 1 + 1) := by omega
  have hs : (s == !s) = false := by cases s <;> rfl
  have hcmp := cmpN_ge hmn
  have HC : Hid (n ≤ m) := hmn
  clear hmn
  have hB0 := below_3 w (.cells #[.slice a la ca, .bool s] 30) (.cells #[.slice b lb cb, .bool (!s)] 30) (.cells #[.slice none 0 0, .bool false] 30)
  have b0 := ((Box2.new w 30 (.slice a la ca) (.bool s)).alloc (.cells #[.slice b lb cb, .bool (!s)] 30)).alloc (.cells #[.slice none 0 0, .bool false] 30)
  have b1 := (Box2.new (w.alloc (.cells #[.slice a la ca, .bool s] 30)) 30 (.slice b lb cb) (.bool (!s))).alloc (.cells #[.slice none 0 0, .bool false] 30)
  have bR := Box2.new ((w.alloc (.cells #[.slice a la ca, .bool s] 30)).alloc (.cells #[.slice b lb cb, .bool (!s)] 30)) 30 (.slice none 0 0) (.bool false)
  simp only [World.size_alloc] at b1 bR
  go_enter Tryd.func18, Tryd.ntmps18
  go_wp2_with (first
    | (go_at_call 39; refine (order_n _ _ m n _ ?_ ?_).mono ?_; exact ra.below hB0; exact rb.below hB0; rintro e w0 ⟨rfl, hb0⟩; have b0 := b0.below hb0; have b1 := b1.below hb0; have bR := bR.below hb0; have hB0 := Below.then hB0 hb0; have k0 := b0.c0; have k1 := b0.c1; have k2 := b1.c0))
  go_region_held3 (fun w' => w'.cell? ⟨w.heap.size, 0, none⟩ = some (.slice a la ca) ∧ w'.cell? ⟨w.heap.size + 1, 0, none⟩ = some (.slice b lb cb) ∧ w'.cell? ⟨w.heap.size, 1, none⟩ = some (.bool s)) (refine ⟨?_, ?_, ?_⟩ <;> (first | (go_keep; done) | ((repeat rw [cell_set_nb (by omega)]); simp [*]; done)))
    (first
      | (go_at_call 40; refine (minus_c _ _ m n _ ?_ ?_ (Nat.le_of_lt_succ (Nat.lt_succ_of_le HC.out)) hma).mono ?_; exact ra.below hB0.drew; exact rb.below hB0.drew; rintro e w1 ⟨u, rfl, hu, hb1⟩; obtain ⟨a', c', rfl⟩ := hu.form; have b0 := b0.drew.below hb1; have b1 := b1.drew.below hb1; have bR := bR.drew.below hb1; have hB0 := Below.then hB0.drew hb1; have k0 := b0.c0; have k1 := b0.c1; have k2 := b1.c0)
      | (go_at_call 37; refine (made_c _ _ _ _ _).mono ?_; rintro e w2 ⟨rfl, hb2⟩; have hu := Row.below hu hb2; have b0 := b0.below hb2; have b1 := b1.below hb2; have bR := bR.below hb2; have hB0 := Below.then hB0 hb2; have k0 := b0.c0; have k1 := b0.c1; have k2 := b1.c0; have r0 := bR.c0; have r1 := bR.c1; have f0 := bR.f0; have f1 := bR.f1))
  all_goals go_wp2_with fail
  obtain ⟨hr, hB2⟩ := set2_fin (.slice a' (limbs 10000 (m - n)).length c') (.bool (s && decide (0 < (limbs 10000 (m - n)).length))) hB0 (by omega) bR rfl rfl hu
  exact bodyPost_ret (v := .agg #[.slice a' (limbs 10000 (m - n)).length c', .bool (s && decide (0 < (limbs 10000 (m - n)).length))]) (by simp [results, Tryd.results18, go_sem, r0, r1]) rfl ⟨_, _, _, rfl, hr, hB2⟩

set_option maxHeartbeats 2000000 in
/-- The sum of two numbers of two signs, the first one the lesser. -/
theorem sumLess_w (a b : Option Addr) (la lb ca cb m n : Nat) (s : Bool) (w : World) (ra : RN w (.slice a la ca) m) (rb : RN w (.slice b lb cb) n) (hma : (limbs 10000 n).length ≤ 1000000000) (hmn : m < n) :
    Calls Tryd.prog 18 #[.agg #[.slice a la ca, .bool s], .agg #[.slice b lb cb, .bool (!s)]] w fun e w' => ∃ c lc cc, e = .returned (.agg #[.slice c lc cc, .bool ((!s) && decide (0 < lc))]) ∧ RN w' (.slice c lc cc) (n - m) ∧ Below w.heap.size w w' := by
  have ne2 : ¬ (w.heap.size = w.heap.size + 1 + 1) := by omega
  have hs : (s == !s) = false := by cases s <;> rfl
  have hcmp : cmpN m n < 0 := by rw [cmpN_lt hmn]; omega
  have HC : Hid (m < n) := hmn
  clear hmn
  have hB0 := below_3 w (.cells #[.slice a la ca, .bool s] 30) (.cells #[.slice b lb cb, .bool (!s)] 30) (.cells #[.slice none 0 0, .bool false] 30)
  have b0 := ((Box2.new w 30 (.slice a la ca) (.bool s)).alloc (.cells #[.slice b lb cb, .bool (!s)] 30)).alloc (.cells #[.slice none 0 0, .bool false] 30)
  have b1 := (Box2.new (w.alloc (.cells #[.slice a la ca, .bool s] 30)) 30 (.slice b lb cb) (.bool (!s))).alloc (.cells #[.slice none 0 0, .bool false] 30)
  have bR := Box2.new ((w.alloc (.cells #[.slice a la ca, .bool s] 30)).alloc (.cells #[.slice b lb cb, .bool (!s)] 30)) 30 (.slice none 0 0) (.bool false)
  simp only [World.size_alloc] at b1 bR
  go_enter Tryd.func18, Tryd.ntmps18
  go_wp2_with (first
    | (go_at_call 39; refine (order_n _ _ m n _ ?_ ?_).mono ?_; exact ra.below hB0; exact rb.below hB0; rintro e w0 ⟨rfl, hb0⟩; have b0 := b0.below hb0; have b1 := b1.below hb0; have bR := bR.below hb0; have hB0 := Below.then hB0 hb0; have k0 := b0.c0; have k1 := b1.c1; have k2 := b1.c0))
  go_region_held3 (fun w' => w'.cell? ⟨w.heap.size, 0, none⟩ = some (.slice a la ca) ∧ w'.cell? ⟨w.heap.size + 1, 0, none⟩ = some (.slice b lb cb) ∧ w'.cell? ⟨w.heap.size + 1, 1, none⟩ = some (.bool (!s))) (refine ⟨?_, ?_, ?_⟩ <;> (first | (go_keep; done) | ((repeat rw [cell_set_nb (by omega)]); simp [*]; done)))
    (first
      | (go_at_call 40; refine (minus_c _ _ n m _ ?_ ?_ (Nat.le_of_lt_succ (Nat.lt_succ_of_le (Nat.le_of_lt HC.out))) hma).mono ?_; exact rb.below hB0.drew; exact ra.below hB0.drew; rintro e w1 ⟨u, rfl, hu, hb1⟩; obtain ⟨a', c', rfl⟩ := hu.form; have b0 := b0.drew.below hb1; have b1 := b1.drew.below hb1; have bR := bR.drew.below hb1; have hB0 := Below.then hB0.drew hb1; have k0 := b0.c0; have k1 := b1.c1; have k2 := b1.c0)
      | (go_at_call 37; refine (made_c _ _ _ _ _).mono ?_; rintro e w2 ⟨rfl, hb2⟩; have hu := Row.below hu hb2; have b0 := b0.below hb2; have b1 := b1.below hb2; have bR := bR.below hb2; have hB0 := Below.then hB0 hb2; have k0 := b0.c0; have k1 := b1.c1; have k2 := b1.c0; have r0 := bR.c0; have r1 := bR.c1; have f0 := bR.f0; have f1 := bR.f1))
  all_goals go_wp2_with fail
  obtain ⟨hr, hB2⟩ := set2_fin (.slice a' (limbs 10000 (n - m)).length c') (.bool ((!s) && decide (0 < (limbs 10000 (n - m)).length))) hB0 (by omega) bR rfl rfl hu
  exact bodyPost_ret (v := .agg #[.slice a' (limbs 10000 (n - m)).length c', .bool ((!s) && decide (0 < (limbs 10000 (n - m)).length))]) (by simp [results, Tryd.results18, go_sem, r0, r1]) rfl ⟨_, _, _, rfl, hr, hB2⟩
end Go.Proofs.YtahpgnkhophgpaaDoor
