import Derived.Test.YtjmmnpfedhkjbaaDoorK06
import Derived.Test.YtjmmnpfedhkjbaaDoorK15
namespace Go.Proofs.YtjmmnpfedhkjbaaDoor
open Go.RowKit Go.Shelf

theorem uorder_n (va vb : Value) (m n : Nat) (w : World) (ha : UN w va m) (hb : UN w vb n) :
    Calls Tryd.prog 34 #[va, vb] w fun e w' => e = .returned (.int .i64 (cmpN m n)) ∧ Below w.heap.size w w' := by
  have h := morder_c va vb _ _ w ha hb (dig_limbs two_le_B64 m) (dig_limbs two_le_B64 n) (top_limbs two_le_B64 m) (top_limbs two_le_B64 n)
  rw [val_limbs two_le_B64, val_limbs two_le_B64] at h
  exact h

set_option maxHeartbeats 2000000 in
/-- The sum of two numbers of one sign. -/
theorem iplusSame_w (a b : Option Addr) (la lb ca cb m n : Nat) (s : Bool) (w : World) (ra : UN w (.slice a la ca) m) (rb : UN w (.slice b lb cb) n) (hma : la < 1099511627776) (hmb : lb < 1099511627776) :
    Calls Tryd.prog 15 #[.agg #[.bool s, .slice a la ca], .agg #[.bool s, .slice b lb cb]] w fun e w' => ∃ c lc cc, e = .returned (.agg #[.bool (s && decide (0 < lc)), .slice c lc cc]) ∧ UN w' (.slice c lc cc) (m + n) ∧ Below w.heap.size w w' := by
  have ne2 : ¬ (w.heap.size = w.heap.size + 1 + 1) := by omega
  go_enter Tryd.func15, Tryd.ntmps15
  go_wp2_with fail
  have hB0 := below_3 w (.cells #[.bool s, .slice a la ca] 25) (.cells #[.bool s, .slice b lb cb] 25) (.cells #[.bool false, .slice none 0 0] 25)
  have b0 := ((Box2.new w 25 (.bool s) (.slice a la ca)).alloc (.cells #[.bool s, .slice b lb cb] 25)).alloc (.cells #[.bool false, .slice none 0 0] 25)
  have b1 := (Box2.new (w.alloc (.cells #[.bool s, .slice a la ca] 25)) 25 (.bool s) (.slice b lb cb)).alloc (.cells #[.bool false, .slice none 0 0] 25)
  have bR := Box2.new ((w.alloc (.cells #[.bool s, .slice a la ca] 25)).alloc (.cells #[.bool s, .slice b lb cb] 25)) 25 (.bool false) (.slice none 0 0)
  simp only [World.size_alloc] at b1 bR
  go_region_held3 (fun w' => w'.cell? ⟨w.heap.size, 1, none⟩ = some (.slice a la ca) ∧ w'.cell? ⟨w.heap.size + 1, 1, none⟩ = some (.slice b lb cb) ∧ w'.cell? ⟨w.heap.size, 0, none⟩ = some (.bool s)) (refine ⟨?_, ?_, ?_⟩ <;> (first | (go_keep; done) | ((repeat rw [cell_set_nb (by omega)]); simp [*]; done)))
    (first
      | (go_at_call 33; refine (rplus_w _ _ _ _ _ _ m n _ ?_ ?_ hma hmb).mono ?_; exact ra.below hB0.drew; exact rb.below hB0.drew; rintro e w1 ⟨u, rfl, hu, hb1⟩; obtain ⟨a', c', rfl⟩ := hu.form; have b0 := b0.drew.below hb1; have b1 := b1.drew.below hb1; have bR := bR.drew.below hb1; have hB0 := Below.then hB0.drew hb1; have k0 := b0.c1; have k1 := b0.c0; have k2 := b1.c1)
      | (go_at_call 27; refine (signed_w _ _ _ _ _).mono ?_; rintro e w2 ⟨rfl, hb2⟩; have hu := Row.below hu hb2; have b0 := b0.below hb2; have b1 := b1.below hb2; have bR := bR.below hb2; have hB0 := Below.then hB0 hb2; have k0 := b0.c1; have k1 := b0.c0; have k2 := b1.c1; have r0 := bR.c0; have r1 := bR.c1; have f0 := bR.f0; have f1 := bR.f1))
  all_goals go_wp2_with fail
  obtain ⟨hr, hB2⟩ := set2_fin (.bool (s && decide (0 < (limbs B64 (m + n)).length))) (.slice a' (limbs B64 (m + n)).length c') hB0 (by omega) bR rfl rfl hu
  exact bodyPost_ret (v := .agg #[.bool (s && decide (0 < (limbs B64 (m + n)).length)), .slice a' (limbs B64 (m + n)).length c']) (by simp [results, Tryd.results15, go_sem, r0, r1]) rfl ⟨_, _, _, rfl, hr, hB2⟩

set_option maxHeartbeats 2000000 in
/-- The sum of two numbers of two signs, the first one not the lesser. -/
theorem iplusDiff_w (a b : Option Addr) (la lb ca cb m n : Nat) (s : Bool) (w : World) (ra : UN w (.slice a la ca) m) (rb : UN w (.slice b lb cb) n) (hmn : n ≤ m) :
    Calls Tryd.prog 15 #[.agg #[.bool s, .slice a la ca], .agg #[.bool (!s), .slice b lb cb]] w fun e w' => ∃ c lc cc, e = .returned (.agg #[.bool (s && decide (0 < lc)), .slice c lc cc]) ∧ UN w' (.slice c lc cc) (m - n) ∧ Below w.heap.size w w' := by
  have ne2 : ¬ (w.heap.size = w.heap.size + 1 + 1) := by omega
  have hs : (s == !s) = false := by cases s <;> rfl
  have hcmp := cmpN_ge hmn
  have HC : Hid (n ≤ m) := hmn
  clear hmn
  have hB0 := below_3 w (.cells #[.bool s, .slice a la ca] 25) (.cells #[.bool (!s), .slice b lb cb] 25) (.cells #[.bool false, .slice none 0 0] 25)
  have b0 := ((Box2.new w 25 (.bool s) (.slice a la ca)).alloc (.cells #[.bool (!s), .slice b lb cb] 25)).alloc (.cells #[.bool false, .slice none 0 0] 25)
  have b1 := (Box2.new (w.alloc (.cells #[.bool s, .slice a la ca] 25)) 25 (.bool (!s)) (.slice b lb cb)).alloc (.cells #[.bool false, .slice none 0 0] 25)
  have bR := Box2.new ((w.alloc (.cells #[.bool s, .slice a la ca] 25)).alloc (.cells #[.bool (!s), .slice b lb cb] 25)) 25 (.bool false) (.slice none 0 0)
  simp only [World.size_alloc] at b1 bR
  go_enter Tryd.func15, Tryd.ntmps15
  go_wp2_with (first
    | (go_at_call 34; refine (uorder_n _ _ m n _ ?_ ?_).mono ?_; exact ra.below hB0; exact rb.below hB0; rintro e w0 ⟨rfl, hb0⟩; have b0 := b0.below hb0; have b1 := b1.below hb0; have bR := bR.below hb0; have hB0 := Below.then hB0 hb0; have k0 := b0.c1; have k1 := b0.c0; have k2 := b1.c1))
  go_region_held3 (fun w' => w'.cell? ⟨w.heap.size, 1, none⟩ = some (.slice a la ca) ∧ w'.cell? ⟨w.heap.size + 1, 1, none⟩ = some (.slice b lb cb) ∧ w'.cell? ⟨w.heap.size, 0, none⟩ = some (.bool s)) (refine ⟨?_, ?_, ?_⟩ <;> (first | (go_keep; done) | ((repeat rw [cell_set_nb (by omega)]); simp [*]; done)))
    (first
      | (go_at_call 35; refine (rminus_w _ _ _ _ _ _ m n _ ?_ ?_ HC.out).mono ?_; exact ra.below hB0.drew; exact rb.below hB0.drew; rintro e w1 ⟨u, rfl, hu, hb1⟩; obtain ⟨a', c', rfl⟩ := hu.form; have b0 := b0.drew.below hb1; have b1 := b1.drew.below hb1; have bR := bR.drew.below hb1; have hB0 := Below.then hB0.drew hb1; have k0 := b0.c1; have k1 := b0.c0; have k2 := b1.c1)
      | (go_at_call 27; refine (signed_w _ _ _ _ _).mono ?_; rintro e w2 ⟨rfl, hb2⟩; have hu := Row.below hu hb2; have b0 := b0.below hb2; have b1 := b1.below hb2; have bR := bR.below hb2; have hB0 := Below.then hB0 hb2; have k0 := b0.c1; have k1 := b0.c0; have k2 := b1.c1; have r0 := bR.c0; have r1 := bR.c1; have f0 := bR.f0; have f1 := bR.f1))
  all_goals go_wp2_with fail
  obtain ⟨hr, hB2⟩ := set2_fin (.bool (s && decide (0 < (limbs B64 (m - n)).length))) (.slice a' (limbs B64 (m - n)).length c') hB0 (by omega) bR rfl rfl hu
  exact bodyPost_ret (v := .agg #[.bool (s && decide (0 < (limbs B64 (m - n)).length)), .slice a' (limbs B64 (m - n)).length c']) (by simp [results, Tryd.results15, go_sem, r0, r1]) rfl ⟨_, _, _, rfl, hr, hB2⟩

set_option maxHeartbeats 2000000 in
/-- The sum of two numbers of two signs, the first one the lesser. -/
theorem iplusLess_w (a b : Option Addr) (la lb ca cb m n : Nat) (s : Bool) (w : World) (ra : UN w (.slice a la ca) m) (rb : UN w (.slice b lb cb) n) (hmn : m < n) :
    Calls Tryd.prog 15 #[.agg #[.bool s, .slice a la ca], .agg #[.bool (!s), .slice b lb cb]] w fun e w' => ∃ c lc cc, e = .returned (.agg #[.bool ((!s) && decide (0 < lc)), .slice c lc cc]) ∧ UN w' (.slice c lc cc) (n - m) ∧ Below w.heap.size w w' := by
  have ne2 : ¬ (w.heap.size = w.heap.size + 1 + 1) := by omega
  have hs : (s == !s) = false := by cases s <;> rfl
  have hcmp : cmpN m n < 0 := by rw [cmpN_lt hmn]; omega
  have HC : Hid (m < n) := hmn
  clear hmn
  have hB0 := below_3 w (.cells #[.bool s, .slice a la ca] 25) (.cells #[.bool (!s), .slice b lb cb] 25) (.cells #[.bool false, .slice none 0 0] 25)
  have b0 := ((Box2.new w 25 (.bool s) (.slice a la ca)).alloc (.cells #[.bool (!s), .slice b lb cb] 25)).alloc (.cells #[.bool false, .slice none 0 0] 25)
  have b1 := (Box2.new (w.alloc (.cells #[.bool s, .slice a la ca] 25)) 25 (.bool (!s)) (.slice b lb cb)).alloc (.cells #[.bool false, .slice none 0 0] 25)
  have bR := Box2.new ((w.alloc (.cells #[.bool s, .slice a la ca] 25)).alloc (.cells #[.bool (!s), .slice b lb cb] 25)) 25 (.bool false) (.slice none 0 0)
  simp only [World.size_alloc] at b1 bR
  go_enter Tryd.func15, Tryd.ntmps15
  go_wp2_with (first
    | (go_at_call 34; refine (uorder_n _ _ m n _ ?_ ?_).mono ?_; exact ra.below hB0; exact rb.below hB0; rintro e w0 ⟨rfl, hb0⟩; have b0 := b0.below hb0; have b1 := b1.below hb0; have bR := bR.below hb0; have hB0 := Below.then hB0 hb0; have k0 := b0.c1; have k1 := b1.c0; have k2 := b1.c1))
  go_region_held3 (fun w' => w'.cell? ⟨w.heap.size, 1, none⟩ = some (.slice a la ca) ∧ w'.cell? ⟨w.heap.size + 1, 1, none⟩ = some (.slice b lb cb) ∧ w'.cell? ⟨w.heap.size + 1, 0, none⟩ = some (.bool (!s))) (refine ⟨?_, ?_, ?_⟩ <;> (first | (go_keep; done) | ((repeat rw [cell_set_nb (by omega)]); simp [*]; done)))
    (first
      | (go_at_call 35; refine (rminus_w _ _ _ _ _ _ n m _ ?_ ?_ (Nat.le_of_lt HC.out)).mono ?_; exact rb.below hB0.drew; exact ra.below hB0.drew; rintro e w1 ⟨u, rfl, hu, hb1⟩; obtain ⟨a', c', rfl⟩ := hu.form; have b0 := b0.drew.below hb1; have b1 := b1.drew.below hb1; have bR := bR.drew.below hb1; have hB0 := Below.then hB0.drew hb1; have k0 := b0.c1; have k1 := b1.c0; have k2 := b1.c1)
      | (go_at_call 27; refine (signed_w _ _ _ _ _).mono ?_; rintro e w2 ⟨rfl, hb2⟩; have hu := Row.below hu hb2; have b0 := b0.below hb2; have b1 := b1.below hb2; have bR := bR.below hb2; have hB0 := Below.then hB0 hb2; have k0 := b0.c1; have k1 := b1.c0; have k2 := b1.c1; have r0 := bR.c0; have r1 := bR.c1; have f0 := bR.f0; have f1 := bR.f1))
  all_goals go_wp2_with fail
  obtain ⟨hr, hB2⟩ := set2_fin (.bool ((!s) && decide (0 < (limbs B64 (n - m)).length))) (.slice a' (limbs B64 (n - m)).length c') hB0 (by omega) bR rfl rfl hu
  exact bodyPost_ret (v := .agg #[.bool ((!s) && decide (0 < (limbs B64 (n - m)).length)), .slice a' (limbs B64 (n - m)).length c']) (by simp [results, Tryd.results15, go_sem, r0, r1]) rfl ⟨_, _, _, rfl, hr, hB2⟩
end Go.Proofs.YtjmmnpfedhkjbaaDoor
namespace Go.Proofs.YtjmmnpfedhkjbaaDoor
open Go.RowKit Go.Shelf

theorem IsInt.of {W : World} {s : Bool} {a : Option Addr} {l cap n : Nat} {z : Int} (h : UN W (.slice a l cap) n) (hz : z = if s then -(n : Int) else n) : IsInt W (.agg #[.bool (s && decide (0 < l)), .slice a l cap]) z := by
  have hl := h.len
  subst hz
  refine ⟨a, l, cap, agg_bool' ?_, ?_⟩
  · rw [hl, Bool.eq_iff_iff]
    simp only [Bool.and_eq_true, decide_eq_true_eq]
    rw [wlen_pos_iff]
    cases s
    · simp
    · simp; omega
  · have e : (if s then -(n : Int) else n).natAbs = n := by cases s <;> simp
    rw [e]
    exact h

theorem iplus_c (va vb : Value) (x y : Int) (w : World) (hx : IsInt w va x) (hy : IsInt w vb y) (hlx : (limbs B64 x.natAbs).length < 1099511627776) (hly : (limbs B64 y.natAbs).length < 1099511627776) :
    Calls Tryd.prog 15 #[va, vb] w fun e w' => ∃ u, e = .returned u ∧ IsInt w' u (x + y) ∧ Below w.heap.size w w' := by
  obtain ⟨a, la, ca, rfl, hu⟩ := hx
  obtain ⟨b, lb, cb, rfl, hv⟩ := hy
  have ela := hu.len
  have elb := hv.len
  by_cases hs : decide (y < 0) = decide (x < 0)
  · rw [hs]
    refine (iplusSame_w a b la lb ca cb _ _ _ w hu hv (by omega) (by omega)).mono ?_
    rintro e w' ⟨c, lc, cc, rfl, hr, hB⟩
    refine ⟨_, rfl, IsInt.of hr ?_, hB⟩
    by_cases h1 : x < 0
    · have h2 : y < 0 := by have := decide_eq_true h1; rw [← hs] at this; exact of_decide_eq_true this
      simp only [h1, decide_true, if_true]; omega
    · have h2 : ¬ y < 0 := by have := decide_eq_false h1; rw [← hs] at this; exact of_decide_eq_false this
      simp only [h1, decide_false, Bool.false_eq_true, if_false]; omega
  · have hs' : decide (y < 0) = !decide (x < 0) := by
      revert hs
      cases decide (y < 0) <;> cases decide (x < 0) <;> simp
    rw [hs']
    by_cases hmn : y.natAbs ≤ x.natAbs
    · refine (iplusDiff_w a b la lb ca cb _ _ _ w hu hv hmn).mono ?_
      rintro e w' ⟨c, lc, cc, rfl, hr, hB⟩
      refine ⟨_, rfl, IsInt.of hr ?_, hB⟩
      by_cases h1 : x < 0
      · have h2 : ¬ y < 0 := by rw [decide_eq_true h1] at hs'; exact of_decide_eq_false hs'
        simp only [h1, decide_true, if_true]; omega
      · have h2 : y < 0 := by rw [decide_eq_false h1] at hs'; exact of_decide_eq_true hs'
        simp only [h1, decide_false, Bool.false_eq_true, if_false]; omega
    · refine (iplusLess_w a b la lb ca cb _ _ _ w hu hv (by omega)).mono ?_
      rintro e w' ⟨c, lc, cc, rfl, hr, hB⟩
      refine ⟨_, rfl, IsInt.of hr ?_, hB⟩
      by_cases h1 : x < 0
      · have h2 : ¬ y < 0 := by rw [decide_eq_true h1] at hs'; exact of_decide_eq_false hs'
        simp only [h1, decide_true, Bool.not_true, Bool.false_eq_true, if_false]; omega
      · have h2 : y < 0 := by rw [decide_eq_false h1] at hs'; exact of_decide_eq_true hs'
        simp only [h1, decide_false, Bool.not_false, if_true]; omega

/-- The order of two whole numbers. -/
def cmpI (x y : Int) : Int := if x < y then -1 else if y < x then 1 else 0

theorem belowI2 (w : World) (o1 o2 : Obj) : Below w.heap.size w ((w.alloc o1).alloc o2) :=
  ((Below.refl _ w).alloc (Nat.le_refl _) _).alloc (by simp) _

set_option maxHeartbeats 2000000 in
theorem iorder_w (a b : Option Addr) (la lb ca cb m n : Nat) (s t : Bool) (w : World) (ra : UN w (.slice a la ca) m) (rb : UN w (.slice b lb cb) n) :
    Calls Tryd.prog 17 #[.agg #[.bool s, .slice a la ca], .agg #[.bool t, .slice b lb cb]] w fun e w' => e = .returned (.int .i64 (if s = t then (if s then cmpN n m else cmpN m n) else (if t then 1 else -1))) ∧ Below w.heap.size w w' := by
  have hB0 := belowI2 w (.cells #[.bool s, .slice a la ca] 25) (.cells #[.bool t, .slice b lb cb] 25)
  have b0 := (Box2.new w 25 (.bool s) (.slice a la ca)).alloc (.cells #[.bool t, .slice b lb cb] 25)
  have b1 := Box2.new (w.alloc (.cells #[.bool s, .slice a la ca] 25)) 25 (.bool t) (.slice b lb cb)
  simp only [World.size_alloc] at b1
  cases s <;> cases t
  all_goals
    go_enter Tryd.func17, Tryd.ntmps17
    go_wp2_with (first
      | (go_at_call 34; refine (uorder_n _ _ n m _ ?_ ?_).mono ?_; exact rb.below hB0; exact ra.below hB0; rintro e w0 ⟨rfl, hb0⟩)
      | (go_at_call 34; refine (uorder_n _ _ m n _ ?_ ?_).mono ?_; exact ra.below hB0; exact rb.below hB0; rintro e w0 ⟨rfl, hb0⟩)
      | (go_at_call 36; refine (sign_c _ _).mono ?_; rintro e w0 ⟨rfl, rfl⟩))
    go_ret
    first
      | exact ⟨rfl, Below.then hB0 hb0⟩
      | exact ⟨rfl, hB0⟩

theorem iorder_c (va vb : Value) (x y : Int) (w : World) (hx : IsInt w va x) (hy : IsInt w vb y) :
    Calls Tryd.prog 17 #[va, vb] w fun e w' => e = .returned (.int .i64 (cmpI x y)) ∧ Below w.heap.size w w' := by
  obtain ⟨a, la, ca, rfl, hu⟩ := hx
  obtain ⟨b, lb, cb, rfl, hv⟩ := hy
  refine (iorder_w a b la lb ca cb _ _ _ _ w hu hv).mono ?_
  rintro e w' ⟨rfl, hB⟩
  refine ⟨?_, hB⟩
  congr 2
  unfold cmpI cmpN
  by_cases h1 : x < 0 <;> by_cases h2 : y < 0 <;> simp only [h1, h2, decide_true, decide_false, if_true, if_false, Bool.false_eq_true, reduceCtorEq]
  all_goals (repeat' split) <;> omega
end Go.Proofs.YtjmmnpfedhkjbaaDoor
