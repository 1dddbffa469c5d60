import Derived.Test.YtahpgnkhophgpaaDoorRef6
namespace Go.Proofs.YtahpgnkhophgpaaDoor
open Go.RowKit Go.Shelf

theorem RN.len {W : World} {a : Option Addr} {l c n : Nat} (h : RN W (.slice a l c) n) : l = (limbs 10000 n).length := by
  obtain ⟨a', cap, e, _⟩ := h
  cases e
  rfl

theorem agg_bool {d : Value} {p q : Bool} (h : p = q) : Value.agg #[d, .bool p] = .agg #[d, .bool q] := by rw [h]

/-- The value v is the reference's number z. -/
def IsBig (W : World) (v : Value) (z : Int) : Prop := ∃ a l cap, v = .agg #[.slice a l cap, .bool (decide (z < 0))] ∧ RN W (.slice a l cap) z.natAbs

theorem IsBig.below {W W' : World} {v : Value} {z : Int} (h : IsBig W v z) (hb : Below W.heap.size W W') : IsBig W' v z := by
  obtain ⟨a, l, cap, e, hr⟩ := h
  exact ⟨a, l, cap, e, hr.below hb⟩

/-- How many digits of base 10000 the number has. -/
def szB (z : Int) : Nat := (limbs 10000 z.natAbs).length

theorem limbs_length_mono {B : Nat} (hB : 2 ≤ B) {m n : Nat} (h : m ≤ n) : (limbs B m).length ≤ (limbs B n).length := by
  rcases Nat.lt_or_ge (limbs B n).length (limbs B m).length with g | g
  · have := limbs_lt_length hB g
    omega
  · exact g

theorem len_pos_iff {n : Nat} : 0 < (limbs 10000 n).length ↔ n ≠ 0 := by
  rw [List.length_pos_iff, Ne, limbs_eq_nil (by omega)]

theorem sum_c (va vb : Value) (x y : Int) (w : World) (ha : IsBig w va x) (hb : IsBig w vb y) (hma : szB x ≤ 1000000000) (hmb : szB y ≤ 1000000000) :
    Calls Tryd.prog 18 #[va, vb] w fun e w' => ∃ u, e = .returned u ∧ IsBig w' u (x + y) ∧ Below w.heap.size w w' := by
  obtain ⟨a, la, ca, rfl, ra⟩ := ha
  obtain ⟨b, lb, cb, rfl, rb⟩ := hb
  unfold szB at hma hmb
  by_cases hs : decide (x < 0) = decide (y < 0)
  · rw [← hs]
    refine (sumSame_w a b la lb ca cb _ _ _ w ra rb hma hmb).mono ?_
    rintro e w' ⟨c, lc, cc, rfl, hr, hB⟩
    have hl := hr.len
    have e1 : x.natAbs + y.natAbs = (x + y).natAbs := by
      have : (x < 0 ↔ y < 0) := by simpa using hs
      omega
    rw [e1] at hr hl
    refine ⟨_, rfl, ⟨c, lc, cc, ?_, hr⟩, hB⟩
    refine agg_bool ?_
    rw [Bool.eq_iff_iff]
    simp only [Bool.and_eq_true, decide_eq_true_eq]
    rw [hl, len_pos_iff]
    have : (x < 0 ↔ y < 0) := by simpa using hs
    omega
  · have hs2 : decide (y < 0) = !decide (x < 0) := by
      cases h1 : decide (x < 0) <;> cases h2 : decide (y < 0) <;> simp_all
    have hs3 : ¬ (x < 0 ↔ y < 0) := by simpa using hs
    rw [hs2]
    by_cases hmn : y.natAbs ≤ x.natAbs
    · refine (sumDiff_w a b la lb ca cb _ _ _ w ra rb hma hmn).mono ?_
      rintro e w' ⟨c, lc, cc, rfl, hr, hB⟩
      have hl := hr.len
      have e1 : x.natAbs - y.natAbs = (x + y).natAbs := by omega
      rw [e1] at hr hl
      refine ⟨_, rfl, ⟨c, lc, cc, ?_, hr⟩, hB⟩
      refine agg_bool ?_
      rw [Bool.eq_iff_iff]
      simp only [Bool.and_eq_true, decide_eq_true_eq]
      rw [hl, len_pos_iff]
      omega
    · refine (sumLess_w a b la lb ca cb _ _ _ w ra rb hmb (by omega)).mono ?_
      rintro e w' ⟨c, lc, cc, rfl, hr, hB⟩
      have hl := hr.len
      have e1 : y.natAbs - x.natAbs = (x + y).natAbs := by omega
      rw [e1] at hr hl
      refine ⟨_, rfl, ⟨c, lc, cc, ?_, hr⟩, hB⟩
      refine agg_bool ?_
      rw [Bool.eq_iff_iff]
      simp only [Bool.and_eq_true, decide_eq_true_eq, Bool.not_eq_true', decide_eq_false_iff_not]
      rw [hl, len_pos_iff]
      omega

theorem below_2 (w : World) (o1 o2 : Obj) : Below w.heap.size w ((w.alloc o1).alloc o2) :=
  ((Below.refl _ w).alloc (Nat.le_refl _) _).alloc (by simp) _

set_option maxHeartbeats 1000000 in
theorem neg_w (a : Option Addr) (la ca m : Nat) (s : Bool) (w : World) (ra : RN w (.slice a la ca) m) :
    Calls Tryd.prog 32 #[.agg #[.slice a la ca, .bool s]] w fun e w' => e = .returned (.agg #[.slice a la ca, .bool (!s && decide (0 < la))]) ∧ RN w' (.slice a la ca) m ∧ Below w.heap.size w w' := by
  have hB0 := below_2 w (.cells #[.slice a la ca, .bool s] 30) (.cells #[.slice none 0 0, .bool false] 30)
  have bR := Box2.new (w.alloc (.cells #[.slice a la ca, .bool s] 30)) 30 (.slice none 0 0) (.bool false)
  simp only [World.size_alloc] at bR
  go_enter Tryd.func32, Tryd.ntmps32
  go_wp2_with (first
    | (go_at_call 37; refine (made_c _ _ _ _ _).mono ?_; rintro e w2 ⟨rfl, hb2⟩; have bR := bR.below hb2; have hB0 := Below.then hB0 hb2; have r0 := bR.c0; have r1 := bR.c1; have f0 := bR.f0; have f1 := bR.f1))
  obtain ⟨hr, hB2⟩ := set2_fin (.slice a la ca) (.bool (!s && decide (0 < la))) hB0 (by omega) bR rfl rfl (ra.below hB0)
  exact bodyPost_ret (v := .agg #[.slice a la ca, .bool (!s && decide (0 < la))]) (by simp [results, Tryd.results32, go_sem, r0, r1]) rfl ⟨rfl, hr, hB2⟩

theorem neg_c (va : Value) (x : Int) (w : World) (ha : IsBig w va x) :
    Calls Tryd.prog 32 #[va] w fun e w' => ∃ u, e = .returned u ∧ IsBig w' u (-x) ∧ Below w.heap.size w w' := by
  obtain ⟨a, la, ca, rfl, ra⟩ := ha
  refine (neg_w a la ca _ _ w ra).mono ?_
  rintro e w' ⟨rfl, hr, hB⟩
  have hl := hr.len
  rw [show x.natAbs = (-x).natAbs from by omega] at hr hl
  refine ⟨_, rfl, ⟨a, la, ca, ?_, hr⟩, hB⟩
  refine agg_bool ?_
  rw [Bool.eq_iff_iff]
  simp only [Bool.and_eq_true, decide_eq_true_eq, Bool.not_eq_true', decide_eq_false_iff_not]
  rw [hl, len_pos_iff]
  omega
end Go.Proofs.YtahpgnkhophgpaaDoor
