import Derived.Test.YtjmmnpfedhkjbaaDoorK14
import Derived.Test.YtjmmnpfedhkjbaaDoorK16
import Derived.Test.YtjmmnpfedhkjbaaDoorK15
import Derived.Test.YtjmmnpfedhkjbaaDoorK17
import Derived.Test.YtjmmnpfedhkjbaaDoorK06
import Derived.Test.YtjmmnpfedhkjbaaDoorK18
import Derived.Deep.RegionWith
namespace Go.Proofs.YtjmmnpfedhkjbaaDoor
open Go.RowKit Go.Shelf

set_option maxHeartbeats 1000000 in
theorem itext_0 (a : Option Addr) (cap : Nat) (w : World) :
    Calls Tryd.prog 8 #[.agg #[.bool false, .slice a 0 cap]] w fun e w' => e = .returned (.string ⟨#[48]⟩) ∧ Below w.heap.size w w' := by
  have b0 := Box2.new w 25 (.bool false) (.slice a 0 cap)
  have k1 := b0.c1
  go_enter Tryd.func8, Tryd.ntmps8
  go_wp2
  go_ret
  exact ⟨rfl, (Below.refl _ w).alloc (Nat.le_refl _) _⟩

set_option maxHeartbeats 1000000 in
theorem itext_w (s : Bool) (a : Option Addr) (l cap : Nat) (T : ByteArray) (w : World) (hl : 0 < l) (hT : T.size ≤ 100000000000000)
    (HT : ∀ V, Below w.heap.size w V → Calls Tryd.prog 30 #[.slice a l cap] V fun e w' => e = .returned (.string T) ∧ Below V.heap.size V w') :
    Calls Tryd.prog 8 #[.agg #[.bool s, .slice a l cap]] w fun e w' => e = .returned (.string (if s then (⟨#[45]⟩ : ByteArray) ++ T else T)) ∧ Below w.heap.size w w' := by
  have b0 := Box2.new w 25 (.bool s) (.slice a l cap)
  have hB0 : Below w.heap.size w (w.alloc (.cells #[.bool s, .slice a l cap] 25)) := (Below.refl _ w).alloc (Nat.le_refl _) _
  have k0 := b0.c0
  have k1 := b0.c1
  have hl0 : ¬ l = 0 := by omega
  have HTH := hidD HT
  clear HT
  cases s
  all_goals
    go_enter Tryd.func8, Tryd.ntmps8
    go_wp2_with (go_at_call 30; refine (HTH.out _ hB0).mono ?_; rintro e w1 ⟨rfl, hb1⟩)
    go_ret
    exact ⟨by simp, Below.then hB0 hb1⟩

theorem decN_len (n : Nat) : (decN n).length ≤ 20 * (limbs B64 n).length + 1 := by
  unfold decN
  split
  · simp
  · rw [txt_length]
    have h1 : n < B64 ^ (limbs B64 n).length := by
      have := val_lt (dig_limbs two_le_B64 n)
      rwa [val_limbs two_le_B64] at this
    have h2 : B64 ^ (limbs B64 n).length ≤ 10 ^ (20 * (limbs B64 n).length) := by
      rw [Nat.pow_mul]
      exact Nat.pow_le_pow_left (by unfold B64; omega) _
    have := limbs_length_le (B := 10) (by omega) (Nat.lt_of_lt_of_le h1 h2)
    omega

theorem itext_c (v : Value) (z : Int) (w : World) (h : IsInt w v z) (htab : Lib.TabIs Tryd.prog w "internal/strconv.uint64pow10" .u64 Lib.pow10Tab) :
    Calls Tryd.prog 8 #[v] w fun e w' => e = .returned (.string ⟨(decZ z).toArray⟩) ∧ Below w.heap.size w w' := by
  obtain ⟨a, l, cap, rfl, hu⟩ := h
  have hl := hu.len
  by_cases h0 : z.natAbs = 0
  · have hz : z = 0 := by omega
    subst hz
    have hl0 : l = 0 := by rw [hl]; simp [limbs_zero]
    subst hl0
    exact itext_0 a cap w
  · have hlp : 0 < l := by rw [hl]; exact wlen_pos_iff.2 h0
    refine (itext_w _ a l cap ⟨(decN z.natAbs).toArray⟩ w hlp (by
      have h1 := decN_len z.natAbs
      have h2 := (row_fn hu).2.2.2.1
      show (decN z.natAbs).toArray.size ≤ _
      rw [List.size_toArray]; omega) (fun V hV => mtext_w a l cap z.natAbs V (Row.below hu hV) h0 (tab_below htab hV))).mono ?_
    rintro e w' ⟨rfl, hB⟩
    refine ⟨?_, hB⟩
    congr 2
    unfold decZ
    by_cases hz : z < 0
    · simp only [hz, decide_true, if_true]; exact ba_cons _ _
    · simp only [hz, decide_false, if_false, Bool.false_eq_true]
end Go.Proofs.YtjmmnpfedhkjbaaDoor
namespace Go.Proofs.YtjmmnpfedhkjbaaDoor
open Go.RowKit Go.Shelf

attribute [local go_sem] Oper.semAt_some

/-- The text that alive reads, and the one that it awaits. -/
def aliveA : List UInt8 := [45, 49, 50, 51, 52, 53, 54, 55, 56, 57, 48, 49, 50, 51, 52, 53, 54, 55, 56, 57, 48, 49, 50, 51, 52, 53, 54, 55, 56, 57, 48]
def aliveB : List UInt8 := [45, 49, 50, 51, 52, 53, 54, 55, 56, 57, 48, 49, 50, 51, 52, 53, 54, 55, 56, 57, 48, 49, 50, 51, 52, 53, 54, 55, 56, 56, 57]
def aliveN : Int := -123456789012345678901234567890

theorem aliveA_good : good aliveA = true := by decide
theorem aliveB_good : good aliveB = true := by decide
theorem aliveA_val : valZ aliveA = aliveN := by decide
theorem aliveB_val : valZ aliveB = aliveN + 1 := by decide
theorem aliveB_text : decZ (aliveN + 1) = aliveB := by rw [← aliveB_val]; exact good_dec aliveB_good
theorem aliveN_len : (limbs B64 aliveN.natAbs).length < 1099511627776 := by
  have := limbs_length_le two_le_B64 (n := aliveN.natAbs) (k := 2) (by unfold B64 aliveN; decide)
  omega
theorem one_len : (limbs B64 (1 : Int).natAbs).length < 1099511627776 := by
  have := limbs_length_le two_le_B64 (n := (1 : Int).natAbs) (k := 1) (by unfold B64; decide)
  omega
theorem alive_cmp : cmpI (aliveN + 1) aliveN = 1 := by decide

theorem IsInt.set {W : World} {v : Value} {z : Int} (h : IsInt W v z) {p : Addr} {u0 : Value} (hp : W.cell? p = some u0) (hn : noInt u0 = true) (u : Value) : IsInt (W.setCell p u) v z := by
  obtain ⟨a, l, cap, e, hr⟩ := h
  exact ⟨a, l, cap, e, Row.set hr hp hn u⟩

theorem IsInt.form {W : World} {v : Value} {z : Int} (h : IsInt W v z) : ∃ a l cap, v = .agg #[.bool (decide (z < 0)), .slice a l cap] := by
  obtain ⟨a, l, cap, e, _⟩ := h
  exact ⟨a, l, cap, e⟩

theorem IsInt.alloc {W : World} {v : Value} {z : Int} (h : IsInt W v z) (o : Obj) : IsInt (W.alloc o) v z := h.below ((Below.refl _ W).alloc (Nat.le_refl _) o)
theorem IsInt.drew {W : World} {v : Value} {z : Int} (h : IsInt W v z) : IsInt W.drew v z := h

/-- A number that is laid into a box of its own leaves the others. -/
theorem IsInt.box {W : World} {R : Nat} {t : TypeId} {u0 u1 x0 x1 v : Value} {z : Int} (h : IsInt W v z) (q : Box2 W R t u0 u1) (n0 : noInt u0 = true) (n1 : noInt u1 = true) : IsInt ((W.setCell ⟨R, 0, none⟩ x0).setCell ⟨R, 1, none⟩ x1) v z := by
  obtain ⟨a, l, cap, e, hr⟩ := h
  exact ⟨a, l, cap, e, Row.set (Row.set hr q.c0 n0 _) (u0 := u1) (q.set0 x0).c1 n1 _⟩

set_option maxRecDepth 100000 in
set_option maxHeartbeats 2000000 in
theorem alive_c (w : World) (htab : Lib.TabIs Tryd.prog w "internal/strconv.uint64pow10" .u64 Lib.pow10Tab) :
    Calls Tryd.prog 12 #[] w fun e w' => e = .returned (.bool true) ∧ Below w.heap.size w w' := by
  have HT := hidD htab
  have hmx : Tryd.prog.follows .mixedOrders = true := by kernel_rfl
  clear htab
  go_enter Tryd.func12, Tryd.ntmps12
  go_upto_region 2 with (go_at_call 6; refine (iparse_c ⟨aliveA.toArray⟩ (by decide) _).mono ?_; rintro e w1 ⟨h1, _, hb1⟩; obtain ⟨u, rfl, hu⟩ := h1 aliveA_good; have hu : IsInt w1 u aliveN := (by rw [← aliveA_val]; exact hu); clear h1; obtain ⟨ua, ul, uc, rfl⟩ := hu.form; obtain ⟨s, hs⟩ : ∃ s, decide (aliveN < 0) = s := ⟨_, rfl⟩; rw [hs] at hu; rw [hs]; clear hs)
  obtain ⟨W0, hW0⟩ : ∃ W0, w1.alloc (.cells #[.bool s, .slice ua ul uc] 25) = W0 := ⟨_, rfl⟩
  have x1 : Box2 W0 w1.heap.size 25 (.bool s) (.slice ua ul uc) := by rw [← hW0]; exact Box2.new _ _ _ _
  have x2 : IsInt W0 (.agg #[.bool s, .slice ua ul uc]) aliveN := by rw [← hW0]; exact hu.alloc _
  have x3 : Below w.heap.size w W0 := by rw [← hW0]; exact hb1.alloc hb1.size _
  obtain ⟨B1, hB1⟩ : ∃ B1, B1 = w1.heap.size := ⟨_, rfl⟩
  have hwB := hb1.size
  rw [hW0]
  rw [← hB1] at x1 hwB ⊢
  clear hW0 hu hb1 hB1
  refine wp_region_tab hmx [[], [], [0, 1, 1], [], [3, 2, 2, 0, 1, 2, 3]] (by kernel_rfl) (by decide)
    (fun D a V => ∃ t3 t8 t9 t10 : Value, a = { tmps := #[.bool false, .pointer (some ⟨B1, 0, none⟩), .bool true, t3, .tuple #[.agg #[.bool s, .slice ua ul uc], .bool true], .tuple #[.agg #[.bool s, .slice ua ul uc], .bool true], .agg #[.bool s, .slice ua ul uc], .bool true, t8, t9, t10, undef, undef, undef, undef, undef, undef, undef, undef, undef, undef, undef, undef], defers := [] } ∧
      (D 0 = true → t8 = .agg #[.bool s, .slice ua ul uc]) ∧ (D 1 = true → IsInt V t9 1) ∧ (D 2 = true → IsInt V t10 (aliveN + 1)) ∧
      (D 3 = true → D 4 = false → ∃ B3, t3 = .pointer (some ⟨B3, 0, none⟩) ∧ Box2 V B3 25 (.bool false) (.slice none 0 0) ∧ w.heap.size ≤ B3 ∧ B3 ≠ B1) ∧
      (D 4 = true → ∃ B3 s3 a3 l3 c3, t3 = .pointer (some ⟨B3, 0, none⟩) ∧ t10 = .agg #[.bool s3, .slice a3 l3 c3] ∧ Box2 V B3 25 (.bool s3) (.slice a3 l3 c3)) ∧
      Box2 V B1 25 (.bool s) (.slice ua ul uc) ∧ IsInt V (.agg #[.bool s, .slice ua ul uc]) aliveN ∧ Below w.heap.size w V)
    ⟨_, _, _, _, rfl, by simp, by simp, by simp, by simp, by simp, x1.drew, x2.drew, x3.drew⟩ ?step ?fin
  case fin =>
    rintro D a V hDD ⟨t3, t8, t9, t10, rfl, g0, g1, g2, g3, g4, hb, hi, hB⟩
    obtain ⟨B3, s3, a3, l3, c3, rfl, rfl, hb3⟩ := g4 (hDD 4 (by decide))
    have hi10 := g2 (hDD 2 (by decide))
    clear g0 g1 g2 g3 g4 hDD x1 x2 x3
    have HTX := hidD (show Calls Tryd.prog 8 #[.agg #[.bool s3, .slice a3 l3 c3]] V fun e w' => e = .returned (.string ⟨#[45, 49, 50, 51, 52, 53, 54, 55, 56, 57, 48, 49, 50, 51, 52, 53, 54, 55, 56, 57, 48, 49, 50, 51, 52, 53, 54, 55, 56, 56, 57]⟩) ∧ Below V.heap.size V w' by
      have h1 := itext_c _ _ V hi10 (tab_below HT.out hB)
      rw [aliveB_text] at h1
      exact h1)
    have HOR := hidD (fun (V' : World) (h : Below V.heap.size V V') => show Calls Tryd.prog 17 #[.agg #[.bool s3, .slice a3 l3 c3], .agg #[.bool s, .slice ua ul uc]] V' fun e w' => e = .returned (.int .i64 1) ∧ Below V'.heap.size V' w' by
      have h1 := iorder_c _ _ _ _ V' (hi10.below h) (hi.below h)
      rw [alive_cmp] at h1
      exact h1)
    have k0 := hb.c0
    have k1 := hb.c1
    have k2 := hb3.c0
    have k3 := hb3.c1
    go_wp2_with (first
      | (go_at_call 8; refine HTX.out.mono ?_; rintro e w5 ⟨rfl, hb5⟩; have m0 := (hb.below hb5).c0; have m1 := (hb.below hb5).c1; have m2 := (hb3.below hb5).c0; have m3 := (hb3.below hb5).c1)
      | (go_at_call 17; refine (HOR.out _ hb5).mono ?_; rintro e w6 ⟨rfl, hb6⟩))
    go_ret
    exact ⟨rfl, (hB.trans (hb5.mono hB.size)).trans (hb6.mono (Nat.le_trans hB.size hb5.size))⟩
  case step =>
    rintro D a V i ds hcl2 hi2 hds hDi ⟨t3, t8, t9, t10, rfl, g0, g1, g2, g3, g4, hb, hi, hB⟩
    have hi6 : i < 5 := (List.getElem?_eq_some_iff.1 hi2).1
    obtain rfl | rfl | rfl | rfl | rfl : i = 0 ∨ i = 1 ∨ i = 2 ∨ i = 3 ∨ i = 4 := by omega
    all_goals
      simp only [List.getElem?_cons_zero, List.getElem?_cons_succ, Option.some.injEq] at hi2
      subst hi2
    · have k0 := hb.c0
      have k1 := hb.c1
      clear hds
      refine wpOp_go rfl rfl (fun K hK => ?_)
      go_simp
      exact hK _ _ ⟨_, _, _, _, rfl, fun _ => rfl, g1, g2, g3, g4, hb, hi, hB⟩
    · clear hds
      have HG := hidD g4
      have HG3 := hidD g3
      refine wpOp_go rfl rfl (fun K hK => ?_)
      go_simp
      go_wp2_with (go_at_call 10; refine (iof_c 1 (by omega) (by omega) _).mono ?_; rintro e w5 ⟨v5, rfl, hv5, hb5⟩)
      exact ⟨_, _, _, _, rfl, g0, fun _ => hv5, fun h => (g2 h).below hb5, fun h h' => by
        obtain ⟨B3, e, q, q2, q3⟩ := g3 h h'
        exact ⟨B3, e, q.below hb5, q2, q3⟩, fun h => by
        obtain ⟨B3, s3, a3, l3, c3, e, e2, q⟩ := g4 h
        exact ⟨B3, s3, a3, l3, c3, e, e2, q.below hb5⟩, hb.below hb5, hi.below hb5, hB.trans (hb5.mono hB.size)⟩
    · obtain rfl := g0 (hds 0 (by simp))
      have h9 := g1 (hds 1 (by simp))
      have hf4 : D 4 = false := by
        cases h : D 4 with
        | false => rfl
        | true => rw [hcl2 4 _ rfl h 2 (by simp)] at hDi; cases hDi
      clear hds
      refine wpOp_go rfl rfl (fun K hK => ?_)
      go_simp
      go_wp2_with (go_at_call 15; refine (iplus_c _ _ aliveN 1 _ hi h9 aliveN_len one_len).mono ?_; rintro e w5 ⟨v5, rfl, hv5, hb5⟩)
      exact ⟨_, _, _, _, rfl, fun _ => rfl, fun _ => h9.below hb5, fun _ => hv5, fun h h' => by
        obtain ⟨B3, e, q, q2, q3⟩ := g3 h h'
        exact ⟨B3, e, q.below hb5, q2, q3⟩, fun h => by simp [hf4] at h, hb.below hb5, hi.below hb5, hB.trans (hb5.mono hB.size)⟩
    · have hf4 : D 4 = false := by
        cases h : D 4 with
        | false => rfl
        | true => rw [hcl2 4 _ rfl h 3 (by simp)] at hDi; cases hDi
      clear hds
      refine wpOp_go rfl rfl (fun K hK => ?_)
      go_simp
      exact hK _ _ ⟨_, _, _, _, rfl, g0, fun h => (g1 h).alloc _, fun h => (g2 h).alloc _, fun _ _ => ⟨_, rfl, Box2.new _ _ _ _, hB.size, fun e => by have := hb.lt; omega⟩, fun h => by simp [hf4] at h, hb.alloc _, hi.alloc _, hB.alloc hB.size _⟩
    · obtain ⟨B3, rfl, hb3, hw3, hne3⟩ := g3 (hds 3 (by simp)) hDi
      have h10 := g2 (hds 2 (by simp))
      obtain ⟨a3, l3, c3, rfl⟩ := h10.form
      have k0 := hb3.c0
      have k1 := hb3.c1
      have f0 := hb3.f0
      have f1 := hb3.f1
      clear g4
      refine wpOp_go rfl rfl (fun K hK => ?_)
      go_simp
      exact hK _ _ ⟨_, _, _, _, rfl, (by first | exact g0 | exact fun _ => rfl), fun h => (g1 h).box hb3 rfl rfl, fun _ => h10.box hb3 rfl rfl, fun _ h => by simp at h, fun _ => ⟨B3, _, a3, l3, c3, rfl, rfl, (hb3.set0 _).set1 _⟩, (hb.far (p := ⟨B3, 0, none⟩) (fun e => hne3 e.symm) _).far (p := ⟨B3, 1, none⟩) (fun e => hne3 e.symm) _, hi.box hb3 rfl rfl, (hB.setCell (p := ⟨B3, 0, none⟩) hw3 _).setCell (p := ⟨B3, 1, none⟩) hw3 _⟩
end Go.Proofs.YtjmmnpfedhkjbaaDoor
namespace Go.Proofs.YtjmmnpfedhkjbaaDoor
open Go.RowKit Go.Shelf

attribute [local go_sem] Oper.semAt_some

theorem IsBig.alloc {W : World} {v : Value} {z : Int} (h : IsBig W v z) (o : Obj) : IsBig (W.alloc o) v z := h.below ((Below.refl _ W).alloc (Nat.le_refl _) o)
theorem IsBig.form {W : World} {v : Value} {z : Int} (h : IsBig W v z) : ∃ a l cap, v = .agg #[.slice a l cap, .bool (decide (z < 0))] := by
  obtain ⟨a, l, cap, e, _⟩ := h
  exact ⟨a, l, cap, e⟩
theorem IsBig.box {W : World} {R : Nat} {t : TypeId} {u0 u1 x0 x1 v : Value} {z : Int} (h : IsBig W v z) (q : Box2 W R t u0 u1) (n0 : noInt u0 = true) (n1 : noInt u1 = true) : IsBig ((W.setCell ⟨R, 0, none⟩ x0).setCell ⟨R, 1, none⟩ x1) v z := by
  obtain ⟨a, l, cap, e, hr⟩ := h
  exact ⟨a, l, cap, e, Row.set (Row.set hr q.c0 n0 _) (u0 := u1) (q.set0 x0).c1 n1 _⟩

set_option maxRecDepth 100000 in
set_option maxHeartbeats 1000000 in
theorem rless_c (va vb : Value) (x y : Int) (w : World) (ha : IsBig w va x) (hb : IsBig w vb y) (hma : szB x ≤ 1000000000) (hmb : szB y ≤ 1000000000) :
    Calls Tryd.prog 19 #[va, vb] w fun e w' => ∃ u, e = .returned u ∧ IsBig w' u (x - y) ∧ Below w.heap.size w w' := by
  obtain ⟨a, la, ca, rfl⟩ := ha.form
  obtain ⟨b, lb, cb, rfl⟩ := hb.form
  obtain ⟨s, hs⟩ : ∃ s, decide (x < 0) = s := ⟨_, rfl⟩
  obtain ⟨t, ht⟩ : ∃ t, decide (y < 0) = t := ⟨_, rfl⟩
  rw [hs] at ha ⊢
  rw [ht] at hb ⊢
  clear hs ht
  obtain ⟨W0, hW0⟩ : ∃ W0, ((w.alloc (.cells #[.slice a la ca, .bool s] 30)).alloc (.cells #[.slice b lb cb, .bool t] 30)).alloc (.cells #[.slice none 0 0, .bool false] 30) = W0 := ⟨_, rfl⟩
  have hB0 : Below w.heap.size w W0 := by rw [← hW0]; exact below_3 w _ _ _
  have b0 : Box2 W0 w.heap.size 30 (.slice a la ca) (.bool s) := by rw [← hW0]; exact ((Box2.new w _ _ _).alloc _).alloc _
  have b1 : Box2 W0 (w.heap.size + 1) 30 (.slice b lb cb) (.bool t) := by
    have h := (Box2.new (w.alloc (.cells #[.slice a la ca, .bool s] 30)) 30 (.slice b lb cb) (.bool t)).alloc (.cells #[.slice none 0 0, .bool false] 30)
    rw [World.size_alloc, hW0] at h; exact h
  have bR : Box2 W0 (w.heap.size + 1 + 1) 30 (.slice none 0 0) (.bool false) := by
    have h := Box2.new ((w.alloc (.cells #[.slice a la ca, .bool s] 30)).alloc (.cells #[.slice b lb cb, .bool t] 30)) 30 (.slice none 0 0) (.bool false)
    rw [World.size_alloc, World.size_alloc, hW0] at h; exact h
  have HN := hidD (fun (V : World) (h : Below W0.heap.size W0 V) => neg_c _ y V ((hb.below hB0).below h))
  have HS := hidD (fun (V : World) (u : Value) (h : Below W0.heap.size W0 V) (hu : IsBig V u (-y)) => sum_c _ u x (-y) V ((ha.below hB0).below h) hu hma (by unfold szB at *; rw [Int.natAbs_neg]; exact hmb))
  clear ha hb
  go_enter Tryd.func19, Tryd.ntmps19
  go_wp2_with fail
  try rw [hW0]
  clear hW0
  have hq : Below W0.heap.size W0 W0.drew := (Below.refl _ W0).drew
  have k0 := b0.c0
  have k1 := b0.c1
  have k2 := b1.c0
  have k3 := b1.c1
  have ne2 : ¬ (w.heap.size = w.heap.size + 1 + 1) := by omega
  go_region_held3 (fun w' => w'.cell? ⟨w.heap.size, 0, none⟩ = some (.slice a la ca) ∧ w'.cell? ⟨w.heap.size, 1, none⟩ = some (.bool s) ∧ w'.cell? ⟨w.heap.size + 1, 0, none⟩ = some (.slice b lb cb) ∧ w'.cell? ⟨w.heap.size + 1, 1, none⟩ = some (.bool t)) (refine ⟨?_, ?_, ?_, ?_⟩ <;> (first | (go_keep; done) | ((repeat rw [cell_set_nb (by omega)]); simp [*]; done)))
    (first
      | (go_at_call 32; refine (HN.out _ hq).mono ?_; rintro e w1 ⟨u1, rfl, hu1, hb1⟩; obtain ⟨na, nl, nc, rfl⟩ := hu1.form; obtain ⟨s1, hs1⟩ : ∃ s1, decide (-y < 0) = s1 := ⟨_, rfl⟩; rw [hs1] at hu1; rw [hs1]; clear hs1; have hq := Below.then hq hb1; have k0 := (b0.below hq).c0; have k1 := (b0.below hq).c1; have k2 := (b1.below hq).c0; have k3 := (b1.below hq).c1)
      | (go_at_call 18; refine (HS.out _ _ hq hu1).mono ?_; rintro e w2 ⟨u2, rfl, hu2, hb2⟩; obtain ⟨sa, sl, sc, rfl⟩ := hu2.form; obtain ⟨s2, hs2⟩ : ∃ s2, decide (x + -y < 0) = s2 := ⟨_, rfl⟩; rw [hs2] at hu2; rw [hs2]; clear hs2; have hq := Below.then hq hb2; have k0 := (b0.below hq).c0; have k1 := (b0.below hq).c1; have k2 := (b1.below hq).c0; have k3 := (b1.below hq).c1; have r0 := (bR.below hq).c0; have r1 := (bR.below hq).c1; have f0 := (bR.below hq).f0; have f1 := (bR.below hq).f1))
  all_goals go_wp2_with fail
  have hq2 := hB0.trans (hq.mono hB0.size)
  have hfin := hu2.box (bR.below hq) rfl rfl (x0 := .slice sa sl sc) (x1 := .bool s2)
  exact bodyPost_ret (v := .agg #[.slice sa sl sc, .bool s2]) (by simp [results, Tryd.results19, go_sem, r0, r1]) rfl ⟨_, rfl, by rw [Int.sub_eq_add_neg]; exact hfin, (hq2.setCell (p := ⟨_, 0, none⟩) (by simp only; omega) _).setCell (p := ⟨_, 1, none⟩) (by simp only; omega) _⟩
end Go.Proofs.YtjmmnpfedhkjbaaDoor
namespace Go.Proofs.YtjmmnpfedhkjbaaDoor
open Go.RowKit Go.Shelf

attribute [local go_sem] Oper.semAt_some

set_option maxRecDepth 100000 in
set_option maxHeartbeats 1000000 in
theorem rorder_c (va vb : Value) (x y : Int) (w : World) (ha : IsBig w va x) (hb : IsBig w vb y) (hma : szB x ≤ 1000000000) (hmb : szB y ≤ 1000000000) :
    Calls Tryd.prog 20 #[va, vb] w fun e w' => e = .returned (.int .i64 (cmpI x y)) ∧ Below w.heap.size w w' := by
  obtain ⟨a, la, ca, rfl⟩ := ha.form
  obtain ⟨b, lb, cb, rfl⟩ := hb.form
  obtain ⟨s, hs⟩ : ∃ s, decide (x < 0) = s := ⟨_, rfl⟩
  obtain ⟨t, ht⟩ : ∃ t, decide (y < 0) = t := ⟨_, rfl⟩
  rw [hs] at ha ⊢
  rw [ht] at hb ⊢
  clear hs ht
  have hB0 : Below w.heap.size w ((w.alloc (.cells #[.slice a la ca, .bool s] 30)).alloc (.cells #[.slice b lb cb, .bool t] 30)) := below_2 w _ _
  have b0 := (Box2.new w 30 (.slice a la ca) (.bool s)).alloc (.cells #[.slice b lb cb, .bool t] 30)
  have b1 := Box2.new (w.alloc (.cells #[.slice a la ca, .bool s] 30)) 30 (.slice b lb cb) (.bool t)
  simp only [World.size_alloc] at b1
  have HL := hidD (rless_c _ _ x y _ (ha.below hB0) (hb.below hB0) hma hmb)
  have k0 := b0.c0
  have k1 := b0.c1
  have k2 := b1.c0
  have k3 := b1.c1
  clear ha hb
  go_enter Tryd.func20, Tryd.ntmps20
  go_upto_region 2 with (go_at_call 19; refine HL.out.mono ?_; rintro e w2 ⟨u2, rfl, hu2, hb2⟩; obtain ⟨sa, sl, sc, rfl, hr2⟩ := id hu2; obtain ⟨s2, hs2⟩ : ∃ s2, decide (x - y < 0) = s2 := ⟨_, rfl⟩; rw [hs2])
  have bC := Box2.new w2 30 (.slice sa sl sc) (.bool s2)
  have m0 := bC.c0
  have m1 := bC.c1
  have hB2 : Below w.heap.size w (w2.alloc (.cells #[.slice sa sl sc, .bool s2] 30)) := (Below.then hB0 hb2).alloc (Below.then hB0 hb2).size _
  have hl : sl = (limbs 10000 (x - y).natAbs).length := by
    obtain ⟨a', c', e⟩ := hr2.form
    cases e; rfl
  clear k0 k1 k2 k3 HL
  cases s2
  · have h0 : ¬ x - y < 0 := of_decide_eq_false hs2
    by_cases hz : x - y = 0
    · have hl0 : sl = 0 := by rw [hl, hz]; simp [limbs_zero]
      subst hl0
      clear hl hs2
      go_wp2
      go_ret
      refine ⟨?_, hB2⟩
      have e : cmpI x y = 0 := by unfold cmpI; rw [if_neg (by omega), if_neg (by omega)]
      rw [e]; rfl
    · have hl0 : 1 ≤ sl := by
        rw [hl]
        rcases Nat.eq_zero_or_pos (limbs 10000 (x - y).natAbs).length with h | h
        · exact absurd ((limbs_eq_nil (B := 10000) (by omega)).1 (List.eq_nil_of_length_eq_zero h)) (by omega)
        · exact h
      have hmin : min (1 : Int) (sl : Int) = 1 := by omega
      clear hl hs2
      go_wp2
      go_ret
      refine ⟨?_, hB2⟩
      have e : cmpI x y = 1 := by unfold cmpI; rw [if_neg (by omega), if_pos (by omega)]
      rw [e]; try rfl
  · have h0 : x - y < 0 := of_decide_eq_true hs2
    clear hl hs2
    go_wp2
    go_ret
    refine ⟨?_, hB2⟩
    have e : cmpI x y = -1 := by unfold cmpI; rw [if_pos (by omega)]
    rw [e]; try rfl

set_option maxRecDepth 100000 in
set_option maxHeartbeats 1000000 in
theorem iminus_c (va vb : Value) (x y : Int) (w : World) (ha : IsInt w va x) (hb : IsInt w vb y) (hlx : (limbs B64 x.natAbs).length < 1099511627776) (hly : (limbs B64 y.natAbs).length < 1099511627776) :
    Calls Tryd.prog 16 #[va, vb] w fun e w' => ∃ u, e = .returned u ∧ IsInt w' u (x - y) ∧ Below w.heap.size w w' := by
  obtain ⟨a, la, ca, rfl⟩ := ha.form
  obtain ⟨b, lb, cb, e0, hu⟩ := hb
  cases e0
  obtain ⟨s, hs⟩ : ∃ s, decide (x < 0) = s := ⟨_, rfl⟩
  obtain ⟨t, ht⟩ : ∃ t, decide (y < 0) = t := ⟨_, rfl⟩
  rw [hs] at ha ⊢
  rw [ht]
  clear hs
  obtain ⟨W0, hW0⟩ : ∃ W0, ((w.alloc (.cells #[.bool s, .slice a la ca] 25)).alloc (.cells #[.bool t, .slice b lb cb] 25)).alloc (.cells #[.bool false, .slice none 0 0] 25) = W0 := ⟨_, rfl⟩
  have hB0 : Below w.heap.size w W0 := by rw [← hW0]; exact below_3 w _ _ _
  have b0 : Box2 W0 w.heap.size 25 (.bool s) (.slice a la ca) := by rw [← hW0]; exact ((Box2.new w _ _ _).alloc _).alloc _
  have b1 : Box2 W0 (w.heap.size + 1) 25 (.bool t) (.slice b lb cb) := by
    have h := (Box2.new (w.alloc (.cells #[.bool s, .slice a la ca] 25)) 25 (.bool t) (.slice b lb cb)).alloc (.cells #[.bool false, .slice none 0 0] 25)
    rw [World.size_alloc, hW0] at h; exact h
  have bR : Box2 W0 (w.heap.size + 1 + 1) 25 (.bool false) (.slice none 0 0) := by
    have h := Box2.new ((w.alloc (.cells #[.bool s, .slice a la ca] 25)).alloc (.cells #[.bool t, .slice b lb cb] 25)) 25 (.bool false) (.slice none 0 0)
    rw [World.size_alloc, World.size_alloc, hW0] at h; exact h
  have hneg : (if (!t) = true then -(y.natAbs : Int) else y.natAbs) = -y := by
    rw [← ht]
    by_cases h : y < 0
    · simp only [h, decide_true, Bool.not_true, Bool.false_eq_true, if_false]; omega
    · simp only [h, decide_false, Bool.not_false, if_true]; omega
  have HN := hidD (fun (V : World) (h : Below W0.heap.size W0 V) => show Calls Tryd.prog 27 #[.bool (!t), .slice b lb cb] V fun e w' => ∃ u, e = .returned u ∧ IsInt w' u (-y) ∧ Below V.heap.size V w' by
    have h1 := signed_c (!t) (.slice b lb cb) y.natAbs V (UN.below (UN.below hu hB0) h)
    rw [hneg] at h1
    exact h1)
  have HS := hidD (fun (V : World) (u : Value) (h : Below W0.heap.size W0 V) (hu : IsInt V u (-y)) => iplus_c _ u x (-y) V ((ha.below hB0).below h) hu hlx (by rw [Int.natAbs_neg]; exact hly))
  clear ha hu hneg ht
  go_enter Tryd.func16, Tryd.ntmps16
  go_wp2_with fail
  try rw [hW0]
  clear hW0
  have hq : Below W0.heap.size W0 W0.drew := (Below.refl _ W0).drew
  have k0 := b0.c0
  have k1 := b0.c1
  have k2 := b1.c0
  have k3 := b1.c1
  have ne2 : ¬ (w.heap.size = w.heap.size + 1 + 1) := by omega
  go_region_held3 (fun w' => w'.cell? ⟨w.heap.size, 0, none⟩ = some (.bool s) ∧ w'.cell? ⟨w.heap.size, 1, none⟩ = some (.slice a la ca) ∧ w'.cell? ⟨w.heap.size + 1, 0, none⟩ = some (.bool t) ∧ w'.cell? ⟨w.heap.size + 1, 1, none⟩ = some (.slice b lb cb)) (refine ⟨?_, ?_, ?_, ?_⟩ <;> (first | (go_keep; done) | ((repeat rw [cell_set_nb (by omega)]); simp [*]; done)))
    (first
      | (go_at_call 27; refine (HN.out _ hq).mono ?_; rintro e w1 ⟨u1, rfl, hu1, hb1⟩; obtain ⟨na, nl, nc, rfl⟩ := hu1.form; obtain ⟨s1, hs1⟩ : ∃ s1, decide (-y < 0) = s1 := ⟨_, rfl⟩; rw [hs1] at hu1; rw [hs1]; clear hs1; have hq := Below.then hq hb1; have k0 := (b0.below hq).c0; have k1 := (b0.below hq).c1; have k2 := (b1.below hq).c0; have k3 := (b1.below hq).c1)
      | (go_at_call 15; refine (HS.out _ _ hq hu1).mono ?_; rintro e w2 ⟨u2, rfl, hu2, hb2⟩; obtain ⟨sa, sl, sc, rfl⟩ := hu2.form; obtain ⟨s2, hs2⟩ : ∃ s2, decide (x + -y < 0) = s2 := ⟨_, rfl⟩; rw [hs2] at hu2; rw [hs2]; clear hs2; have hq := Below.then hq hb2; have k0 := (b0.below hq).c0; have k1 := (b0.below hq).c1; have k2 := (b1.below hq).c0; have k3 := (b1.below hq).c1; have r0 := (bR.below hq).c0; have r1 := (bR.below hq).c1; have f0 := (bR.below hq).f0; have f1 := (bR.below hq).f1))
  all_goals go_wp2_with fail
  have hq2 := hB0.trans (hq.mono hB0.size)
  have hfin := hu2.box (bR.below hq) rfl rfl (x0 := .bool s2) (x1 := .slice sa sl sc)
  exact bodyPost_ret (v := .agg #[.bool s2, .slice sa sl sc]) (by simp [results, Tryd.results16, go_sem, r0, r1]) rfl ⟨_, rfl, by rw [Int.sub_eq_add_neg]; exact hfin, (hq2.setCell (p := ⟨_, 0, none⟩) (by simp only; omega) _).setCell (p := ⟨_, 1, none⟩) (by simp only; omega) _⟩
end Go.Proofs.YtjmmnpfedhkjbaaDoor
namespace Go.Proofs.YtjmmnpfedhkjbaaDoor
open Go.RowKit Go.Shelf

/-- Block b begins with the words xs, and may be written. -/
def ArI (W : World) (b : Nat) (xs : List Nat) : Prop := ∃ tl : List Value, W.heap[b]? = some (.cells (cellsOf .i64 xs ++ tl).toArray 3 (0, 0))

theorem ArI.lt {W : World} {b : Nat} {xs : List Nat} (h : ArI W b xs) : b < W.heap.size := by obtain ⟨_, h⟩ := h; exact (Array.getElem?_eq_some_iff.1 h).1
theorem ArI.cell {W : World} {b : Nat} {xs : List Nat} (h : ArI W b xs) {j : Nat} (hj : j < xs.length) : W.cell? ⟨b, j, none⟩ = some (.int .i64 (xs[j]?.getD 0 : Nat)) := by
  obtain ⟨tl, h⟩ := h
  have e : (cellsOf .i64 xs ++ tl)[j]? = some (.int .i64 (xs[j]?.getD 0 : Nat)) := by
    rw [List.getElem?_append_left (by rw [cellsOf_length]; exact hj)]
    simp [cellsOf, List.getElem?_eq_getElem hj]
  simp [World.cell?, h, e]
theorem ArI.frozen {W : World} {b : Nat} {xs : List Nat} (h : ArI W b xs) (j : Nat) : W.frozen? ⟨b, j, none⟩ = false := by obtain ⟨_, h⟩ := h; simp [World.frozen?, h]
theorem ArI.of_block {W W' : World} {b : Nat} {xs : List Nat} (h : ArI W b xs) (e : W'.heap[b]? = W.heap[b]?) : ArI W' b xs := by obtain ⟨tl, h⟩ := h; exact ⟨tl, e.trans h⟩
theorem ArI.kept {W W' : World} {row : Option Nat} {b : Nat} {xs : List Nat} (h : ArI W b xs) (hg : W.grownBy W' row) (hne : some b ≠ row) : ArI W' b xs := h.of_block (hg.block b h.lt hne)
theorem ArI.below {W W' : World} {b : Nat} {xs : List Nat} (h : ArI W b xs) (hb : Below W.heap.size W W') : ArI W' b xs := h.of_block (hb.block b h.lt)
theorem ArI.alloc {W : World} {b : Nat} {xs : List Nat} (h : ArI W b xs) (o : Obj) : ArI (W.alloc o) b xs := h.below ((Below.refl _ W).alloc (Nat.le_refl _) o)
theorem ArI.set {W : World} {b : Nat} {xs : List Nat} (h : ArI W b xs) (j v : Nat) : ArI (W.setCell ⟨b, j, none⟩ (.int .i64 (v : Nat))) b (xs.set j v) := by
  obtain ⟨tl, h⟩ := h
  obtain ⟨hlt, hk⟩ := Array.getElem?_eq_some_iff.1 h
  have e : ∃ tl', (cellsOf .i64 xs ++ tl).set j (.int .i64 (v : Nat)) = cellsOf .i64 (xs.set j v) ++ tl' := by
    rcases Nat.lt_or_ge j xs.length with hj | hj
    · exact ⟨tl, by rw [List.set_append_left _ _ (by rw [cellsOf_length]; exact hj)]; simp [cellsOf, List.map_set]⟩
    · exact ⟨_, by rw [List.set_append_right _ _ (by rw [cellsOf_length]; exact hj), List.set_eq_of_length_le hj]⟩
  obtain ⟨tl', e⟩ := e
  refine ⟨tl', ?_⟩
  show (W.heap.modify b _)[b]? = _
  rw [Array.getElem?_eq_getElem (by rw [Array.size_modify]; exact hlt), Array.getElem_modify_self, hk, ← e]
  simp
theorem ArI.made {W : World} {b : Nat} {xs : List Nat} (h : W.heap[b]? = some (.cells (cellsOf .i64 xs).toArray 3 (0, 0))) : ArI W b xs := ⟨[], by rw [List.append_nil]; exact h⟩
/-- A piece of a written block us a row. -/
theorem ArI.row {W : World} {b : Nat} {xs : List Nat} (h : ArI W b xs) (off len cap : Nat) (h1 : off + len ≤ xs.length) (h2 : len ≤ cap) (h3 : cap ≤ 9223372036854775807) (h4 : len ≤ 1099511627776) : Row .i64 W (.slice (some ⟨b, off, none⟩) len cap) ((xs.drop off).take len) := by
  have e : ((xs.drop off).take len).length = len := by rw [List.length_take, List.length_drop]; omega
  refine ⟨_, cap, by rw [e], by omega, h3, by omega, Or.inr ⟨b, off, rfl, h.lt, fun j hj => ?_⟩⟩
  rw [e] at hj
  rw [h.cell (by omega), List.getElem?_take_of_lt hj, List.getElem?_drop]


theorem madeCells_int (n : Nat) : madeCells #[.int .i64 0] n = (cellsOf .i64 (List.replicate n 0)).toArray := by
  apply Array.ext
  · simp [madeCells, cellsOf]
  · intro i h1 h2
    simp [madeCells, cellsOf, Nat.mod_one]

theorem make_ints (n : Nat) (h : n ≤ 2199023255552) (w : World) : (Instr.makeSlice 28 (.int .i64 (n : Int)) (.int .i64 (n : Int))).run Tryd.prog w = .ok (.slice (some ⟨w.heap.size, 0, none⟩) n n) (w.alloc (.cells (cellsOf .i64 (List.replicate n 0)).toArray 3)) := by
  rw [← madeCells_int]
  exact run_make_row' 28 3 (.int .i64 0) 8 Tryd.underlying28 Tryd.infoInt rfl .i64 .i64 n (by omega) (by omega) w

theorem val_set (B : Nat) : ∀ (D : List Nat) (j d : Nat), j < D.length → val B (D.set j d) + B ^ j * D[j]?.getD 0 = val B D + B ^ j * d
  | [], _, _, h => by cases h
  | x :: D, 0, d, _ => by simp [val]; omega
  | x :: D, j + 1, d, h => by
    have ih := val_set B D j d (by simpa using h)
    simp only [List.set_cons_succ, val, List.getElem?_cons_succ, Nat.pow_succ]
    have e : B * val B (D.set j d) + B * (B ^ j * D[j]?.getD 0) = B * val B D + B * (B ^ j * d) := by rw [← Nat.mul_add, ih, Nat.mul_add]
    have e1 : B ^ j * B * D[j]?.getD 0 = B * (B ^ j * D[j]?.getD 0) := by rw [Nat.mul_comm (B ^ j) B, Nat.mul_assoc]
    have e2 : B ^ j * B * d = B * (B ^ j * d) := by rw [Nat.mul_comm (B ^ j) B, Nat.mul_assoc]
    omega

theorem val_zeros (B n : Nat) : val B (List.replicate n 0) = 0 := by
  induction n with
  | zero => rfl
  | succ n ih => rw [List.replicate_succ, val, ih]; simp

theorem Dig.set {B : Nat} {D : List Nat} (h : Dig B D) (j : Nat) {d : Nat} (hd : d < B) : Dig B (D.set j d) := fun x hx => by
  rcases List.mem_or_eq_of_mem_set hx with h1 | h1
  · exact h x h1
  · rw [h1]; exact hd

/-- What the outer loop of Times knows: i digits of the first are worked in. -/
def TimAt (us bs : List Nat) (i : Nat) (D : List Nat) : Prop :=
  D.length = us.length + bs.length + 1 ∧ Dig 10000 D ∧ val 10000 D = val 10000 (us.take i) * val 10000 bs

/-- What the inner loop knows besides. -/
def TimK (us bs : List Nat) (i k c : Nat) (D : List Nat) : Prop :=
  D.length = us.length + bs.length + 1 ∧ Dig 10000 D ∧ c < 10000 ∧
    val 10000 D + 10000 ^ (i + k) * c = val 10000 (us.take i) * val 10000 bs + 10000 ^ i * (us[i]?.getD 0 * val 10000 (bs.take k))

theorem TimAt.start (us bs : List Nat) : TimAt us bs 0 (List.replicate (us.length + bs.length + 1) 0) :=
  ⟨List.length_replicate, fun x hx => by rw [List.eq_of_mem_replicate hx]; omega, by rw [val_zeros]; simp [val]⟩

theorem TimAt.inner {us bs : List Nat} {i : Nat} {D : List Nat} (h : TimAt us bs i D) : TimK us bs i 0 0 D := by
  obtain ⟨h1, h2, h3⟩ := h
  refine ⟨h1, h2, by omega, ?_⟩
  rw [h3]; simp [val]

theorem TimK.total {us bs : List Nat} {i k c : Nat} {D : List Nat} (h : TimK us bs i k c D) (hk : bs.length ≤ k) : val 10000 D + 10000 ^ (i + k) * c = val 10000 (us.take (i + 1)) * val 10000 bs := by
  obtain ⟨_, _, _, h4⟩ := h
  rw [h4, List.take_of_length_le hk, val_take_succ, Nat.add_mul, Nat.mul_assoc]

theorem TimK.done {us bs : List Nat} {i k : Nat} {D : List Nat} (h : TimK us bs i k 0 D) (hk : bs.length ≤ k) : TimAt us bs (i + 1) D := by
  have := h.total hk
  exact ⟨h.1, h.2.1, by omega⟩

/-- The carry is gone one place behind the second. -/
theorem TimK.over {us bs : List Nat} {i k c : Nat} {D : List Nat} (h : TimK us bs i k c D) (ha : Dig 10000 us) (hb : Dig 10000 bs) (hi : i < us.length) (hk : bs.length < k) : c = 0 := by
  have h1 := h.total (by omega)
  have h2 := val_lt (ha.take (i + 1))
  have h3 := val_lt hb
  rw [List.length_take, Nat.min_eq_left (by omega)] at h2
  have h4 : val 10000 (us.take (i + 1)) * val 10000 bs < 10000 ^ (i + 1) * 10000 ^ bs.length := Nat.mul_lt_mul'' h2 h3
  rw [← Nat.pow_add] at h4
  have h5 : 10000 ^ (i + 1 + bs.length) ≤ 10000 ^ (i + k) := Nat.pow_le_pow_right (by omega) (by omega)
  rcases Nat.eq_zero_or_pos c with h6 | h6
  · exact h6
  · have := Nat.mul_le_mul_left (10000 ^ (i + k)) h6
    omega

/-- One place more. -/
theorem TimK.step {us bs : List Nat} {i k c : Nat} {D : List Nat} (h : TimK us bs i k c D) (ha : Dig 10000 us) (hb : Dig 10000 bs) (hj : i + k < D.length) (c1 : Nat) (hc1 : c1 = c + D[i + k]?.getD 0 + us[i]?.getD 0 * bs[k]?.getD 0) :
    TimK us bs i (k + 1) (c1 / 10000) (D.set (i + k) (c1 % 10000)) := by
  obtain ⟨h1, h2, h3, h4⟩ := h
  have x1 := ha.getD (by omega) i
  have x2 := hb.getD (by omega) k
  have x3 := h2.getD (by omega) (i + k)
  have x4 : us[i]?.getD 0 * bs[k]?.getD 0 ≤ 9999 * 9999 := Nat.mul_le_mul (by omega) (by omega)
  refine ⟨by rw [List.length_set]; exact h1, h2.set _ (Nat.mod_lt _ (by omega)), by omega, ?_⟩
  have h5 := val_set 10000 D (i + k) (c1 % 10000) hj
  rw [val_take_succ, Nat.mul_add, Nat.mul_add]
  have e1 : 10000 ^ (i + (k + 1)) * (c1 / 10000) + 10000 ^ (i + k) * (c1 % 10000) = 10000 ^ (i + k) * c1 := by
    rw [← Nat.add_assoc, Nat.pow_succ, Nat.mul_assoc, ← Nat.mul_add, Nat.div_add_mod]
  have e2 : 10000 ^ i * (us[i]?.getD 0 * (10000 ^ k * bs[k]?.getD 0)) = 10000 ^ (i + k) * (us[i]?.getD 0 * bs[k]?.getD 0) := by
    rw [Nat.pow_add, Nat.mul_assoc]
    congr 1
    rw [Nat.mul_left_comm]
  rw [hc1, Nat.mul_add, Nat.mul_add] at e1
  rw [e2]
  rw [hc1] at h5 ⊢
  omega

theorem TimAt.fin {us bs D : List Nat} {m n : Nat} (h : TimAt us bs us.length D) (ha : us = limbs 10000 m) (hb : bs = limbs 10000 n) : trimL D = limbs 10000 (m * n) := by
  obtain ⟨_, h2, h3⟩ := h
  rw [List.take_of_length_le (Nat.le_refl _)] at h3
  rw [← limbs_val (by omega) h2, h3, ha, hb, val_limbs (by omega), val_limbs (by omega)]
end Go.Proofs.YtjmmnpfedhkjbaaDoor
namespace Go.Proofs.YtjmmnpfedhkjbaaDoor
open Go.RowKit Go.Shelf

theorem Box2.keptG {W W' : World} {B : Nat} {t : TypeId} {x y : Value} {g : Nat} (h : Box2 W B t x y) (hg : W.grownBy W' (some g)) (hne : B ≠ g) : Box2 W' B t x y :=
  (hg.block B h.lt (fun e => hne (by cases e; rfl))).trans h

theorem mul_wrap {x y : Nat} (hx : x < 10000) (hy : y < 10000) : x * y ≤ 99980001 ∧ IntKind.i64.wrap ((x : Int) * (y : Int)) = ((x * y : Nat) : Int) := by
  have h : x * y ≤ 9999 * 9999 := Nat.mul_le_mul (by omega) (by omega)
  refine ⟨by omega, ?_⟩
  have e : (x : Int) * (y : Int) = ((x * y : Nat) : Int) := by rw [Int.natCast_mul]
  rw [e]
  generalize x * y = p at *
  simp [IntKind.wrap, IntKind.signed, IntKind.bits]
  omega

set_option maxRecDepth 100000 in
set_option maxHeartbeats 2000000 in
theorem rtimes_w (a b : Option Addr) (la lb ca cb m n : Nat) (s t : Bool) (w : World) (ra : RN w (.slice a la ca) m) (rb : RN w (.slice b lb cb) n) (hla : la ≤ 1000000000) (hlb : lb ≤ 1000000000) :
    Calls Tryd.prog 22 #[.agg #[.slice a la ca, .bool s], .agg #[.slice b lb cb, .bool t]] w fun e w' => ∃ c lc cc, e = .returned (.agg #[.slice c lc cc, .bool ((s != t) && decide (0 < lc))]) ∧ RN w' (.slice c lc cc) (m * n) ∧ Below w.heap.size w w' := by
  obtain ⟨W0, hW0⟩ : ∃ W0, ((w.alloc (.cells #[.slice a la ca, .bool s] 30)).alloc (.cells #[.slice b lb cb, .bool t] 30)).alloc (.cells #[.slice none 0 0, .bool false] 30) = W0 := ⟨_, rfl⟩
  have hB0 : Below w.heap.size w W0 := by rw [← hW0]; exact below_3 w _ _ _
  have b0 : Box2 W0 w.heap.size 30 (.slice a la ca) (.bool s) := by rw [← hW0]; exact ((Box2.new w _ _ _).alloc _).alloc _
  have b1 : Box2 W0 (w.heap.size + 1) 30 (.slice b lb cb) (.bool t) := by
    have h := (Box2.new (w.alloc (.cells #[.slice a la ca, .bool s] 30)) 30 (.slice b lb cb) (.bool t)).alloc (.cells #[.slice none 0 0, .bool false] 30)
    rw [World.size_alloc, hW0] at h; exact h
  have bR : Box2 W0 (w.heap.size + 1 + 1) 30 (.slice none 0 0) (.bool false) := by
    have h := Box2.new ((w.alloc (.cells #[.slice a la ca, .bool s] 30)).alloc (.cells #[.slice b lb cb, .bool t] 30)) 30 (.slice none 0 0) (.bool false)
    rw [World.size_alloc, World.size_alloc, hW0] at h; exact h
  have hg0 : W0.heap.size = w.heap.size + 3 := by rw [← hW0]; simp
  obtain ⟨hl1, hc1, hm1, hk1, hf1⟩ := row_fn ra
  obtain ⟨hl2, hc2, hm2, hk2, hf2⟩ := row_fn rb
  have HF := hidD (fun D (h : TimAt (limbs 10000 m) (limbs 10000 n) (limbs 10000 m).length D) => h.fin (m := m) (n := n) rfl rfl)
  have xa := dig_limbs (B := 10000) (by omega) m
  have xb := dig_limbs (B := 10000) (by omega) n
  have hmk := make_ints (la + lb + 1) (by omega) W0
  rw [show ((la + lb + 1 : Nat) : Int) = (la : Int) + (lb : Int) + 1 from by omega] at hmk
  obtain ⟨W1, hW1⟩ : ∃ W1, W0.alloc (.cells (cellsOf .i64 (List.replicate (la + lb + 1) 0)).toArray 3) = W1 := ⟨_, rfl⟩
  rw [hW1] at hmk
  obtain ⟨g, hg⟩ : ∃ g, g = W0.heap.size := ⟨_, rfl⟩
  rw [← hg] at hmk hg0
  have hA1 : ArI W1 g (List.replicate (la + lb + 1) 0) := by rw [← hW1, hg]; exact ArI.made (World.alloc_heap_new W0 _)
  have hB1 : Below w.heap.size w W1 := by rw [← hW1]; exact hB0.alloc hB0.size _
  have q0 : Box2 W1 w.heap.size 30 (.slice a la ca) (.bool s) := by rw [← hW1]; exact b0.alloc _
  have q1 : Box2 W1 (w.heap.size + 1) 30 (.slice b lb cb) (.bool t) := by rw [← hW1]; exact b1.alloc _
  have qR : Box2 W1 (w.heap.size + 1 + 1) 30 (.slice none 0 0) (.bool false) := by rw [← hW1]; exact bR.alloc _
  have k0 := b0.c0
  have k1 := b1.c0
  have HS := hidD (TimAt.start (limbs 10000 m) (limbs 10000 n))
  generalize limbs 10000 m = us at *
  generalize limbs 10000 n = vs at *
  have H1 := hidD hf1
  have H2 := hidD hf2
  have HL1 := hidD hl1
  have HL2 := hidD hl2
  rw [← hl1, ← hl2] at HS
  have hgw : w.heap.size + 2 < g := by omega
  clear hg0
  clear hf1 hf2 hl1 hl2 ra rb hW1 hg b0 b1 bR
  go_enter Tryd.func22, Tryd.ntmps22
  go_wp2
  clear hW0 hmk k0 k1
  go_loopw [6] (fun iv wr => ∃ (i : Nat) (D : List Nat), iv = .int .i64 i ∧ i ≤ la ∧ Hid (TimAt us vs i D) ∧ ArI wr g D ∧ W1.grownBy wr (some g))
    (fun iv _ => la - (intOf iv).toNat)
  case atStart => exact ⟨0, _, rfl, Nat.zero_le _, HS.out, hA1, grown_refl _ _⟩
  case round =>
    clear HS hA1
    obtain ⟨i, D, rfl, hi, HD, hA, hG⟩ := hrel
    have m0 := (q0.keptG hG (by omega)).c0
    have m1 := (q0.keptG hG (by omega)).c1
    have m2 := (q1.keptG hG (by omega)).c0
    have m3 := (q1.keptG hG (by omega)).c1
    by_cases hlt : i < la
    · have HI := hidD HD.out.inner
      clear HD
      obtain ⟨ab, ao, rfl, hab, hca⟩ := H1.out i hlt
      go_wp2
      go_loopw [7, 8] (fun cv kv wr => ∃ (c k : Nat) (D : List Nat), cv = .int .i64 c ∧ kv = .int .i64 k ∧ k ≤ lb + 1 ∧ c < 10000 ∧ Hid (TimK us vs i k c D) ∧ ArI wr g D ∧ W1.grownBy wr (some g))
        (fun _ kv _ => lb + 2 - (intOf kv).toNat)
      case atStart => exact ⟨0, 0, D, rfl, rfl, by omega, by omega, HI, hA, hG⟩
      case round =>
        clear HI hA hG m0 m1 m2 m3
        obtain ⟨c, k, D, rfl, rfl, hk, hc, HK, hA, hG⟩ := hrel
        have m0 := (q0.keptG hG (by omega)).c0
        have m2 := (q1.keptG hG (by omega)).c0
        have hDl := HK.out.1
        rw [← HL1.out, ← HL2.out] at hDl
        by_cases hkl : k < lb
        · obtain ⟨bb, bo, rfl, hbb, hcb⟩ := H2.out k hkl
          have hxa : wr.cell? ⟨ab, ao + i, none⟩ = some (.int .i64 (us[i]?.getD 0 : Nat)) := (World.cell?_of_block (w := W1) (hG.block ab (by have := hB1.size; omega) (fun e => by cases e; omega))).trans ((hB1.cell (p := ⟨ab, ao + i, none⟩) hab).trans hca)
          have hxb : wr.cell? ⟨bb, bo + k, none⟩ = some (.int .i64 (vs[k]?.getD 0 : Nat)) := (World.cell?_of_block (w := W1) (hG.block bb (by have := hB1.size; omega) (fun e => by cases e; omega))).trans ((hB1.cell (p := ⟨bb, bo + k, none⟩) hbb).trans hcb)
          have hxd : wr.cell? ⟨g, i + k, none⟩ = some (.int .i64 (D[i + k]?.getD 0 : Nat)) := hA.cell (by omega)
          have hfr := hA.frozen (i + k)
          have y1 := xa.getD (by omega) i
          have y2 := xb.getD (by omega) k
          have y3 := HK.out.2.1.getD (by omega) (i + k)
          have HST := hidD (HK.out.step xa xb (by omega) _ rfl)
          obtain ⟨z1, z2⟩ := mul_wrap y1 y2
          generalize us[i]?.getD 0 = x at *
          generalize vs[k]?.getD 0 = y at *
          generalize D[i + k]?.getD 0 = d at *
          generalize x * y = p at *
          clear hca hcb
          go_upto_region 11 with fail
          go_quiet (fail)
          go_wp2
          have e2 : ((c : Int) + (d : Int) + (p : Int)) % 10000 = (((c + d + p) % 10000 : Nat) : Int) := by omega
          rw [e2]
          exact ⟨⟨(c + d + p) / 10000, k + 1, D.set (i + k) ((c + d + p) % 10000), by go_num, by simp, by omega, HST.out.2.2.1, HST, ArI.set (W := wr.drewN nq) hA _ _, grown_trans (B := wr.drewN nq) ⟨hG.os, hG.tape, hG.output, hG.size, hG.block⟩ (grown_set _ _ _ _)⟩, by simp [intOf]; omega⟩
        · rcases Nat.eq_zero_or_pos c with hc0 | hc0
          · subst hc0
            have HN := hidD (HK.out.done (by rw [← HL2.out]; omega))
            clear HK
            go_wp2
            exact ⟨⟨i + 1, D, by simp, by omega, HN, hA, hG⟩, by simp [intOf]; omega⟩
          · have hkb : k ≤ lb := by
              rcases Nat.lt_or_ge lb k with h | h
              · have := HK.out.over xa xb (by rw [← HL1.out]; exact hlt) (by rw [← HL2.out]; exact h)
                omega
              · exact h
            have hxd : wr.cell? ⟨g, i + k, none⟩ = some (.int .i64 (D[i + k]?.getD 0 : Nat)) := hA.cell (by omega)
            have hfr := hA.frozen (i + k)
            have y3 := HK.out.2.1.getD (by omega) (i + k)
            have hb0 : vs[k]?.getD 0 = 0 := by rw [List.getElem?_eq_none (by rw [← HL2.out]; omega)]; rfl
            have HST := hidD (HK.out.step xa xb (by omega) _ rfl)
            rw [hb0, Nat.mul_zero, Nat.add_zero] at HST
            clear hb0
            generalize D[i + k]?.getD 0 = d at *
            go_wp2
            have e2 : ((c : Int) + (d : Int)) % 10000 = (((c + d) % 10000 : Nat) : Int) := by omega
            rw [e2]
            exact ⟨⟨(c + d) / 10000, k + 1, D.set (i + k) ((c + d) % 10000), by go_num, by simp, by omega, HST.out.2.2.1, HST, ArI.set hA _ _, grown_trans hG (grown_set _ _ _ _)⟩, by simp [intOf]; omega⟩
    · obtain rfl : i = la := by omega
      have hrow : Row .i64 wr (.slice (some ⟨g, 0, none⟩) (i + lb + 1) (i + lb + 1)) D := by
        have hDl := HD.out.1
        rw [← HL1.out, ← HL2.out] at hDl
        have h1 := hA.row 0 (i + lb + 1) (i + lb + 1) (by omega) (Nat.le_refl _) (by omega) (by omega)
        rwa [List.drop_zero, List.take_of_length_le (by omega)] at h1
      have HTR := hidD (HF.out D (by rw [← HL1.out]; exact HD.out))
      have hBw : Below w.heap.size w wr := below_grown hB1 hG (by omega)
      have rR := qR.keptG hG (by omega)
      have p0 := q0.keptG hG (by omega)
      have p1 := q1.keptG hG (by omega)
      clear HD HF H1 H2
      go_upto_region 14 with fail
      have hq : Below wr.heap.size wr wr.drew := (Below.refl _ wr).drew
      have ne2 : ¬ (w.heap.size = w.heap.size + 1 + 1) := by omega
      go_region_held3 (fun w' => w'.cell? ⟨w.heap.size, 1, none⟩ = some (.bool s) ∧ w'.cell? ⟨w.heap.size + 1, 1, none⟩ = some (.bool t)) (refine ⟨?_, ?_⟩ <;> (first | (go_keep; done) | ((repeat rw [cell_set_nb (by omega)]); simp [*]; done)))
        (first
          | (go_at_call 29; refine (trim_c _ D _ (Row.below hrow hq)).mono ?_; rintro e w1 ⟨u, rfl, hu, rfl⟩; rw [HTR.out] at hu; obtain ⟨a', c', rfl⟩ := RN.form hu)
          | (go_at_call 37; refine (made_c _ _ _ _ _).mono ?_; rintro e w2 ⟨rfl, hb2⟩; have hu := Row.below hu hb2; have hq := Below.then hq hb2; have m1 := (p0.below hq).c1; have m3 := (p1.below hq).c1; have r0 := (rR.below hq).c0; have r1 := (rR.below hq).c1; have f0 := (rR.below hq).f0; have f1 := (rR.below hq).f1))
      all_goals go_wp2_with fail
      obtain ⟨hr, hB2⟩ := set2_fin (.slice a' (limbs 10000 (m * n)).length c') (.bool (!(s == t) && decide (0 < (limbs 10000 (m * n)).length))) (hBw.trans (hq.mono hBw.size)) (by omega) (rR.below hq) rfl rfl hu
      exact bodyPost_ret (v := .agg #[.slice a' (limbs 10000 (m * n)).length c', .bool (!(s == t) && decide (0 < (limbs 10000 (m * n)).length))]) (by simp [results, Tryd.results22, go_sem, r0, r1]) rfl ⟨_, _, _, rfl, hr, hB2⟩

theorem rtimes_c (va vb : Value) (x y : Int) (w : World) (ha : IsBig w va x) (hb : IsBig w vb y) (hma : szB x ≤ 1000000000) (hmb : szB y ≤ 1000000000) :
    Calls Tryd.prog 22 #[va, vb] w fun e w' => ∃ u, e = .returned u ∧ IsBig w' u (x * y) ∧ Below w.heap.size w w' := by
  obtain ⟨a, la, ca, rfl, ra⟩ := ha
  obtain ⟨b, lb, cb, rfl, rb⟩ := hb
  have hl1 := (row_fn ra).1
  have hl2 := (row_fn rb).1
  unfold szB at hma hmb
  refine (rtimes_w a b la lb ca cb _ _ _ _ w ra rb (by omega) (by omega)).mono ?_
  rintro e w' ⟨c, lc, cc, rfl, hr, hB⟩
  refine ⟨_, rfl, ⟨c, lc, cc, ?_, ?_⟩, hB⟩
  · have hl := (row_fn hr).1
    have e1 : ((decide (x < 0) != decide (y < 0)) && decide (0 < lc)) = decide (x * y < 0) := by
      rw [Bool.eq_iff_iff]
      simp only [Bool.and_eq_true, decide_eq_true_eq]
      have h0 : 0 < lc ↔ x.natAbs * y.natAbs ≠ 0 := by
        rw [hl, List.length_pos_iff, Ne, limbs_eq_nil (by omega)]
      rw [h0]
      rcases Int.lt_trichotomy x 0 with hx | hx | hx <;> rcases Int.lt_trichotomy y 0 with hy | hy | hy
      · have := Int.mul_pos_of_neg_of_neg hx hy
        simp [hx, hy]; omega
      · subst hy; simp
      · have := Int.mul_neg_of_neg_of_pos hx hy
        have h1 : ¬ y < 0 := by omega
        simp only [hx, h1, decide_true, decide_false, this, iff_true]
        exact ⟨rfl, Nat.mul_ne_zero (by omega) (by omega)⟩
      · subst hx; simp
      · subst hx; simp
      · subst hx; simp
      · have := Int.mul_neg_of_pos_of_neg hx hy
        have h1 : ¬ x < 0 := by omega
        simp only [hy, h1, decide_true, decide_false, this, iff_true]
        exact ⟨rfl, Nat.mul_ne_zero (by omega) (by omega)⟩
      · subst hy; simp
      · have := Int.mul_pos hx hy
        have h1 : ¬ x < 0 := by omega
        have h2 : ¬ y < 0 := by omega
        simp [h1, h2]; omega
    rw [e1]
  · rw [Int.natAbs_mul]; exact hr
end Go.Proofs.YtjmmnpfedhkjbaaDoor
namespace Go.Proofs.YtjmmnpfedhkjbaaDoor
open Go.RowKit Go.Shelf

attribute [local go_sem] Oper.semAt_some

/-- A number whose text is no longer than Parse takes. -/
def Small (z : Int) : Prop := (decZ z).length ≤ 2000

theorem Small.good {z : Int} (h : Small z) : good (decZ z) = true ∧ valZ (decZ z) = z := dec_good h
theorem Small.size {z : Int} (h : Small z) : szB z ≤ 1000000000 := by
  have := good_size h.good.1 (B := 10000) (by omega)
  rw [h.good.2] at this
  unfold szB; omega
theorem Small.words {z : Int} (h : Small z) : (limbs B64 z.natAbs).length < 1099511627776 := by
  have := good_size h.good.1 (B := B64) (by unfold B64; omega)
  rw [h.good.2] at this
  omega

set_option maxRecDepth 100000 in
set_option maxHeartbeats 1000000 in
theorem given_c (v : Value) (z : Int) (w : World) (h : IsBig w v z) (hz : Small z) :
    Calls Tryd.prog 14 #[v] w fun e w' => ∃ u, e = .returned u ∧ IsInt w' u z ∧ Below w.heap.size w w' := by
  obtain ⟨a, la, ca, rfl⟩ := h.form
  obtain ⟨s, hs⟩ : ∃ s, decide (z < 0) = s := ⟨_, rfl⟩
  rw [hs] at h ⊢
  clear hs
  obtain ⟨S, hS⟩ : ∃ S : ByteArray, (⟨(decZ z).toArray⟩ : ByteArray) = S := ⟨_, rfl⟩
  obtain ⟨W0, hW0⟩ : ∃ W0, (w.alloc (.cells #[.slice a la ca, .bool s] 30)).alloc (.cells #[.bool false, .slice none 0 0] 25) = W0 := ⟨_, rfl⟩
  have hB0 : Below w.heap.size w W0 := by rw [← hW0]; exact below_2 w _ _
  have b0 : Box2 W0 w.heap.size 30 (.slice a la ca) (.bool s) := by rw [← hW0]; exact (Box2.new w _ _ _).alloc _
  have bR : Box2 W0 (w.heap.size + 1) 25 (.bool false) (.slice none 0 0) := by
    have h := Box2.new (w.alloc (.cells #[.slice a la ca, .bool s] 30)) 25 (.bool false) (.slice none 0 0)
    rw [World.size_alloc, hW0] at h; exact h
  have HT := hidD (show Calls Tryd.prog 9 #[.agg #[.slice a la ca, .bool s]] W0 fun e w' => e = .returned (.string S) ∧ Below W0.heap.size W0 w' by
    have h1 := text_c _ z W0 (h.below hB0) hz.size
    rw [hS] at h1
    exact h1)
  have HP := hidD (fun (V : World) => show Calls Tryd.prog 6 #[.string S] V fun e w' => ∃ u, e = .returned (.tuple #[u, .bool true]) ∧ IsInt w' u z ∧ Below V.heap.size V w' by
    have hw : wlst S = decZ z := by rw [← hS]; rfl
    have hl : S.size ≤ 2000 := by
      rw [← wlst_length, hw]; exact hz
    refine (iparse_c S (by omega) V).mono ?_
    rw [hw]
    rintro e w' ⟨q1, _, q3⟩
    obtain ⟨u, e1, hu⟩ := q1 hz.good.1
    rw [hz.good.2] at hu
    exact ⟨u, e1, hu, q3⟩)
  have k0 := b0.c0
  have k1 := b0.c1
  clear h hS
  go_enter Tryd.func14, Tryd.ntmps14
  go_upto_region 2 with (first
    | (go_at_call 9; refine HT.out.mono ?_; rintro e w1 ⟨rfl, hb1⟩)
    | (go_at_call 6; refine (HP.out _).mono ?_; rintro e w2 ⟨u, rfl, hu, hb2⟩; obtain ⟨ua, ul, uc, rfl⟩ := hu.form; obtain ⟨t, ht⟩ : ∃ t, decide (z < 0) = t := ⟨_, rfl⟩; rw [ht] at hu; rw [ht]; clear ht))
  clear hW0
  have hq : Below W0.heap.size W0 w2 := Below.then hb1 hb2
  have bC := Box2.new w2 25 (.bool t) (.slice ua ul uc)
  have rR := (bR.below hq).alloc (.cells #[.bool t, .slice ua ul uc] 25)
  have m0 := bC.c0
  have m1 := bC.c1
  have r0 := rR.c0
  have r1 := rR.c1
  have f0 := rR.f0
  have f1 := rR.f1
  have hB2 : Below w.heap.size w (w2.alloc (.cells #[.bool t, .slice ua ul uc] 25)) := by
    have h1 := hB0.trans (hq.mono hB0.size)
    exact h1.alloc h1.size _
  have hfin := (hu.alloc (.cells #[.bool t, .slice ua ul uc] 25)).box rR rfl rfl (x0 := .bool t) (x1 := .slice ua ul uc)
  go_wp2_with fail
  exact bodyPost_ret (v := .agg #[.bool t, .slice ua ul uc]) (by simp [results, Tryd.results14, go_sem, r0, r1]) rfl ⟨_, rfl, hfin, (hB2.setCell (p := ⟨_, 0, none⟩) (by simp only; omega) _).setCell (p := ⟨_, 1, none⟩) (by simp only; omega) _⟩
end Go.Proofs.YtjmmnpfedhkjbaaDoor
namespace Go.Proofs.YtjmmnpfedhkjbaaDoor
open Go.RowKit Go.Shelf

attribute [local go_sem] Oper.semAt_some

theorem wlst_back (s : ByteArray) : (⟨(wlst s).toArray⟩ : ByteArray) = s := by
  apply ByteArray.ext
  simp [wlst]

theorem int_szB {n : Int} (h1 : -9223372036854775808 ≤ n) (h2 : n ≤ 9223372036854775807) : szB n ≤ 1000000000 := by
  have h3 : (10000 : Nat) ^ 5 = 100000000000000000000 := by decide
  have h4 := limbs_length_le (B := 10000) (by omega) (n := n.natAbs) (k := 5) (by omega)
  unfold szB
  omega

set_option maxRecDepth 100000 in
set_option maxHeartbeats 1000000 in
theorem wholeTexts_good (s : ByteArray) (hs : s.size ≤ 140737488351232) (n : Int) (h1 : -9223372036854775808 ≤ n) (h2 : n ≤ 9223372036854775807) (hg : good (wlst s) = true) (w : World) (htab : Lib.TabIs Tryd.prog w "internal/strconv.uint64pow10" .u64 Lib.pow10Tab) :
    Calls Tryd.prog 3 #[.string s, .int .i64 n] w fun e w' => e = .returned (.bool true) ∧ Below w.heap.size w w' := by
  have HT := hidD htab
  have HG := hidD hg
  have HTX := hidD (show (⟨(decZ (valZ (wlst s))).toArray⟩ : ByteArray) = s by rw [good_dec hg, wlst_back])
  have HZ := hidD (show szB (valZ (wlst s)) ≤ 1000000000 by
    have := good_size hg (B := 10000) (by omega)
    unfold szB; omega)
  clear htab hg
  generalize hz : valZ (wlst s) = z at *
  have HV := hidD hz
  clear hz
  go_enter Tryd.func3, Tryd.ntmps3
  go_upto_region 3 with (first
    | (go_at_call 6; refine (iparse_c s hs _).mono ?_; rintro e w1 ⟨q1, _, hb1⟩; obtain ⟨u, rfl, hu⟩ := q1 HG.out; rw [HV.out] at hu; clear q1; obtain ⟨ua, ul, uc, rfl⟩ := hu.form)
    | (go_at_call 7; refine (parse_c s hs _).mono ?_; rintro e w2 ⟨q1, _, hb2⟩; obtain ⟨v, rfl, hv⟩ := q1 HG.out; have hv : IsBig w2 v z := (by rw [← HV.out]; exact hv); clear q1; obtain ⟨va, vl, vc, rfl, hv1⟩ := id hv))
  obtain ⟨t, ht⟩ : ∃ t, decide (z < 0) = t := ⟨_, rfl⟩
  rw [ht] at hu hv ⊢
  obtain ⟨W0, hW0⟩ : ∃ W0, w2.alloc (.cells #[.slice va vl vc, .bool t] 30) = W0 := ⟨_, rfl⟩
  have hb2' : Below w1.heap.size w1 w2 := by rw [ht] at hb2; exact ((Below.refl _ w1).alloc (Nat.le_refl _) _).trans (hb2.mono (by simp))
  have bA : Box2 W0 w1.heap.size 25 (.bool t) (.slice ua ul uc) := by rw [← hW0]; rw [ht] at hb2; exact ((Box2.new w1 _ _ _).below hb2).alloc _
  have bB : Box2 W0 w2.heap.size 30 (.slice va vl vc) (.bool t) := by rw [← hW0]; exact Box2.new _ _ _ _
  have x2 : IsInt W0 (.agg #[.bool t, .slice ua ul uc]) z := by rw [← hW0]; exact (hu.below hb2').alloc _
  have x3 : IsBig W0 (.agg #[.slice va vl vc, .bool t]) z := by rw [← hW0]; exact hv.below ((Below.refl _ w2).alloc (Nat.le_refl _) _)
  have hB : Below w.heap.size w W0 := by rw [← hW0]; exact (hb1.trans (hb2'.mono hb1.size)).alloc (Nat.le_trans hb1.size hb2'.size) _
  obtain ⟨B5, hB5⟩ : ∃ B5, B5 = w1.heap.size := ⟨_, rfl⟩
  obtain ⟨B7, hB7⟩ : ∃ B7, B7 = w2.heap.size := ⟨_, rfl⟩
  rw [hW0]
  rw [← hB5] at bA ⊢
  rw [← hB7] at bB ⊢
  clear hu hv hv1 hb1 hb2 hb2' hW0 hB5 hB7 ht
  have TI := hidD (fun (V : World) (h : Below W0.heap.size W0 V) => show Calls Tryd.prog 8 #[.agg #[.bool t, .slice ua ul uc]] V fun e w' => e = .returned (.string s) ∧ Below V.heap.size V w' by
    have h1 := itext_c _ z V (x2.below h) (tab_below HT.out (hB.trans (h.mono hB.size)))
    rw [HTX.out] at h1
    exact h1)
  have TR := hidD (fun (V : World) (h : Below W0.heap.size W0 V) => show Calls Tryd.prog 9 #[.agg #[.slice va vl vc, .bool t]] V fun e w' => e = .returned (.string s) ∧ Below V.heap.size V w' by
    have h1 := text_c _ z V (x3.below h) HZ.out
    rw [HTX.out] at h1
    exact h1)
  have hq : Below W0.heap.size W0 W0.drew := (Below.refl _ W0).drew
  have k0 := bA.c0
  have k1 := bA.c1
  have k2 := bB.c0
  have k3 := bB.c1
  clear x2 x3
  go_region_held3 (fun w' => w'.cell? ⟨B5, 0, none⟩ = some (.bool t) ∧ w'.cell? ⟨B5, 1, none⟩ = some (.slice ua ul uc) ∧ w'.cell? ⟨B7, 0, none⟩ = some (.slice va vl vc) ∧ w'.cell? ⟨B7, 1, none⟩ = some (.bool t)) (refine ⟨?_, ?_, ?_, ?_⟩ <;> (go_keep; done))
    (first
      | (go_at_call 8; refine (TI.out _ hq).mono ?_; rintro e w5 ⟨rfl, hb5⟩; have hq := Below.then hq hb5; have k0 := (bA.below hq).c0; have k1 := (bA.below hq).c1; have k2 := (bB.below hq).c0; have k3 := (bB.below hq).c1)
      | (go_at_call 9; refine (TR.out _ hq).mono ?_; rintro e w5 ⟨rfl, hb5⟩; have hq := Below.then hq hb5; have k0 := (bA.below hq).c0; have k1 := (bA.below hq).c1; have k2 := (bB.below hq).c0; have k3 := (bB.below hq).c1))
  have hW5 : Below w.heap.size w w5 := hB.trans (hq.mono hB.size)
  clear bA bB TI TR hB
  go_upto_region 7 with (go_at_call 10; refine (iof_c n h1 h2 _).mono ?_; rintro e w6 ⟨u6, rfl, hu6, hb6⟩; obtain ⟨ca, cl, cc, rfl⟩ := hu6.form)
  have hW6 : Below w.heap.size w w6 := Below.then hW5 hb6
  obtain ⟨r, hr⟩ : ∃ r, decide (n < 0) = r := ⟨_, rfl⟩
  rw [hr] at hu6 ⊢
  obtain ⟨W7, hW7⟩ : ∃ W7, (w6.alloc (.cells #[.bool r, .slice ca cl cc] 25)).alloc (.cells #[.bool false, .slice none 0 0] 25) = W7 := ⟨_, rfl⟩
  have bC : Box2 W7 w6.heap.size 25 (.bool r) (.slice ca cl cc) := by rw [← hW7]; exact (Box2.new _ _ _ _).alloc _
  have bN : Box2 W7 (w6.heap.size + 1) 25 (.bool false) (.slice none 0 0) := by
    have h1 := Box2.new (w6.alloc (.cells #[.bool r, .slice ca cl cc] 25)) 25 (.bool false) (.slice none 0 0)
    rw [World.size_alloc, hW7] at h1
    exact h1
  have hB7 : Below w.heap.size w W7 := by rw [← hW7]; exact (hW6.alloc hW6.size _).alloc (by have := hW6.size; simp; omega) _
  have y2 : IsInt W7 (.agg #[.bool r, .slice ca cl cc]) n := by rw [← hW7]; exact (hu6.alloc _).alloc _
  obtain ⟨S, hS⟩ : ∃ S : ByteArray, (⟨(decZ n).toArray⟩ : ByteArray) = S := ⟨_, rfl⟩
  have CI := hidD (fun (V : World) (h : Below W7.heap.size W7 V) => show Calls Tryd.prog 8 #[.agg #[.bool r, .slice ca cl cc]] V fun e w' => e = .returned (.string S) ∧ Below V.heap.size V w' by
    have h1 := itext_c _ n V (y2.below h) (tab_below HT.out (hB7.trans (h.mono hB7.size)))
    rw [hS] at h1
    exact h1)
  have CR := hidD (fun (V : World) (v : Value) (h : IsBig V v n) => show Calls Tryd.prog 9 #[v] V fun e w' => e = .returned (.string S) ∧ Below V.heap.size V w' by
    have h1 := text_c _ n V h (int_szB h1 h2)
    rw [hS] at h1
    exact h1)
  have CA := hidD (fun (V : World) (h : Below W7.heap.size W7 V) => alive_c V (tab_below HT.out (hB7.trans (h.mono hB7.size))))
  have hq : Below W7.heap.size W7 W7 := Below.refl _ W7
  obtain ⟨B9, hB9⟩ : ∃ B9, B9 = w6.heap.size := ⟨_, rfl⟩
  rw [hW7]
  rw [← hB9] at bC bN ⊢
  have k0 := bC.c0
  have k1 := bC.c1
  have k2 := bN.c0
  have k3 := bN.c1
  clear hW5 hW6 hb6 hu6 hW7 hB9 y2 hS hr
  go_wp2_with (first
    | (go_at_call 8; refine (CI.out _ hq).mono ?_; clear CI; rintro e w8 ⟨rfl, hb8⟩; have hq := Below.then hq hb8; have k0 := (bC.below hq).c0; have k1 := (bC.below hq).c1; have k2 := (bN.below hq).c0; have k3 := (bN.below hq).c1)
    | (go_at_call 8; refine (itext_0 none 0 _).mono ?_; rintro e w8 ⟨rfl, hb8⟩; have hq := Below.then hq hb8)
    | (go_at_call 11; refine (of_c n h1 h2 _).mono ?_; rintro e w8 ⟨v8, rfl, hv8, hb8⟩; have hq := Below.then hq hb8; have k0 := (bC.below hq).c0; have k1 := (bC.below hq).c1; have k2 := (bN.below hq).c0; have k3 := (bN.below hq).c1)
    | (go_at_call 9; refine (CR.out _ _ hv8).mono ?_; rintro e w8 ⟨rfl, hb8⟩; have hq := Below.then hq hb8; have k0 := (bC.below hq).c0; have k1 := (bC.below hq).c1; have k2 := (bN.below hq).c0; have k3 := (bN.below hq).c1)
    | (go_at_call 12; refine (CA.out _ hq).mono ?_; rintro e w8 ⟨rfl, hb8⟩; have hq := Below.then hq hb8))
  go_ret
  exact ⟨rfl, hB7.trans (hq.mono hB7.size)⟩
end Go.Proofs.YtjmmnpfedhkjbaaDoor
namespace Go.Proofs.YtjmmnpfedhkjbaaDoor
open Go.RowKit Go.Shelf

attribute [local go_sem] Oper.semAt_some

theorem szB_pow {N k : Nat} (h : N < 256 ^ k) : szB (N : Int) ≤ k := by
  unfold szB
  rw [Int.natAbs_natCast]
  exact limbs_length_le (by omega) (Nat.lt_of_lt_of_le h (Nat.pow_le_pow_left (by omega) k))

theorem decN_pow {N k : Nat} (h : N < 256 ^ k) : (decN N).length ≤ 3 * k + 1 := by
  unfold decN
  split
  · simp
  · rw [txt_length]
    have h1 : 256 ^ k ≤ 10 ^ (3 * k) := by
      rw [Nat.pow_mul]
      exact Nat.pow_le_pow_left (by decide) k
    have := limbs_length_le (B := 10) (by omega) (Nat.lt_of_lt_of_le h h1)
    omega

theorem small_pow {N k : Nat} (h : N < 256 ^ k) (hk : k ≤ 300) : Small (N : Int) ∧ Small (-(N : Int)) := by
  have h1 := decN_pow h
  constructor
  · unfold Small decZ
    rw [if_neg (by omega), Int.natAbs_natCast]; omega
  · unfold Small decZ
    rw [Int.natAbs_neg, Int.natAbs_natCast]
    split
    · rw [List.length_cons]; omega
    · omega

theorem pow_step {N i c : Nat} (h : N < 256 ^ i) (hc : c < 256) : N * 256 < 256 ^ (i + 1) ∧ N * 256 + c < 256 ^ (i + 1) := by
  rw [Nat.pow_succ]
  have := Nat.mul_le_mul_right 256 (show N + 1 ≤ 256 ^ i from h)
  omega

set_option maxRecDepth 100000 in
set_option maxHeartbeats 1000000 in
theorem read_good (s : ByteArray) (hs : s.size ≤ 140737488351232) (hg : good (wlst s) = true) (w : World) :
    Calls Tryd.prog 13 #[.string s] w fun e w' => ∃ u z, e = .returned u ∧ IsBig w' u z ∧ Small z ∧ Below w.heap.size w w' := by
  have HS := hidD (show Small (valZ (wlst s)) by
    unfold Small
    rw [good_dec hg]
    simp only [good, Bool.and_eq_true, decide_eq_true_eq] at hg
    exact hg.1.1.1)
  have HP := hidD (fun (V : World) => show Calls Tryd.prog 7 #[.string s] V fun e w' => ∃ u, e = .returned (.tuple #[u, .bool true]) ∧ IsBig w' u (valZ (wlst s)) ∧ Below V.heap.size V w' by
    refine (parse_c s hs V).mono ?_
    rintro e w' ⟨q1, _, q3⟩
    obtain ⟨u, e1, hu⟩ := q1 hg
    exact ⟨u, e1, hu, q3⟩)
  generalize valZ (wlst s) = z at *
  have bR := Box2.new w 30 (.slice none 0 0) (.bool false)
  have hB0 : Below w.heap.size w (w.alloc (.cells #[.slice none 0 0, .bool false] 30)) := (Below.refl _ w).alloc (Nat.le_refl _) _
  go_enter Tryd.func13, Tryd.ntmps13
  go_upto_region 2 with (go_at_call 7; refine (HP.out _).mono ?_; rintro e w2 ⟨u, rfl, hu, hb2⟩; obtain ⟨ua, ul, uc, rfl⟩ := hu.form; obtain ⟨t, ht⟩ : ∃ t, decide (z < 0) = t := ⟨_, rfl⟩; rw [ht] at hu; rw [ht]; clear ht)
  have bC := Box2.new w2 30 (.slice ua ul uc) (.bool t)
  have rR := (bR.below hb2).alloc (.cells #[.slice ua ul uc, .bool t] 30)
  have m0 := bC.c0
  have m1 := bC.c1
  have r0 := rR.c0
  have r1 := rR.c1
  have f0 := rR.f0
  have f1 := rR.f1
  have hB2 : Below w.heap.size w (w2.alloc (.cells #[.slice ua ul uc, .bool t] 30)) := by
    have h1 := Below.then hB0 hb2
    exact h1.alloc h1.size _
  have hfin := (hu.alloc (.cells #[.slice ua ul uc, .bool t] 30)).box rR rfl rfl (x0 := .slice ua ul uc) (x1 := .bool t)
  go_wp2_with fail
  exact bodyPost_ret (v := .agg #[.slice ua ul uc, .bool t]) (by simp [results, Tryd.results13, go_sem, r0, r1]) rfl ⟨_, z, rfl, hfin, HS.out, (hB2.setCell (p := ⟨_, 0, none⟩) (Nat.le_refl _) _).setCell (p := ⟨_, 1, none⟩) (Nat.le_refl _) _⟩

theorem IsBig.drew {W : World} {v : Value} {z : Int} (h : IsBig W v z) : IsBig W.drew v z := h

set_option maxRecDepth 100000 in
set_option maxHeartbeats 2000000 in
theorem read_bad (s : ByteArray) (hs : s.size ≤ 140737488351232) (hg : good (wlst s) = false) (w : World) :
    Calls Tryd.prog 13 #[.string s] w fun e w' => ∃ u z, e = .returned u ∧ IsBig w' u z ∧ Small z ∧ Below w.heap.size w w' := by
  have hmx : Tryd.prog.follows .mixedOrders = true := by kernel_rfl
  have HP := hidD (fun (V : World) => show Calls Tryd.prog 7 #[.string s] V fun e w' => e = .returned (.tuple #[.agg #[.slice none 0 0, .bool false], .bool false]) ∧ Below V.heap.size V w' by
    refine (parse_c s hs V).mono ?_
    rintro e w' ⟨_, q1, q3⟩
    exact ⟨q1 hg, q3⟩)
  have bR := Box2.new w 30 (.slice none 0 0) (.bool false)
  have hB0 : Below w.heap.size w (w.alloc (.cells #[.slice none 0 0, .bool false] 30)) := (Below.refl _ w).alloc (Nat.le_refl _) _
  go_enter Tryd.func13, Tryd.ntmps13
  go_wp2_with (first
    | (go_at_call 7; refine (HP.out _).mono ?_; rintro e w2 ⟨rfl, hb2⟩)
    | (go_at_call 11; refine (of_c 0 (by omega) (by omega) _).mono ?_; rintro e w3 ⟨u, rfl, hu, hb3⟩; obtain ⟨ua, ul, uc, rfl⟩ := hu.form))
  have hB3 : Below w.heap.size w w3 := by
    have h1 := Below.then hB0 hb2
    exact (h1.alloc h1.size _).trans (hb3.mono (by have := h1.size; simp; omega))
  have rR : Box2 (w3.alloc (.cells #[.slice ua ul uc, .bool false] 30)) w.heap.size 30 (.slice none 0 0) (.bool false) := (((bR.below hb2).alloc _).below hb3).alloc _
  have bN := Box2.new w3 30 (.slice ua ul uc) (.bool false)
  have hu0 : IsBig (w3.alloc (.cells #[.slice ua ul uc, .bool false] 30)) (.agg #[.slice ua ul uc, .bool false]) ((0 : Nat) : Int) := hu.alloc _
  have hB4 : Below w.heap.size w (w3.alloc (.cells #[.slice ua ul uc, .bool false] 30)) := hB3.alloc hB3.size _
  obtain ⟨B5, hB5⟩ : ∃ B5, B5 = w3.heap.size := ⟨_, rfl⟩
  have hB5w : w.heap.size < B5 := by have h1 := hb2.size; have h2 := hb3.size; simp at h1 h2; omega
  rw [← hB5] at bN ⊢
  clear bR hb2 hb3 hB0 hB3 hu hB5
  go_loopw [6] (fun iv wr => ∃ (i N : Nat) (na : Option Addr) (nl nc : Nat), iv = .int .i64 i ∧ i ≤ s.size ∧ i ≤ 300 ∧ Hid (N < 256 ^ i) ∧ Box2 wr B5 30 (.slice na nl nc) (.bool false) ∧ IsBig wr (.agg #[.slice na nl nc, .bool false]) (N : Int) ∧ Box2 wr w.heap.size 30 (.slice none 0 0) (.bool false) ∧ Below w.heap.size w wr)
    (fun iv _ => s.size - (intOf iv).toNat)
  case atStart => exact ⟨0, 0, ua, ul, uc, rfl, Nat.zero_le _, Nat.zero_le _, by show 0 < 256 ^ 0; decide, bN, hu0, rR, hB4⟩
  case round =>
    clear rR bN hu0 hB4
    obtain ⟨i, N, na, nl, nc, rfl, hi, hi3, HN, bN, hu, rR, hB⟩ := hrel
    by_cases hlt : i < s.size ∧ i < 300
    · obtain ⟨hl1, hl2⟩ := hlt
      have m0 := bN.c0
      have m1 := bN.c1
      have hsz := szB_pow HN.out
      have hcb : s[i].toNat < 256 := s[i].toNat_lt
      have HST := hidD (pow_step HN.out hcb)
      have hsz2 : szB ((N : Int) * 256) ≤ 1000000000 := by
        have := szB_pow HST.out.1
        rw [show ((N * 256 : Nat) : Int) = (N : Int) * 256 from by omega] at this
        omega
      have hszc : szB ((s[i].toNat : Nat) : Int) ≤ 1000000000 := int_szB (by omega) (by omega)
      have hsz6 : szB 256 ≤ 1000000000 := int_szB (by omega) (by omega)
      have hwr : IntKind.i64.wrap ((s[i].toNat : Nat) : Int) = ((s[i].toNat : Nat) : Int) := by
        simp [IntKind.wrap, IntKind.signed, IntKind.bits]; omega
      have hd3 : decide ((i : Int) < 300) = true := decide_eq_true (by omega)
      have H6 := hidD (fun (V : World) => of_c 256 (by omega) (by omega) V)
      have HC := hidD (fun (V : World) => of_c ((s[i].toNat : Nat) : Int) (by omega) (by omega) V)
      have HTM := hidD (fun (V : World) (u6 : Value) (hN : IsBig V (.agg #[.slice na nl nc, .bool false]) (N : Int)) (h6 : IsBig V u6 256) => rtimes_c _ u6 (N : Int) 256 V hN h6 (by omega) hsz6)
      have HSM := hidD (fun (V : World) (ut uc : Value) (h1 : IsBig V ut ((N : Int) * 256)) (h2 : IsBig V uc ((s[i].toNat : Nat) : Int)) => sum_c ut uc _ _ V h1 h2 hsz2 hszc)
      clear hsz hsz2 hszc hsz6
      go_upto_region 8 with fail
      refine wp_region_tab hmx [[], [], [0, 1, 1], [], [], [3, 4], [5], [6, 2], [2, 7, 7], [8, 8, 0, 1, 2, 3, 4, 5, 6, 7, 8]] (by kernel_rfl) (by decide)
        (fun D a V => ∃ t25 t26 t27 t28 t29 t30 t31 t32 t33 : Value, a = { tmps := #[.string s, undef, .pointer (some ⟨w.heap.size, 0, none⟩), .pointer (some ⟨w2.heap.size, 0, none⟩), .bool false, .pointer (some ⟨B5, 0, none⟩), .int .i64 i, .tuple #[.agg #[.slice none 0 0, .bool false], .bool false], .string s, .tuple #[.agg #[.slice none 0 0, .bool false], .bool false], .agg #[.slice none 0 0, .bool false], .bool false, .bool false, undef, .agg #[.slice ua ul uc, .bool false], .int .i64 i, .string s, .int .i64 s.size, .bool true, .bool true, .int .i64 i, .bool true, .bool true, u23, u24, t25, t26, t27, t28, t29, t30, t31, t32, t33, undef, undef, undef, undef, undef, undef, undef], defers := [] } ∧
        (D 0 = true → t25 = .agg #[.slice na nl nc, .bool false]) ∧ (D 1 = true → IsBig V t26 256) ∧ (D 2 = true → IsBig V t27 ((N : Int) * 256)) ∧ (D 3 = true → t28 = .string s) ∧ (D 4 = true → t29 = .int .i64 i) ∧ (D 5 = true → t30 = .int .u8 ((s[i].toNat : Nat) : Int)) ∧ (D 6 = true → t31 = .int .i64 ((s[i].toNat : Nat) : Int)) ∧ (D 7 = true → IsBig V t32 ((s[i].toNat : Nat) : Int)) ∧ (D 8 = true → IsBig V t33 ((N : Int) * 256 + ((s[i].toNat : Nat) : Int))) ∧ (D 9 = false → Box2 V B5 30 (.slice na nl nc) (.bool false) ∧ IsBig V (.agg #[.slice na nl nc, .bool false]) (N : Int)) ∧ (D 9 = true → ∃ a9 l9 c9, t33 = .agg #[.slice a9 l9 c9, .bool false] ∧ Box2 V B5 30 (.slice a9 l9 c9) (.bool false)) ∧
        Box2 V w.heap.size 30 (.slice none 0 0) (.bool false) ∧ Below w.heap.size w V)
        ⟨_, _, _, _, _, _, _, _, _, rfl, by simp, by simp, by simp, by simp, by simp, by simp, by simp, by simp, by simp, fun _ => ⟨bN.drew, hu.drew⟩, by simp, rR.drew, hB.drew⟩ ?step ?fin
      case step =>
        clear rR hB bN hu
        rintro D a V j ds hcl2 hi2 hds hDi ⟨t25, t26, t27, t28, t29, t30, t31, t32, t33, rfl, g0, g1, g2, g3, g4, g5, g6, g7, g8, g9, g10, hr, hB⟩
        have hi6 : j < 10 := (List.getElem?_eq_some_iff.1 hi2).1
        obtain rfl | rfl | rfl | rfl | rfl | rfl | rfl | rfl | rfl | rfl : j = 0 ∨ j = 1 ∨ j = 2 ∨ j = 3 ∨ j = 4 ∨ j = 5 ∨ j = 6 ∨ j = 7 ∨ j = 8 ∨ j = 9 := by omega
        all_goals
          simp only [List.getElem?_cons_zero, List.getElem?_cons_succ, Option.some.injEq] at hi2
          subst hi2
          clear hi6
        · have hf : D 9 = false := by
            cases h : D 9 with
            | false => rfl
            | true => rw [hcl2 9 _ rfl h 0 (by simp)] at hDi; cases hDi
          have k0 := (g9 hf).1.c0
          have k1 := (g9 hf).1.c1
          clear hds hcl2
          refine wpOp_go rfl rfl (fun K hK => ?_)
          go_simp
          exact hK _ _ ⟨_, _, _, _, _, _, _, _, _, rfl, fun _ => rfl, (by first | exact g1 | exact fun _ => rfl), (by first | exact g2 | exact fun _ => rfl), (by first | exact g3 | exact fun _ => rfl), (by first | exact g4 | exact fun _ => rfl), (by first | exact g5 | exact fun _ => rfl), (by first | exact g6 | exact fun _ => rfl), (by first | exact g7 | exact fun _ => rfl), (by first | exact g8 | exact fun _ => rfl), (by first | exact g9 | exact fun _ => rfl), (by first | exact g10 | exact fun _ => rfl), hr, hB⟩
        · have hf : D 9 = false := by
            cases h : D 9 with
            | false => rfl
            | true => rw [hcl2 9 _ rfl h 1 (by simp)] at hDi; cases hDi
          clear hds hcl2
          refine wpOp_go rfl rfl (fun K hK => ?_)
          go_simp
          go_wp2_with (go_at_call 11; refine (H6.out _).mono ?_; rintro e w8 ⟨v8, rfl, hv8, hb8⟩)
          exact ⟨_, _, _, _, _, _, _, _, _, rfl, g0, fun _ => hv8, fun h => (g2 h).below hb8, g3, g4, g5, g6, fun h => (g7 h).below hb8, fun h => (g8 h).below hb8, fun _ => ⟨(g9 hf).1.below hb8, (g9 hf).2.below hb8⟩, fun h => by simp [hf] at h, hr.below hb8, Below.then hB hb8⟩
        · have hf : D 9 = false := by
            cases h : D 9 with
            | false => rfl
            | true => rw [hcl2 9 _ rfl h 2 (by simp)] at hDi; cases hDi
          obtain rfl := g0 (hds 0 (by simp))
          have h6 := g1 (hds 1 (by simp))
          have hN := (g9 hf).2
          clear hds hcl2
          refine wpOp_go rfl rfl (fun K hK => ?_)
          go_simp
          go_wp2_with (go_at_call 22; refine (HTM.out _ _ hN h6).mono ?_; rintro e w8 ⟨v8, rfl, hv8, hb8⟩)
          exact ⟨_, _, _, _, _, _, _, _, _, rfl, fun _ => rfl, fun h => (g1 h).below hb8, fun _ => hv8, g3, g4, g5, g6, fun h => (g7 h).below hb8, fun h => (g8 h).below hb8, fun _ => ⟨(g9 hf).1.below hb8, (g9 hf).2.below hb8⟩, fun h => by simp [hf] at h, hr.below hb8, Below.then hB hb8⟩
        · clear hds hcl2
          refine wpOp_go rfl rfl (fun K hK => ?_)
          go_simp
          exact hK _ _ ⟨_, _, _, _, _, _, _, _, _, rfl, (by first | exact g0 | exact fun _ => rfl), (by first | exact g1 | exact fun _ => rfl), (by first | exact g2 | exact fun _ => rfl), fun _ => rfl, (by first | exact g4 | exact fun _ => rfl), (by first | exact g5 | exact fun _ => rfl), (by first | exact g6 | exact fun _ => rfl), (by first | exact g7 | exact fun _ => rfl), (by first | exact g8 | exact fun _ => rfl), (by first | exact g9 | exact fun _ => rfl), (by first | exact g10 | exact fun _ => rfl), hr, hB⟩
        · clear hds hcl2
          refine wpOp_go rfl rfl (fun K hK => ?_)
          go_simp
          exact hK _ _ ⟨_, _, _, _, _, _, _, _, _, rfl, (by first | exact g0 | exact fun _ => rfl), (by first | exact g1 | exact fun _ => rfl), (by first | exact g2 | exact fun _ => rfl), (by first | exact g3 | exact fun _ => rfl), fun _ => rfl, (by first | exact g5 | exact fun _ => rfl), (by first | exact g6 | exact fun _ => rfl), (by first | exact g7 | exact fun _ => rfl), (by first | exact g8 | exact fun _ => rfl), (by first | exact g9 | exact fun _ => rfl), (by first | exact g10 | exact fun _ => rfl), hr, hB⟩
        · obtain rfl := g3 (hds 3 (by simp))
          obtain rfl := g4 (hds 4 (by simp))
          clear hds hcl2
          refine wpOp_go rfl rfl (fun K hK => ?_)
          go_simp
          exact hK _ _ ⟨_, _, _, _, _, _, _, _, _, rfl, (by first | exact g0 | exact fun _ => rfl), (by first | exact g1 | exact fun _ => rfl), (by first | exact g2 | exact fun _ => rfl), (by first | exact g3 | exact fun _ => rfl), (by first | exact g4 | exact fun _ => rfl), fun _ => rfl, (by first | exact g6 | exact fun _ => rfl), (by first | exact g7 | exact fun _ => rfl), (by first | exact g8 | exact fun _ => rfl), (by first | exact g9 | exact fun _ => rfl), (by first | exact g10 | exact fun _ => rfl), hr, hB⟩
        · obtain rfl := g5 (hds 5 (by simp))
          clear hds hcl2
          refine wpOp_go rfl rfl (fun K hK => ?_)
          go_simp
          exact hK _ _ ⟨_, _, _, _, _, _, _, _, _, rfl, (by first | exact g0 | exact fun _ => rfl), (by first | exact g1 | exact fun _ => rfl), (by first | exact g2 | exact fun _ => rfl), (by first | exact g3 | exact fun _ => rfl), (by first | exact g4 | exact fun _ => rfl), (by first | exact g5 | exact fun _ => rfl), fun _ => rfl, (by first | exact g7 | exact fun _ => rfl), (by first | exact g8 | exact fun _ => rfl), (by first | exact g9 | exact fun _ => rfl), (by first | exact g10 | exact fun _ => rfl), hr, hB⟩
        · have hf : D 9 = false := by
            cases h : D 9 with
            | false => rfl
            | true => rw [hcl2 9 _ rfl h 7 (by simp)] at hDi; cases hDi
          obtain rfl := g6 (hds 6 (by simp))
          clear hds hcl2
          refine wpOp_go rfl rfl (fun K hK => ?_)
          go_simp
          go_wp2_with (go_at_call 11; refine (HC.out _).mono ?_; rintro e w8 ⟨v8, rfl, hv8, hb8⟩)
          exact ⟨_, _, _, _, _, _, _, _, _, rfl, g0, fun h => (g1 h).below hb8, fun h => (g2 h).below hb8, g3, g4, g5, fun _ => rfl, fun _ => hv8, fun h => (g8 h).below hb8, fun _ => ⟨(g9 hf).1.below hb8, (g9 hf).2.below hb8⟩, fun h => by simp [hf] at h, hr.below hb8, Below.then hB hb8⟩
        · have hf : D 9 = false := by
            cases h : D 9 with
            | false => rfl
            | true => rw [hcl2 9 _ rfl h 8 (by simp)] at hDi; cases hDi
          have h2 := g2 (hds 2 (by simp))
          have h7 := g7 (hds 7 (by simp))
          clear hds hcl2
          refine wpOp_go rfl rfl (fun K hK => ?_)
          go_simp
          go_wp2_with (go_at_call 18; refine (HSM.out _ _ _ h2 h7).mono ?_; rintro e w8 ⟨v8, rfl, hv8, hb8⟩)
          exact ⟨_, _, _, _, _, _, _, _, _, rfl, g0, fun h => (g1 h).below hb8, fun h => (g2 h).below hb8, g3, g4, g5, g6, fun h => (g7 h).below hb8, fun _ => hv8, fun _ => ⟨(g9 hf).1.below hb8, (g9 hf).2.below hb8⟩, fun h => by simp [hf] at h, hr.below hb8, Below.then hB hb8⟩
        · have h8 := g8 (hds 8 (by simp))
          obtain ⟨bN, hN⟩ := g9 hDi
          obtain ⟨a9, l9, c9, rfl⟩ := h8.form
          have hs9 : decide ((N : Int) * 256 + ((s[i].toNat : Nat) : Int) < 0) = false := decide_eq_false (by omega)
          rw [hs9] at h8 ⊢
          have k0 := bN.c0
          have k1 := bN.c1
          have f0 := bN.f0
          have f1 := bN.f1
          clear hds hcl2 g9 g10 hs9
          refine wpOp_go rfl rfl (fun K hK => ?_)
          go_simp
          exact hK _ _ ⟨_, _, _, _, _, _, _, _, _, rfl, (by first | exact g0 | exact fun _ => rfl), fun h => (g1 h).box bN rfl rfl, fun h => (g2 h).box bN rfl rfl, (by first | exact g3 | exact fun _ => rfl), (by first | exact g4 | exact fun _ => rfl), (by first | exact g5 | exact fun _ => rfl), (by first | exact g6 | exact fun _ => rfl), fun h => (g7 h).box bN rfl rfl, fun _ => h8.box bN rfl rfl, fun h => by simp at h, fun _ => ⟨a9, l9, c9, rfl, (bN.set0 _).set1 _⟩, (hr.far (p := ⟨B5, 0, none⟩) (fun e => by simp only at e; omega) _).far (p := ⟨B5, 1, none⟩) (fun e => by simp only at e; omega) _, (hB.setCell (p := ⟨B5, 0, none⟩) (Nat.le_of_lt hB5w) _).setCell (p := ⟨B5, 1, none⟩) (Nat.le_of_lt hB5w) _⟩
      clear rR hB bN hu
      rintro D a w9 hDD ⟨t25, t26, t27, t28, t29, t30, t31, t32, t33, rfl, g0, g1, g2, g3, g4, g5, g6, g7, g8, g9, g10, hr, hB⟩
      obtain ⟨a9, l9, c9, rfl, hb9⟩ := g10 (hDD 9 (by decide))
      have h9 := g8 (hDD 8 (by decide))
      clear g0 g1 g2 g3 g4 g5 g6 g7 g8 g9 g10 hDD
      go_wp2
      exact ⟨⟨i + 1, N * 256 + s[i].toNat, a9, l9, c9, by simp, by omega, by omega, HST.out.2, hb9, by rw [show ((N * 256 + s[i].toNat : Nat) : Int) = (N : Int) * 256 + ((s[i].toNat : Nat) : Int) from by omega]; exact h9, hr, hB⟩, by simp [intOf]; omega⟩
    · have m0 := bN.c0
      have m1 := bN.c1
      have HS := hidD (small_pow HN.out hi3)
      have HNG := hidD (neg_c _ (N : Int) wr hu)
      have hcase : (¬ i < s.size) ∨ (i < s.size ∧ ¬ ((i : Int) < 300)) := by omega
      clear HN hlt
      have r0 := rR.c0
      have r1 := rR.c1
      have f0 := rR.f0
      have f1 := rR.f1
      have hodd : ((s.size : Int) % 2 = 1) ∨ ((s.size : Int) % 2 = 0) := by omega
      rcases hcase with hd1 | ⟨hd1, hd2⟩ <;> rcases hodd with ho | ho
      all_goals first
        | (go_wp2_with (go_at_call 32; refine HNG.out.mono ?_; rintro e w5 ⟨u5, rfl, hu5, hb5⟩; obtain ⟨a5, l5, c5, rfl⟩ := hu5.form; obtain ⟨s5, hs5⟩ : ∃ s5, decide (-(N : Int) < 0) = s5 := ⟨_, rfl⟩; rw [hs5] at hu5; rw [hs5]; clear hs5; have r0 := (rR.below hb5).c0; have r1 := (rR.below hb5).c1; have f0 := (rR.below hb5).f0; have f1 := (rR.below hb5).f1)
           have hq := Below.then hB hb5
           have hfin := hu5.box (rR.below hb5) rfl rfl (x0 := .slice a5 l5 c5) (x1 := .bool s5)
           first
             | exact bodyPost_ret (v := .agg #[.slice a5 l5 c5, .bool s5]) (by simp [results, Tryd.results13, go_sem, r0, r1]) rfl ⟨_, -(N : Int), rfl, hfin, HS.out.2, (hq.setCell (p := ⟨_, 0, none⟩) (Nat.le_refl _) _).setCell (p := ⟨_, 1, none⟩) (Nat.le_refl _) _⟩
             | exact bodyPost_ret (v := .agg #[.slice a5 l5 c5, .bool s5]) (by simp [results, Tryd.results13, go_sem, r0, r1]) rfl ⟨_, rfl, -(N : Int), hfin, HS.out.2, (hq.setCell (p := ⟨_, 0, none⟩) (Nat.le_refl _) _).setCell (p := ⟨_, 1, none⟩) (Nat.le_refl _) _⟩)
        | (go_wp2_with fail
           have hfin := hu.box rR rfl rfl (x0 := .slice na nl nc) (x1 := .bool false)
           first
             | exact bodyPost_ret (v := .agg #[.slice na nl nc, .bool false]) (by simp [results, Tryd.results13, go_sem, r0, r1]) rfl ⟨_, rfl, (N : Int), hfin, HS.out.1, (hB.setCell (p := ⟨_, 0, none⟩) (Nat.le_refl _) _).setCell (p := ⟨_, 1, none⟩) (Nat.le_refl _) _⟩
             | exact bodyPost_ret (v := .agg #[.slice na nl nc, .bool false]) (by simp [results, Tryd.results13, go_sem, r0, r1]) rfl ⟨_, (N : Int), rfl, hfin, HS.out.1, (hB.setCell (p := ⟨_, 0, none⟩) (Nat.le_refl _) _).setCell (p := ⟨_, 1, none⟩) (Nat.le_refl _) _⟩)

theorem lread_c (s : ByteArray) (hs : s.size ≤ 140737488351232) (w : World) :
    Calls Tryd.prog 13 #[.string s] w fun e w' => ∃ u z, e = .returned u ∧ IsBig w' u z ∧ Small z ∧ Below w.heap.size w w' := by
  cases hg : good (wlst s)
  · exact read_bad s hs hg w
  · exact read_good s hs hg w
end Go.Proofs.YtjmmnpfedhkjbaaDoor
namespace Go.Proofs.YtjmmnpfedhkjbaaDoor
open Go.RowKit Go.Shelf

attribute [local go_sem] Oper.semAt_some

theorem wpOp_yes {P : Program} {ops : Array Oper} {Q : Exit → Act → World → Prop} {i : Nat} {o : Oper} {K : Act → World → Prop} {a : Act} {w : World} (ho : ops[i]? = some o) (hw : Region.wanted o (yielded ops a.tmps) = true)
    (h : ∀ K' : Act → World → Prop, (∀ a w, K a w → K' a w) → o.wp P a w K' Q) : wpOp P ops Q i K a w := by
  unfold wpOp
  rw [ho]
  simp only [hw, if_true]
  exact Or.inl (h K (fun _ _ h => h))

theorem wpOp_no {P : Program} {ops : Array Oper} {Q : Exit → Act → World → Prop} {i : Nat} {o : Oper} {K : Act → World → Prop} {a : Act} {w : World} (ho : ops[i]? = some o) (hw : Region.wanted o (yielded ops a.tmps) = false)
    (h : K (a.put o.dst undef) w) : wpOp P ops Q i K a w := by
  unfold wpOp
  rw [ho]
  simp only [hw]
  exact h

theorem isBig0 (V : World) : IsBig V (.agg #[.slice none 0 0, .bool false]) 0 := ⟨none, 0, 0, rfl, none, 0, by simp [limbs_zero], by simp [limbs_zero]⟩

set_option maxRecDepth 100000 in
set_option maxHeartbeats 1000000 in
theorem wholeTexts_bad (s : ByteArray) (hs : s.size ≤ 140737488351232) (n : Int) (h1 : -9223372036854775808 ≤ n) (h2 : n ≤ 9223372036854775807) (hg : good (wlst s) = false) (w : World) (htab : Lib.TabIs Tryd.prog w "internal/strconv.uint64pow10" .u64 Lib.pow10Tab) :
    Calls Tryd.prog 3 #[.string s, .int .i64 n] w fun e w' => e = .returned (.bool true) ∧ Below w.heap.size w w' := by
  have HT := hidD htab
  have HG := hidD hg
  have hmx : Tryd.prog.follows .mixedOrders = true := by kernel_rfl
  clear htab hg
  go_enter Tryd.func3, Tryd.ntmps3
  go_upto_region 3 with (first
    | (go_at_call 6; refine (iparse_c s hs _).mono ?_; rintro e w1 ⟨_, q1, hb1⟩; obtain rfl := q1 HG.out; clear q1; unfold noInt0)
    | (go_at_call 7; refine (parse_c s hs _).mono ?_; rintro e w2 ⟨_, q1, hb2⟩; obtain rfl := q1 HG.out; clear q1; unfold noBig))
  obtain ⟨W0, hW0⟩ : ∃ W0, w2.alloc (.cells #[.slice none 0 0, .bool false] 30) = W0 := ⟨_, rfl⟩
  have hb2' : Below w1.heap.size w1 w2 := ((Below.refl _ w1).alloc (Nat.le_refl _) _).trans (hb2.mono (by simp))
  have bA : Box2 W0 w1.heap.size 25 (.bool false) (.slice none 0 0) := by rw [← hW0]; exact ((Box2.new w1 _ _ _).below hb2).alloc _
  have bB : Box2 W0 w2.heap.size 30 (.slice none 0 0) (.bool false) := by rw [← hW0]; exact Box2.new _ _ _ _
  have hB : Below w.heap.size w W0 := by rw [← hW0]; exact (hb1.trans (hb2'.mono hb1.size)).alloc (Nat.le_trans hb1.size hb2'.size) _
  obtain ⟨B5, hB5⟩ : ∃ B5, B5 = w1.heap.size := ⟨_, rfl⟩
  obtain ⟨B7, hB7⟩ : ∃ B7, B7 = w2.heap.size := ⟨_, rfl⟩
  rw [hW0]
  rw [← hB5] at bA ⊢
  rw [← hB7] at bB ⊢
  clear hb1 hb2 hb2' hW0 hB5 hB7
  have TR := hidD (fun (V : World) => show Calls Tryd.prog 9 #[.agg #[.slice none 0 0, .bool false]] V fun e w' => e = .returned (.string ⟨#[48]⟩) ∧ Below V.heap.size V w' from text_c _ 0 V (isBig0 V) (by simp [szB, limbs_zero]))
  have TI := hidD (fun (V : World) => itext_0 none 0 V)
  obtain ⟨S0, hS0⟩ : ∃ S0 : ByteArray, (⟨#[48]⟩ : ByteArray) = S0 := ⟨_, rfl⟩
  rw [hS0] at TR TI
  clear hS0
  refine wp_region_tab hmx [[], [], [0, 1], [2], [3], [4, 3, 3], [3], [6, 5, 3], [5, 7, 3], [3, 8], [9, 7], [10], [11, 10, 10], [12], [13, 12, 12], [12], [14, 15, 12], [12, 16, 10], [10, 17]] (by kernel_rfl) (by decide)
    (fun D a V => ∃ t21 t22 t23 t24 t25 t26 t27 t28 t29 t30 t31 t32 t33 t34 t35 t36 t37 t38 t39 : Value, a = { tmps := #[.string s, .int .i64 n, undef, undef, .bool false, .pointer (some ⟨B5, 0, none⟩), .bool false, .pointer (some ⟨B7, 0, none⟩), .bool false, undef, undef, .tuple #[.agg #[.bool false, .slice none 0 0], .bool false], .string s, .tuple #[.agg #[.bool false, .slice none 0 0], .bool false], .agg #[.bool false, .slice none 0 0], .bool false, .tuple #[.agg #[.slice none 0 0, .bool false], .bool false], .string s, .tuple #[.agg #[.slice none 0 0, .bool false], .bool false], .agg #[.slice none 0 0, .bool false], .bool false, t21, t22, t23, t24, t25, t26, t27, t28, t29, t30, t31, t32, t33, t34, t35, t36, t37, t38, t39, undef, undef, undef, undef, undef, undef, undef, undef, undef, undef, undef, undef, undef, undef, undef, undef, undef], defers := [] } ∧
      (D 0 = true → t21 = .bool false) ∧ (D 1 = true → t22 = .bool false) ∧ (D 2 = true → t23 = .bool false) ∧ (D 3 = true → t24 = .bool false) ∧ (D 4 = true → t25 = .agg #[.bool false, .slice none 0 0]) ∧ (D 5 = true → t26 = .string S0) ∧ (D 6 = true → t27 = .agg #[.slice none 0 0, .bool false]) ∧ (D 7 = true → t28 = .string S0) ∧ (D 8 = true → t29 = .bool false) ∧ (D 9 = true → t30 = .bool false) ∧ (D 10 = true → t31 = .bool false) ∧ (D 11 = true → t32 = .bool false) ∧ (D 12 = true → t33 = .bool false) ∧ (D 17 = true → t38 = .bool false) ∧ (D 18 = true → t39 = .bool false) ∧
      Box2 V B5 25 (.bool false) (.slice none 0 0) ∧ Box2 V B7 30 (.slice none 0 0) (.bool false) ∧ Below w.heap.size w V)
    ⟨_, _, _, _, _, _, _, _, _, _, _, _, _, _, _, _, _, _, _, rfl, by simp, by simp, by simp, by simp, by simp, by simp, by simp, by simp, by simp, by simp, by simp, by simp, by simp, by simp, by simp, bA.drew, bB.drew, hB.drew⟩ ?step ?fin
  case step =>
    clear hB bA bB
    rintro D a V i ds hcl2 hi2 hds hDi ⟨t21, t22, t23, t24, t25, t26, t27, t28, t29, t30, t31, t32, t33, t34, t35, t36, t37, t38, t39, rfl, g0, g1, g2, g3, g4, g5, g6, g7, g8, g9, g10, g11, g12, g17, g18, hb, hc, hB⟩
    have hi6 : i < 19 := (List.getElem?_eq_some_iff.1 hi2).1
    clear hcl2 hDi
    obtain rfl | rfl | rfl | rfl | rfl | rfl | rfl | rfl | rfl | rfl | rfl | rfl | rfl | rfl | rfl | rfl | rfl | rfl | rfl : i = 0 ∨ i = 1 ∨ i = 2 ∨ i = 3 ∨ i = 4 ∨ i = 5 ∨ i = 6 ∨ i = 7 ∨ i = 8 ∨ i = 9 ∨ i = 10 ∨ i = 11 ∨ i = 12 ∨ i = 13 ∨ i = 14 ∨ i = 15 ∨ i = 16 ∨ i = 17 ∨ i = 18 := by omega
    all_goals
      simp only [List.getElem?_cons_zero, List.getElem?_cons_succ, Option.some.injEq] at hi2
      subst hi2
      clear hi6
    · clear hds
      refine wpOp_yes rfl rfl (fun K hK => ?_)
      go_simp
      exact hK _ _ ⟨_, _, _, _, _, _, _, _, _, _, _, _, _, _, _, _, _, _, _, rfl, fun _ => rfl, (by first | exact g1 | exact fun _ => rfl), (by first | exact g2 | exact fun _ => rfl), (by first | exact g3 | exact fun _ => rfl), (by first | exact g4 | exact fun _ => rfl), (by first | exact g5 | exact fun _ => rfl), (by first | exact g6 | exact fun _ => rfl), (by first | exact g7 | exact fun _ => rfl), (by first | exact g8 | exact fun _ => rfl), (by first | exact g9 | exact fun _ => rfl), (by first | exact g10 | exact fun _ => rfl), (by first | exact g11 | exact fun _ => rfl), (by first | exact g12 | exact fun _ => rfl), (by first | exact g17 | exact fun _ => rfl), (by first | exact g18 | exact fun _ => rfl), hb, hc, hB⟩
    · clear hds
      refine wpOp_yes rfl rfl (fun K hK => ?_)
      go_simp
      exact hK _ _ ⟨_, _, _, _, _, _, _, _, _, _, _, _, _, _, _, _, _, _, _, rfl, (by first | exact g0 | exact fun _ => rfl), fun _ => rfl, (by first | exact g2 | exact fun _ => rfl), (by first | exact g3 | exact fun _ => rfl), (by first | exact g4 | exact fun _ => rfl), (by first | exact g5 | exact fun _ => rfl), (by first | exact g6 | exact fun _ => rfl), (by first | exact g7 | exact fun _ => rfl), (by first | exact g8 | exact fun _ => rfl), (by first | exact g9 | exact fun _ => rfl), (by first | exact g10 | exact fun _ => rfl), (by first | exact g11 | exact fun _ => rfl), (by first | exact g12 | exact fun _ => rfl), (by first | exact g17 | exact fun _ => rfl), (by first | exact g18 | exact fun _ => rfl), hb, hc, hB⟩
    · obtain rfl := g0 (hds 0 (by simp))
      obtain rfl := g1 (hds 1 (by simp))
      clear hds
      refine wpOp_yes rfl rfl (fun K hK => ?_)
      go_simp
      exact hK _ _ ⟨_, _, _, _, _, _, _, _, _, _, _, _, _, _, _, _, _, _, _, rfl, (by first | exact g0 | exact fun _ => rfl), (by first | exact g1 | exact fun _ => rfl), fun _ => rfl, (by first | exact g3 | exact fun _ => rfl), (by first | exact g4 | exact fun _ => rfl), (by first | exact g5 | exact fun _ => rfl), (by first | exact g6 | exact fun _ => rfl), (by first | exact g7 | exact fun _ => rfl), (by first | exact g8 | exact fun _ => rfl), (by first | exact g9 | exact fun _ => rfl), (by first | exact g10 | exact fun _ => rfl), (by first | exact g11 | exact fun _ => rfl), (by first | exact g12 | exact fun _ => rfl), (by first | exact g17 | exact fun _ => rfl), (by first | exact g18 | exact fun _ => rfl), hb, hc, hB⟩
    · obtain rfl := g2 (hds 2 (by simp))
      clear hds
      refine wpOp_yes rfl rfl (fun K hK => ?_)
      go_simp
      exact hK _ _ ⟨_, _, _, _, _, _, _, _, _, _, _, _, _, _, _, _, _, _, _, rfl, (by first | exact g0 | exact fun _ => rfl), (by first | exact g1 | exact fun _ => rfl), (by first | exact g2 | exact fun _ => rfl), fun _ => rfl, (by first | exact g4 | exact fun _ => rfl), (by first | exact g5 | exact fun _ => rfl), (by first | exact g6 | exact fun _ => rfl), (by first | exact g7 | exact fun _ => rfl), (by first | exact g8 | exact fun _ => rfl), (by first | exact g9 | exact fun _ => rfl), (by first | exact g10 | exact fun _ => rfl), (by first | exact g11 | exact fun _ => rfl), (by first | exact g12 | exact fun _ => rfl), (by first | exact g17 | exact fun _ => rfl), (by first | exact g18 | exact fun _ => rfl), hb, hc, hB⟩
    · obtain rfl := g3 (hds 3 (by simp))
      clear hds
      have k0 := hb.c0
      have k1 := hb.c1
      refine wpOp_yes rfl rfl (fun K hK => ?_)
      go_simp
      exact hK _ _ ⟨_, _, _, _, _, _, _, _, _, _, _, _, _, _, _, _, _, _, _, rfl, (by first | exact g0 | exact fun _ => rfl), (by first | exact g1 | exact fun _ => rfl), (by first | exact g2 | exact fun _ => rfl), (by first | exact g3 | exact fun _ => rfl), fun _ => rfl, (by first | exact g5 | exact fun _ => rfl), (by first | exact g6 | exact fun _ => rfl), (by first | exact g7 | exact fun _ => rfl), (by first | exact g8 | exact fun _ => rfl), (by first | exact g9 | exact fun _ => rfl), (by first | exact g10 | exact fun _ => rfl), (by first | exact g11 | exact fun _ => rfl), (by first | exact g12 | exact fun _ => rfl), (by first | exact g17 | exact fun _ => rfl), (by first | exact g18 | exact fun _ => rfl), hb, hc, hB⟩
    · obtain rfl := g3 (hds 3 (by simp))
      obtain rfl := g4 (hds 4 (by simp))
      clear hds
      refine wpOp_yes rfl rfl (fun K hK => ?_)
      go_simp
      go_wp2_with (go_at_call 8; refine (TI.out _).mono ?_; rintro e w8 ⟨rfl, hb8⟩)
      exact ⟨_, _, _, _, _, _, _, _, _, _, _, _, _, _, _, _, _, _, _, rfl, (by first | exact g0 | exact fun _ => rfl), (by first | exact g1 | exact fun _ => rfl), (by first | exact g2 | exact fun _ => rfl), (by first | exact g3 | exact fun _ => rfl), (by first | exact g4 | exact fun _ => rfl), fun _ => rfl, (by first | exact g6 | exact fun _ => rfl), (by first | exact g7 | exact fun _ => rfl), (by first | exact g8 | exact fun _ => rfl), (by first | exact g9 | exact fun _ => rfl), (by first | exact g10 | exact fun _ => rfl), (by first | exact g11 | exact fun _ => rfl), (by first | exact g12 | exact fun _ => rfl), (by first | exact g17 | exact fun _ => rfl), (by first | exact g18 | exact fun _ => rfl), hb.below hb8, hc.below hb8, Below.then hB hb8⟩
    · obtain rfl := g3 (hds 3 (by simp))
      clear hds
      have k0 := hc.c0
      have k1 := hc.c1
      refine wpOp_yes rfl rfl (fun K hK => ?_)
      go_simp
      exact hK _ _ ⟨_, _, _, _, _, _, _, _, _, _, _, _, _, _, _, _, _, _, _, rfl, (by first | exact g0 | exact fun _ => rfl), (by first | exact g1 | exact fun _ => rfl), (by first | exact g2 | exact fun _ => rfl), (by first | exact g3 | exact fun _ => rfl), (by first | exact g4 | exact fun _ => rfl), (by first | exact g5 | exact fun _ => rfl), fun _ => rfl, (by first | exact g7 | exact fun _ => rfl), (by first | exact g8 | exact fun _ => rfl), (by first | exact g9 | exact fun _ => rfl), (by first | exact g10 | exact fun _ => rfl), (by first | exact g11 | exact fun _ => rfl), (by first | exact g12 | exact fun _ => rfl), (by first | exact g17 | exact fun _ => rfl), (by first | exact g18 | exact fun _ => rfl), hb, hc, hB⟩
    · obtain rfl := g3 (hds 3 (by simp))
      obtain rfl := g5 (hds 5 (by simp))
      obtain rfl := g6 (hds 6 (by simp))
      clear hds
      refine wpOp_yes rfl rfl (fun K hK => ?_)
      go_simp
      go_wp2_with (go_at_call 9; refine (TR.out _).mono ?_; rintro e w8 ⟨rfl, hb8⟩)
      exact ⟨_, _, _, _, _, _, _, _, _, _, _, _, _, _, _, _, _, _, _, rfl, (by first | exact g0 | exact fun _ => rfl), (by first | exact g1 | exact fun _ => rfl), (by first | exact g2 | exact fun _ => rfl), (by first | exact g3 | exact fun _ => rfl), (by first | exact g4 | exact fun _ => rfl), (by first | exact g5 | exact fun _ => rfl), (by first | exact g6 | exact fun _ => rfl), fun _ => rfl, (by first | exact g8 | exact fun _ => rfl), (by first | exact g9 | exact fun _ => rfl), (by first | exact g10 | exact fun _ => rfl), (by first | exact g11 | exact fun _ => rfl), (by first | exact g12 | exact fun _ => rfl), (by first | exact g17 | exact fun _ => rfl), (by first | exact g18 | exact fun _ => rfl), hb.below hb8, hc.below hb8, Below.then hB hb8⟩
    · obtain rfl := g3 (hds 3 (by simp))
      obtain rfl := g5 (hds 5 (by simp))
      obtain rfl := g7 (hds 7 (by simp))
      clear hds
      refine wpOp_yes rfl rfl (fun K hK => ?_)
      go_simp
      exact hK _ _ ⟨_, _, _, _, _, _, _, _, _, _, _, _, _, _, _, _, _, _, _, rfl, (by first | exact g0 | exact fun _ => rfl), (by first | exact g1 | exact fun _ => rfl), (by first | exact g2 | exact fun _ => rfl), (by first | exact g3 | exact fun _ => rfl), (by first | exact g4 | exact fun _ => rfl), (by first | exact g5 | exact fun _ => rfl), (by first | exact g6 | exact fun _ => rfl), (by first | exact g7 | exact fun _ => rfl), fun _ => rfl, (by first | exact g9 | exact fun _ => rfl), (by first | exact g10 | exact fun _ => rfl), (by first | exact g11 | exact fun _ => rfl), (by first | exact g12 | exact fun _ => rfl), (by first | exact g17 | exact fun _ => rfl), (by first | exact g18 | exact fun _ => rfl), hb, hc, hB⟩
    · obtain rfl := g3 (hds 3 (by simp))
      obtain rfl := g8 (hds 8 (by simp))
      clear hds
      refine wpOp_yes rfl rfl (fun K hK => ?_)
      go_simp
      exact hK _ _ ⟨_, _, _, _, _, _, _, _, _, _, _, _, _, _, _, _, _, _, _, rfl, (by first | exact g0 | exact fun _ => rfl), (by first | exact g1 | exact fun _ => rfl), (by first | exact g2 | exact fun _ => rfl), (by first | exact g3 | exact fun _ => rfl), (by first | exact g4 | exact fun _ => rfl), (by first | exact g5 | exact fun _ => rfl), (by first | exact g6 | exact fun _ => rfl), (by first | exact g7 | exact fun _ => rfl), (by first | exact g8 | exact fun _ => rfl), fun _ => rfl, (by first | exact g10 | exact fun _ => rfl), (by first | exact g11 | exact fun _ => rfl), (by first | exact g12 | exact fun _ => rfl), (by first | exact g17 | exact fun _ => rfl), (by first | exact g18 | exact fun _ => rfl), hb, hc, hB⟩
    · obtain rfl := g7 (hds 7 (by simp))
      obtain rfl := g9 (hds 9 (by simp))
      clear hds
      refine wpOp_yes rfl rfl (fun K hK => ?_)
      go_simp
      exact hK _ _ ⟨_, _, _, _, _, _, _, _, _, _, _, _, _, _, _, _, _, _, _, rfl, (by first | exact g0 | exact fun _ => rfl), (by first | exact g1 | exact fun _ => rfl), (by first | exact g2 | exact fun _ => rfl), (by first | exact g3 | exact fun _ => rfl), (by first | exact g4 | exact fun _ => rfl), (by first | exact g5 | exact fun _ => rfl), (by first | exact g6 | exact fun _ => rfl), (by first | exact g7 | exact fun _ => rfl), (by first | exact g8 | exact fun _ => rfl), (by first | exact g9 | exact fun _ => rfl), fun _ => rfl, (by first | exact g11 | exact fun _ => rfl), (by first | exact g12 | exact fun _ => rfl), (by first | exact g17 | exact fun _ => rfl), (by first | exact g18 | exact fun _ => rfl), hb, hc, hB⟩
    · obtain rfl := g10 (hds 10 (by simp))
      clear hds
      refine wpOp_yes rfl rfl (fun K hK => ?_)
      go_simp
      exact hK _ _ ⟨_, _, _, _, _, _, _, _, _, _, _, _, _, _, _, _, _, _, _, rfl, (by first | exact g0 | exact fun _ => rfl), (by first | exact g1 | exact fun _ => rfl), (by first | exact g2 | exact fun _ => rfl), (by first | exact g3 | exact fun _ => rfl), (by first | exact g4 | exact fun _ => rfl), (by first | exact g5 | exact fun _ => rfl), (by first | exact g6 | exact fun _ => rfl), (by first | exact g7 | exact fun _ => rfl), (by first | exact g8 | exact fun _ => rfl), (by first | exact g9 | exact fun _ => rfl), (by first | exact g10 | exact fun _ => rfl), fun _ => rfl, (by first | exact g12 | exact fun _ => rfl), (by first | exact g17 | exact fun _ => rfl), (by first | exact g18 | exact fun _ => rfl), hb, hc, hB⟩
    · obtain rfl := g10 (hds 10 (by simp))
      obtain rfl := g11 (hds 11 (by simp))
      clear hds
      refine wpOp_yes rfl rfl (fun K hK => ?_)
      go_simp
      exact hK _ _ ⟨_, _, _, _, _, _, _, _, _, _, _, _, _, _, _, _, _, _, _, rfl, (by first | exact g0 | exact fun _ => rfl), (by first | exact g1 | exact fun _ => rfl), (by first | exact g2 | exact fun _ => rfl), (by first | exact g3 | exact fun _ => rfl), (by first | exact g4 | exact fun _ => rfl), (by first | exact g5 | exact fun _ => rfl), (by first | exact g6 | exact fun _ => rfl), (by first | exact g7 | exact fun _ => rfl), (by first | exact g8 | exact fun _ => rfl), (by first | exact g9 | exact fun _ => rfl), (by first | exact g10 | exact fun _ => rfl), (by first | exact g11 | exact fun _ => rfl), fun _ => rfl, (by first | exact g17 | exact fun _ => rfl), (by first | exact g18 | exact fun _ => rfl), hb, hc, hB⟩
    · obtain rfl := g12 (hds 12 (by simp))
      clear hds
      exact wpOp_no rfl rfl ⟨_, _, _, _, _, _, _, _, _, _, _, _, _, _, _, _, _, _, _, rfl, (by first | exact g0 | exact fun _ => rfl), (by first | exact g1 | exact fun _ => rfl), (by first | exact g2 | exact fun _ => rfl), (by first | exact g3 | exact fun _ => rfl), (by first | exact g4 | exact fun _ => rfl), (by first | exact g5 | exact fun _ => rfl), (by first | exact g6 | exact fun _ => rfl), (by first | exact g7 | exact fun _ => rfl), (by first | exact g8 | exact fun _ => rfl), (by first | exact g9 | exact fun _ => rfl), (by first | exact g10 | exact fun _ => rfl), (by first | exact g11 | exact fun _ => rfl), (by first | exact g12 | exact fun _ => rfl), (by first | exact g17 | exact fun _ => rfl), (by first | exact g18 | exact fun _ => rfl), hb, hc, hB⟩
    · obtain rfl := g12 (hds 12 (by simp))
      clear hds
      exact wpOp_no rfl rfl ⟨_, _, _, _, _, _, _, _, _, _, _, _, _, _, _, _, _, _, _, rfl, (by first | exact g0 | exact fun _ => rfl), (by first | exact g1 | exact fun _ => rfl), (by first | exact g2 | exact fun _ => rfl), (by first | exact g3 | exact fun _ => rfl), (by first | exact g4 | exact fun _ => rfl), (by first | exact g5 | exact fun _ => rfl), (by first | exact g6 | exact fun _ => rfl), (by first | exact g7 | exact fun _ => rfl), (by first | exact g8 | exact fun _ => rfl), (by first | exact g9 | exact fun _ => rfl), (by first | exact g10 | exact fun _ => rfl), (by first | exact g11 | exact fun _ => rfl), (by first | exact g12 | exact fun _ => rfl), (by first | exact g17 | exact fun _ => rfl), (by first | exact g18 | exact fun _ => rfl), hb, hc, hB⟩
    · obtain rfl := g12 (hds 12 (by simp))
      clear hds
      exact wpOp_no rfl rfl ⟨_, _, _, _, _, _, _, _, _, _, _, _, _, _, _, _, _, _, _, rfl, (by first | exact g0 | exact fun _ => rfl), (by first | exact g1 | exact fun _ => rfl), (by first | exact g2 | exact fun _ => rfl), (by first | exact g3 | exact fun _ => rfl), (by first | exact g4 | exact fun _ => rfl), (by first | exact g5 | exact fun _ => rfl), (by first | exact g6 | exact fun _ => rfl), (by first | exact g7 | exact fun _ => rfl), (by first | exact g8 | exact fun _ => rfl), (by first | exact g9 | exact fun _ => rfl), (by first | exact g10 | exact fun _ => rfl), (by first | exact g11 | exact fun _ => rfl), (by first | exact g12 | exact fun _ => rfl), (by first | exact g17 | exact fun _ => rfl), (by first | exact g18 | exact fun _ => rfl), hb, hc, hB⟩
    · obtain rfl := g12 (hds 12 (by simp))
      clear hds
      exact wpOp_no rfl rfl ⟨_, _, _, _, _, _, _, _, _, _, _, _, _, _, _, _, _, _, _, rfl, (by first | exact g0 | exact fun _ => rfl), (by first | exact g1 | exact fun _ => rfl), (by first | exact g2 | exact fun _ => rfl), (by first | exact g3 | exact fun _ => rfl), (by first | exact g4 | exact fun _ => rfl), (by first | exact g5 | exact fun _ => rfl), (by first | exact g6 | exact fun _ => rfl), (by first | exact g7 | exact fun _ => rfl), (by first | exact g8 | exact fun _ => rfl), (by first | exact g9 | exact fun _ => rfl), (by first | exact g10 | exact fun _ => rfl), (by first | exact g11 | exact fun _ => rfl), (by first | exact g12 | exact fun _ => rfl), (by first | exact g17 | exact fun _ => rfl), (by first | exact g18 | exact fun _ => rfl), hb, hc, hB⟩
    · obtain rfl := g10 (hds 10 (by simp))
      obtain rfl := g12 (hds 12 (by simp))
      clear hds
      refine wpOp_yes rfl rfl (fun K hK => ?_)
      go_simp
      exact hK _ _ ⟨_, _, _, _, _, _, _, _, _, _, _, _, _, _, _, _, _, _, _, rfl, (by first | exact g0 | exact fun _ => rfl), (by first | exact g1 | exact fun _ => rfl), (by first | exact g2 | exact fun _ => rfl), (by first | exact g3 | exact fun _ => rfl), (by first | exact g4 | exact fun _ => rfl), (by first | exact g5 | exact fun _ => rfl), (by first | exact g6 | exact fun _ => rfl), (by first | exact g7 | exact fun _ => rfl), (by first | exact g8 | exact fun _ => rfl), (by first | exact g9 | exact fun _ => rfl), (by first | exact g10 | exact fun _ => rfl), (by first | exact g11 | exact fun _ => rfl), (by first | exact g12 | exact fun _ => rfl), fun _ => rfl, (by first | exact g18 | exact fun _ => rfl), hb, hc, hB⟩
    · obtain rfl := g10 (hds 10 (by simp))
      obtain rfl := g17 (hds 17 (by simp))
      clear hds
      refine wpOp_yes rfl rfl (fun K hK => ?_)
      go_simp
      exact hK _ _ ⟨_, _, _, _, _, _, _, _, _, _, _, _, _, _, _, _, _, _, _, rfl, (by first | exact g0 | exact fun _ => rfl), (by first | exact g1 | exact fun _ => rfl), (by first | exact g2 | exact fun _ => rfl), (by first | exact g3 | exact fun _ => rfl), (by first | exact g4 | exact fun _ => rfl), (by first | exact g5 | exact fun _ => rfl), (by first | exact g6 | exact fun _ => rfl), (by first | exact g7 | exact fun _ => rfl), (by first | exact g8 | exact fun _ => rfl), (by first | exact g9 | exact fun _ => rfl), (by first | exact g10 | exact fun _ => rfl), (by first | exact g11 | exact fun _ => rfl), (by first | exact g12 | exact fun _ => rfl), (by first | exact g17 | exact fun _ => rfl), fun _ => rfl, hb, hc, hB⟩
  clear hB bA bB
  rintro D a w5 hDD ⟨t21, t22, t23, t24, t25, t26, t27, t28, t29, t30, t31, t32, t33, t34, t35, t36, t37, t38, t39, rfl, g0, g1, g2, g3, g4, g5, g6, g7, g8, g9, g10, g11, g12, g17, g18, hb, hc, hB⟩
  obtain rfl := g0 (hDD 0 (by decide))
  obtain rfl := g1 (hDD 1 (by decide))
  obtain rfl := g2 (hDD 2 (by decide))
  obtain rfl := g3 (hDD 3 (by decide))
  obtain rfl := g4 (hDD 4 (by decide))
  obtain rfl := g5 (hDD 5 (by decide))
  obtain rfl := g6 (hDD 6 (by decide))
  obtain rfl := g7 (hDD 7 (by decide))
  obtain rfl := g8 (hDD 8 (by decide))
  obtain rfl := g9 (hDD 9 (by decide))
  obtain rfl := g10 (hDD 10 (by decide))
  obtain rfl := g11 (hDD 11 (by decide))
  obtain rfl := g12 (hDD 12 (by decide))
  obtain rfl := g17 (hDD 17 (by decide))
  obtain rfl := g18 (hDD 18 (by decide))
  clear hDD
  have hW5 : Below w.heap.size w w5 := hB
  clear hb hc TI TR hB
  go_upto_region 7 with (go_at_call 10; refine (iof_c n h1 h2 _).mono ?_; rintro e w6 ⟨u6, rfl, hu6, hb6⟩; obtain ⟨ca, cl, cc, rfl⟩ := hu6.form)
  have hW6 : Below w.heap.size w w6 := Below.then hW5 hb6
  obtain ⟨r, hr⟩ : ∃ r, decide (n < 0) = r := ⟨_, rfl⟩
  rw [hr] at hu6 ⊢
  obtain ⟨W7, hW7⟩ : ∃ W7, (w6.alloc (.cells #[.bool r, .slice ca cl cc] 25)).alloc (.cells #[.bool false, .slice none 0 0] 25) = W7 := ⟨_, rfl⟩
  have bC : Box2 W7 w6.heap.size 25 (.bool r) (.slice ca cl cc) := by rw [← hW7]; exact (Box2.new _ _ _ _).alloc _
  have bN : Box2 W7 (w6.heap.size + 1) 25 (.bool false) (.slice none 0 0) := by
    have h1 := Box2.new (w6.alloc (.cells #[.bool r, .slice ca cl cc] 25)) 25 (.bool false) (.slice none 0 0)
    rw [World.size_alloc, hW7] at h1
    exact h1
  have hB7 : Below w.heap.size w W7 := by rw [← hW7]; exact (hW6.alloc hW6.size _).alloc (by have := hW6.size; simp; omega) _
  have y2 : IsInt W7 (.agg #[.bool r, .slice ca cl cc]) n := by rw [← hW7]; exact (hu6.alloc _).alloc _
  obtain ⟨S, hS⟩ : ∃ S : ByteArray, (⟨(decZ n).toArray⟩ : ByteArray) = S := ⟨_, rfl⟩
  have CI := hidD (fun (V : World) (h : Below W7.heap.size W7 V) => show Calls Tryd.prog 8 #[.agg #[.bool r, .slice ca cl cc]] V fun e w' => e = .returned (.string S) ∧ Below V.heap.size V w' by
    have h1 := itext_c _ n V (y2.below h) (tab_below HT.out (hB7.trans (h.mono hB7.size)))
    rw [hS] at h1
    exact h1)
  have CR := hidD (fun (V : World) (v : Value) (h : IsBig V v n) => show Calls Tryd.prog 9 #[v] V fun e w' => e = .returned (.string S) ∧ Below V.heap.size V w' by
    have h1 := text_c _ n V h (int_szB h1 h2)
    rw [hS] at h1
    exact h1)
  have CA := hidD (fun (V : World) (h : Below W7.heap.size W7 V) => alive_c V (tab_below HT.out (hB7.trans (h.mono hB7.size))))
  have hq : Below W7.heap.size W7 W7 := Below.refl _ W7
  obtain ⟨B9, hB9⟩ : ∃ B9, B9 = w6.heap.size := ⟨_, rfl⟩
  rw [hW7]
  rw [← hB9] at bC bN ⊢
  have k0 := bC.c0
  have k1 := bC.c1
  have k2 := bN.c0
  have k3 := bN.c1
  clear hW5 hW6 hb6 hu6 hW7 hB9 y2 hS hr
  go_wp2_with (first
    | (go_at_call 8; refine (CI.out _ hq).mono ?_; clear CI; rintro e w8 ⟨rfl, hb8⟩; have hq := Below.then hq hb8; have k0 := (bC.below hq).c0; have k1 := (bC.below hq).c1; have k2 := (bN.below hq).c0; have k3 := (bN.below hq).c1)
    | (go_at_call 8; refine (itext_0 none 0 _).mono ?_; rintro e w8 ⟨rfl, hb8⟩; have hq := Below.then hq hb8)
    | (go_at_call 11; refine (of_c n h1 h2 _).mono ?_; rintro e w8 ⟨v8, rfl, hv8, hb8⟩; have hq := Below.then hq hb8; have k0 := (bC.below hq).c0; have k1 := (bC.below hq).c1; have k2 := (bN.below hq).c0; have k3 := (bN.below hq).c1)
    | (go_at_call 9; refine (CR.out _ _ hv8).mono ?_; rintro e w8 ⟨rfl, hb8⟩; have hq := Below.then hq hb8; have k0 := (bC.below hq).c0; have k1 := (bC.below hq).c1; have k2 := (bN.below hq).c0; have k3 := (bN.below hq).c1)
    | (go_at_call 12; refine (CA.out _ hq).mono ?_; rintro e w8 ⟨rfl, hb8⟩; have hq := Below.then hq hb8))
  go_ret
  exact ⟨rfl, hB7.trans (hq.mono hB7.size)⟩

theorem wholeTexts_c (s : ByteArray) (hs : s.size ≤ 140737488351232) (n : Int) (h1 : -9223372036854775808 ≤ n) (h2 : n ≤ 9223372036854775807) (w : World) (htab : Lib.TabIs Tryd.prog w "internal/strconv.uint64pow10" .u64 Lib.pow10Tab) :
    Calls Tryd.prog 3 #[.string s, .int .i64 n] w fun e w' => e = .returned (.bool true) ∧ Below w.heap.size w w' := by
  cases hg : good (wlst s)
  · exact wholeTexts_bad s hs n h1 h2 hg w htab
  · exact wholeTexts_good s hs n h1 h2 hg w htab
end Go.Proofs.YtjmmnpfedhkjbaaDoor
