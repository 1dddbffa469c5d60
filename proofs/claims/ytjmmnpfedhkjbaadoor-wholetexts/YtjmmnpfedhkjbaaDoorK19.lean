import Derived.Test.YtjmmnpfedhkjbaaDoorK14
import Derived.Test.YtjmmnpfedhkjbaaDoorK16
import Derived.Test.YtjmmnpfedhkjbaaDoorK15
import Derived.Test.YtjmmnpfedhkjbaaDoorK17
import Derived.Test.YtjmmnpfedhkjbaaDoorK06
import Derived.Test.YtjmmnpfedhkjbaaDoorK18
import Derived.Deep.RegionWith
namespace Go.Proofs.YtjmmnpfedhkjbaaDoor
open Go.RowKit Go.Shelf

set_option maxHeartbeats 1000000 in
theorem itext_0 (a : Option Addr) (cap : Nat) (w : World) :
    Calls Tryd.prog 8 #[.agg #[.bool false, .slice a 0 cap]] w fun e w' => e = .returned (.string ⟨#[48]⟩) ∧ Below w.heap.size w w' := by
  have b0 := Box2.new w 25 (.bool false) (.slice a 0 cap)
  have k1 := b0.c1
  go_enter Tryd.func8, Tryd.ntmps8
  go_wp2
  go_ret
  exact ⟨rfl, (Below.refl _ w).alloc (Nat.le_refl _) _⟩

set_option maxHeartbeats 1000000 in
theorem itext_w (s : Bool) (a : Option Addr) (l cap : Nat) (T : ByteArray) (w : World) (hl : 0 < l) (hT : T.size ≤ 100000000000000)
    (HT : ∀ V, Below w.heap.size w V → Calls Tryd.prog 30 #[.slice a l cap] V fun e w' => e = .returned (.string T) ∧ Below V.heap.size V w') :
    Calls Tryd.prog 8 #[.agg #[.bool s, .slice a l cap]] w fun e w' => e = .returned (.string (if s then (⟨#[45]⟩ : ByteArray) ++ T else T)) ∧ Below w.heap.size w w' := by
  have b0 := Box2.new w 25 (.bool s) (.slice a l cap)
  have hB0 : Below w.heap.size w (w.alloc (.cells #[.bool s, .slice a l cap] 25)) := (Below.refl _ w).alloc (Nat.le_refl _) _
  have k0 := b0.c0
  have k1 := b0.c1
  have hl0 : ¬ l = 0 := by omega
  have HTH := hidD HT
  clear HT
  cases s
  all_goals
    go_enter Tryd.func8, Tryd.ntmps8
    go_wp2_with (go_at_call 30; refine (HTH.out _ hB0).mono ?_; rintro e w1 ⟨rfl, hb1⟩)
    go_ret
    exact ⟨by simp, Below.then hB0 hb1⟩

theorem decN_len (n : Nat) : (decN n).length ≤ 20 * (limbs B64 n).length + 1 := by
  unfold decN
  split
  · simp
  · rw [txt_length]
    have h1 : n < B64 ^ (limbs B64 n).length := by
      have := val_lt (dig_limbs two_le_B64 n)
      rwa [val_limbs two_le_B64] at this
    have h2 : B64 ^ (limbs B64 n).length ≤ 10 ^ (20 * (limbs B64 n).length) := by
      rw [Nat.pow_mul]
      exact Nat.pow_le_pow_left (by unfold B64; omega) _
    have := limbs_length_le (B := 10) (by omega) (Nat.lt_of_lt_of_le h1 h2)
    omega

theorem itext_c (v : Value) (z : Int) (w : World) (h : IsInt w v z) (htab : Lib.TabIs Tryd.prog w "internal/strconv.uint64pow10" .u64 Lib.pow10Tab) :
    Calls Tryd.prog 8 #[v] w fun e w' => e = .returned (.string ⟨(decZ z).toArray⟩) ∧ Below w.heap.size w w' := by
  obtain ⟨a, l, cap, rfl, hu⟩ := h
  have hl := hu.len
  by_cases h0 : z.natAbs = 0
  · have hz : z = 0 := by omega
    subst hz
    have hl0 : l = 0 := by rw [hl]; simp [limbs_zero]
    subst hl0
    exact itext_0 a cap w
  · have hlp : 0 < l := by rw [hl]; exact wlen_pos_iff.2 h0
    refine (itext_w _ a l cap ⟨(decN z.natAbs).toArray⟩ w hlp (by
      have h1 := decN_len z.natAbs
      have h2 := (row_fn hu).2.2.2.1
      show (decN z.natAbs).toArray.size ≤ _
      rw [List.size_toArray]; omega) (fun V hV => mtext_w a l cap z.natAbs V (Row.below hu hV) h0 (tab_below htab hV))).mono ?_
    rintro e w' ⟨rfl, hB⟩
    refine ⟨?_, hB⟩
    congr 2
    unfold decZ
    by_cases hz : z < 0
    · simp only [hz, decide_true, if_true]; exact ba_cons _ _
    · simp only [hz, decide_false, if_false, Bool.false_eq_true]
end Go.Proofs.YtjmmnpfedhkjbaaDoor
namespace Go.Proofs.YtjmmnpfedhkjbaaDoor
open Go.RowKit Go.Shelf

attribute [local go_sem] Oper.semAt_some

/-- The text that alive reads, and the one that it awaits. -/
def aliveA : List UInt8 := [45, 49, 50, 51, 52, 53, 54, 55, 56, 57, 48, 49, 50, 51, 52, 53, 54, 55, 56, 57, 48, 49, 50, 51, 52, 53, 54, 55, 56, 57, 48]
def aliveB : List UInt8 := [45, 49, 50, 51, 52, 53, 54, 55, 56, 57, 48, 49, 50, 51, 52, 53, 54, 55, 56, 57, 48, 49, 50, 51, 52, 53, 54, 55, 56, 56, 57]
def aliveN : Int := -123456789012345678901234567890

theorem aliveA_good : good aliveA = true := by decide
theorem aliveB_good : good aliveB = true := by decide
theorem aliveA_val : valZ aliveA = aliveN := by decide
theorem aliveB_val : valZ aliveB = aliveN + 1 := by decide
theorem aliveB_text : decZ (aliveN + 1) = aliveB := by rw [← aliveB_val]; exact good_dec aliveB_good
theorem aliveN_len : (limbs B64 aliveN.natAbs).length < 1099511627776 := by
  have := limbs_length_le two_le_B64 (n := aliveN.natAbs) (k := 2) (by unfold B64 aliveN; decide)
  omega
theorem one_len : (limbs B64 (1 : Int).natAbs).length < 1099511627776 := by
  have := limbs_length_le two_le_B64 (n := (1 : Int).natAbs) (k := 1) (by unfold B64; decide)
  omega
theorem alive_cmp : cmpI (aliveN + 1) aliveN = 1 := by decide

theorem IsInt.set {W : World} {v : Value} {z : Int} (h : IsInt W v z) {p : Addr} {u0 : Value} (hp : W.cell? p = some u0) (hn : noInt u0 = true) (u : Value) : IsInt (W.setCell p u) v z := by
  obtain ⟨a, l, cap, e, hr⟩ := h
  exact ⟨a, l, cap, e, Row.set hr hp hn u⟩

theorem IsInt.form {W : World} {v : Value} {z : Int} (h : IsInt W v z) : ∃ a l cap, v = .agg #[.bool (decide (z < 0)), .slice a l cap] := by
  obtain ⟨a, l, cap, e, _⟩ := h
  exact ⟨a, l, cap, e⟩

theorem IsInt.alloc {W : World} {v : Value} {z : Int} (h : IsInt W v z) (o : Obj) : IsInt (W.alloc o) v z := h.below ((Below.refl _ W).alloc (Nat.le_refl _) o)
theorem IsInt.drew {W : World} {v : Value} {z : Int} (h : IsInt W v z) : IsInt W.drew v z := h

/-- A number that is laid into a box of its own leaves the others. -/
theorem IsInt.box {W : World} {R : Nat} {t : TypeId} {u0 u1 x0 x1 v : Value} {z : Int} (h : IsInt W v z) (q : Box2 W R t u0 u1) (n0 : noInt u0 = true) (n1 : noInt u1 = true) : IsInt ((W.setCell ⟨R, 0, none⟩ x0).setCell ⟨R, 1, none⟩ x1) v z := by
  obtain ⟨a, l, cap, e, hr⟩ := h
  exact ⟨a, l, cap, e, Row.set (Row.set hr q.c0 n0 _) (u0 := u1) (q.set0 x0).c1 n1 _⟩

set_option maxRecDepth 100000 in
set_option maxHeartbeats 2000000 in
theorem alive_c (w : World) (htab : Lib.TabIs Tryd.prog w "internal/strconv.uint64pow10" .u64 Lib.pow10Tab) :
    Calls Tryd.prog 12 #[] w fun e w' => e = .returned (.bool true) ∧ Below w.heap.size w w' := by
  have HT := hidD htab
  have hmx : Tryd.prog.follows .mixedOrders = true := by kernel_rfl
  clear htab
  go_enter Tryd.func12, Tryd.ntmps12
  go_upto_region 2 with (go_at_call 6; refine (iparse_c ⟨aliveA.toArray⟩ (by decide) _).mono ?_; rintro e w1 ⟨h1, _, hb1⟩; obtain ⟨u, rfl, hu⟩ := h1 aliveA_good; have hu : IsInt w1 u aliveN := (by rw [← aliveA_val]; exact hu); clear h1; obtain ⟨ua, ul, uc, rfl⟩ := hu.form; obtain ⟨s, hs⟩ : ∃ s, decide (aliveN < 0) = s := ⟨_, rfl⟩; rw [hs] at hu; rw [hs]; clear hs)
  obtain ⟨W0, hW0⟩ : ∃ W0, w1.alloc (.cells #[.bool s, .slice ua ul uc] 25) = W0 := ⟨_, rfl⟩
  have x1 : Box2 W0 w1.heap.size 25 (.bool s) (.slice ua ul uc) := by rw [← hW0]; exact Box2.new _ _ _ _
  have x2 : IsInt W0 (.agg #[.bool s, .slice ua ul uc]) aliveN := by rw [← hW0]; exact hu.alloc _
  have x3 : Below w.heap.size w W0 := by rw [← hW0]; exact hb1.alloc hb1.size _
  obtain ⟨B1, hB1⟩ : ∃ B1, B1 = w1.heap.size := ⟨_, rfl⟩
  have hwB := hb1.size
  rw [hW0]
  rw [← hB1] at x1 hwB ⊢
  clear hW0 hu hb1 hB1
  refine wp_region_tab hmx [[], [], [0, 1, 1], [], [3, 2, 2, 0, 1, 2, 3]] (by kernel_rfl) (by decide)
    (fun D a V => ∃ t3 t8 t9 t10 : Value, a = { tmps := #[.bool false, .pointer (some ⟨B1, 0, none⟩), .bool true, t3, .tuple #[.agg #[.bool s, .slice ua ul uc], .bool true], .tuple #[.agg #[.bool s, .slice ua ul uc], .bool true], .agg #[.bool s, .slice ua ul uc], .bool true, t8, t9, t10, undef, undef, undef, undef, undef, undef, undef, undef, undef, undef, undef, undef], defers := [] } ∧
      (D 0 = true → t8 = .agg #[.bool s, .slice ua ul uc]) ∧ (D 1 = true → IsInt V t9 1) ∧ (D 2 = true → IsInt V t10 (aliveN + 1)) ∧
      (D 3 = true → D 4 = false → ∃ B3, t3 = .pointer (some ⟨B3, 0, none⟩) ∧ Box2 V B3 25 (.bool false) (.slice none 0 0) ∧ w.heap.size ≤ B3 ∧ B3 ≠ B1) ∧
      (D 4 = true → ∃ B3 s3 a3 l3 c3, t3 = .pointer (some ⟨B3, 0, none⟩) ∧ t10 = .agg #[.bool s3, .slice a3 l3 c3] ∧ Box2 V B3 25 (.bool s3) (.slice a3 l3 c3)) ∧
      Box2 V B1 25 (.bool s) (.slice ua ul uc) ∧ IsInt V (.agg #[.bool s, .slice ua ul uc]) aliveN ∧ Below w.heap.size w V)
    ⟨_, _, _, _, rfl, by simp, by simp, by simp, by simp, by simp, x1.drew, x2.drew, x3.drew⟩ ?step ?fin
  case fin =>
    rintro D a V hDD ⟨t3, t8, t9, t10, rfl, g0, g1, g2, g3, g4, hb, hi, hB⟩
    obtain ⟨B3, s3, a3, l3, c3, rfl, rfl, hb3⟩ := g4 (hDD 4 (by decide))
    have hi10 := g2 (hDD 2 (by decide))
    clear g0 g1 g2 g3 g4 hDD x1 x2 x3
    have HTX := hidD (show Calls Tryd.prog 8 #[.agg #[.bool s3, .slice a3 l3 c3]] V fun e w' => e = .returned (.string ⟨#[45, 49, 50, 51, 52, 53, 54, 55, 56, 57, 48, 49, 50, 51, 52, 53, 54, 55, 56, 57, 48, 49, 50, 51, 52, 53, 54, 55, 56, 56, 57]⟩) ∧ Below V.heap.size V w' by
      have h1 := itext_c _ _ V hi10 (tab_below HT.out hB)
      rw [aliveB_text] at h1
      exact h1)
    have HOR := hidD (fun (V' : World) (h : Below V.heap.size V V') => show Calls Tryd.prog 17 #[.agg #[.bool s3, .slice a3 l3 c3], .agg #[.bool s, .slice ua ul uc]] V' fun e w' => e = .returned (.int .i64 1) ∧ Below V'.heap.size V' w' by
      have h1 := iorder_c _ _ _ _ V' (hi10.below h) (hi.below h)
      rw [alive_cmp] at h1
      exact h1)
    have k0 := hb.c0
    have k1 := hb.c1
    have k2 := hb3.c0
    have k3 := hb3.c1
    go_wp2_with (first
      | (go_at_call 8; refine HTX.out.mono ?_; rintro e w5 ⟨rfl, hb5⟩; have m0 := (hb.below hb5).c0; have m1 := (hb.below hb5).c1; have m2 := (hb3.below hb5).c0; have m3 := (hb3.below hb5).c1)
      | (go_at_call 17; refine (HOR.out _ hb5).mono ?_; rintro e w6 ⟨rfl, hb6⟩))
    go_ret
    exact ⟨rfl, (hB.trans (hb5.mono hB.size)).trans (hb6.mono (Nat.le_trans hB.size hb5.size))⟩
  case step =>
    rintro D a V i ds hcl2 hi2 hds hDi ⟨t3, t8, t9, t10, rfl, g0, g1, g2, g3, g4, hb, hi, hB⟩
    have hi6 : i < 5 := (List.getElem?_eq_some_iff.1 hi2).1
    obtain rfl | rfl | rfl | rfl | rfl : i = 0 ∨ i = 1 ∨ i = 2 ∨ i = 3 ∨ i = 4 := by omega
    all_goals
      simp only [List.getElem?_cons_zero, List.getElem?_cons_succ, Option.some.injEq] at hi2
      subst hi2
    · have k0 := hb.c0
      have k1 := hb.c1
      clear hds
      refine wpOp_go rfl rfl (fun K hK => ?_)
      go_simp
      exact hK _ _ ⟨_, _, _, _, rfl, fun _ => rfl, g1, g2, g3, g4, hb, hi, hB⟩
    · clear hds
      have HG := hidD g4
      have HG3 := hidD g3
      refine wpOp_go rfl rfl (fun K hK => ?_)
      go_simp
      go_wp2_with (go_at_call 10; refine (iof_c 1 (by omega) (by omega) _).mono ?_; rintro e w5 ⟨v5, rfl, hv5, hb5⟩)
      exact ⟨_, _, _, _, rfl, g0, fun _ => hv5, fun h => (g2 h).below hb5, fun h h' => by
        obtain ⟨B3, e, q, q2, q3⟩ := g3 h h'
        exact ⟨B3, e, q.below hb5, q2, q3⟩, fun h => by
        obtain ⟨B3, s3, a3, l3, c3, e, e2, q⟩ := g4 h
        exact ⟨B3, s3, a3, l3, c3, e, e2, q.below hb5⟩, hb.below hb5, hi.below hb5, hB.trans (hb5.mono hB.size)⟩
    · obtain rfl := g0 (hds 0 (by simp))
      have h9 := g1 (hds 1 (by simp))
      have hf4 : D 4 = false := by
        cases h : D 4 with
        | false => rfl
        | true => rw [hcl2 4 _ rfl h 2 (by simp)] at hDi; cases hDi
      clear hds
      refine wpOp_go rfl rfl (fun K hK => ?_)
      go_simp
      go_wp2_with (go_at_call 15; refine (iplus_c _ _ aliveN 1 _ hi h9 aliveN_len one_len).mono ?_; rintro e w5 ⟨v5, rfl, hv5, hb5⟩)
      exact ⟨_, _, _, _, rfl, fun _ => rfl, fun _ => h9.below hb5, fun _ => hv5, fun h h' => by
        obtain ⟨B3, e, q, q2, q3⟩ := g3 h h'
        exact ⟨B3, e, q.below hb5, q2, q3⟩, fun h => by simp [hf4] at h, hb.below hb5, hi.below hb5, hB.trans (hb5.mono hB.size)⟩
    · have hf4 : D 4 = false := by
        cases h : D 4 with
        | false => rfl
        | true => rw [hcl2 4 _ rfl h 3 (by simp)] at hDi; cases hDi
      clear hds
      refine wpOp_go rfl rfl (fun K hK => ?_)
      go_simp
      exact hK _ _ ⟨_, _, _, _, rfl, g0, fun h => (g1 h).alloc _, fun h => (g2 h).alloc _, fun _ _ => ⟨_, rfl, Box2.new _ _ _ _, hB.size, fun e => by have := hb.lt; omega⟩, fun h => by simp [hf4] at h, hb.alloc _, hi.alloc _, hB.alloc hB.size _⟩
    · obtain ⟨B3, rfl, hb3, hw3, hne3⟩ := g3 (hds 3 (by simp)) hDi
      have h10 := g2 (hds 2 (by simp))
      obtain ⟨a3, l3, c3, rfl⟩ := h10.form
      have k0 := hb3.c0
      have k1 := hb3.c1
      have f0 := hb3.f0
      have f1 := hb3.f1
      clear g4
      refine wpOp_go rfl rfl (fun K hK => ?_)
      go_simp
      exact hK _ _ ⟨_, _, _, _, rfl, (by first | exact g0 | exact fun _ => rfl), fun h => (g1 h).box hb3 rfl rfl, fun _ => h10.box hb3 rfl rfl, fun _ h => by simp at h, fun _ => ⟨B3, _, a3, l3, c3, rfl, rfl, (hb3.set0 _).set1 _⟩, (hb.far (p := ⟨B3, 0, none⟩) (fun e => hne3 e.symm) _).far (p := ⟨B3, 1, none⟩) (fun e => hne3 e.symm) _, hi.box hb3 rfl rfl, (hB.setCell (p := ⟨B3, 0, none⟩) hw3 _).setCell (p := ⟨B3, 1, none⟩) hw3 _⟩
end Go.Proofs.YtjmmnpfedhkjbaaDoor
namespace Go.Proofs.YtjmmnpfedhkjbaaDoor
open Go.RowKit Go.Shelf

attribute [local go_sem] Oper.semAt_some

theorem wlst_back (s : ByteArray) : (⟨(wlst s).toArray⟩ : ByteArray) = s := by
  apply ByteArray.ext
  simp [wlst]

theorem int_szB {n : Int} (h1 : -9223372036854775808 ≤ n) (h2 : n ≤ 9223372036854775807) : szB n ≤ 1000000000 := by
  have h3 : (10000 : Nat) ^ 5 = 100000000000000000000 := by decide
  have h4 := limbs_length_le (B := 10000) (by omega) (n := n.natAbs) (k := 5) (by omega)
  unfold szB
  omega

set_option maxRecDepth 100000 in
set_option maxHeartbeats 1000000 in
theorem wholeTexts_good (s : ByteArray) (hs : s.size ≤ 140737488351232) (n : Int) (h1 : -9223372036854775808 ≤ n) (h2 : n ≤ 9223372036854775807) (hg : good (wlst s) = true) (w : World) (htab : Lib.TabIs Tryd.prog w "internal/strconv.uint64pow10" .u64 Lib.pow10Tab) :
    Calls Tryd.prog 3 #[.string s, .int .i64 n] w fun e w' => e = .returned (.bool true) ∧ Below w.heap.size w w' := by
  have HT := hidD htab
  have HG := hidD hg
  have HTX := hidD (show (⟨(decZ (valZ (wlst s))).toArray⟩ : ByteArray) = s by rw [good_dec hg, wlst_back])
  have HZ := hidD (show szB (valZ (wlst s)) ≤ 1000000000 by
    have := good_size hg (B := 10000) (by omega)
    unfold szB; omega)
  clear htab hg
  generalize hz : valZ (wlst s) = z at *
  have HV := hidD hz
  clear hz
  go_enter Tryd.func3, Tryd.ntmps3
  go_upto_region 3 with (first
    | (go_at_call 6; refine (iparse_c s hs _).mono ?_; rintro e w1 ⟨q1, _, hb1⟩; obtain ⟨u, rfl, hu⟩ := q1 HG.out; rw [HV.out] at hu; clear q1; obtain ⟨ua, ul, uc, rfl⟩ := hu.form)
    | (go_at_call 7; refine (parse_c s hs _).mono ?_; rintro e w2 ⟨q1, _, hb2⟩; obtain ⟨v, rfl, hv⟩ := q1 HG.out; have hv : IsBig w2 v z := (by rw [← HV.out]; exact hv); clear q1; obtain ⟨va, vl, vc, rfl, hv1⟩ := id hv))
  obtain ⟨t, ht⟩ : ∃ t, decide (z < 0) = t := ⟨_, rfl⟩
  rw [ht] at hu hv ⊢
  obtain ⟨W0, hW0⟩ : ∃ W0, w2.alloc (.cells #[.slice va vl vc, .bool t] 30) = W0 := ⟨_, rfl⟩
  have hb2' : Below w1.heap.size w1 w2 := by rw [ht] at hb2; exact ((Below.refl _ w1).alloc (Nat.le_refl _) _).trans (hb2.mono (by simp))
  have bA : Box2 W0 w1.heap.size 25 (.bool t) (.slice ua ul uc) := by rw [← hW0]; rw [ht] at hb2; exact ((Box2.new w1 _ _ _).below hb2).alloc _
  have bB : Box2 W0 w2.heap.size 30 (.slice va vl vc) (.bool t) := by rw [← hW0]; exact Box2.new _ _ _ _
  have x2 : IsInt W0 (.agg #[.bool t, .slice ua ul uc]) z := by rw [← hW0]; exact (hu.below hb2').alloc _
  have x3 : IsBig W0 (.agg #[.slice va vl vc, .bool t]) z := by rw [← hW0]; exact hv.below ((Below.refl _ w2).alloc (Nat.le_refl _) _)
  have hB : Below w.heap.size w W0 := by rw [← hW0]; exact (hb1.trans (hb2'.mono hb1.size)).alloc (Nat.le_trans hb1.size hb2'.size) _
  obtain ⟨B5, hB5⟩ : ∃ B5, B5 = w1.heap.size := ⟨_, rfl⟩
  obtain ⟨B7, hB7⟩ : ∃ B7, B7 = w2.heap.size := ⟨_, rfl⟩
  rw [hW0]
  rw [← hB5] at bA ⊢
  rw [← hB7] at bB ⊢
  clear hu hv hv1 hb1 hb2 hb2' hW0 hB5 hB7 ht
  have TI := hidD (fun (V : World) (h : Below W0.heap.size W0 V) => show Calls Tryd.prog 8 #[.agg #[.bool t, .slice ua ul uc]] V fun e w' => e = .returned (.string s) ∧ Below V.heap.size V w' by
    have h1 := itext_c _ z V (x2.below h) (tab_below HT.out (hB.trans (h.mono hB.size)))
    rw [HTX.out] at h1
    exact h1)
  have TR := hidD (fun (V : World) (h : Below W0.heap.size W0 V) => show Calls Tryd.prog 9 #[.agg #[.slice va vl vc, .bool t]] V fun e w' => e = .returned (.string s) ∧ Below V.heap.size V w' by
    have h1 := text_c _ z V (x3.below h) HZ.out
    rw [HTX.out] at h1
    exact h1)
  have hq : Below W0.heap.size W0 W0.drew := (Below.refl _ W0).drew
  have k0 := bA.c0
  have k1 := bA.c1
  have k2 := bB.c0
  have k3 := bB.c1
  clear x2 x3
  go_region_held3 (fun w' => w'.cell? ⟨B5, 0, none⟩ = some (.bool t) ∧ w'.cell? ⟨B5, 1, none⟩ = some (.slice ua ul uc) ∧ w'.cell? ⟨B7, 0, none⟩ = some (.slice va vl vc) ∧ w'.cell? ⟨B7, 1, none⟩ = some (.bool t)) (refine ⟨?_, ?_, ?_, ?_⟩ <;> (go_keep; done))
    (first
      | (go_at_call 8; refine (TI.out _ hq).mono ?_; rintro e w5 ⟨rfl, hb5⟩; have hq := Below.then hq hb5; have k0 := (bA.below hq).c0; have k1 := (bA.below hq).c1; have k2 := (bB.below hq).c0; have k3 := (bB.below hq).c1)
      | (go_at_call 9; refine (TR.out _ hq).mono ?_; rintro e w5 ⟨rfl, hb5⟩; have hq := Below.then hq hb5; have k0 := (bA.below hq).c0; have k1 := (bA.below hq).c1; have k2 := (bB.below hq).c0; have k3 := (bB.below hq).c1))
  have hW5 : Below w.heap.size w w5 := hB.trans (hq.mono hB.size)
  clear bA bB TI TR hB
  go_upto_region 7 with (go_at_call 10; refine (iof_c n h1 h2 _).mono ?_; rintro e w6 ⟨u6, rfl, hu6, hb6⟩; obtain ⟨ca, cl, cc, rfl⟩ := hu6.form)
  have hW6 : Below w.heap.size w w6 := Below.then hW5 hb6
  obtain ⟨r, hr⟩ : ∃ r, decide (n < 0) = r := ⟨_, rfl⟩
  rw [hr] at hu6 ⊢
  obtain ⟨W7, hW7⟩ : ∃ W7, (w6.alloc (.cells #[.bool r, .slice ca cl cc] 25)).alloc (.cells #[.bool false, .slice none 0 0] 25) = W7 := ⟨_, rfl⟩
  have bC : Box2 W7 w6.heap.size 25 (.bool r) (.slice ca cl cc) := by rw [← hW7]; exact (Box2.new _ _ _ _).alloc _
  have bN : Box2 W7 (w6.heap.size + 1) 25 (.bool false) (.slice none 0 0) := by
    have h1 := Box2.new (w6.alloc (.cells #[.bool r, .slice ca cl cc] 25)) 25 (.bool false) (.slice none 0 0)
    rw [World.size_alloc, hW7] at h1
    exact h1
  have hB7 : Below w.heap.size w W7 := by rw [← hW7]; exact (hW6.alloc hW6.size _).alloc (by have := hW6.size; simp; omega) _
  have y2 : IsInt W7 (.agg #[.bool r, .slice ca cl cc]) n := by rw [← hW7]; exact (hu6.alloc _).alloc _
  obtain ⟨S, hS⟩ : ∃ S : ByteArray, (⟨(decZ n).toArray⟩ : ByteArray) = S := ⟨_, rfl⟩
  have CI := hidD (fun (V : World) (h : Below W7.heap.size W7 V) => show Calls Tryd.prog 8 #[.agg #[.bool r, .slice ca cl cc]] V fun e w' => e = .returned (.string S) ∧ Below V.heap.size V w' by
    have h1 := itext_c _ n V (y2.below h) (tab_below HT.out (hB7.trans (h.mono hB7.size)))
    rw [hS] at h1
    exact h1)
  have CR := hidD (fun (V : World) (v : Value) (h : IsBig V v n) => show Calls Tryd.prog 9 #[v] V fun e w' => e = .returned (.string S) ∧ Below V.heap.size V w' by
    have h1 := text_c _ n V h (int_szB h1 h2)
    rw [hS] at h1
    exact h1)
  have CA := hidD (fun (V : World) (h : Below W7.heap.size W7 V) => alive_c V (tab_below HT.out (hB7.trans (h.mono hB7.size))))
  have hq : Below W7.heap.size W7 W7 := Below.refl _ W7
  obtain ⟨B9, hB9⟩ : ∃ B9, B9 = w6.heap.size := ⟨_, rfl⟩
  rw [hW7]
  rw [← hB9] at bC bN ⊢
  have k0 := bC.c0
  have k1 := bC.c1
  have k2 := bN.c0
  have k3 := bN.c1
  clear hW5 hW6 hb6 hu6 hW7 hB9 y2 hS hr
  go_wp2_with (first
    | (go_at_call 8; refine (CI.out _ hq).mono ?_; clear CI; rintro e w8 ⟨rfl, hb8⟩; have hq := Below.then hq hb8; have k0 := (bC.below hq).c0; have k1 := (bC.below hq).c1; have k2 := (bN.below hq).c0; have k3 := (bN.below hq).c1)
    | (go_at_call 8; refine (itext_0 none 0 _).mono ?_; rintro e w8 ⟨rfl, hb8⟩; have hq := Below.then hq hb8)
    | (go_at_call 11; refine (of_c n h1 h2 _).mono ?_; rintro e w8 ⟨v8, rfl, hv8, hb8⟩; have hq := Below.then hq hb8; have k0 := (bC.below hq).c0; have k1 := (bC.below hq).c1; have k2 := (bN.below hq).c0; have k3 := (bN.below hq).c1)
    | (go_at_call 9; refine (CR.out _ _ hv8).mono ?_; rintro e w8 ⟨rfl, hb8⟩; have hq := Below.then hq hb8; have k0 := (bC.below hq).c0; have k1 := (bC.below hq).c1; have k2 := (bN.below hq).c0; have k3 := (bN.below hq).c1)
    | (go_at_call 12; refine (CA.out _ hq).mono ?_; rintro e w8 ⟨rfl, hb8⟩; have hq := Below.then hq hb8))
  go_ret
  exact ⟨rfl, hB7.trans (hq.mono hB7.size)⟩
end Go.Proofs.YtjmmnpfedhkjbaaDoor
namespace Go.Proofs.YtjmmnpfedhkjbaaDoor
open Go.RowKit Go.Shelf

attribute [local go_sem] Oper.semAt_some

theorem wpOp_yes {P : Program} {ops : Array Oper} {Q : Exit → Act → World → Prop} {i : Nat} {o : Oper} {K : Act → World → Prop} {a : Act} {w : World} (ho : ops[i]? = some o) (hw : Region.wanted o (yielded ops a.tmps) = true)
    (h : ∀ K' : Act → World → Prop, (∀ a w, K a w → K' a w) → o.wp P a w K' Q) : wpOp P ops Q i K a w := by
  unfold wpOp
  rw [ho]
  simp only [hw, if_true]
  exact Or.inl (h K (fun _ _ h => h))

theorem wpOp_no {P : Program} {ops : Array Oper} {Q : Exit → Act → World → Prop} {i : Nat} {o : Oper} {K : Act → World → Prop} {a : Act} {w : World} (ho : ops[i]? = some o) (hw : Region.wanted o (yielded ops a.tmps) = false)
    (h : K (a.put o.dst undef) w) : wpOp P ops Q i K a w := by
  unfold wpOp
  rw [ho]
  simp only [hw]
  exact h

theorem isBig0 (V : World) : IsBig V (.agg #[.slice none 0 0, .bool false]) 0 := ⟨none, 0, 0, rfl, none, 0, by simp [limbs_zero], by simp [limbs_zero]⟩

set_option maxRecDepth 100000 in
set_option maxHeartbeats 1000000 in
theorem wholeTexts_bad (s : ByteArray) (hs : s.size ≤ 140737488351232) (n : Int) (h1 : -9223372036854775808 ≤ n) (h2 : n ≤ 9223372036854775807) (hg : good (wlst s) = false) (w : World) (htab : Lib.TabIs Tryd.prog w "internal/strconv.uint64pow10" .u64 Lib.pow10Tab) :
    Calls Tryd.prog 3 #[.string s, .int .i64 n] w fun e w' => e = .returned (.bool true) ∧ Below w.heap.size w w' := by
  have HT := hidD htab
  have HG := hidD hg
  have hmx : Tryd.prog.follows .mixedOrders = true := by kernel_rfl
  clear htab hg
  go_enter Tryd.func3, Tryd.ntmps3
  go_upto_region 3 with (first
    | (go_at_call 6; refine (iparse_c s hs _).mono ?_; rintro e w1 ⟨_, q1, hb1⟩; obtain rfl := q1 HG.out; clear q1; unfold noInt0)
    | (go_at_call 7; refine (parse_c s hs _).mono ?_; rintro e w2 ⟨_, q1, hb2⟩; obtain rfl := q1 HG.out; clear q1; unfold noBig))
  obtain ⟨W0, hW0⟩ : ∃ W0, w2.alloc (.cells #[.slice none 0 0, .bool false] 30) = W0 := ⟨_, rfl⟩
  have hb2' : Below w1.heap.size w1 w2 := ((Below.refl _ w1).alloc (Nat.le_refl _) _).trans (hb2.mono (by simp))
  have bA : Box2 W0 w1.heap.size 25 (.bool false) (.slice none 0 0) := by rw [← hW0]; exact ((Box2.new w1 _ _ _).below hb2).alloc _
  have bB : Box2 W0 w2.heap.size 30 (.slice none 0 0) (.bool false) := by rw [← hW0]; exact Box2.new _ _ _ _
  have hB : Below w.heap.size w W0 := by rw [← hW0]; exact (hb1.trans (hb2'.mono hb1.size)).alloc (Nat.le_trans hb1.size hb2'.size) _
  obtain ⟨B5, hB5⟩ : ∃ B5, B5 = w1.heap.size := ⟨_, rfl⟩
  obtain ⟨B7, hB7⟩ : ∃ B7, B7 = w2.heap.size := ⟨_, rfl⟩
  rw [hW0]
  rw [← hB5] at bA ⊢
  rw [← hB7] at bB ⊢
  clear hb1 hb2 hb2' hW0 hB5 hB7
  have TR := hidD (fun (V : World) => show Calls Tryd.prog 9 #[.agg #[.slice none 0 0, .bool false]] V fun e w' => e = .returned (.string ⟨#[48]⟩) ∧ Below V.heap.size V w' from text_c _ 0 V (isBig0 V) (by simp [szB, limbs_zero]))
  have TI := hidD (fun (V : World) => itext_0 none 0 V)
  obtain ⟨S0, hS0⟩ : ∃ S0 : ByteArray, (⟨#[48]⟩ : ByteArray) = S0 := ⟨_, rfl⟩
  rw [hS0] at TR TI
  clear hS0
  refine wp_region_tab hmx [[], [], [0, 1], [2], [3], [4, 3, 3], [3], [6, 5, 3], [5, 7, 3], [3, 8], [9, 7], [10], [11, 10, 10], [12], [13, 12, 12], [12], [14, 15, 12], [12, 16, 10], [10, 17]] (by kernel_rfl) (by decide)
    (fun D a V => ∃ t21 t22 t23 t24 t25 t26 t27 t28 t29 t30 t31 t32 t33 t34 t35 t36 t37 t38 t39 : Value, a = { tmps := #[.string s, .int .i64 n, undef, undef, .bool false, .pointer (some ⟨B5, 0, none⟩), .bool false, .pointer (some ⟨B7, 0, none⟩), .bool false, undef, undef, .tuple #[.agg #[.bool false, .slice none 0 0], .bool false], .string s, .tuple #[.agg #[.bool false, .slice none 0 0], .bool false], .agg #[.bool false, .slice none 0 0], .bool false, .tuple #[.agg #[.slice none 0 0, .bool false], .bool false], .string s, .tuple #[.agg #[.slice none 0 0, .bool false], .bool false], .agg #[.slice none 0 0, .bool false], .bool false, t21, t22, t23, t24, t25, t26, t27, t28, t29, t30, t31, t32, t33, t34, t35, t36, t37, t38, t39, undef, undef, undef, undef, undef, undef, undef, undef, undef, undef, undef, undef, undef, undef, undef, undef, undef], defers := [] } ∧
      (D 0 = true → t21 = .bool false) ∧ (D 1 = true → t22 = .bool false) ∧ (D 2 = true → t23 = .bool false) ∧ (D 3 = true → t24 = .bool false) ∧ (D 4 = true → t25 = .agg #[.bool false, .slice none 0 0]) ∧ (D 5 = true → t26 = .string S0) ∧ (D 6 = true → t27 = .agg #[.slice none 0 0, .bool false]) ∧ (D 7 = true → t28 = .string S0) ∧ (D 8 = true → t29 = .bool false) ∧ (D 9 = true → t30 = .bool false) ∧ (D 10 = true → t31 = .bool false) ∧ (D 11 = true → t32 = .bool false) ∧ (D 12 = true → t33 = .bool false) ∧ (D 17 = true → t38 = .bool false) ∧ (D 18 = true → t39 = .bool false) ∧
      Box2 V B5 25 (.bool false) (.slice none 0 0) ∧ Box2 V B7 30 (.slice none 0 0) (.bool false) ∧ Below w.heap.size w V)
    ⟨_, _, _, _, _, _, _, _, _, _, _, _, _, _, _, _, _, _, _, rfl, by simp, by simp, by simp, by simp, by simp, by simp, by simp, by simp, by simp, by simp, by simp, by simp, by simp, by simp, by simp, bA.drew, bB.drew, hB.drew⟩ ?step ?fin
  case step =>
    clear hB bA bB
    rintro D a V i ds hcl2 hi2 hds hDi ⟨t21, t22, t23, t24, t25, t26, t27, t28, t29, t30, t31, t32, t33, t34, t35, t36, t37, t38, t39, rfl, g0, g1, g2, g3, g4, g5, g6, g7, g8, g9, g10, g11, g12, g17, g18, hb, hc, hB⟩
    have hi6 : i < 19 := (List.getElem?_eq_some_iff.1 hi2).1
    clear hcl2 hDi
    obtain rfl | rfl | rfl | rfl | rfl | rfl | rfl | rfl | rfl | rfl | rfl | rfl | rfl | rfl | rfl | rfl | rfl | rfl | rfl : i = 0 ∨ i = 1 ∨ i = 2 ∨ i = 3 ∨ i = 4 ∨ i = 5 ∨ i = 6 ∨ i = 7 ∨ i = 8 ∨ i = 9 ∨ i = 10 ∨ i = 11 ∨ i = 12 ∨ i = 13 ∨ i = 14 ∨ i = 15 ∨ i = 16 ∨ i = 17 ∨ i = 18 := by omega
    all_goals
      simp only [List.getElem?_cons_zero, List.getElem?_cons_succ, Option.some.injEq] at hi2
      subst hi2
      clear hi6
    · clear hds
      refine wpOp_yes rfl rfl (fun K hK => ?_)
      go_simp
      exact hK _ _ ⟨_, _, _, _, _, _, _, _, _, _, _, _, _, _, _, _, _, _, _, rfl, fun _ => rfl, (by first | exact g1 | exact fun _ => rfl), (by first | exact g2 | exact fun _ => rfl), (by first | exact g3 | exact fun _ => rfl), (by first | exact g4 | exact fun _ => rfl), (by first | exact g5 | exact fun _ => rfl), (by first | exact g6 | exact fun _ => rfl), (by first | exact g7 | exact fun _ => rfl), (by first | exact g8 | exact fun _ => rfl), (by first | exact g9 | exact fun _ => rfl), (by first | exact g10 | exact fun _ => rfl), (by first | exact g11 | exact fun _ => rfl), (by first | exact g12 | exact fun _ => rfl), (by first | exact g17 | exact fun _ => rfl), (by first | exact g18 | exact fun _ => rfl), hb, hc, hB⟩
    · clear hds
      refine wpOp_yes rfl rfl (fun K hK => ?_)
      go_simp
      exact hK _ _ ⟨_, _, _, _, _, _, _, _, _, _, _, _, _, _, _, _, _, _, _, rfl, (by first | exact g0 | exact fun _ => rfl), fun _ => rfl, (by first | exact g2 | exact fun _ => rfl), (by first | exact g3 | exact fun _ => rfl), (by first | exact g4 | exact fun _ => rfl), (by first | exact g5 | exact fun _ => rfl), (by first | exact g6 | exact fun _ => rfl), (by first | exact g7 | exact fun _ => rfl), (by first | exact g8 | exact fun _ => rfl), (by first | exact g9 | exact fun _ => rfl), (by first | exact g10 | exact fun _ => rfl), (by first | exact g11 | exact fun _ => rfl), (by first | exact g12 | exact fun _ => rfl), (by first | exact g17 | exact fun _ => rfl), (by first | exact g18 | exact fun _ => rfl), hb, hc, hB⟩
    · obtain rfl := g0 (hds 0 (by simp))
      obtain rfl := g1 (hds 1 (by simp))
      clear hds
      refine wpOp_yes rfl rfl (fun K hK => ?_)
      go_simp
      exact hK _ _ ⟨_, _, _, _, _, _, _, _, _, _, _, _, _, _, _, _, _, _, _, rfl, (by first | exact g0 | exact fun _ => rfl), (by first | exact g1 | exact fun _ => rfl), fun _ => rfl, (by first | exact g3 | exact fun _ => rfl), (by first | exact g4 | exact fun _ => rfl), (by first | exact g5 | exact fun _ => rfl), (by first | exact g6 | exact fun _ => rfl), (by first | exact g7 | exact fun _ => rfl), (by first | exact g8 | exact fun _ => rfl), (by first | exact g9 | exact fun _ => rfl), (by first | exact g10 | exact fun _ => rfl), (by first | exact g11 | exact fun _ => rfl), (by first | exact g12 | exact fun _ => rfl), (by first | exact g17 | exact fun _ => rfl), (by first | exact g18 | exact fun _ => rfl), hb, hc, hB⟩
    · obtain rfl := g2 (hds 2 (by simp))
      clear hds
      refine wpOp_yes rfl rfl (fun K hK => ?_)
      go_simp
      exact hK _ _ ⟨_, _, _, _, _, _, _, _, _, _, _, _, _, _, _, _, _, _, _, rfl, (by first | exact g0 | exact fun _ => rfl), (by first | exact g1 | exact fun _ => rfl), (by first | exact g2 | exact fun _ => rfl), fun _ => rfl, (by first | exact g4 | exact fun _ => rfl), (by first | exact g5 | exact fun _ => rfl), (by first | exact g6 | exact fun _ => rfl), (by first | exact g7 | exact fun _ => rfl), (by first | exact g8 | exact fun _ => rfl), (by first | exact g9 | exact fun _ => rfl), (by first | exact g10 | exact fun _ => rfl), (by first | exact g11 | exact fun _ => rfl), (by first | exact g12 | exact fun _ => rfl), (by first | exact g17 | exact fun _ => rfl), (by first | exact g18 | exact fun _ => rfl), hb, hc, hB⟩
    · obtain rfl := g3 (hds 3 (by simp))
      clear hds
      have k0 := hb.c0
      have k1 := hb.c1
      refine wpOp_yes rfl rfl (fun K hK => ?_)
      go_simp
      exact hK _ _ ⟨_, _, _, _, _, _, _, _, _, _, _, _, _, _, _, _, _, _, _, rfl, (by first | exact g0 | exact fun _ => rfl), (by first | exact g1 | exact fun _ => rfl), (by first | exact g2 | exact fun _ => rfl), (by first | exact g3 | exact fun _ => rfl), fun _ => rfl, (by first | exact g5 | exact fun _ => rfl), (by first | exact g6 | exact fun _ => rfl), (by first | exact g7 | exact fun _ => rfl), (by first | exact g8 | exact fun _ => rfl), (by first | exact g9 | exact fun _ => rfl), (by first | exact g10 | exact fun _ => rfl), (by first | exact g11 | exact fun _ => rfl), (by first | exact g12 | exact fun _ => rfl), (by first | exact g17 | exact fun _ => rfl), (by first | exact g18 | exact fun _ => rfl), hb, hc, hB⟩
    · obtain rfl := g3 (hds 3 (by simp))
      obtain rfl := g4 (hds 4 (by simp))
      clear hds
      refine wpOp_yes rfl rfl (fun K hK => ?_)
      go_simp
      go_wp2_with (go_at_call 8; refine (TI.out _).mono ?_; rintro e w8 ⟨rfl, hb8⟩)
      exact ⟨_, _, _, _, _, _, _, _, _, _, _, _, _, _, _, _, _, _, _, rfl, (by first | exact g0 | exact fun _ => rfl), (by first | exact g1 | exact fun _ => rfl), (by first | exact g2 | exact fun _ => rfl), (by first | exact g3 | exact fun _ => rfl), (by first | exact g4 | exact fun _ => rfl), fun _ => rfl, (by first | exact g6 | exact fun _ => rfl), (by first | exact g7 | exact fun _ => rfl), (by first | exact g8 | exact fun _ => rfl), (by first | exact g9 | exact fun _ => rfl), (by first | exact g10 | exact fun _ => rfl), (by first | exact g11 | exact fun _ => rfl), (by first | exact g12 | exact fun _ => rfl), (by first | exact g17 | exact fun _ => rfl), (by first | exact g18 | exact fun _ => rfl), hb.below hb8, hc.below hb8, Below.then hB hb8⟩
    · obtain rfl := g3 (hds 3 (by simp))
      clear hds
      have k0 := hc.c0
      have k1 := hc.c1
      refine wpOp_yes rfl rfl (fun K hK => ?_)
      go_simp
      exact hK _ _ ⟨_, _, _, _, _, _, _, _, _, _, _, _, _, _, _, _, _, _, _, rfl, (by first | exact g0 | exact fun _ => rfl), (by first | exact g1 | exact fun _ => rfl), (by first | exact g2 | exact fun _ => rfl), (by first | exact g3 | exact fun _ => rfl), (by first | exact g4 | exact fun _ => rfl), (by first | exact g5 | exact fun _ => rfl), fun _ => rfl, (by first | exact g7 | exact fun _ => rfl), (by first | exact g8 | exact fun _ => rfl), (by first | exact g9 | exact fun _ => rfl), (by first | exact g10 | exact fun _ => rfl), (by first | exact g11 | exact fun _ => rfl), (by first | exact g12 | exact fun _ => rfl), (by first | exact g17 | exact fun _ => rfl), (by first | exact g18 | exact fun _ => rfl), hb, hc, hB⟩
    · obtain rfl := g3 (hds 3 (by simp))
      obtain rfl := g5 (hds 5 (by simp))
      obtain rfl := g6 (hds 6 (by simp))
      clear hds
      refine wpOp_yes rfl rfl (fun K hK => ?_)
      go_simp
      go_wp2_with (go_at_call 9; refine (TR.out _).mono ?_; rintro e w8 ⟨rfl, hb8⟩)
      exact ⟨_, _, _, _, _, _, _, _, _, _, _, _, _, _, _, _, _, _, _, rfl, (by first | exact g0 | exact fun _ => rfl), (by first | exact g1 | exact fun _ => rfl), (by first | exact g2 | exact fun _ => rfl), (by first | exact g3 | exact fun _ => rfl), (by first | exact g4 | exact fun _ => rfl), (by first | exact g5 | exact fun _ => rfl), (by first | exact g6 | exact fun _ => rfl), fun _ => rfl, (by first | exact g8 | exact fun _ => rfl), (by first | exact g9 | exact fun _ => rfl), (by first | exact g10 | exact fun _ => rfl), (by first | exact g11 | exact fun _ => rfl), (by first | exact g12 | exact fun _ => rfl), (by first | exact g17 | exact fun _ => rfl), (by first | exact g18 | exact fun _ => rfl), hb.below hb8, hc.below hb8, Below.then hB hb8⟩
    · obtain rfl := g3 (hds 3 (by simp))
      obtain rfl := g5 (hds 5 (by simp))
      obtain rfl := g7 (hds 7 (by simp))
      clear hds
      refine wpOp_yes rfl rfl (fun K hK => ?_)
      go_simp
      exact hK _ _ ⟨_, _, _, _, _, _, _, _, _, _, _, _, _, _, _, _, _, _, _, rfl, (by first | exact g0 | exact fun _ => rfl), (by first | exact g1 | exact fun _ => rfl), (by first | exact g2 | exact fun _ => rfl), (by first | exact g3 | exact fun _ => rfl), (by first | exact g4 | exact fun _ => rfl), (by first | exact g5 | exact fun _ => rfl), (by first | exact g6 | exact fun _ => rfl), (by first | exact g7 | exact fun _ => rfl), fun _ => rfl, (by first | exact g9 | exact fun _ => rfl), (by first | exact g10 | exact fun _ => rfl), (by first | exact g11 | exact fun _ => rfl), (by first | exact g12 | exact fun _ => rfl), (by first | exact g17 | exact fun _ => rfl), (by first | exact g18 | exact fun _ => rfl), hb, hc, hB⟩
    · obtain rfl := g3 (hds 3 (by simp))
      obtain rfl := g8 (hds 8 (by simp))
      clear hds
      refine wpOp_yes rfl rfl (fun K hK => ?_)
      go_simp
      exact hK _ _ ⟨_, _, _, _, _, _, _, _, _, _, _, _, _, _, _, _, _, _, _, rfl, (by first | exact g0 | exact fun _ => rfl), (by first | exact g1 | exact fun _ => rfl), (by first | exact g2 | exact fun _ => rfl), (by first | exact g3 | exact fun _ => rfl), (by first | exact g4 | exact fun _ => rfl), (by first | exact g5 | exact fun _ => rfl), (by first | exact g6 | exact fun _ => rfl), (by first | exact g7 | exact fun _ => rfl), (by first | exact g8 | exact fun _ => rfl), fun _ => rfl, (by first | exact g10 | exact fun _ => rfl), (by first | exact g11 | exact fun _ => rfl), (by first | exact g12 | exact fun _ => rfl), (by first | exact g17 | exact fun _ => rfl), (by first | exact g18 | exact fun _ => rfl), hb, hc, hB⟩
    · obtain rfl := g7 (hds 7 (by simp))
      obtain rfl := g9 (hds 9 (by simp))
      clear hds
      refine wpOp_yes rfl rfl (fun K hK => ?_)
      go_simp
      exact hK _ _ ⟨_, _, _, _, _, _, _, _, _, _, _, _, _, _, _, _, _, _, _, rfl, (by first | exact g0 | exact fun _ => rfl), (by first | exact g1 | exact fun _ => rfl), (by first | exact g2 | exact fun _ => rfl), (by first | exact g3 | exact fun _ => rfl), (by first | exact g4 | exact fun _ => rfl), (by first | exact g5 | exact fun _ => rfl), (by first | exact g6 | exact fun _ => rfl), (by first | exact g7 | exact fun _ => rfl), (by first | exact g8 | exact fun _ => rfl), (by first | exact g9 | exact fun _ => rfl), fun _ => rfl, (by first | exact g11 | exact fun _ => rfl), (by first | exact g12 | exact fun _ => rfl), (by first | exact g17 | exact fun _ => rfl), (by first | exact g18 | exact fun _ => rfl), hb, hc, hB⟩
    · obtain rfl := g10 (hds 10 (by simp))
      clear hds
      refine wpOp_yes rfl rfl (fun K hK => ?_)
      go_simp
      exact hK _ _ ⟨_, _, _, _, _, _, _, _, _, _, _, _, _, _, _, _, _, _, _, rfl, (by first | exact g0 | exact fun _ => rfl), (by first | exact g1 | exact fun _ => rfl), (by first | exact g2 | exact fun _ => rfl), (by first | exact g3 | exact fun _ => rfl), (by first | exact g4 | exact fun _ => rfl), (by first | exact g5 | exact fun _ => rfl), (by first | exact g6 | exact fun _ => rfl), (by first | exact g7 | exact fun _ => rfl), (by first | exact g8 | exact fun _ => rfl), (by first | exact g9 | exact fun _ => rfl), (by first | exact g10 | exact fun _ => rfl), fun _ => rfl, (by first | exact g12 | exact fun _ => rfl), (by first | exact g17 | exact fun _ => rfl), (by first | exact g18 | exact fun _ => rfl), hb, hc, hB⟩
    · obtain rfl := g10 (hds 10 (by simp))
      obtain rfl := g11 (hds 11 (by simp))
      clear hds
      refine wpOp_yes rfl rfl (fun K hK => ?_)
      go_simp
      exact hK _ _ ⟨_, _, _, _, _, _, _, _, _, _, _, _, _, _, _, _, _, _, _, rfl, (by first | exact g0 | exact fun _ => rfl), (by first | exact g1 | exact fun _ => rfl), (by first | exact g2 | exact fun _ => rfl), (by first | exact g3 | exact fun _ => rfl), (by first | exact g4 | exact fun _ => rfl), (by first | exact g5 | exact fun _ => rfl), (by first | exact g6 | exact fun _ => rfl), (by first | exact g7 | exact fun _ => rfl), (by first | exact g8 | exact fun _ => rfl), (by first | exact g9 | exact fun _ => rfl), (by first | exact g10 | exact fun _ => rfl), (by first | exact g11 | exact fun _ => rfl), fun _ => rfl, (by first | exact g17 | exact fun _ => rfl), (by first | exact g18 | exact fun _ => rfl), hb, hc, hB⟩
    · obtain rfl := g12 (hds 12 (by simp))
      clear hds
      exact wpOp_no rfl rfl ⟨_, _, _, _, _, _, _, _, _, _, _, _, _, _, _, _, _, _, _, rfl, (by first | exact g0 | exact fun _ => rfl), (by first | exact g1 | exact fun _ => rfl), (by first | exact g2 | exact fun _ => rfl), (by first | exact g3 | exact fun _ => rfl), (by first | exact g4 | exact fun _ => rfl), (by first | exact g5 | exact fun _ => rfl), (by first | exact g6 | exact fun _ => rfl), (by first | exact g7 | exact fun _ => rfl), (by first | exact g8 | exact fun _ => rfl), (by first | exact g9 | exact fun _ => rfl), (by first | exact g10 | exact fun _ => rfl), (by first | exact g11 | exact fun _ => rfl), (by first | exact g12 | exact fun _ => rfl), (by first | exact g17 | exact fun _ => rfl), (by first | exact g18 | exact fun _ => rfl), hb, hc, hB⟩
    · obtain rfl := g12 (hds 12 (by simp))
      clear hds
      exact wpOp_no rfl rfl ⟨_, _, _, _, _, _, _, _, _, _, _, _, _, _, _, _, _, _, _, rfl, (by first | exact g0 | exact fun _ => rfl), (by first | exact g1 | exact fun _ => rfl), (by first | exact g2 | exact fun _ => rfl), (by first | exact g3 | exact fun _ => rfl), (by first | exact g4 | exact fun _ => rfl), (by first | exact g5 | exact fun _ => rfl), (by first | exact g6 | exact fun _ => rfl), (by first | exact g7 | exact fun _ => rfl), (by first | exact g8 | exact fun _ => rfl), (by first | exact g9 | exact fun _ => rfl), (by first | exact g10 | exact fun _ => rfl), (by first | exact g11 | exact fun _ => rfl), (by first | exact g12 | exact fun _ => rfl), (by first | exact g17 | exact fun _ => rfl), (by first | exact g18 | exact fun _ => rfl), hb, hc, hB⟩
    · obtain rfl := g12 (hds 12 (by simp))
      clear hds
      exact wpOp_no rfl rfl ⟨_, _, _, _, _, _, _, _, _, _, _, _, _, _, _, _, _, _, _, rfl, (by first | exact g0 | exact fun _ => rfl), (by first | exact g1 | exact fun _ => rfl), (by first | exact g2 | exact fun _ => rfl), (by first | exact g3 | exact fun _ => rfl), (by first | exact g4 | exact fun _ => rfl), (by first | exact g5 | exact fun _ => rfl), (by first | exact g6 | exact fun _ => rfl), (by first | exact g7 | exact fun _ => rfl), (by first | exact g8 | exact fun _ => rfl), (by first | exact g9 | exact fun _ => rfl), (by first | exact g10 | exact fun _ => rfl), (by first | exact g11 | exact fun _ => rfl), (by first | exact g12 | exact fun _ => rfl), (by first | exact g17 | exact fun _ => rfl), (by first | exact g18 | exact fun _ => rfl), hb, hc, hB⟩
    · obtain rfl := g12 (hds 12 (by simp))
      clear hds
      exact wpOp_no rfl rfl ⟨_, _, _, _, _, _, _, _, _, _, _, _, _, _, _, _, _, _, _, rfl, (by first | exact g0 | exact fun _ => rfl), (by first | exact g1 | exact fun _ => rfl), (by first | exact g2 | exact fun _ => rfl), (by first | exact g3 | exact fun _ => rfl), (by first | exact g4 | exact fun _ => rfl), (by first | exact g5 | exact fun _ => rfl), (by first | exact g6 | exact fun _ => rfl), (by first | exact g7 | exact fun _ => rfl), (by first | exact g8 | exact fun _ => rfl), (by first | exact g9 | exact fun _ => rfl), (by first | exact g10 | exact fun _ => rfl), (by first | exact g11 | exact fun _ => rfl), (by first | exact g12 | exact fun _ => rfl), (by first | exact g17 | exact fun _ => rfl), (by first | exact g18 | exact fun _ => rfl), hb, hc, hB⟩
    · obtain rfl := g10 (hds 10 (by simp))
      obtain rfl := g12 (hds 12 (by simp))
      clear hds
      refine wpOp_yes rfl rfl (fun K hK => ?_)
      go_simp
      exact hK _ _ ⟨_, _, _, _, _, _, _, _, _, _, _, _, _, _, _, _, _, _, _, rfl, (by first | exact g0 | exact fun _ => rfl), (by first | exact g1 | exact fun _ => rfl), (by first | exact g2 | exact fun _ => rfl), (by first | exact g3 | exact fun _ => rfl), (by first | exact g4 | exact fun _ => rfl), (by first | exact g5 | exact fun _ => rfl), (by first | exact g6 | exact fun _ => rfl), (by first | exact g7 | exact fun _ => rfl), (by first | exact g8 | exact fun _ => rfl), (by first | exact g9 | exact fun _ => rfl), (by first | exact g10 | exact fun _ => rfl), (by first | exact g11 | exact fun _ => rfl), (by first | exact g12 | exact fun _ => rfl), fun _ => rfl, (by first | exact g18 | exact fun _ => rfl), hb, hc, hB⟩
    · obtain rfl := g10 (hds 10 (by simp))
      obtain rfl := g17 (hds 17 (by simp))
      clear hds
      refine wpOp_yes rfl rfl (fun K hK => ?_)
      go_simp
      exact hK _ _ ⟨_, _, _, _, _, _, _, _, _, _, _, _, _, _, _, _, _, _, _, rfl, (by first | exact g0 | exact fun _ => rfl), (by first | exact g1 | exact fun _ => rfl), (by first | exact g2 | exact fun _ => rfl), (by first | exact g3 | exact fun _ => rfl), (by first | exact g4 | exact fun _ => rfl), (by first | exact g5 | exact fun _ => rfl), (by first | exact g6 | exact fun _ => rfl), (by first | exact g7 | exact fun _ => rfl), (by first | exact g8 | exact fun _ => rfl), (by first | exact g9 | exact fun _ => rfl), (by first | exact g10 | exact fun _ => rfl), (by first | exact g11 | exact fun _ => rfl), (by first | exact g12 | exact fun _ => rfl), (by first | exact g17 | exact fun _ => rfl), fun _ => rfl, hb, hc, hB⟩
  clear hB bA bB
  rintro D a w5 hDD ⟨t21, t22, t23, t24, t25, t26, t27, t28, t29, t30, t31, t32, t33, t34, t35, t36, t37, t38, t39, rfl, g0, g1, g2, g3, g4, g5, g6, g7, g8, g9, g10, g11, g12, g17, g18, hb, hc, hB⟩
  obtain rfl := g0 (hDD 0 (by decide))
  obtain rfl := g1 (hDD 1 (by decide))
  obtain rfl := g2 (hDD 2 (by decide))
  obtain rfl := g3 (hDD 3 (by decide))
  obtain rfl := g4 (hDD 4 (by decide))
  obtain rfl := g5 (hDD 5 (by decide))
  obtain rfl := g6 (hDD 6 (by decide))
  obtain rfl := g7 (hDD 7 (by decide))
  obtain rfl := g8 (hDD 8 (by decide))
  obtain rfl := g9 (hDD 9 (by decide))
  obtain rfl := g10 (hDD 10 (by decide))
  obtain rfl := g11 (hDD 11 (by decide))
  obtain rfl := g12 (hDD 12 (by decide))
  obtain rfl := g17 (hDD 17 (by decide))
  obtain rfl := g18 (hDD 18 (by decide))
  clear hDD
  have hW5 : Below w.heap.size w w5 := hB
  clear hb hc TI TR hB
  go_upto_region 7 with (go_at_call 10; refine (iof_c n h1 h2 _).mono ?_; rintro e w6 ⟨u6, rfl, hu6, hb6⟩; obtain ⟨ca, cl, cc, rfl⟩ := hu6.form)
  have hW6 : Below w.heap.size w w6 := Below.then hW5 hb6
  obtain ⟨r, hr⟩ : ∃ r, decide (n < 0) = r := ⟨_, rfl⟩
  rw [hr] at hu6 ⊢
  obtain ⟨W7, hW7⟩ : ∃ W7, (w6.alloc (.cells #[.bool r, .slice ca cl cc] 25)).alloc (.cells #[.bool false, .slice none 0 0] 25) = W7 := ⟨_, rfl⟩
  have bC : Box2 W7 w6.heap.size 25 (.bool r) (.slice ca cl cc) := by rw [← hW7]; exact (Box2.new _ _ _ _).alloc _
  have bN : Box2 W7 (w6.heap.size + 1) 25 (.bool false) (.slice none 0 0) := by
    have h1 := Box2.new (w6.alloc (.cells #[.bool r, .slice ca cl cc] 25)) 25 (.bool false) (.slice none 0 0)
    rw [World.size_alloc, hW7] at h1
    exact h1
  have hB7 : Below w.heap.size w W7 := by rw [← hW7]; exact (hW6.alloc hW6.size _).alloc (by have := hW6.size; simp; omega) _
  have y2 : IsInt W7 (.agg #[.bool r, .slice ca cl cc]) n := by rw [← hW7]; exact (hu6.alloc _).alloc _
  obtain ⟨S, hS⟩ : ∃ S : ByteArray, (⟨(decZ n).toArray⟩ : ByteArray) = S := ⟨_, rfl⟩
  have CI := hidD (fun (V : World) (h : Below W7.heap.size W7 V) => show Calls Tryd.prog 8 #[.agg #[.bool r, .slice ca cl cc]] V fun e w' => e = .returned (.string S) ∧ Below V.heap.size V w' by
    have h1 := itext_c _ n V (y2.below h) (tab_below HT.out (hB7.trans (h.mono hB7.size)))
    rw [hS] at h1
    exact h1)
  have CR := hidD (fun (V : World) (v : Value) (h : IsBig V v n) => show Calls Tryd.prog 9 #[v] V fun e w' => e = .returned (.string S) ∧ Below V.heap.size V w' by
    have h1 := text_c _ n V h (int_szB h1 h2)
    rw [hS] at h1
    exact h1)
  have CA := hidD (fun (V : World) (h : Below W7.heap.size W7 V) => alive_c V (tab_below HT.out (hB7.trans (h.mono hB7.size))))
  have hq : Below W7.heap.size W7 W7 := Below.refl _ W7
  obtain ⟨B9, hB9⟩ : ∃ B9, B9 = w6.heap.size := ⟨_, rfl⟩
  rw [hW7]
  rw [← hB9] at bC bN ⊢
  have k0 := bC.c0
  have k1 := bC.c1
  have k2 := bN.c0
  have k3 := bN.c1
  clear hW5 hW6 hb6 hu6 hW7 hB9 y2 hS hr
  go_wp2_with (first
    | (go_at_call 8; refine (CI.out _ hq).mono ?_; clear CI; rintro e w8 ⟨rfl, hb8⟩; have hq := Below.then hq hb8; have k0 := (bC.below hq).c0; have k1 := (bC.below hq).c1; have k2 := (bN.below hq).c0; have k3 := (bN.below hq).c1)
    | (go_at_call 8; refine (itext_0 none 0 _).mono ?_; rintro e w8 ⟨rfl, hb8⟩; have hq := Below.then hq hb8)
    | (go_at_call 11; refine (of_c n h1 h2 _).mono ?_; rintro e w8 ⟨v8, rfl, hv8, hb8⟩; have hq := Below.then hq hb8; have k0 := (bC.below hq).c0; have k1 := (bC.below hq).c1; have k2 := (bN.below hq).c0; have k3 := (bN.below hq).c1)
    | (go_at_call 9; refine (CR.out _ _ hv8).mono ?_; rintro e w8 ⟨rfl, hb8⟩; have hq := Below.then hq hb8; have k0 := (bC.below hq).c0; have k1 := (bC.below hq).c1; have k2 := (bN.below hq).c0; have k3 := (bN.below hq).c1)
    | (go_at_call 12; refine (CA.out _ hq).mono ?_; rintro e w8 ⟨rfl, hb8⟩; have hq := Below.then hq hb8))
  go_ret
  exact ⟨rfl, hB7.trans (hq.mono hB7.size)⟩

theorem wholeTexts_c (s : ByteArray) (hs : s.size ≤ 140737488351232) (n : Int) (h1 : -9223372036854775808 ≤ n) (h2 : n ≤ 9223372036854775807) (w : World) (htab : Lib.TabIs Tryd.prog w "internal/strconv.uint64pow10" .u64 Lib.pow10Tab) :
    Calls Tryd.prog 3 #[.string s, .int .i64 n] w fun e w' => e = .returned (.bool true) ∧ Below w.heap.size w w' := by
  cases hg : good (wlst s)
  · exact wholeTexts_bad s hs n h1 h2 hg w htab
  · exact wholeTexts_good s hs n h1 h2 hg w htab
end Go.Proofs.YtjmmnpfedhkjbaaDoor
