import Derived.Test.YtahpgnkhophgpaaDoorWTx
import Derived.Test.YtahpgnkhophgpaaDoorWOf
import Derived.Test.YtahpgnkhophgpaaDoorWPm
import Derived.Test.YtahpgnkhophgpaaDoorHeldP
namespace Go.Proofs.YtahpgnkhophgpaaDoor
open Go.RowKit Go.Shelf

attribute [local go_sem] Oper.semAt_some

/-- The text that alive reads, and the one that it awaits. -/
def aliveA : List UInt8 := [45, 49, 50, 51, 52, 53, 54, 55, 56, 57, 48, 49, 50, 51, 52, 53, 54, 55, 56, 57, 48, 49, 50, 51, 52, 53, 54, 55, 56, 57, 48]
def aliveB : List UInt8 := [45, 49, 50, 51, 52, 53, 54, 55, 56, 57, 48, 49, 50, 51, 52, 53, 54, 55, 56, 57, 48, 49, 50, 51, 52, 53, 54, 55, 56, 56, 57]
def aliveN : Int := -123456789012345678901234567890

theorem aliveA_good : good aliveA = true := by decide
theorem aliveB_good : good aliveB = true := by decide
theorem aliveA_val : valZ aliveA = aliveN := by decide
theorem aliveB_val : valZ aliveB = aliveN + 1 := by decide
theorem aliveB_text : decZ (aliveN + 1) = aliveB := by rw [← aliveB_val]; exact good_dec aliveB_good
theorem aliveN_len : (limbs B64 aliveN.natAbs).length < 1099511627776 := by
  have := limbs_length_le two_le_B64 (n := aliveN.natAbs) (k := 2) (by unfold B64 aliveN; decide)
  omega
theorem one_len : (limbs B64 (1 : Int).natAbs).length < 1099511627776 := by
  have := limbs_length_le two_le_B64 (n := (1 : Int).natAbs) (k := 1) (by unfold B64; decide)
  omega
theorem alive_cmp : cmpI (aliveN + 1) aliveN = 1 := by decide

theorem IsInt.set {W : World} {v : Value} {z : Int} (h : IsInt W v z) {p : Addr} {u0 : Value} (hp : W.cell? p = some u0) (hn : noInt u0 = true) (u : Value) : IsInt (W.setCell p u) v z := by
  obtain ⟨a, l, cap, e, hr⟩ := h
  exact ⟨a, l, cap, e, Row.set hr hp hn u⟩

theorem IsInt.form {W : World} {v : Value} {z : Int} (h : IsInt W v z) : ∃ a l cap, v = .agg #[.bool (decide (z < 0)), .slice a l cap] := by
  obtain ⟨a, l, cap, e, _⟩ := h
  exact ⟨a, l, cap, e⟩

theorem IsInt.alloc {W : World} {v : Value} {z : Int} (h : IsInt W v z) (o : Obj) : IsInt (W.alloc o) v z := h.below ((Below.refl _ W).alloc (Nat.le_refl _) o)
theorem IsInt.drew {W : World} {v : Value} {z : Int} (h : IsInt W v z) : IsInt W.drew v z := h

/-- A number that is laid into a box of its own leaves the others. -/
theorem IsInt.box {W : World} {R : Nat} {t : TypeId} {u0 u1 x0 x1 v : Value} {z : Int} (h : IsInt W v z) (q : Box2 W R t u0 u1) (n0 : noInt u0 = true) (n1 : noInt u1 = true) : IsInt ((W.setCell ⟨R, 0, none⟩ x0).setCell ⟨R, 1, none⟩ x1) v z := by
  obtain ⟨a, l, cap, e, hr⟩ := h
  exact ⟨a, l, cap, e, Row.set (Row.set hr q.c0 n0 _) (u0 := u1) (q.set0 x0).c1 n1 _⟩

set_option maxRecDepth 100000 in
set_option maxHeartbeats 2000000 in
theorem alive_c (w : World) (htab : Lib.TabIs Tryd.prog w "internal/strconv.uint64pow10" .u64 Lib.pow10Tab) :
    Calls Tryd.prog 12 #[] w fun e w' => e = .returned (.bool true) ∧ Below w.heap.size w w' := by
  have HT := hidD htab
  have hmx : Tryd.prog.follows .mixedOrders = true := by kernel_rfl
  clear htab
  go_enter Tryd.func12, Tryd.ntmps12
  go_upto_region 2 with (go_at_call 6; refine (iparse_c ⟨aliveA.toArray⟩ (by decide) _).mono ?_; rintro e w1 ⟨h1, _, hb1⟩; obtain ⟨u, rfl, hu⟩ := h1 aliveA_good; have hu : IsInt w1 u aliveN := (by rw [← aliveA_val]; exact hu); clear h1; obtain ⟨ua, ul, uc, rfl⟩ := hu.form; obtain ⟨s, hs⟩ : ∃ s, decide (aliveN < 0) = s := ⟨_, rfl⟩; rw [hs] at hu; rw [hs]; clear hs)
  obtain ⟨W0, hW0⟩ : ∃ W0, w1.alloc (.cells #[.bool s, .slice ua ul uc] 25) = W0 := ⟨_, rfl⟩
  have x1 : Box2 W0 w1.heap.size 25 (.bool s) (.slice ua ul uc) := by rw [← hW0]; exact Box2.new _ _ _ _
  have x2 : IsInt W0 (.agg #[.bool s, .slice ua ul uc]) aliveN := by rw [← hW0]; exact hu.alloc _
  have x3 : Below w.heap.size w W0 := by rw [← hW0]; exact hb1.alloc hb1.size _
  obtain ⟨B1, hB1⟩ : ∃ B1, B1 = w1.heap.size := ⟨_, rfl⟩
  have hwB := hb1.size
  rw [hW0]
  rw [← hB1] at x1 hwB ⊢
  clear hW0 hu hb1 hB1
  refine wp_region_tab hmx [[], [], [0, 1, 1], [], [3, 2, 2, 0, 1, 2, 3]] (by kernel_rfl) (by decide)
    (fun D a V => ∃ t3 t8 t9 t10 : Value, a = { tmps := #[.bool false, .pointer (some ⟨B1, 0, none⟩), .bool true, t3, .tuple #[.agg #[.bool s, .slice ua ul uc], .bool true], .tuple #[.agg #[.bool s, .slice ua ul uc], .bool true], .agg #[.bool s, .slice ua ul uc], .bool true, t8, t9, t10, undef, undef, undef, undef, undef, undef, undef, undef, undef, undef, undef, undef], defers := [] } ∧
      (D 0 = true → t8 = .agg #[.bool s, .slice ua ul uc]) ∧ (D 1 = true → IsInt V t9 1) ∧ (D 2 = true → IsInt V t10 (aliveN + 1)) ∧
      (D 3 = true → D 4 = false → ∃ B3, t3 = .pointer (some ⟨B3, 0, none⟩) ∧ Box2 V B3 25 (.bool false) (.slice none 0 0) ∧ w.heap.size ≤ B3 ∧ B3 ≠ B1) ∧
      (D 4 = true → ∃ B3 s3 a3 l3 c3, t3 = .pointer (some ⟨B3, 0, none⟩) ∧ t10 = .agg #[.bool s3, .slice a3 l3 c3] ∧ Box2 V B3 25 (.bool s3) (.slice a3 l3 c3)) ∧
      Box2 V B1 25 (.bool s) (.slice ua ul uc) ∧ IsInt V (.agg #[.bool s, .slice ua ul uc]) aliveN ∧ Below w.heap.size w V)
    ⟨_, _, _, _, rfl, by simp, by simp, by simp, by simp, by simp, x1.drew, x2.drew, x3.drew⟩ ?step ?fin
  case fin =>
    rintro D a V hDD ⟨t3, t8, t9, t10, rfl, g0, g1, g2, g3, g4, hb, hi, hB⟩
    obtain ⟨B3, s3, a3, l3, c3, rfl, rfl, hb3⟩ := g4 (hDD 4 (by decide))
    have hi10 := g2 (hDD 2 (by decide))
    clear g0 g1 g2 g3 g4 hDD x1 x2 x3
    have HTX := hidD (show Calls Tryd.prog 8 #[.agg #[.bool s3, .slice a3 l3 c3]] V fun e w' => e = .returned (.string ⟨#[45, 49, 50, 51, 52, 53, 54, 55, 56, 57, 48, 49, 50, 51, 52, 53, 54, 55, 56, 57, 48, 49, 50, 51, 52, 53, 54, 55, 56, 56, 57]⟩) ∧ Below V.heap.size V w' by
      have h1 := itext_c _ _ V hi10 (tab_below HT.out hB)
      rw [aliveB_text] at h1
      exact h1)
    have HOR := hidD (fun (V' : World) (h : Below V.heap.size V V') => show Calls Tryd.prog 17 #[.agg #[.bool s3, .slice a3 l3 c3], .agg #[.bool s, .slice ua ul uc]] V' fun e w' => e = .returned (.int .i64 1) ∧ Below V'.heap.size V' w' by
      have h1 := iorder_c _ _ _ _ V' (hi10.below h) (hi.below h)
      rw [alive_cmp] at h1
      exact h1)
    have k0 := hb.c0
    have k1 := hb.c1
    have k2 := hb3.c0
    have k3 := hb3.c1
    go_wp2_with (first
      | (go_at_call 8; refine HTX.out.mono ?_; rintro e w5 ⟨rfl, hb5⟩; have m0 := (hb.below hb5).c0; have m1 := (hb.below hb5).c1; have m2 := (hb3.below hb5).c0; have m3 := (hb3.below hb5).c1)
      | (go_at_call 17; refine (HOR.out _ hb5).mono ?_; rintro e w6 ⟨rfl, hb6⟩))
    go_ret
    exact ⟨rfl, (hB.trans (hb5.mono hB.size)).trans (hb6.mono (Nat.le_trans hB.size hb5.size))⟩
  case step =>
    rintro D a V i ds hcl2 hi2 hds hDi ⟨t3, t8, t9, t10, rfl, g0, g1, g2, g3, g4, hb, hi, hB⟩
    have hi6 : i < 5 := (List.getElem?_eq_some_iff.1 hi2).1
    obtain rfl | rfl | rfl | rfl | rfl : i = 0 ∨ i = 1 ∨ i = 2 ∨ i = 3 ∨ i = 4 := by omega
    all_goals
      simp only [List.getElem?_cons_zero, List.getElem?_cons_succ, Option.some.injEq] at hi2
      subst hi2
    · have k0 := hb.c0
      have k1 := hb.c1
      clear hds
      refine wpOp_go rfl rfl (fun K hK => ?_)
      go_simp
      exact hK _ _ ⟨_, _, _, _, rfl, fun _ => rfl, g1, g2, g3, g4, hb, hi, hB⟩
    · clear hds
      have HG := hidD g4
      have HG3 := hidD g3
      refine wpOp_go rfl rfl (fun K hK => ?_)
      go_simp
      go_wp2_with (go_at_call 10; refine (iof_c 1 (by omega) (by omega) _).mono ?_; rintro e w5 ⟨v5, rfl, hv5, hb5⟩)
      exact ⟨_, _, _, _, rfl, g0, fun _ => hv5, fun h => (g2 h).below hb5, fun h h' => by
        obtain ⟨B3, e, q, q2, q3⟩ := g3 h h'
        exact ⟨B3, e, q.below hb5, q2, q3⟩, fun h => by
        obtain ⟨B3, s3, a3, l3, c3, e, e2, q⟩ := g4 h
        exact ⟨B3, s3, a3, l3, c3, e, e2, q.below hb5⟩, hb.below hb5, hi.below hb5, hB.trans (hb5.mono hB.size)⟩
    · obtain rfl := g0 (hds 0 (by simp))
      have h9 := g1 (hds 1 (by simp))
      have hf4 : D 4 = false := by
        cases h : D 4 with
        | false => rfl
        | true => rw [hcl2 4 _ rfl h 2 (by simp)] at hDi; cases hDi
      clear hds
      refine wpOp_go rfl rfl (fun K hK => ?_)
      go_simp
      go_wp2_with (go_at_call 15; refine (iplus_c _ _ aliveN 1 _ hi h9 aliveN_len one_len).mono ?_; rintro e w5 ⟨v5, rfl, hv5, hb5⟩)
      exact ⟨_, _, _, _, rfl, fun _ => rfl, fun _ => h9.below hb5, fun _ => hv5, fun h h' => by
        obtain ⟨B3, e, q, q2, q3⟩ := g3 h h'
        exact ⟨B3, e, q.below hb5, q2, q3⟩, fun h => by simp [hf4] at h, hb.below hb5, hi.below hb5, hB.trans (hb5.mono hB.size)⟩
    · have hf4 : D 4 = false := by
        cases h : D 4 with
        | false => rfl
        | true => rw [hcl2 4 _ rfl h 3 (by simp)] at hDi; cases hDi
      clear hds
      refine wpOp_go rfl rfl (fun K hK => ?_)
      go_simp
      exact hK _ _ ⟨_, _, _, _, rfl, g0, fun h => (g1 h).alloc _, fun h => (g2 h).alloc _, fun _ _ => ⟨_, rfl, Box2.new _ _ _ _, hB.size, fun e => by have := hb.lt; omega⟩, fun h => by simp [hf4] at h, hb.alloc _, hi.alloc _, hB.alloc hB.size _⟩
    · obtain ⟨B3, rfl, hb3, hw3, hne3⟩ := g3 (hds 3 (by simp)) hDi
      have h10 := g2 (hds 2 (by simp))
      obtain ⟨a3, l3, c3, rfl⟩ := h10.form
      have k0 := hb3.c0
      have k1 := hb3.c1
      have f0 := hb3.f0
      have f1 := hb3.f1
      clear g4
      refine wpOp_go rfl rfl (fun K hK => ?_)
      go_simp
      exact hK _ _ ⟨_, _, _, _, rfl, (by first | exact g0 | exact fun _ => rfl), fun h => (g1 h).box hb3 rfl rfl, fun _ => h10.box hb3 rfl rfl, fun _ h => by simp at h, fun _ => ⟨B3, _, a3, l3, c3, rfl, rfl, (hb3.set0 _).set1 _⟩, (hb.far (p := ⟨B3, 0, none⟩) (fun e => hne3 e.symm) _).far (p := ⟨B3, 1, none⟩) (fun e => hne3 e.symm) _, hi.box hb3 rfl rfl, (hB.setCell (p := ⟨B3, 0, none⟩) hw3 _).setCell (p := ⟨B3, 1, none⟩) hw3 _⟩
end Go.Proofs.YtahpgnkhophgpaaDoor
