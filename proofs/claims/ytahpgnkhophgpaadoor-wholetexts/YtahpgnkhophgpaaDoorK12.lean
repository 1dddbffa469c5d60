import Derived.Test.YtahpgnkhophgpaaDoorK10
import Derived.Test.YtahpgnkhophgpaaDoorK11
import Derived.Deep.RegionWith
import Derived.Test.YtahpgnkhophgpaaDoorRows
import Derived.ProofKit
import Derived.LaidMore
import Derived.OpenShut
import Derived.Stop.Joined
import Derived.SizedLaws
import Derived.Test.YtahpgnkhophgpaaDoorCards
import Derived.Test.YtahpgnkhophgpaaDoorTie
import Derived.SevenTiedAt
namespace Go.Proofs.YtahpgnkhophgpaaDoor
open Go.RowKit Go.Shelf

attribute [local go_sem] Oper.semAt_some

theorem wlst_back (s : ByteArray) : (⟨(wlst s).toArray⟩ : ByteArray) = s := by
  apply ByteArray.ext
  simp [wlst]

theorem int_szB {n : Int} (h1 : -9223372036854775808 ≤ n) (h2 : n ≤ 9223372036854775807) : szB n ≤ 1000000000 := by
  have h3 : (10000 : Nat) ^ 5 = 100000000000000000000 := by decide
  have h4 := limbs_length_le (B := 10000) (by omega) (n := n.natAbs) (k := 5) (by omega)
  unfold szB
  omega

set_option maxRecDepth 100000 in
set_option maxHeartbeats 1000000 in
theorem wholeTexts_good (s : ByteArray) (hs : s.size ≤ 140737488351232) (n : Int) (h1 : -9223372036854775808 ≤ n) (h2 : n ≤ 9223372036854775807) (hg : good (wlst s) = true) (w : World) (htab : Lib.TabIs Tryd.prog w "internal/strconv.uint64pow10" .u64 Lib.pow10Tab) :
    Calls Tryd.prog 3 #[.string s, .int .i64 n] w fun e w' => e = .returned (.bool true) ∧ Below w.heap.size w w' := by
  have HT := hidD htab
  have HG := hidD hg
  have HTX := hidD (show (⟨(decZ (valZ (wlst s))).toArray⟩ : ByteArray) = s by rw [good_dec hg, wlst_back])
  have HZ := hidD (show szB (valZ (wlst s)) ≤ 1000000000 by
    have := good_size hg (B := 10000) (by omega)
    unfold szB; omega)
  clear htab hg
  generalize hz : valZ (wlst s) = z at *
  have HV := hidD hz
  clear hz
  go_enter Tryd.func3, Tryd.ntmps3
  go_upto_region 3 with (first
    | (go_at_call 6; refine (iparse_c s hs _).mono ?_; rintro e w1 ⟨q1, _, hb1⟩; obtain ⟨u, rfl, hu⟩ := q1 HG.out; rw [HV.out] at hu; clear q1; obtain ⟨ua, ul, uc, rfl⟩ := hu.form)
    | (go_at_call 7; refine (parse_c s hs _).mono ?_; rintro e w2 ⟨q1, _, hb2⟩; obtain ⟨v, rfl, hv⟩ := q1 HG.out; have hv : IsBig w2 v z := (by rw [← HV.out]; exact hv); clear q1; obtain ⟨va, vl, vc, rfl, hv1⟩ := id hv))
  obtain ⟨t, ht⟩ : ∃ t, decide (z < 0) = t := ⟨_, rfl⟩
  rw [ht] at hu hv ⊢
  obtain ⟨W0, hW0⟩ : ∃ W0, w2.alloc (.cells #[.slice va vl vc, .bool t] 30) = W0 := ⟨_, rfl⟩
  have hb2' : Below w1.heap.size w1 w2 := by rw [ht] at hb2; exact ((Below.refl _ w1).alloc (Nat.le_refl _) _).trans (hb2.mono (by simp))
  have bA : Box2 W0 w1.heap.size 25 (.bool t) (.slice ua ul uc) := by rw [← hW0]; rw [ht] at hb2; exact ((Box2.new w1 _ _ _).below hb2).alloc _
  have bB : Box2 W0 w2.heap.size 30 (.slice va vl vc) (.bool t) := by rw [← hW0]; exact Box2.new _ _ _ _
  have x2 : IsInt W0 (.agg #[.bool t, .slice ua ul uc]) z := by rw [← hW0]; exact (hu.below hb2').alloc _
  have x3 : IsBig W0 (.agg #[.slice va vl vc, .bool t]) z := by rw [← hW0]; exact hv.below ((Below.refl _ w2).alloc (Nat.le_refl _) _)
  have hB : Below w.heap.size w W0 := by rw [← hW0]; exact (hb1.trans (hb2'.mono hb1.size)).alloc (Nat.le_trans hb1.size hb2'.size) _
  obtain ⟨B5, hB5⟩ : ∃ B5, B5 = w1.heap.size := ⟨_, rfl⟩
  obtain ⟨B7, hB7⟩ : ∃ B7, B7 = w2.heap.size := ⟨_, rfl⟩
  rw [hW0]
  rw [← hB5] at bA ⊢
  rw [← hB7] at bB ⊢
  clear hu hv hv1 hb1 hb2 hb2' hW0 hB5 hB7 ht
  have TI := hidD (fun (V : World) (h : Below W0.heap.size W0 V) => show Calls Tryd.prog 8 #[.agg #[.bool t, .slice ua ul uc]] V fun e w' => e = .returned (.string s) ∧ Below V.heap.size V w' by
    have h1 := itext_c _ z V (x2.below h) (tab_below HT.out (hB.trans (h.mono hB.size)))
    rw [HTX.out] at h1
    exact h1)
  have TR := hidD (fun (V : World) (h : Below W0.heap.size W0 V) => show Calls Tryd.prog 9 #[.agg #[.slice va vl vc, .bool t]] V fun e w' => e = .returned (.string s) ∧ Below V.heap.size V w' by
    have h1 := text_c _ z V (x3.below h) HZ.out
    rw [HTX.out] at h1
    exact h1)
  have hq : Below W0.heap.size W0 W0.drew := (Below.refl _ W0).drew
  have k0 := bA.c0
  have k1 := bA.c1
  have k2 := bB.c0
  have k3 := bB.c1
  clear x2 x3
  go_region_held3 (fun w' => w'.cell? ⟨B5, 0, none⟩ = some (.bool t) ∧ w'.cell? ⟨B5, 1, none⟩ = some (.slice ua ul uc) ∧ w'.cell? ⟨B7, 0, none⟩ = some (.slice va vl vc) ∧ w'.cell? ⟨B7, 1, none⟩ = some (.bool t)) (refine ⟨?_, ?_, ?_, ?_⟩ <;> (go_keep; done))
    (first
      | (go_at_call 8; refine (TI.out _ hq).mono ?_; rintro e w5 ⟨rfl, hb5⟩; have hq := Below.then hq hb5; have k0 := (bA.below hq).c0; have k1 := (bA.below hq).c1; have k2 := (bB.below hq).c0; have k3 := (bB.below hq).c1)
      | (go_at_call 9; refine (TR.out _ hq).mono ?_; rintro e w5 ⟨rfl, hb5⟩; have hq := Below.then hq hb5; have k0 := (bA.below hq).c0; have k1 := (bA.below hq).c1; have k2 := (bB.below hq).c0; have k3 := (bB.below hq).c1))
  have hW5 : Below w.heap.size w w5 := hB.trans (hq.mono hB.size)
  clear bA bB TI TR hB
  go_upto_region 7 with (go_at_call 10; refine (iof_c n h1 h2 _).mono ?_; rintro e w6 ⟨u6, rfl, hu6, hb6⟩; obtain ⟨ca, cl, cc, rfl⟩ := hu6.form)
  have hW6 : Below w.heap.size w w6 := Below.then hW5 hb6
  obtain ⟨r, hr⟩ : ∃ r, decide (n < 0) = r := ⟨_, rfl⟩
  rw [hr] at hu6 ⊢
  obtain ⟨W7, hW7⟩ : ∃ W7, (w6.alloc (.cells #[.bool r, .slice ca cl cc] 25)).alloc (.cells #[.bool false, .slice none 0 0] 25) = W7 := ⟨_, rfl⟩
  have bC : Box2 W7 w6.heap.size 25 (.bool r) (.slice ca cl cc) := by rw [← hW7]; exact (Box2.new _ _ _ _).alloc _
  have bN : Box2 W7 (w6.heap.size + 1) 25 (.bool false) (.slice none 0 0) := by
    have h1 := Box2.new (w6.alloc (.cells #[.bool r, .slice ca cl cc] 25)) 25 (.bool false) (.slice none 0 0)
    rw [World.size_alloc, hW7] at h1
    exact h1
  have hB7 : Below w.heap.size w W7 := by rw [← hW7]; exact (hW6.alloc hW6.size _).alloc (by have := hW6.size; simp; omega) _
  have y2 : IsInt W7 (.agg #[.bool r, .slice ca cl cc]) n := by rw [← hW7]; exact (hu6.alloc _).alloc _
  obtain ⟨S, hS⟩ : ∃ S : ByteArray, (⟨(decZ n).toArray⟩ : ByteArray) = S := ⟨_, rfl⟩
  have CI := hidD (fun (V : World) (h : Below W7.heap.size W7 V) => show Calls Tryd.prog 8 #[.agg #[.bool r, .slice ca cl cc]] V fun e w' => e = .returned (.string S) ∧ Below V.heap.size V w' by
    have h1 := itext_c _ n V (y2.below h) (tab_below HT.out (hB7.trans (h.mono hB7.size)))
    rw [hS] at h1
    exact h1)
  have CR := hidD (fun (V : World) (v : Value) (h : IsBig V v n) => show Calls Tryd.prog 9 #[v] V fun e w' => e = .returned (.string S) ∧ Below V.heap.size V w' by
    have h1 := text_c _ n V h (int_szB h1 h2)
    rw [hS] at h1
    exact h1)
  have CA := hidD (fun (V : World) (h : Below W7.heap.size W7 V) => alive_c V (tab_below HT.out (hB7.trans (h.mono hB7.size))))
  have hq : Below W7.heap.size W7 W7 := Below.refl _ W7
  obtain ⟨B9, hB9⟩ : ∃ B9, B9 = w6.heap.size := ⟨_, rfl⟩
  rw [hW7]
  rw [← hB9] at bC bN ⊢
  have k0 := bC.c0
  have k1 := bC.c1
  have k2 := bN.c0
  have k3 := bN.c1
  clear hW5 hW6 hb6 hu6 hW7 hB9 y2 hS hr
  go_wp2_with (first
    | (go_at_call 8; refine (CI.out _ hq).mono ?_; clear CI; rintro e w8 ⟨rfl, hb8⟩; have hq := Below.then hq hb8; have k0 := (bC.below hq).c0; have k1 := (bC.below hq).c1; have k2 := (bN.below hq).c0; have k3 := (bN.below hq).c1)
    | (go_at_call 8; refine (itext_0 none 0 _).mono ?_; rintro e w8 ⟨rfl, hb8⟩; have hq := Below.then hq hb8)
    | (go_at_call 11; refine (of_c n h1 h2 _).mono ?_; rintro e w8 ⟨v8, rfl, hv8, hb8⟩; have hq := Below.then hq hb8; have k0 := (bC.below hq).c0; have k1 := (bC.below hq).c1; have k2 := (bN.below hq).c0; have k3 := (bN.below hq).c1)
    | (go_at_call 9; refine (CR.out _ _ hv8).mono ?_; rintro e w8 ⟨rfl, hb8⟩; have hq := Below.then hq hb8; have k0 := (bC.below hq).c0; have k1 := (bC.below hq).c1; have k2 := (bN.below hq).c0; have k3 := (bN.below hq).c1)
    | (go_at_call 12; refine (CA.out _ hq).mono ?_; rintro e w8 ⟨rfl, hb8⟩; have hq := Below.then hq hb8))
  go_ret
  exact ⟨rfl, hB7.trans (hq.mono hB7.size)⟩
end Go.Proofs.YtahpgnkhophgpaaDoor

namespace Go.Proofs.YtahpgnkhophgpaaDoor
open Go.RowKit Go.Shelf

attribute [local go_sem] Oper.semAt_some

theorem wpOp_yes {P : Program} {ops : Array Oper} {Q : Exit → Act → World → Prop} {i : Nat} {o : Oper} {K : Act → World → Prop} {a : Act} {w : World} (ho : ops[i]? = some o) (hw : Region.wanted o (yielded ops a.tmps) = true)
    (h : ∀ K' : Act → World → Prop, (∀ a w, K a w → K' a w) → o.wp P a w K' Q) : wpOp P ops Q i K a w := by
  unfold wpOp
  rw [ho]
  simp only [hw, if_true]
  exact Or.inl (h K (fun _ _ h => h))

theorem wpOp_no {P : Program} {ops : Array Oper} {Q : Exit → Act → World → Prop} {i : Nat} {o : Oper} {K : Act → World → Prop} {a : Act} {w : World} (ho : ops[i]? = some o) (hw : Region.wanted o (yielded ops a.tmps) = false)
    (h : K (a.put o.dst undef) w) : wpOp P ops Q i K a w := by
  unfold wpOp
  rw [ho]
  simp only [hw]
  exact h

theorem isBig0 (V : World) : IsBig V (.agg #[.slice none 0 0, .bool false]) 0 := ⟨none, 0, 0, rfl, none, 0, by simp [limbs_zero], by simp [limbs_zero]⟩

set_option maxRecDepth 100000 in
set_option maxHeartbeats 1000000 in
theorem wholeTexts_bad (s : ByteArray) (hs : s.size ≤ 140737488351232) (n : Int) (h1 : -9223372036854775808 ≤ n) (h2 : n ≤ 9223372036854775807) (hg : good (wlst s) = false) (w : World) (htab : Lib.TabIs Tryd.prog w "internal/strconv.uint64pow10" .u64 Lib.pow10Tab) :
    Calls Tryd.prog 3 #[.string s, .int .i64 n] w fun e w' => e = .returned (.bool true) ∧ Below w.heap.size w w' := by
  have HT := hidD htab
  have HG := hidD hg
  have hmx : Tryd.prog.follows .mixedOrders = true := by kernel_rfl
  clear htab hg
  go_enter Tryd.func3, Tryd.ntmps3
  go_upto_region 3 with (first
    | (go_at_call 6; refine (iparse_c s hs _).mono ?_; rintro e w1 ⟨_, q1, hb1⟩; obtain rfl := q1 HG.out; clear q1; unfold noInt0)
    | (go_at_call 7; refine (parse_c s hs _).mono ?_; rintro e w2 ⟨_, q1, hb2⟩; obtain rfl := q1 HG.out; clear q1; unfold noBig))
  obtain ⟨W0, hW0⟩ : ∃ W0, w2.alloc (.cells #[.slice none 0 0, .bool false] 30) = W0 := ⟨_, rfl⟩
  have hb2' : Below w1.heap.size w1 w2 := ((Below.refl _ w1).alloc (Nat.le_refl _) _).trans (hb2.mono (by simp))
  have bA : Box2 W0 w1.heap.size 25 (.bool false) (.slice none 0 0) := by rw [← hW0]; exact ((Box2.new w1 _ _ _).below hb2).alloc _
  have bB : Box2 W0 w2.heap.size 30 (.slice none 0 0) (.bool false) := by rw [← hW0]; exact Box2.new _ _ _ _
  have hB : Below w.heap.size w W0 := by rw [← hW0]; exact (hb1.trans (hb2'.mono hb1.size)).alloc (Nat.le_trans hb1.size hb2'.size) _
  obtain ⟨B5, hB5⟩ : ∃ B5, B5 = w1.heap.size := ⟨_, rfl⟩
  obtain ⟨B7, hB7⟩ : ∃ B7, B7 = w2.heap.size := ⟨_, rfl⟩
  rw [hW0]
  rw [← hB5] at bA ⊢
  rw [← hB7] at bB ⊢
  clear hb1 hb2 hb2' hW0 hB5 hB7
  have TR := hidD (fun (V : World) => show Calls Tryd.prog 9 #[.agg #[.slice none 0 0, .bool false]] V fun e w' => e = .returned (.string ⟨#[48]⟩) ∧ Below V.heap.size V w' from text_c _ 0 V (isBig0 V) (by simp [szB, limbs_zero]))
  have TI := hidD (fun (V : World) => itext_0 none 0 V)
  obtain ⟨S0, hS0⟩ : ∃ S0 : ByteArray, (⟨#[48]⟩ : ByteArray) = S0 := ⟨_, rfl⟩
  rw [hS0] at TR TI
  clear hS0
  refine wp_region_tab hmx [[], [], [0, 1], [2], [3], [4, 3, 3], [3], [6, 5, 3], [5, 7, 3], [3, 8], [9, 7], [10], [11, 10, 10], [12], [13, 12, 12], [12], [14, 15, 12], [12, 16, 10], [10, 17]] (by kernel_rfl) (by decide)
    (fun D a V => ∃ t21 t22 t23 t24 t25 t26 t27 t28 t29 t30 t31 t32 t33 t34 t35 t36 t37 t38 t39 : Value, a = { tmps := #[.string s, .int .i64 n, undef, undef, .bool false, .pointer (some ⟨B5, 0, none⟩), .bool false, .pointer (some ⟨B7, 0, none⟩), .bool false, undef, undef, .tuple #[.agg #[.bool false, .slice none 0 0], .bool false], .string s, .tuple #[.agg #[.bool false, .slice none 0 0], .bool false], .agg #[.bool false, .slice none 0 0], .bool false, .tuple #[.agg #[.slice none 0 0, .bool false], .bool false], .string s, .tuple #[.agg #[.slice none 0 0, .bool false], .bool false], .agg #[.slice none 0 0, .bool false], .bool false, t21, t22, t23, t24, t25, t26, t27, t28, t29, t30, t31, t32, t33, t34, t35, t36, t37, t38, t39, undef, undef, undef, undef, undef, undef, undef, undef, undef, undef, undef, undef, undef, undef, undef, undef, undef], defers := [] } ∧
      (D 0 = true → t21 = .bool false) ∧ (D 1 = true → t22 = .bool false) ∧ (D 2 = true → t23 = .bool false) ∧ (D 3 = true → t24 = .bool false) ∧ (D 4 = true → t25 = .agg #[.bool false, .slice none 0 0]) ∧ (D 5 = true → t26 = .string S0) ∧ (D 6 = true → t27 = .agg #[.slice none 0 0, .bool false]) ∧ (D 7 = true → t28 = .string S0) ∧ (D 8 = true → t29 = .bool false) ∧ (D 9 = true → t30 = .bool false) ∧ (D 10 = true → t31 = .bool false) ∧ (D 11 = true → t32 = .bool false) ∧ (D 12 = true → t33 = .bool false) ∧ (D 17 = true → t38 = .bool false) ∧ (D 18 = true → t39 = .bool false) ∧
      Box2 V B5 25 (.bool false) (.slice none 0 0) ∧ Box2 V B7 30 (.slice none 0 0) (.bool false) ∧ Below w.heap.size w V)
    ⟨_, _, _, _, _, _, _, _, _, _, _, _, _, _, _, _, _, _, _, rfl, by simp, by simp, by simp, by simp, by simp, by simp, by simp, by simp, by simp, by simp, by simp, by simp, by simp, by simp, by simp, bA.drew, bB.drew, hB.drew⟩ ?step ?fin
  case step =>
    clear hB bA bB
    rintro D a V i ds hcl2 hi2 hds hDi ⟨t21, t22, t23, t24, t25, t26, t27, t28, t29, t30, t31, t32, t33, t34, t35, t36, t37, t38, t39, rfl, g0, g1, g2, g3, g4, g5, g6, g7, g8, g9, g10, g11, g12, g17, g18, hb, hc, hB⟩
    have hi6 : i < 19 := (List.getElem?_eq_some_iff.1 hi2).1
    clear hcl2 hDi
    obtain rfl | rfl | rfl | rfl | rfl | rfl | rfl | rfl | rfl | rfl | rfl | rfl | rfl | rfl | rfl | rfl | rfl | rfl | rfl : i = 0 ∨ i = 1 ∨ i = 2 ∨ i = 3 ∨ i = 4 ∨ i = 5 ∨ i = 6 ∨ i = 7 ∨ i = 8 ∨ i = 9 ∨ i = 10 ∨ i = 11 ∨ i = 12 ∨ i = 13 ∨ i = 14 ∨ i = 15 ∨ i = 16 ∨ i = 17 ∨ i = 18 := by omega
    all_goals
      simp only [List.getElem?_cons_zero, List.getElem?_cons_succ, Option.some.injEq] at hi2
      subst hi2
      clear hi6
    · clear hds
      refine wpOp_yes rfl rfl (fun K hK => ?_)
      go_simp
      exact hK _ _ ⟨_, _, _, _, _, _, _, _, _, _, _, _, _, _, _, _, _, _, _, rfl, fun _ => rfl, (by first | exact g1 | exact fun _ => rfl), (by first | exact g2 | exact fun _ => rfl), (by first | exact g3 | exact fun _ => rfl), (by first | exact g4 | exact fun _ => rfl), (by first | exact g5 | exact fun _ => rfl), (by first | exact g6 | exact fun _ => rfl), (by first | exact g7 | exact fun _ => rfl), (by first | exact g8 | exact fun _ => rfl), (by first | exact g9 | exact fun _ => rfl), (by first | exact g10 | exact fun _ => rfl), (by first | exact g11 | exact fun _ => rfl), (by first | exact g12 | exact fun _ => rfl), (by first | exact g17 | exact fun _ => rfl), (by first | exact g18 | exact fun _ => rfl), hb, hc, hB⟩
    · clear hds
      refine wpOp_yes rfl rfl (fun K hK => ?_)
      go_simp
      exact hK _ _ ⟨_, _, _, _, _, _, _, _, _, _, _, _, _, _, _, _, _, _, _, rfl, (by first | exact g0 | exact fun _ => rfl), fun _ => rfl, (by first | exact g2 | exact fun _ => rfl), (by first | exact g3 | exact fun _ => rfl), (by first | exact g4 | exact fun _ => rfl), (by first | exact g5 | exact fun _ => rfl), (by first | exact g6 | exact fun _ => rfl), (by first | exact g7 | exact fun _ => rfl), (by first | exact g8 | exact fun _ => rfl), (by first | exact g9 | exact fun _ => rfl), (by first | exact g10 | exact fun _ => rfl), (by first | exact g11 | exact fun _ => rfl), (by first | exact g12 | exact fun _ => rfl), (by first | exact g17 | exact fun _ => rfl), (by first | exact g18 | exact fun _ => rfl), hb, hc, hB⟩
    · obtain rfl := g0 (hds 0 (by simp))
      obtain rfl := g1 (hds 1 (by simp))
      clear hds
      refine wpOp_yes rfl rfl (fun K hK => ?_)
      go_simp
      exact hK _ _ ⟨_, _, _, _, _, _, _, _, _, _, _, _, _, _, _, _, _, _, _, rfl, (by first | exact g0 | exact fun _ => rfl), (by first | exact g1 | exact fun _ => rfl), fun _ => rfl, (by first | exact g3 | exact fun _ => rfl), (by first | exact g4 | exact fun _ => rfl), (by first | exact g5 | exact fun _ => rfl), (by first | exact g6 | exact fun _ => rfl), (by first | exact g7 | exact fun _ => rfl), (by first | exact g8 | exact fun _ => rfl), (by first | exact g9 | exact fun _ => rfl), (by first | exact g10 | exact fun _ => rfl), (by first | exact g11 | exact fun _ => rfl), (by first | exact g12 | exact fun _ => rfl), (by first | exact g17 | exact fun _ => rfl), (by first | exact g18 | exact fun _ => rfl), hb, hc, hB⟩
    · obtain rfl := g2 (hds 2 (by simp))
      clear hds
      refine wpOp_yes rfl rfl (fun K hK => ?_)
      go_simp
      exact hK _ _ ⟨_, _, _, _, _, _, _, _, _, _, _, _, _, _, _, _, _, _, _, rfl, (by first | exact g0 | exact fun _ => rfl), (by first | exact g1 | exact fun _ => rfl), (by first | exact g2 | exact fun _ => rfl), fun _ => rfl, (by first | exact g4 | exact fun _ => rfl), (by first | exact g5 | exact fun _ => rfl), (by first | exact g6 | exact fun _ => rfl), (by first | exact g7 | exact fun _ => rfl), (by first | exact g8 | exact fun _ => rfl), (by first | exact g9 | exact fun _ => rfl), (by first | exact g10 | exact fun _ => rfl), (by first | exact g11 | exact fun _ => rfl), (by first | exact g12 | exact fun _ => rfl), (by first | exact g17 | exact fun _ => rfl), (by first | exact g18 | exact fun _ => rfl), hb, hc, hB⟩
    · obtain rfl := g3 (hds 3 (by simp))
      clear hds
      have k0 := hb.c0
      have k1 := hb.c1
      refine wpOp_yes rfl rfl (fun K hK => ?_)
      go_simp
      exact hK _ _ ⟨_, _, _, _, _, _, _, _, _, _, _, _, _, _, _, _, _, _, _, rfl, (by first | exact g0 | exact fun _ => rfl), (by first | exact g1 | exact fun _ => rfl), (by first | exact g2 | exact fun _ => rfl), (by first | exact g3 | exact fun _ => rfl), fun _ => rfl, (by first | exact g5 | exact fun _ => rfl), (by first | exact g6 | exact fun _ => rfl), (by first | exact g7 | exact fun _ => rfl), (by first | exact g8 | exact fun _ => rfl), (by first | exact g9 | exact fun _ => rfl), (by first | exact g10 | exact fun _ => rfl), (by first | exact g11 | exact fun _ => rfl), (by first | exact g12 | exact fun _ => rfl), (by first | exact g17 | exact fun _ => rfl), (by first | exact g18 | exact fun _ => rfl), hb, hc, hB⟩
    · obtain rfl := g3 (hds 3 (by simp))
      obtain rfl := g4 (hds 4 (by simp))
      clear hds
      refine wpOp_yes rfl rfl (fun K hK => ?_)
      go_simp
      go_wp2_with (go_at_call 8; refine (TI.out _).mono ?_; rintro e w8 ⟨rfl, hb8⟩)
      exact ⟨_, _, _, _, _, _, _, _, _, _, _, _, _, _, _, _, _, _, _, rfl, (by first | exact g0 | exact fun _ => rfl), (by first | exact g1 | exact fun _ => rfl), (by first | exact g2 | exact fun _ => rfl), (by first | exact g3 | exact fun _ => rfl), (by first | exact g4 | exact fun _ => rfl), fun _ => rfl, (by first | exact g6 | exact fun _ => rfl), (by first | exact g7 | exact fun _ => rfl), (by first | exact g8 | exact fun _ => rfl), (by first | exact g9 | exact fun _ => rfl), (by first | exact g10 | exact fun _ => rfl), (by first | exact g11 | exact fun _ => rfl), (by first | exact g12 | exact fun _ => rfl), (by first | exact g17 | exact fun _ => rfl), (by first | exact g18 | exact fun _ => rfl), hb.below hb8, hc.below hb8, Below.then hB hb8⟩
    · obtain rfl := g3 (hds 3 (by simp))
      clear hds
      have k0 := hc.c0
      have k1 := hc.c1
      refine wpOp_yes rfl rfl (fun K hK => ?_)
      go_simp
      exact hK _ _ ⟨_, _, _, _, _, _, _, _, _, _, _, _, _, _, _, _, _, _, _, rfl, (by first | exact g0 | exact fun _ => rfl), (by first | exact g1 | exact fun _ => rfl), (by first | exact g2 | exact fun _ => rfl), (by first | exact g3 | exact fun _ => rfl), (by first | exact g4 | exact fun _ => rfl), (by first | exact g5 | exact fun _ => rfl), fun _ => rfl, (by first | exact g7 | exact fun _ => rfl), (by first | exact g8 | exact fun _ => rfl), (by first | exact g9 | exact fun _ => rfl), (by first | exact g10 | exact fun _ => rfl), (by first | exact g11 | exact fun _ => rfl), (by first | exact g12 | exact fun _ => rfl), (by first | exact g17 | exact fun _ => rfl), (by first | exact g18 | exact fun _ => rfl), hb, hc, hB⟩
    · obtain rfl := g3 (hds 3 (by simp))
      obtain rfl := g5 (hds 5 (by simp))
      obtain rfl := g6 (hds 6 (by simp))
      clear hds
      refine wpOp_yes rfl rfl (fun K hK => ?_)
      go_simp
      go_wp2_with (go_at_call 9; refine (TR.out _).mono ?_; rintro e w8 ⟨rfl, hb8⟩)
      exact ⟨_, _, _, _, _, _, _, _, _, _, _, _, _, _, _, _, _, _, _, rfl, (by first | exact g0 | exact fun _ => rfl), (by first | exact g1 | exact fun _ => rfl), (by first | exact g2 | exact fun _ => rfl), (by first | exact g3 | exact fun _ => rfl), (by first | exact g4 | exact fun _ => rfl), (by first | exact g5 | exact fun _ => rfl), (by first | exact g6 | exact fun _ => rfl), fun _ => rfl, (by first | exact g8 | exact fun _ => rfl), (by first | exact g9 | exact fun _ => rfl), (by first | exact g10 | exact fun _ => rfl), (by first | exact g11 | exact fun _ => rfl), (by first | exact g12 | exact fun _ => rfl), (by first | exact g17 | exact fun _ => rfl), (by first | exact g18 | exact fun _ => rfl), hb.below hb8, hc.below hb8, Below.then hB hb8⟩
    · obtain rfl := g3 (hds 3 (by simp))
      obtain rfl := g5 (hds 5 (by simp))
      obtain rfl := g7 (hds 7 (by simp))
      clear hds
      refine wpOp_yes rfl rfl (fun K hK => ?_)
      go_simp
      exact hK _ _ ⟨_, _, _, _, _, _, _, _, _, _, _, _, _, _, _, _, _, _, _, rfl, (by first | exact g0 | exact fun _ => rfl), (by first | exact g1 | exact fun _ => rfl), (by first | exact g2 | exact fun _ => rfl), (by first | exact g3 | exact fun _ => rfl), (by first | exact g4 | exact fun _ => rfl), (by first | exact g5 | exact fun _ => rfl), (by first | exact g6 | exact fun _ => rfl), (by first | exact g7 | exact fun _ => rfl), fun _ => rfl, (by first | exact g9 | exact fun _ => rfl), (by first | exact g10 | exact fun _ => rfl), (by first | exact g11 | exact fun _ => rfl), (by first | exact g12 | exact fun _ => rfl), (by first | exact g17 | exact fun _ => rfl), (by first | exact g18 | exact fun _ => rfl), hb, hc, hB⟩
    · obtain rfl := g3 (hds 3 (by simp))
      obtain rfl := g8 (hds 8 (by simp))
      clear hds
      refine wpOp_yes rfl rfl (fun K hK => ?_)
      go_simp
      exact hK _ _ ⟨_, _, _, _, _, _, _, _, _, _, _, _, _, _, _, _, _, _, _, rfl, (by first | exact g0 | exact fun _ => rfl), (by first | exact g1 | exact fun _ => rfl), (by first | exact g2 | exact fun _ => rfl), (by first | exact g3 | exact fun _ => rfl), (by first | exact g4 | exact fun _ => rfl), (by first | exact g5 | exact fun _ => rfl), (by first | exact g6 | exact fun _ => rfl), (by first | exact g7 | exact fun _ => rfl), (by first | exact g8 | exact fun _ => rfl), fun _ => rfl, (by first | exact g10 | exact fun _ => rfl), (by first | exact g11 | exact fun _ => rfl), (by first | exact g12 | exact fun _ => rfl), (by first | exact g17 | exact fun _ => rfl), (by first | exact g18 | exact fun _ => rfl), hb, hc, hB⟩
    · obtain rfl := g7 (hds 7 (by simp))
      obtain rfl := g9 (hds 9 (by simp))
      clear hds
      refine wpOp_yes rfl rfl (fun K hK => ?_)
      go_simp
      exact hK _ _ ⟨_, _, _, _, _, _, _, _, _, _, _, _, _, _, _, _, _, _, _, rfl, (by first | exact g0 | exact fun _ => rfl), (by first | exact g1 | exact fun _ => rfl), (by first | exact g2 | exact fun _ => rfl), (by first | exact g3 | exact fun _ => rfl), (by first | exact g4 | exact fun _ => rfl), (by first | exact g5 | exact fun _ => rfl), (by first | exact g6 | exact fun _ => rfl), (by first | exact g7 | exact fun _ => rfl), (by first | exact g8 | exact fun _ => rfl), (by first | exact g9 | exact fun _ => rfl), fun _ => rfl, (by first | exact g11 | exact fun _ => rfl), (by first | exact g12 | exact fun _ => rfl), (by first | exact g17 | exact fun _ => rfl), (by first | exact g18 | exact fun _ => rfl), hb, hc, hB⟩
    · obtain rfl := g10 (hds 10 (by simp))
      clear hds
      refine wpOp_yes rfl rfl (fun K hK => ?_)
      go_simp
      exact hK _ _ ⟨_, _, _, _, _, _, _, _, _, _, _, _, _, _, _, _, _, _, _, rfl, (by first | exact g0 | exact fun _ => rfl), (by first | exact g1 | exact fun _ => rfl), (by first | exact g2 | exact fun _ => rfl), (by first | exact g3 | exact fun _ => rfl), (by first | exact g4 | exact fun _ => rfl), (by first | exact g5 | exact fun _ => rfl), (by first | exact g6 | exact fun _ => rfl), (by first | exact g7 | exact fun _ => rfl), (by first | exact g8 | exact fun _ => rfl), (by first | exact g9 | exact fun _ => rfl), (by first | exact g10 | exact fun _ => rfl), fun _ => rfl, (by first | exact g12 | exact fun _ => rfl), (by first | exact g17 | exact fun _ => rfl), (by first | exact g18 | exact fun _ => rfl), hb, hc, hB⟩
    · obtain rfl := g10 (hds 10 (by simp))
      obtain rfl := g11 (hds 11 (by simp))
      clear hds
      refine wpOp_yes rfl rfl (fun K hK => ?_)
      go_simp
      exact hK _ _ ⟨_, _, _, _, _, _, _, _, _, _, _, _, _, _, _, _, _, _, _, rfl, (by first | exact g0 | exact fun _ => rfl), (by first | exact g1 | exact fun _ => rfl), (by first | exact g2 | exact fun _ => rfl), (by first | exact g3 | exact fun _ => rfl), (by first | exact g4 | exact fun _ => rfl), (by first | exact g5 | exact fun _ => rfl), (by first | exact g6 | exact fun _ => rfl), (by first | exact g7 | exact fun _ => rfl), (by first | exact g8 | exact fun _ => rfl), (by first | exact g9 | exact fun _ => rfl), (by first | exact g10 | exact fun _ => rfl), (by first | exact g11 | exact fun _ => rfl), fun _ => rfl, (by first | exact g17 | exact fun _ => rfl), (by first | exact g18 | exact fun _ => rfl), hb, hc, hB⟩
    · obtain rfl := g12 (hds 12 (by simp))
      clear hds
      exact wpOp_no rfl rfl ⟨_, _, _, _, _, _, _, _, _, _, _, _, _, _, _, _, _, _, _, rfl, (by first | exact g0 | exact fun _ => rfl), (by first | exact g1 | exact fun _ => rfl), (by first | exact g2 | exact fun _ => rfl), (by first | exact g3 | exact fun _ => rfl), (by first | exact g4 | exact fun _ => rfl), (by first | exact g5 | exact fun _ => rfl), (by first | exact g6 | exact fun _ => rfl), (by first | exact g7 | exact fun _ => rfl), (by first | exact g8 | exact fun _ => rfl), (by first | exact g9 | exact fun _ => rfl), (by first | exact g10 | exact fun _ => rfl), (by first | exact g11 | exact fun _ => rfl), (by first | exact g12 | exact fun _ => rfl), (by first | exact g17 | exact fun _ => rfl), (by first | exact g18 | exact fun _ => rfl), hb, hc, hB⟩
    · obtain rfl := g12 (hds 12 (by simp))
      clear hds
      exact wpOp_no rfl rfl ⟨_, _, _, _, _, _, _, _, _, _, _, _, _, _, _, _, _, _, _, rfl, (by first | exact g0 | exact fun _ => rfl), (by first | exact g1 | exact fun _ => rfl), (by first | exact g2 | exact fun _ => rfl), (by first | exact g3 | exact fun _ => rfl), (by first | exact g4 | exact fun _ => rfl), (by first | exact g5 | exact fun _ => rfl), (by first | exact g6 | exact fun _ => rfl), (by first | exact g7 | exact fun _ => rfl), (by first | exact g8 | exact fun _ => rfl), (by first | exact g9 | exact fun _ => rfl), (by first | exact g10 | exact fun _ => rfl), (by first | exact g11 | exact fun _ => rfl), (by first | exact g12 | exact fun _ => rfl), (by first | exact g17 | exact fun _ => rfl), (by first | exact g18 | exact fun _ => rfl), hb, hc, hB⟩
    · obtain rfl := g12 (hds 12 (by simp))
      clear hds
      exact wpOp_no rfl rfl ⟨_, _, _, _, _, _, _, _, _, _, _, _, _, _, _, _, _, _, _, rfl, (by first | exact g0 | exact fun _ => rfl), (by first | exact g1 | exact fun _ => rfl), (by first | exact g2 | exact fun _ => rfl), (by first | exact g3 | exact fun _ => rfl), (by first | exact g4 | exact fun _ => rfl), (by first | exact g5 | exact fun _ => rfl), (by first | exact g6 | exact fun _ => rfl), (by first | exact g7 | exact fun _ => rfl), (by first | exact g8 | exact fun _ => rfl), (by first | exact g9 | exact fun _ => rfl), (by first | exact g10 | exact fun _ => rfl), (by first | exact g11 | exact fun _ => rfl), (by first | exact g12 | exact fun _ => rfl), (by first | exact g17 | exact fun _ => rfl), (by first | exact g18 | exact fun _ => rfl), hb, hc, hB⟩
    · obtain rfl := g12 (hds 12 (by simp))
      clear hds
      exact wpOp_no rfl rfl ⟨_, _, _, _, _, _, _, _, _, _, _, _, _, _, _, _, _, _, _, rfl, (by first | exact g0 | exact fun _ => rfl), (by first | exact g1 | exact fun _ => rfl), (by first | exact g2 | exact fun _ => rfl), (by first | exact g3 | exact fun _ => rfl), (by first | exact g4 | exact fun _ => rfl), (by first | exact g5 | exact fun _ => rfl), (by first | exact g6 | exact fun _ => rfl), (by first | exact g7 | exact fun _ => rfl), (by first | exact g8 | exact fun _ => rfl), (by first | exact g9 | exact fun _ => rfl), (by first | exact g10 | exact fun _ => rfl), (by first | exact g11 | exact fun _ => rfl), (by first | exact g12 | exact fun _ => rfl), (by first | exact g17 | exact fun _ => rfl), (by first | exact g18 | exact fun _ => rfl), hb, hc, hB⟩
    · obtain rfl := g10 (hds 10 (by simp))
      obtain rfl := g12 (hds 12 (by simp))
      clear hds
      refine wpOp_yes rfl rfl (fun K hK => ?_)
      go_simp
      exact hK _ _ ⟨_, _, _, _, _, _, _, _, _, _, _, _, _, _, _, _, _, _, _, rfl, (by first | exact g0 | exact fun _ => rfl), (by first | exact g1 | exact fun _ => rfl), (by first | exact g2 | exact fun _ => rfl), (by first | exact g3 | exact fun _ => rfl), (by first | exact g4 | exact fun _ => rfl), (by first | exact g5 | exact fun _ => rfl), (by first | exact g6 | exact fun _ => rfl), (by first | exact g7 | exact fun _ => rfl), (by first | exact g8 | exact fun _ => rfl), (by first | exact g9 | exact fun _ => rfl), (by first | exact g10 | exact fun _ => rfl), (by first | exact g11 | exact fun _ => rfl), (by first | exact g12 | exact fun _ => rfl), fun _ => rfl, (by first | exact g18 | exact fun _ => rfl), hb, hc, hB⟩
    · obtain rfl := g10 (hds 10 (by simp))
      obtain rfl := g17 (hds 17 (by simp))
      clear hds
      refine wpOp_yes rfl rfl (fun K hK => ?_)
      go_simp
      exact hK _ _ ⟨_, _, _, _, _, _, _, _, _, _, _, _, _, _, _, _, _, _, _, rfl, (by first | exact g0 | exact fun _ => rfl), (by first | exact g1 | exact fun _ => rfl), (by first | exact g2 | exact fun _ => rfl), (by first | exact g3 | exact fun _ => rfl), (by first | exact g4 | exact fun _ => rfl), (by first | exact g5 | exact fun _ => rfl), (by first | exact g6 | exact fun _ => rfl), (by first | exact g7 | exact fun _ => rfl), (by first | exact g8 | exact fun _ => rfl), (by first | exact g9 | exact fun _ => rfl), (by first | exact g10 | exact fun _ => rfl), (by first | exact g11 | exact fun _ => rfl), (by first | exact g12 | exact fun _ => rfl), (by first | exact g17 | exact fun _ => rfl), fun _ => rfl, hb, hc, hB⟩
  clear hB bA bB
  rintro D a w5 hDD ⟨t21, t22, t23, t24, t25, t26, t27, t28, t29, t30, t31, t32, t33, t34, t35, t36, t37, t38, t39, rfl, g0, g1, g2, g3, g4, g5, g6, g7, g8, g9, g10, g11, g12, g17, g18, hb, hc, hB⟩
  obtain rfl := g0 (hDD 0 (by decide))
  obtain rfl := g1 (hDD 1 (by decide))
  obtain rfl := g2 (hDD 2 (by decide))
  obtain rfl := g3 (hDD 3 (by decide))
  obtain rfl := g4 (hDD 4 (by decide))
  obtain rfl := g5 (hDD 5 (by decide))
  obtain rfl := g6 (hDD 6 (by decide))
  obtain rfl := g7 (hDD 7 (by decide))
  obtain rfl := g8 (hDD 8 (by decide))
  obtain rfl := g9 (hDD 9 (by decide))
  obtain rfl := g10 (hDD 10 (by decide))
  obtain rfl := g11 (hDD 11 (by decide))
  obtain rfl := g12 (hDD 12 (by decide))
  obtain rfl := g17 (hDD 17 (by decide))
  obtain rfl := g18 (hDD 18 (by decide))
  clear hDD
  have hW5 : Below w.heap.size w w5 := hB
  clear hb hc TI TR hB
  go_upto_region 7 with (go_at_call 10; refine (iof_c n h1 h2 _).mono ?_; rintro e w6 ⟨u6, rfl, hu6, hb6⟩; obtain ⟨ca, cl, cc, rfl⟩ := hu6.form)
  have hW6 : Below w.heap.size w w6 := Below.then hW5 hb6
  obtain ⟨r, hr⟩ : ∃ r, decide (n < 0) = r := ⟨_, rfl⟩
  rw [hr] at hu6 ⊢
  obtain ⟨W7, hW7⟩ : ∃ W7, (w6.alloc (.cells #[.bool r, .slice ca cl cc] 25)).alloc (.cells #[.bool false, .slice none 0 0] 25) = W7 := ⟨_, rfl⟩
  have bC : Box2 W7 w6.heap.size 25 (.bool r) (.slice ca cl cc) := by rw [← hW7]; exact (Box2.new _ _ _ _).alloc _
  have bN : Box2 W7 (w6.heap.size + 1) 25 (.bool false) (.slice none 0 0) := by
    have h1 := Box2.new (w6.alloc (.cells #[.bool r, .slice ca cl cc] 25)) 25 (.bool false) (.slice none 0 0)
    rw [World.size_alloc, hW7] at h1
    exact h1
  have hB7 : Below w.heap.size w W7 := by rw [← hW7]; exact (hW6.alloc hW6.size _).alloc (by have := hW6.size; simp; omega) _
  have y2 : IsInt W7 (.agg #[.bool r, .slice ca cl cc]) n := by rw [← hW7]; exact (hu6.alloc _).alloc _
  obtain ⟨S, hS⟩ : ∃ S : ByteArray, (⟨(decZ n).toArray⟩ : ByteArray) = S := ⟨_, rfl⟩
  have CI := hidD (fun (V : World) (h : Below W7.heap.size W7 V) => show Calls Tryd.prog 8 #[.agg #[.bool r, .slice ca cl cc]] V fun e w' => e = .returned (.string S) ∧ Below V.heap.size V w' by
    have h1 := itext_c _ n V (y2.below h) (tab_below HT.out (hB7.trans (h.mono hB7.size)))
    rw [hS] at h1
    exact h1)
  have CR := hidD (fun (V : World) (v : Value) (h : IsBig V v n) => show Calls Tryd.prog 9 #[v] V fun e w' => e = .returned (.string S) ∧ Below V.heap.size V w' by
    have h1 := text_c _ n V h (int_szB h1 h2)
    rw [hS] at h1
    exact h1)
  have CA := hidD (fun (V : World) (h : Below W7.heap.size W7 V) => alive_c V (tab_below HT.out (hB7.trans (h.mono hB7.size))))
  have hq : Below W7.heap.size W7 W7 := Below.refl _ W7
  obtain ⟨B9, hB9⟩ : ∃ B9, B9 = w6.heap.size := ⟨_, rfl⟩
  rw [hW7]
  rw [← hB9] at bC bN ⊢
  have k0 := bC.c0
  have k1 := bC.c1
  have k2 := bN.c0
  have k3 := bN.c1
  clear hW5 hW6 hb6 hu6 hW7 hB9 y2 hS hr
  go_wp2_with (first
    | (go_at_call 8; refine (CI.out _ hq).mono ?_; clear CI; rintro e w8 ⟨rfl, hb8⟩; have hq := Below.then hq hb8; have k0 := (bC.below hq).c0; have k1 := (bC.below hq).c1; have k2 := (bN.below hq).c0; have k3 := (bN.below hq).c1)
    | (go_at_call 8; refine (itext_0 none 0 _).mono ?_; rintro e w8 ⟨rfl, hb8⟩; have hq := Below.then hq hb8)
    | (go_at_call 11; refine (of_c n h1 h2 _).mono ?_; rintro e w8 ⟨v8, rfl, hv8, hb8⟩; have hq := Below.then hq hb8; have k0 := (bC.below hq).c0; have k1 := (bC.below hq).c1; have k2 := (bN.below hq).c0; have k3 := (bN.below hq).c1)
    | (go_at_call 9; refine (CR.out _ _ hv8).mono ?_; rintro e w8 ⟨rfl, hb8⟩; have hq := Below.then hq hb8; have k0 := (bC.below hq).c0; have k1 := (bC.below hq).c1; have k2 := (bN.below hq).c0; have k3 := (bN.below hq).c1)
    | (go_at_call 12; refine (CA.out _ hq).mono ?_; rintro e w8 ⟨rfl, hb8⟩; have hq := Below.then hq hb8))
  go_ret
  exact ⟨rfl, hB7.trans (hq.mono hB7.size)⟩

theorem wholeTexts_c (s : ByteArray) (hs : s.size ≤ 140737488351232) (n : Int) (h1 : -9223372036854775808 ≤ n) (h2 : n ≤ 9223372036854775807) (w : World) (htab : Lib.TabIs Tryd.prog w "internal/strconv.uint64pow10" .u64 Lib.pow10Tab) :
    Calls Tryd.prog 3 #[.string s, .int .i64 n] w fun e w' => e = .returned (.bool true) ∧ Below w.heap.size w w' := by
  cases hg : good (wlst s)
  · exact wholeTexts_bad s hs n h1 h2 hg w htab
  · exact wholeTexts_good s hs n h1 h2 hg w htab
end Go.Proofs.YtahpgnkhophgpaaDoor

namespace Go.Proofs.YtahpgnkhophgpaaDoor
open Go.ChangeMaps Go.ChangeShapes Go.WideShapes Go.ChangeAt Go.WideMaps Go.WideElems Go.RowKit

theorem own : ownKnob Tryd.prog.godebug = none := by kernel_rfl

def laid5 : List (String × DataW Unit) := [("math/bits.deBruijn32tab", Rows.laid_math_bits_deBruijn32tab), ("math/bits.deBruijn64tab", Rows.laid_math_bits_deBruijn64tab), ("internal/strconv.uint64pow10", Rows.laid_internal_strconv_uint64pow10), ("strconv.ErrRange", Rows.laid_strconv_ErrRange), ("strconv.ErrSyntax", Rows.laid_strconv_ErrSyntax)]

/-- The door's own heap meets the condition. -/
theorem door_met (os : Os) (args : Array Value) : laidMetH Tryd.prog laid5 ((World.doorLaid Tryd.prog 400 os).forCall (fun _ _ => 0) ⟨#[], args, []⟩).memory :=
  laidMetH_of_parts3 (fuel := 8) (laidMet_of_run' 8 (by kernel_rfl) (by kernel_rfl)) (by kernel_rfl) (by kernel_rfl)

theorem pow_datum : (Rows.laid_internal_strconv_uint64pow10 : DataW Unit) = Lib.tabData .u64 Lib.pow10Tab := by rfl

/-- The table that FormatUint reads. -/
theorem tab_of_laid {W : World} (h : laidMetH Tryd.prog laid5 W) : Lib.TabIs Tryd.prog W "internal/strconv.uint64pow10" .u64 Lib.pow10Tab := by
  rw [MakeChecks.laidMetH_plain _ _ _ (by kernel_rfl)] at h
  obtain ⟨ps, ⟨g0, t0, cs0, f0, p0, q0, hg0, ht0, hv0, hd0, ⟨g1, t1, cs1, f1, p1, q1, hg1, ht1, hv1, hd1, ⟨g2, t2, cs2, f2, p2, q2, hg2, ht2, hv2, hd2, _⟩, _⟩, _⟩, _⟩ := h
  obtain rfl := Option.some.inj ((show Tryd.prog.globalNamed "internal/strconv.uint64pow10" = some 4 by kernel_rfl).symm.trans hg2)
  obtain rfl := Option.some.inj ((show (Tryd.prog.globals[4]?).map (·.type) = some 119 by kernel_rfl).symm.trans ht2)
  unfold Lib.TabIs
  rw [hv2, ← Lib.cells_of_tab (show Tryd.prog.underlying 119 = some (.array 20 56) by kernel_rfl) (show Tryd.prog.underlying 56 = some (.int .u64) by kernel_rfl) (by kernel_rfl) (by kernel_rfl) hd2]

/-- The post of a call whose arguments hold no memory: nothing is asked of what lies behind. -/
theorem post_plain {H : Type} {enc : TypeId × Value → H} {P : Program} {f : Func} {s : ChangeSpec} {apart fresh handsOn again : Bool} {W W' : World} {args : Array Value} {v : Value} {ds gs : List (DataW H)}
    (hW : DataW.Whole enc P f.params.toList s.vars apart W args.toList ds gs [])
    (hres : ∀ (b : Nat) (sp : Nat → Bool) (hd : Bool), DataW.TrodAll enc P W' b sp hd f.resultTypes.toList (v.resultList f.resultTypes.size) (s.fn H (ds ++ gs)).results [])
    (hargs : ∀ sp : Nat → Bool, DataW.TrodAll enc P W' 0 sp true f.params.toList args.toList (s.fn H (ds ++ gs)).args [])
    (hvars : ∀ sp : Nat → Bool, DataW.TrodVars enc P W' sp s.vars (s.fn H (ds ++ gs)).vars [])
    (hk : W.keptBut W' (· ∈ []))
    (hok : ∀ (j : Nat) (t : TypeId) (r : Value), f.resultTypes[j]? = some t → (v.resultList f.resultTypes.size)[j]? = some r → Value.okWide P W' .any 0 t r) :
    s.post enc P f apart fresh handsOn again W args v W' := by
  refine ⟨ds, gs, [], [], [], [], hW, hres _ _ _, hargs _, hvars _, World.keptBut_mono (fun p hp => by cases hp) hk, fun _ => ?_⟩
  refine ⟨hok, _, _, ([] ++ []) ++ [], ⟨[] ++ [], [], trodAll_append (hargs _) (hres _ _ _), hvars _, rfl, ?_, ?_⟩, ?_⟩
  · intro b off hp
    cases hp
  · intro _
    exact List.nodup_nil
  · intro p hp _
    cases hp

set_option maxRecDepth 100000 in
theorem wholeTexts_lifted (os : Os) (started : os.Started) (H : Type) (enc : TypeId × Value → H) :
    ReturnsInHanded {} Tryd.checked os 3 .any (fun w args => (Rows.wholeTextsSpec.pre enc Tryd.prog Tryd.f3 [] false w args ∧ laidMetH Tryd.prog laid5 w) ∧ sizedMet enc Tryd.prog Tryd.f3 (OpenSpec.ofChange Rows.wholeTextsSpec) false w args)
      (Rows.wholeTextsSpec.post enc Tryd.prog Tryd.f3 false true false false) := by
  refine returnsInHanded_of_change_and (C := Tryd.checked) (X := fun w _ => laidMetH Tryd.prog laid5 w) (fun _ _ _ hh h => h.of_heap hh) own started (by kernel_rfl) Tryd.func3
    (ChangeSpec.witness_shaped (enc := enc) (C := Tryd.checked) (os := os) (X := fun w _ => laidMetH Tryd.prog laid5 w) false (World.doorLaid Tryd.prog 400 os) #[.string ⟨#[]⟩, .int .i64 0] 8 rfl (World.shaped_of_RefB (by kernel_rfl) (by kernel_rfl)) (by kernel_rfl) (by kernel_rfl) (by kernel_rfl) (door_met os _)) ?_
  intro W base args ds gs before hval0 hW _ hsz hL _
  have hval : ∀ (j : Nat) t v, Tryd.f3.params[j]? = some t → args[j]? = some v → Value.okWide Tryd.prog W .any base t v := hval0
  have hW' := hW
  obtain ⟨p, q, hA0, hV, rfl, hfz, hnd⟩ := hW
  have hA : DataW.TrodAll enc Tryd.prog W 0 (fun _ => true) true Tryd.f3.params.toList args.toList ds p := hA0
  rw [Tryd.params3] at hA hval
  obtain ⟨v0, v1, d0, d1, p0, p1, rfl, rfl, rfl, hd0, hd1⟩ := trodAll_two hA
  obtain ⟨rfl, rfl⟩ := trodVars_none hV
  obtain ⟨s, rfl, rfl, rfl, hs⟩ := open_string Tryd.underlying9 (hval 0 9 v0 rfl rfl) hd0
  obtain ⟨n, rfl, rfl, rfl, wn⟩ := open_int Tryd.underlying3 (hval 1 3 v1 rfl rfl) hd1
  clear hA0 hval0
  simp only [List.append_nil] at hW'
  obtain ⟨n0, n1⟩ : -9223372036854775808 ≤ n ∧ n ≤ 9223372036854775807 := by
    have h1 : IntKind.i64.min ≤ n ∧ n ≤ IntKind.i64.max := by simpa [Lit.wf] using wn
    simpa [IntKind.min, IntKind.max, IntKind.signed, IntKind.bits] using h1
  have hs2 : s.size ≤ 140737488351232 := by
    have h := sized_string hsz (j := 0) (t := 9) (bytes := s.data.toList) (by rw [Tryd.params3]; rfl) rfl
    rw [Array.length_toList] at h
    exact h
  refine (wholeTexts_c s hs2 n n0 n1 W (tab_of_laid hL)).mono fun e W' ⟨he, hb⟩ => ?_
  subst he
  refine ⟨_, rfl, ?_⟩
  exact post_plain hW' (fun _ _ _ => trodAll_mk1 (shut_bool Tryd.underlying4 _)) (fun sp => trodAll_mk2 (shut_string Tryd.underlying9 hs) (shut_int Tryd.underlying3 wn)) (fun _ => rfl) (hb.frame _) (ok_one (by kernel_rfl) rfl (okWide_bool_mk Tryd.underlying4 _))

theorem wholeTexts_holds : Rows.WholeTextsSaid :=
  OpenClaim.holds_of_wide 3 Tryd.f3 rfl rfl rfl rfl rfl rfl rfl ⟨rfl, rfl, rfl, rfl, rfl⟩ rfl rfl rfl rfl rfl (by kernel_rfl) Tryd.func3 (by kernel_rfl)
    (of_decide_eq_true (by kernel_rfl)) (by unfold Func.isWrapper; first | (rw [if_pos (by decide +kernel)]; kernel_rfl) | (rw [if_neg (by decide +kernel)]; exact ⟨rfl, rfl⟩))
    (fun os started H enc _ => wholeTexts_lifted os started H enc)
end Go.Proofs.YtahpgnkhophgpaaDoor

namespace Go.Proofs.YtahpgnkhophgpaaDoor
open Go

theorem wholeTexts_card : Rows.WholeTextsCardSaid :=
  Claim7.holds_tied_plain_at .later [] [.data, .data, .data, .sentinel, .sentinel] true Rows.wholeTextsCard.stood.harness true
    wholeTexts_holds (fun _ h => by cases h) (by kernel_rfl) (fun _ h => by cases h) wholeTexts_row_tie rfl ⟨rfl, rfl⟩ (by kernel_rfl) rfl
    (fun f fn hf hfn => by
      obtain rfl : f = 3 := Option.some.inj ((show Tryd.prog.funcNamed "surd/surdlaw01.WholeTexts" = some 3 by kernel_rfl).symm.trans hf) |>.symm
      obtain rfl : fn = Tryd.f3 := (Option.some.inj (Tryd.func3.symm.trans hfn)).symm
      exact ⟨by kernel_rfl, fun j t ht => by
        rw [Tryd.params3] at ht
        have hm : t ∈ [9, 3] := by simpa using Array.mem_of_getElem? ht
        have hall : ([9, 3].all fun u => !Tryd.prog.wantsStandIn u) = true := by kernel_rfl
        exact (show Tryd.prog.wantsStandIn t = false by simpa using List.all_eq_true.1 hall t hm)⟩)
    (by kernel_rfl)
end Go.Proofs.YtahpgnkhophgpaaDoor

