import Derived.Test.YtahpgnkhophgpaaDoorAlv
import Derived.Test.YtahpgnkhophgpaaDoorRefU
namespace Go.Proofs.YtahpgnkhophgpaaDoor
open Go.RowKit Go.Shelf

attribute [local go_sem] Oper.semAt_some

theorem wlst_back (s : ByteArray) : (⟨(wlst s).toArray⟩ : ByteArray) = s := by
  apply ByteArray.ext
  simp [wlst]

theorem int_szB {n : Int} (h1 : -9223372036854775808 ≤ n) (h2 : n ≤ 9223372036854775807) : szB n ≤ 1000000000 := by
  have h3 : (10000 : Nat) ^ 5 = 100000000000000000000 := by decide
  have h4 := limbs_length_le (B := 10000) (by omega) (n := n.natAbs) (k := 5) (by omega)
  unfold szB
  omega

set_option maxRecDepth 100000 in
set_option maxHeartbeats 1000000 in
theorem wholeTexts_good (s : ByteArray) (hs : s.size ≤ 140737488351232) (n : Int) (h1 : -9223372036854775808 ≤ n) (h2 : n ≤ 9223372036854775807) (hg : good (wlst s) = true) (w : World) (htab : Lib.TabIs Tryd.prog w "internal/strconv.uint64pow10" .u64 Lib.pow10Tab) :
    Calls Tryd.prog 3 #[.string s, .int .i64 n] w fun e w' => e = .returned (.bool true) ∧ Below w.heap.size w w' := by
  have HT := hidD htab
  have HG := hidD hg
  have HTX := hidD (show (⟨(decZ (valZ (wlst s))).toArray⟩ : ByteArray) = s by rw [good_dec hg, wlst_back])
  have HZ := hidD (show szB (valZ (wlst s)) ≤ 1000000000 by
    have := good_size hg (B := 10000) (by omega)
    unfold szB; omega)
  clear htab hg
  generalize hz : valZ (wlst s) = z at *
  have HV := hidD hz
  clear hz
  go_enter Tryd.func3, Tryd.ntmps3
  go_upto_region 3 with (first
    | (go_at_call 6; refine (iparse_c s hs _).mono ?_; rintro e w1 ⟨q1, _, hb1⟩; obtain ⟨u, rfl, hu⟩ := q1 HG.out; rw [HV.out] at hu; clear q1; obtain ⟨ua, ul, uc, rfl⟩ := hu.form)
    | (go_at_call 7; refine (parse_c s hs _).mono ?_; rintro e w2 ⟨q1, _, hb2⟩; obtain ⟨v, rfl, hv⟩ := q1 HG.out; have hv : IsBig w2 v z := (by rw [← HV.out]; exact hv); clear q1; obtain ⟨va, vl, vc, rfl, hv1⟩ := id hv))
  obtain ⟨t, ht⟩ : ∃ t, decide (z < 0) = t := ⟨_, rfl⟩
  rw [ht] at hu hv ⊢
  obtain ⟨W0, hW0⟩ : ∃ W0, w2.alloc (.cells #[.slice va vl vc, .bool t] 30) = W0 := ⟨_, rfl⟩
  have hb2' : Below w1.heap.size w1 w2 := by rw [ht] at hb2; exact ((Below.refl _ w1).alloc (Nat.le_refl _) _).trans (hb2.mono (by simp))
  have bA : Box2 W0 w1.heap.size 25 (.bool t) (.slice ua ul uc) := by rw [← hW0]; rw [ht] at hb2; exact ((Box2.new w1 _ _ _).below hb2).alloc _
  have bB : Box2 W0 w2.heap.size 30 (.slice va vl vc) (.bool t) := by rw [← hW0]; exact Box2.new _ _ _ _
  have x2 : IsInt W0 (.agg #[.bool t, .slice ua ul uc]) z := by rw [← hW0]; exact (hu.below hb2').alloc _
  have x3 : IsBig W0 (.agg #[.slice va vl vc, .bool t]) z := by rw [← hW0]; exact hv.below ((Below.refl _ w2).alloc (Nat.le_refl _) _)
  have hB : Below w.heap.size w W0 := by rw [← hW0]; exact (hb1.trans (hb2'.mono hb1.size)).alloc (Nat.le_trans hb1.size hb2'.size) _
  obtain ⟨B5, hB5⟩ : ∃ B5, B5 = w1.heap.size := ⟨_, rfl⟩
  obtain ⟨B7, hB7⟩ : ∃ B7, B7 = w2.heap.size := ⟨_, rfl⟩
  rw [hW0]
  rw [← hB5] at bA ⊢
  rw [← hB7] at bB ⊢
  clear hu hv hv1 hb1 hb2 hb2' hW0 hB5 hB7 ht
  have TI := hidD (fun (V : World) (h : Below W0.heap.size W0 V) => show Calls Tryd.prog 8 #[.agg #[.bool t, .slice ua ul uc]] V fun e w' => e = .returned (.string s) ∧ Below V.heap.size V w' by
    have h1 := itext_c _ z V (x2.below h) (tab_below HT.out (hB.trans (h.mono hB.size)))
    rw [HTX.out] at h1
    exact h1)
  have TR := hidD (fun (V : World) (h : Below W0.heap.size W0 V) => show Calls Tryd.prog 9 #[.agg #[.slice va vl vc, .bool t]] V fun e w' => e = .returned (.string s) ∧ Below V.heap.size V w' by
    have h1 := text_c _ z V (x3.below h) HZ.out
    rw [HTX.out] at h1
    exact h1)
  have hq : Below W0.heap.size W0 W0.drew := (Below.refl _ W0).drew
  have k0 := bA.c0
  have k1 := bA.c1
  have k2 := bB.c0
  have k3 := bB.c1
  clear x2 x3
  go_region_held3 (fun w' => w'.cell? ⟨B5, 0, none⟩ = some (.bool t) ∧ w'.cell? ⟨B5, 1, none⟩ = some (.slice ua ul uc) ∧ w'.cell? ⟨B7, 0, none⟩ = some (.slice va vl vc) ∧ w'.cell? ⟨B7, 1, none⟩ = some (.bool t)) (refine ⟨?_, ?_, ?_, ?_⟩ <;> (go_keep; done))
    (first
      | (go_at_call 8; refine (TI.out _ hq).mono ?_; rintro e w5 ⟨rfl, hb5⟩; have hq := Below.then hq hb5; have k0 := (bA.below hq).c0; have k1 := (bA.below hq).c1; have k2 := (bB.below hq).c0; have k3 := (bB.below hq).c1)
      | (go_at_call 9; refine (TR.out _ hq).mono ?_; rintro e w5 ⟨rfl, hb5⟩; have hq := Below.then hq hb5; have k0 := (bA.below hq).c0; have k1 := (bA.below hq).c1; have k2 := (bB.below hq).c0; have k3 := (bB.below hq).c1))
  have hW5 : Below w.heap.size w w5 := hB.trans (hq.mono hB.size)
  clear bA bB TI TR hB
  go_upto_region 7 with (go_at_call 10; refine (iof_c n h1 h2 _).mono ?_; rintro e w6 ⟨u6, rfl, hu6, hb6⟩; obtain ⟨ca, cl, cc, rfl⟩ := hu6.form)
  have hW6 : Below w.heap.size w w6 := Below.then hW5 hb6
  obtain ⟨r, hr⟩ : ∃ r, decide (n < 0) = r := ⟨_, rfl⟩
  rw [hr] at hu6 ⊢
  obtain ⟨W7, hW7⟩ : ∃ W7, (w6.alloc (.cells #[.bool r, .slice ca cl cc] 25)).alloc (.cells #[.bool false, .slice none 0 0] 25) = W7 := ⟨_, rfl⟩
  have bC : Box2 W7 w6.heap.size 25 (.bool r) (.slice ca cl cc) := by rw [← hW7]; exact (Box2.new _ _ _ _).alloc _
  have bN : Box2 W7 (w6.heap.size + 1) 25 (.bool false) (.slice none 0 0) := by
    have h1 := Box2.new (w6.alloc (.cells #[.bool r, .slice ca cl cc] 25)) 25 (.bool false) (.slice none 0 0)
    rw [World.size_alloc, hW7] at h1
    exact h1
  have hB7 : Below w.heap.size w W7 := by rw [← hW7]; exact (hW6.alloc hW6.size _).alloc (by have := hW6.size; simp; omega) _
  have y2 : IsInt W7 (.agg #[.bool r, .slice ca cl cc]) n := by rw [← hW7]; exact (hu6.alloc _).alloc _
  obtain ⟨S, hS⟩ : ∃ S : ByteArray, (⟨(decZ n).toArray⟩ : ByteArray) = S := ⟨_, rfl⟩
  have CI := hidD (fun (V : World) (h : Below W7.heap.size W7 V) => show Calls Tryd.prog 8 #[.agg #[.bool r, .slice ca cl cc]] V fun e w' => e = .returned (.string S) ∧ Below V.heap.size V w' by
    have h1 := itext_c _ n V (y2.below h) (tab_below HT.out (hB7.trans (h.mono hB7.size)))
    rw [hS] at h1
    exact h1)
  have CR := hidD (fun (V : World) (v : Value) (h : IsBig V v n) => show Calls Tryd.prog 9 #[v] V fun e w' => e = .returned (.string S) ∧ Below V.heap.size V w' by
    have h1 := text_c _ n V h (int_szB h1 h2)
    rw [hS] at h1
    exact h1)
  have CA := hidD (fun (V : World) (h : Below W7.heap.size W7 V) => alive_c V (tab_below HT.out (hB7.trans (h.mono hB7.size))))
  have hq : Below W7.heap.size W7 W7 := Below.refl _ W7
  obtain ⟨B9, hB9⟩ : ∃ B9, B9 = w6.heap.size := ⟨_, rfl⟩
  rw [hW7]
  rw [← hB9] at bC bN ⊢
  have k0 := bC.c0
  have k1 := bC.c1
  have k2 := bN.c0
  have k3 := bN.c1
  clear hW5 hW6 hb6 hu6 hW7 hB9 y2 hS hr
  go_wp2_with (first
    | (go_at_call 8; refine (CI.out _ hq).mono ?_; clear CI; rintro e w8 ⟨rfl, hb8⟩; have hq := Below.then hq hb8; have k0 := (bC.below hq).c0; have k1 := (bC.below hq).c1; have k2 := (bN.below hq).c0; have k3 := (bN.below hq).c1)
    | (go_at_call 8; refine (itext_0 none 0 _).mono ?_; rintro e w8 ⟨rfl, hb8⟩; have hq := Below.then hq hb8)
    | (go_at_call 11; refine (of_c n h1 h2 _).mono ?_; rintro e w8 ⟨v8, rfl, hv8, hb8⟩; have hq := Below.then hq hb8; have k0 := (bC.below hq).c0; have k1 := (bC.below hq).c1; have k2 := (bN.below hq).c0; have k3 := (bN.below hq).c1)
    | (go_at_call 9; refine (CR.out _ _ hv8).mono ?_; rintro e w8 ⟨rfl, hb8⟩; have hq := Below.then hq hb8; have k0 := (bC.below hq).c0; have k1 := (bC.below hq).c1; have k2 := (bN.below hq).c0; have k3 := (bN.below hq).c1)
    | (go_at_call 12; refine (CA.out _ hq).mono ?_; rintro e w8 ⟨rfl, hb8⟩; have hq := Below.then hq hb8))
  go_ret
  exact ⟨rfl, hB7.trans (hq.mono hB7.size)⟩
end Go.Proofs.YtahpgnkhophgpaaDoor
