import Derived.Test.YtjmmnpfedhkjbaaDoorK21
namespace Go.Proofs.YtjmmnpfedhkjbaaDoor
open Go.RowKit Go.Shelf

attribute [local go_sem] Oper.semAt_some

set_option maxRecDepth 100000 in
set_option maxHeartbeats 4000000 in
theorem wholeProducts_b (s r : ByteArray) (hs : s.size ≤ 140737488351232) (hr : r.size ≤ 140737488351232) (n : Int) (hn0 : 0 ≤ n ∧ n ≤ 200) (w : World) (htab : Lib.TabIs Tryd.prog w "internal/strconv.uint64pow10" .u64 Lib.pow10Tab) :
    Calls Tryd.prog 5 #[.string s, .string r, .int .i64 n] w fun e w' => e = .returned (.bool true) ∧ Below w.heap.size w w' := by
  have HT := hidD htab
  have HN := hidD hn0
  clear hn0
  have hmx : Tryd.prog.follows .mixedOrders = true := by kernel_rfl
  clear htab
  have hB : Below w.heap.size w w := Below.refl _ w
  go_enter Tryd.func5, Tryd.ntmps5
  go_upto_region 2 with (go_at_call 13; refine (lread_c s hs _).mono ?_; rintro e w7 ⟨u, x, rfl, hu, hx, hb⟩; obtain ⟨a7, l7, c7, rfl⟩ := hu.form; obtain ⟨s7, hsg⟩ : ∃ b, decide (x < 0) = b := ⟨_, rfl⟩; rw [hsg] at hu; rw [hsg]; clear hsg)
  obtain ⟨V7, hV⟩ : ∃ V, w7.alloc (.cells #[.slice a7 l7 c7, .bool s7] 30) = V := ⟨_, rfl⟩
  have lift : Below w.heap.size w V7 := by rw [← hV]; exact hb.alloc hb.size _
  have n7 : Box2 V7 w7.heap.size 30 (.slice a7 l7 c7) (.bool s7) := by rw [← hV]; exact Box2.new _ _ _ _
  have i7 : IsBig V7 (.agg #[.slice a7 l7 c7, .bool s7]) (x) := by rw [← hV]; exact hu.alloc _
  obtain ⟨B7, hBk⟩ : ∃ B, B = w7.heap.size := ⟨_, rfl⟩
  rw [hV]
  rw [← hBk] at n7 ⊢
  replace hB := hB.trans (lift.mono hB.size)
  clear hV hBk hb hu lift
  replace k7a := n7.c0
  replace k7b := n7.c1
  go_upto_region 3 with (go_at_call 13; refine (lread_c r hr _).mono ?_; rintro e w8 ⟨u, y, rfl, hu, hy, hb⟩; obtain ⟨a8, l8, c8, rfl⟩ := hu.form; obtain ⟨s8, hsg⟩ : ∃ b, decide (y < 0) = b := ⟨_, rfl⟩; rw [hsg] at hu; rw [hsg]; clear hsg)
  obtain ⟨V8, hV⟩ : ∃ V, w8.alloc (.cells #[.slice a8 l8 c8, .bool s8] 30) = V := ⟨_, rfl⟩
  have lift : Below V7.heap.size V7 V8 := by rw [← hV]; exact hb.alloc hb.size _
  have n8 : Box2 V8 w8.heap.size 30 (.slice a8 l8 c8) (.bool s8) := by rw [← hV]; exact Box2.new _ _ _ _
  have i8 : IsBig V8 (.agg #[.slice a8 l8 c8, .bool s8]) (y) := by rw [← hV]; exact hu.alloc _
  obtain ⟨B8, hBk⟩ : ∃ B, B = w8.heap.size := ⟨_, rfl⟩
  rw [hV]
  rw [← hBk] at n8 ⊢
  replace hB := hB.trans (lift.mono hB.size)
  replace n7 := n7.below lift
  replace i7 := i7.below lift
  clear hV hBk hb hu lift
  replace k7a := n7.c0
  replace k7b := n7.c1
  replace k8a := n8.c0
  replace k8b := n8.c1
  go_upto_region 4 with (go_at_call 14; refine (given_c _ x _ i7 hx).mono ?_; rintro e w9 ⟨u, rfl, hu, hb⟩; obtain ⟨a9, l9, c9, rfl⟩ := hu.form; obtain ⟨s9, hsg⟩ : ∃ b, decide (x < 0) = b := ⟨_, rfl⟩; rw [hsg] at hu; rw [hsg]; clear hsg)
  obtain ⟨V9, hV⟩ : ∃ V, w9.alloc (.cells #[.bool s9, .slice a9 l9 c9] 25) = V := ⟨_, rfl⟩
  have lift : Below V8.heap.size V8 V9 := by rw [← hV]; exact hb.alloc hb.size _
  have n9 : Box2 V9 w9.heap.size 25 (.bool s9) (.slice a9 l9 c9) := by rw [← hV]; exact Box2.new _ _ _ _
  have i9 : IsInt V9 (.agg #[.bool s9, .slice a9 l9 c9]) (x) := by rw [← hV]; exact hu.alloc _
  obtain ⟨B9, hBk⟩ : ∃ B, B = w9.heap.size := ⟨_, rfl⟩
  rw [hV]
  rw [← hBk] at n9 ⊢
  replace hB := hB.trans (lift.mono hB.size)
  replace n7 := n7.below lift
  replace i7 := i7.below lift
  replace n8 := n8.below lift
  replace i8 := i8.below lift
  clear hV hBk hb hu lift
  replace k7a := n7.c0
  replace k7b := n7.c1
  replace k8a := n8.c0
  replace k8b := n8.c1
  replace k9a := n9.c0
  replace k9b := n9.c1
  have HGV := hidD (fun (V : World) (h : Below V9.heap.size V9 V) => given_c _ y V (i8.below h) hy)
  have HTM := hidD (fun (V : World) (u : Value) (h : Below V9.heap.size V9 V) (hu : IsInt V u y) => itimes_c _ u x y V (i9.below h) hu (by have := hx.words2; have := hy.words2; omega))
  refine wp_region_tab hmx [[], [], [1], [0, 2, 2], [], [4, 3, 3, 0, 1, 2, 3, 4]] (by kernel_rfl) (by decide)
    (fun D a V => ∃ t10 t20 t21 t22 t23 : Value, a = { tmps := #[.string s, .string r, .int .i64 n, undef, undef, undef, .bool false, .pointer (some ⟨B7, 0, none⟩), .pointer (some ⟨B8, 0, none⟩), .pointer (some ⟨B9, 0, none⟩), t10, undef, undef, undef, .string s, .agg #[.slice a7 l7 c7, .bool s7], .string r, .agg #[.slice a8 l8 c8, .bool s8], .agg #[.slice a7 l7 c7, .bool s7], .agg #[.bool s9, .slice a9 l9 c9], t20, t21, t22, t23, undef, undef, undef, undef, undef, undef, undef, undef, undef, undef, undef, undef, undef, undef, undef, undef, undef, undef, undef, undef, undef, undef, undef, undef, undef, undef, undef, undef, undef, undef, undef, undef, undef, undef, undef, undef, undef, undef, undef, undef, undef, undef, undef, undef, undef, undef, undef, undef, undef, undef, undef, undef, undef, undef, undef, undef, undef, undef, undef], defers := [] } ∧
      Hid (D 0 = true → t20 = .agg #[.bool s9, .slice a9 l9 c9]) ∧ Hid (D 1 = true → t21 = .agg #[.slice a8 l8 c8, .bool s8]) ∧ Hid (D 2 = true → IsInt V t22 y) ∧ Hid (D 3 = true → IsInt V t23 (x * y)) ∧
      Hid (D 4 = true → D 5 = false → ∃ B, t10 = .pointer (some ⟨B, 0, none⟩) ∧ Box2 V B 25 (.bool false) (.slice none 0 0) ∧ V9.heap.size ≤ B) ∧
      Hid (D 5 = true → ∃ B s3 a3 l3 c3, t10 = .pointer (some ⟨B, 0, none⟩) ∧ t23 = .agg #[.bool s3, .slice a3 l3 c3] ∧ Box2 V B 25 (.bool s3) (.slice a3 l3 c3) ∧ V9.heap.size ≤ B) ∧ Below V9.heap.size V9 V)
    ⟨_, _, _, _, _, rfl, hidD (fun h => by cases h), hidD (fun h => by cases h), hidD (fun h => by cases h), hidD (fun h => by cases h), hidD (fun h => by cases h), hidD (fun h => by cases h), (Below.refl _ V9).drew⟩ ?step ?fin
  case step =>
    rintro D a V i ds hcl2 hi2 hds hDi ⟨t10, t20, t21, t22, t23, rfl, g0, g1, g2, g3, g4, g5, hq⟩
    have hi6 : i < 6 := (List.getElem?_eq_some_iff.1 hi2).1
    obtain rfl | rfl | rfl | rfl | rfl | rfl : i = 0 ∨ i = 1 ∨ i = 2 ∨ i = 3 ∨ i = 4 ∨ i = 5 := by omega
    all_goals
      simp only [List.getElem?_cons_zero, List.getElem?_cons_succ, Option.some.injEq] at hi2
      subst hi2
      clear hi6
    · have k0 := (n9.below hq).c0
      have k1 := (n9.below hq).c1
      clear hds hcl2
      refine wpOp_go rfl rfl (fun K hK => ?_)
      go_simp
      exact hK _ _ ⟨_, _, _, _, _, rfl, hidD (fun _ => rfl), g1, g2, g3, g4, g5, hq⟩
    · have k0 := (n8.below hq).c0
      have k1 := (n8.below hq).c1
      clear hds hcl2
      refine wpOp_go rfl rfl (fun K hK => ?_)
      go_simp
      exact hK _ _ ⟨_, _, _, _, _, rfl, g0, hidD (fun _ => rfl), g2, g3, g4, g5, hq⟩
    · have hf5 : D 5 = false := by
        cases h : D 5 with
        | false => rfl
        | true => rw [hcl2 5 _ rfl h 2 (by simp)] at hDi; cases hDi
      have hf3 : D 3 = false := by
        cases h : D 3 with
        | false => rfl
        | true => rw [hcl2 3 _ rfl h 2 (by simp)] at hDi; cases hDi
      obtain rfl := g1.out (hds 1 (by simp))
      clear hds hcl2
      refine wpOp_go rfl rfl (fun K hK => ?_)
      go_simp
      go_wp2_with (go_at_call 14; refine (HGV.out _ hq).mono ?_; rintro e w5 ⟨v5, rfl, hv5, hb5⟩)
      exact ⟨_, _, _, _, _, rfl, g0, hidD (fun _ => rfl), hidD (fun _ => hv5), hidD (fun h => by simp [hf3] at h), hidD (fun h h' => by
        obtain ⟨B, e, q, q2⟩ := g4.out h h'
        exact ⟨B, e, q.below hb5, q2⟩), hidD (fun h => by simp [hf5] at h), Below.then hq hb5⟩
    · have hf5 : D 5 = false := by
        cases h : D 5 with
        | false => rfl
        | true => rw [hcl2 5 _ rfl h 3 (by simp)] at hDi; cases hDi
      obtain rfl := g0.out (hds 0 (by simp))
      have h2 := g2.out (hds 2 (by simp))
      clear hds hcl2
      refine wpOp_go rfl rfl (fun K hK => ?_)
      go_simp
      go_wp2_with (go_at_call 21; refine (HTM.out _ _ hq h2).mono ?_; rintro e w5 ⟨v5, rfl, hv5, hb5⟩)
      exact ⟨_, _, _, _, _, rfl, hidD (fun _ => rfl), g1, hidD (fun _ => h2.below hb5), hidD (fun _ => hv5), hidD (fun h h' => by
        obtain ⟨B, e, q, q2⟩ := g4.out h h'
        exact ⟨B, e, q.below hb5, q2⟩), hidD (fun h => by simp [hf5] at h), Below.then hq hb5⟩
    · have hf5 : D 5 = false := by
        cases h : D 5 with
        | false => rfl
        | true => rw [hcl2 5 _ rfl h 4 (by simp)] at hDi; cases hDi
      clear hds hcl2
      refine wpOp_go rfl rfl (fun K hK => ?_)
      go_simp
      exact hK _ _ ⟨_, _, _, _, _, rfl, g0, g1, hidD (fun h => (g2.out h).alloc _), hidD (fun h => (g3.out h).alloc _), hidD (fun _ _ => ⟨_, rfl, Box2.new _ _ _ _, hq.size⟩), hidD (fun h => by simp [hf5] at h), hq.alloc hq.size _⟩
    · obtain ⟨B, rfl, hbB, hwB⟩ := g4.out (hds 4 (by simp)) hDi
      have h3 := g3.out (hds 3 (by simp))
      obtain ⟨a3, l3, c3, rfl⟩ := h3.form
      have k0 := hbB.c0
      have k1 := hbB.c1
      have f0 := hbB.f0
      have f1 := hbB.f1
      clear g4 g5 hds hcl2
      refine wpOp_go rfl rfl (fun K hK => ?_)
      go_simp
      exact hK _ _ ⟨_, _, _, _, _, rfl, g0, g1, hidD (fun h => (g2.out h).box hbB rfl rfl), hidD (fun _ => h3.box hbB rfl rfl), hidD (fun _ h => by simp at h), hidD (fun _ => ⟨B, _, a3, l3, c3, rfl, rfl, (hbB.set0 _).set1 _, hwB⟩), (hq.setCell (p := ⟨B, 0, none⟩) hwB _).setCell (p := ⟨B, 1, none⟩) hwB _⟩
  clear HGV HTM
  rintro D a V10 hDD ⟨t10, t20, t21, t22, t23, rfl, g0, g1, g2, g3, g4, g5, hq⟩
  obtain ⟨B10, s10, a10, l10, c10, rfl, rfl, n10, _⟩ := g5.out (hDD 5 (by decide))
  have i10 := g3.out (hDD 3 (by decide))
  obtain rfl := g0.out (hDD 0 (by decide))
  obtain rfl := g1.out (hDD 1 (by decide))
  clear g0 g1 g2 g3 g4 g5 hDD k7a k7b k8a k8b k9a k9b
  replace n7 := n7.below hq
  replace i7 := i7.below hq
  replace n8 := n8.below hq
  replace i8 := i8.below hq
  replace n9 := n9.below hq
  replace i9 := i9.below hq
  replace hB := hB.trans (hq.mono hB.size)
  clear hq
  obtain ⟨S1, hS1⟩ : ∃ S : ByteArray, (⟨(decZ (x * y)).toArray⟩ : ByteArray) = S := ⟨_, rfl⟩
  have TI10 := hidD (fun (V : World) (h : Below V10.heap.size V10 V) => show Calls Tryd.prog 8 #[.agg #[.bool s10, .slice a10 l10 c10]] V fun e w' => e = .returned (.string S1) ∧ Below V.heap.size V w' by
    have h1 := itext_c _ _ V (i10.below h) (tab_below HT.out (hB.trans (h.mono hB.size)))
    rw [hS1] at h1
    exact h1)
  have TMR := hidD (fun (V : World) (h : Below V10.heap.size V10 V) => rtimes_c _ _ x y V (i7.below h) (i8.below h) hx.size hy.size)
  have TR1 := hidD (fun (V : World) (v : Value) (h : IsBig V v (x * y)) => show Calls Tryd.prog 9 #[v] V fun e w' => e = .returned (.string S1) ∧ Below V.heap.size V w' by
    have h1 := text_c v _ V h (sz_mul hx.sz hy.sz)
    rw [hS1] at h1
    exact h1)
  clear hS1
  go_upto_region 5 with fail
  have hq : Below V10.heap.size V10 V10.drew := (Below.refl _ V10).drew
  replace k7a := n7.c0
  replace k7b := n7.c1
  replace k8a := n8.c0
  replace k8b := n8.c1
  replace k10a := n10.c0
  replace k10b := n10.c1
  go_region_held3 (fun w' => w'.cell? ⟨B7, 0, none⟩ = some (.slice a7 l7 c7) ∧ w'.cell? ⟨B7, 1, none⟩ = some (.bool s7) ∧ w'.cell? ⟨B8, 0, none⟩ = some (.slice a8 l8 c8) ∧ w'.cell? ⟨B8, 1, none⟩ = some (.bool s8) ∧ w'.cell? ⟨B10, 0, none⟩ = some (.bool s10) ∧ w'.cell? ⟨B10, 1, none⟩ = some (.slice a10 l10 c10)) (first | (exact ⟨k7a, k7b, k8a, k8b, k10a, k10b⟩) | (refine ⟨?_, ?_, ?_, ?_, ?_, ?_⟩ <;> (go_keep; done)))
    (first
      | (go_at_call 8; refine (TI10.out _ hq).mono ?_; rintro e w8 ⟨rfl, hb8⟩; clear k7a k7b k8a k8b k10a k10b; replace hq := Below.then hq hb8; have k7a := (n7.below hq).c0; have k7b := (n7.below hq).c1; have k8a := (n8.below hq).c0; have k8b := (n8.below hq).c1; have k10a := (n10.below hq).c0; have k10b := (n10.below hq).c1)
      | (go_at_call 22; refine (TMR.out _ hq).mono ?_; rintro e w8 ⟨v8, rfl, h4, hb8⟩; obtain ⟨a4, l4, c4, rfl⟩ := h4.form; obtain ⟨s4, hs4⟩ : ∃ b, decide (x * y < 0) = b := ⟨_, rfl⟩; rw [hs4] at h4; rw [hs4]; clear hs4; clear k7a k7b k8a k8b k10a k10b; replace hq := Below.then hq hb8; have k7a := (n7.below hq).c0; have k7b := (n7.below hq).c1; have k8a := (n8.below hq).c0; have k8b := (n8.below hq).c1; have k10a := (n10.below hq).c0; have k10b := (n10.below hq).c1)
      | (go_at_call 9; refine (TR1.out _ _ h4).mono ?_; rintro e w8 ⟨rfl, hb8⟩; clear k7a k7b k8a k8b k10a k10b; replace hq := Below.then hq hb8; have k7a := (n7.below hq).c0; have k7b := (n7.below hq).c1; have k8a := (n8.below hq).c0; have k8b := (n8.below hq).c1; have k10a := (n10.below hq).c0; have k10b := (n10.below hq).c1))
  replace hB := hB.trans (hq.mono hB.size)
  replace n7 := n7.below hq
  replace i7 := i7.below hq
  replace n9 := n9.below hq
  replace i9 := i9.below hq
  clear n8 n10 TI10 TMR TR1 hq k7a k7b k8a k8b k10a k10b
  replace k7a := n7.c0
  obtain ⟨W0, hW0⟩ : ∃ W0, w8 = W0 := ⟨_, rfl⟩
  subst hW0
  have hl7 : l7 = szB x := by
    obtain ⟨a', l', c', e, hr⟩ := i7
    cases e
    exact (row_fn hr).1
  have HL7 := hidD hl7
  clear hl7
  obtain ⟨q, hqe⟩ : ∃ q : Bool, (decide ((5 : Int) < (l7 : Int)) && decide (9 < n)) = q := ⟨_, rfl⟩
  have HQE := hidD hqe
  clear hqe
  go_upto_region 8 with fail
  go_cut [39] (fun v w1 => v = .bool q ∧ w1 = w8)
  case first =>
    by_cases h5 : 5 < l7
    · have e5 : q = decide (9 < n) := by rw [← HQE.out]; simp; omega
      go_wp2_with fail
      go_meet
      case rel => exact ⟨by rw [e5], rfl⟩
    · have e5 : q = false := by rw [← HQE.out]; simp; omega
      go_wp2_with fail
      go_meet
      case rel => exact ⟨by rw [e5], rfl⟩
  case rest =>
    obtain ⟨rfl, rfl⟩ := hcut
    go_upto_if 39 with fail
    go_cut [11] (fun kv w1 => ∃ K : Int, kv = .int .i64 K ∧ (5 < l7 → K ≤ 9) ∧ Hid (K = n ∨ K = 9 ∧ 9 < n) ∧ w1 = wc)
    case first =>
      cases q
      · go_wp2_with fail
        go_meet
        case rel => exact ⟨n, rfl, fun h => by have h1 := HQE.out; simp at h1; omega, hidD (Or.inl rfl), rfl⟩
      · go_wp2_with fail
        go_meet
        case rel => exact ⟨9, rfl, fun _ => by omega, hidD (Or.inr ⟨rfl, by have h1 := HQE.out; simp at h1; omega⟩), rfl⟩
    case rest =>
      obtain ⟨K, rfl, hK, hKn, rfl⟩ := hcut
      replace k9a := n9.c0
      replace k9b := n9.c1
      have hok : 0 ≤ K ∧ K ≤ 200 := by have h1 := HN.out; have h2 := hKn.out; omega
      clear hKn
      · obtain ⟨k, rfl⟩ : ∃ k : Nat, K = k := ⟨K.toNat, by omega⟩
        have hk2 : k ≤ 200 := by omega
        have hbnd : szB x * k ≤ 100000 := by
          have h1 := hx.sz
          by_cases h5 : 5 < l7
          · have h9 := hK h5
            have := Nat.mul_le_mul h1 (show k ≤ 9 by omega)
            omega
          · have hl := HL7.out
            have := Nat.mul_le_mul (show szB x ≤ 5 by omega) hk2
            omega
        have HPW := hidD (ipower_ok _ x k _ i9 hk2 (by
          have h1 := Nat.mul_le_mul hx.words2 hk2
          omega))
        have HBN := hidD hbnd
        have n1 : ¬ ((k : Int) < 0) := by omega
        have n2 : (k : Int) ≤ 200 := by omega
        have n3 : (0 : Int) ≤ (k : Int) := by omega
        clear hok hbnd hK
        go_upto_region 11 with (go_at_call 23; refine HPW.out.mono ?_; rintro e w12 ⟨u, rfl, hu, hb⟩; obtain ⟨a12, l12, c12, rfl⟩ := hu.form; obtain ⟨s12, hsg⟩ : ∃ b, decide (x ^ k < 0) = b := ⟨_, rfl⟩; rw [hsg] at hu; rw [hsg]; clear hsg)
        go_upto_region 13 with fail
        obtain ⟨W12, hW⟩ : ∃ W, w12.alloc (.cells #[.bool s12, .slice a12 l12 c12] 25) = W := ⟨_, rfl⟩
        have lift : Below wc.heap.size wc W12 := by rw [← hW]; exact hb.alloc hb.size _
        have n12 : Box2 W12 w12.heap.size 25 (.bool s12) (.slice a12 l12 c12) := by rw [← hW]; exact Box2.new _ _ _ _
        have i12 : IsInt W12 (.agg #[.bool s12, .slice a12 l12 c12]) (x ^ k) := by rw [← hW]; exact hu.alloc _
        obtain ⟨B12, hBk⟩ : ∃ B, B = w12.heap.size := ⟨_, rfl⟩
        rw [hW]
        rw [← hBk] at n12 ⊢
        replace hB := hB.trans (lift.mono hB.size)
        replace n7 := n7.below lift
        replace i7 := i7.below lift
        replace n9 := n9.below lift
        replace i9 := i9.below lift
        clear hW hBk hb lift k7a k9a k9b hu
        obtain ⟨Sx, hSx⟩ : ∃ S : ByteArray, (⟨(decZ x).toArray⟩ : ByteArray) = S := ⟨_, rfl⟩
        obtain ⟨Sp, hSp⟩ : ∃ S : ByteArray, (⟨(decZ (x ^ k)).toArray⟩ : ByteArray) = S := ⟨_, rfl⟩
        have TI9 := hidD (fun (V : World) (h : Below W12.heap.size W12 V) => show Calls Tryd.prog 8 #[.agg #[.bool s9, .slice a9 l9 c9]] V fun e w' => e = .returned (.string Sx) ∧ Below V.heap.size V w' by
          have h1 := itext_c _ _ V (i9.below h) (tab_below HT.out (hB.trans (h.mono hB.size)))
          rw [hSx] at h1
          exact h1)
        have TI12 := hidD (fun (V : World) (h : Below W12.heap.size W12 V) => show Calls Tryd.prog 8 #[.agg #[.bool s12, .slice a12 l12 c12]] V fun e w' => e = .returned (.string Sp) ∧ Below V.heap.size V w' by
          have h1 := itext_c _ _ V (i12.below h) (tab_below HT.out (hB.trans (h.mono hB.size)))
          rw [hSp] at h1
          exact h1)
        have RPW := hidD (fun (V : World) (h : Below W12.heap.size W12 V) => rpower_c _ x k V (i7.below h) hk2 (by have := HBN.out; omega) (by have := hx.sz; omega))
        have TRP := hidD (fun (V : World) (v : Value) (h : IsBig V v (x ^ k)) => show Calls Tryd.prog 9 #[v] V fun e w' => e = .returned (.string Sp) ∧ Below V.heap.size V w' by
          have h1 := text_c v _ V h (by have h2 := szB_pow_le x k; have h3 := HBN.out; omega)
          rw [hSp] at h1
          exact h1)
        have TR7 := hidD (fun (V : World) (h : Below W12.heap.size W12 V) => show Calls Tryd.prog 9 #[.agg #[.slice a7 l7 c7, .bool s7]] V fun e w' => e = .returned (.string Sx) ∧ Below V.heap.size V w' by
          have h1 := text_c _ x V (i7.below h) hx.size
          rw [hSx] at h1
          exact h1)
        have AL := hidD (fun (V : World) (h : Below W12.heap.size W12 V) => alive_c V (tab_below HT.out (hB.trans (h.mono hB.size))))
        clear hSx i7 i9 hSp i12
        refine wp_region_tab hmx [[], [0], [1], [2, 1, 1], [1], [1], [4, 5, 3, 1], [6, 6, 1], [3, 7, 1], [1, 8], [9, 7], [10], [11, 10], [12, 10, 10], [13], [14, 13, 13], [15, 13], [13, 16, 10], [10, 17], [18, 15], [19], [20, 19, 19], [19], [22, 21, 19], [21, 23, 19], [19, 24], [25, 23], [26, 26], [26, 27], [28, 27, 0, 1, 2, 3, 4, 5, 6, 7, 8, 9, 10, 11, 12, 13, 14, 15, 16, 17, 18, 19, 20, 21, 22, 23, 24, 25, 26, 27, 28]] (by kernel_rfl) (by decide)
          (fun D a V => ∃ t6 t54 t55 t56 t57 t58 t59 t60 t61 t62 t63 t64 t65 t66 t67 t68 t69 t70 t71 t72 t73 t74 t75 t76 t77 t78 t79 t80 t81 t82 : Value, a = { tmps := #[.string s, .string r, .int .i64 n, undef, undef, undef, t6, .pointer (some ⟨B7, 0, none⟩), .pointer (some ⟨B8, 0, none⟩), .pointer (some ⟨B9, 0, none⟩), .pointer (some ⟨B10, 0, none⟩), .int .i64 (k : Nat), .pointer (some ⟨B12, 0, none⟩), .bool true, u14, u15, u16, u17, u18, u19, u20, u21, u22, u23, u24, u25, u26, u27, u28, u29, u30, u31, u32, u33, u34, u35, u36, u37, u38, u39, .tuple #[.agg #[.bool s12, .slice a12 l12 c12], .bool true], .agg #[.bool s9, .slice a9 l9 c9], .int .i64 (k : Nat), .tuple #[.agg #[.bool s12, .slice a12 l12 c12], .bool true], .agg #[.bool s12, .slice a12 l12 c12], .bool true, .bool true, .int .i64 (k : Nat), .bool true, .bool true, .int .i64 (k : Nat), .bool true, .bool true, .bool false, t54, t55, t56, t57, t58, t59, t60, t61, t62, t63, t64, t65, t66, t67, t68, t69, t70, t71, t72, t73, t74, t75, t76, t77, t78, t79, t80, t81, t82], defers := [] } ∧
                    Hid (D 0 = true → t54 = .bool true) ∧ Hid (D 1 = true → t55 = .bool true) ∧ Hid (D 2 = true → t56 = .agg #[.bool s12, .slice a12 l12 c12]) ∧ Hid (D 3 = true → t57 = .string Sp) ∧ Hid (D 4 = true → t58 = .agg #[.slice a7 l7 c7, .bool s7]) ∧ Hid (D 5 = true → t59 = .int .i64 (k : Nat)) ∧ Hid (D 6 = true → IsBig V t60 (x ^ k)) ∧ Hid (D 7 = true → t61 = .string Sp) ∧ Hid (D 8 = true → t62 = .bool true) ∧ Hid (D 9 = true → t63 = .bool true) ∧ Hid (D 10 = true → t64 = .bool true) ∧ Hid (D 13 = true → t67 = undef) ∧ Hid (D 18 = true → t72 = .bool true) ∧ Hid (D 19 = true → t73 = .bool true) ∧ Hid (D 20 = true → t74 = .agg #[.bool s9, .slice a9 l9 c9]) ∧ Hid (D 21 = true → t75 = .string Sx) ∧ Hid (D 22 = true → t76 = .agg #[.slice a7 l7 c7, .bool s7]) ∧ Hid (D 23 = true → t77 = .string Sx) ∧ Hid (D 24 = true → t78 = .bool true) ∧ Hid (D 25 = true → t79 = .bool true) ∧ Hid (D 26 = true → t80 = .bool true) ∧ Hid (D 27 = true → t81 = .bool true) ∧ Hid (D 28 = true → t82 = .bool true) ∧ Hid (D 29 = true → t6 = .bool true) ∧ Below W12.heap.size W12 V)
          ⟨_, _, _, _, _, _, _, _, _, _, _, _, _, _, _, _, _, _, _, _, _, _, _, _, _, _, _, _, _, _, rfl, hidD (fun h => by cases h), hidD (fun h => by cases h), hidD (fun h => by cases h), hidD (fun h => by cases h), hidD (fun h => by cases h), hidD (fun h => by cases h), hidD (fun h => by cases h), hidD (fun h => by cases h), hidD (fun h => by cases h), hidD (fun h => by cases h), hidD (fun h => by cases h), hidD (fun h => by cases h), hidD (fun h => by cases h), hidD (fun h => by cases h), hidD (fun h => by cases h), hidD (fun h => by cases h), hidD (fun h => by cases h), hidD (fun h => by cases h), hidD (fun h => by cases h), hidD (fun h => by cases h), hidD (fun h => by cases h), hidD (fun h => by cases h), hidD (fun h => by cases h), hidD (fun h => by cases h), (Below.refl _ W12).drew⟩ ?stepA ?finA
        case stepA =>
          rintro D a V i ds hcl2 hi2 hds hDi ⟨t6, t54, t55, t56, t57, t58, t59, t60, t61, t62, t63, t64, t65, t66, t67, t68, t69, t70, t71, t72, t73, t74, t75, t76, t77, t78, t79, t80, t81, t82, rfl, g0, g1, g2, g3, g4, g5, g6, g7, g8, g9, g10, g13, g18, g19, g20, g21, g22, g23, g24, g25, g26, g27, g28, g29, hq⟩
          have hi6 : i < 30 := (List.getElem?_eq_some_iff.1 hi2).1
          clear hcl2 hDi
          obtain rfl | rfl | rfl | rfl | rfl | rfl | rfl | rfl | rfl | rfl | rfl | rfl | rfl | rfl | rfl | rfl | rfl | rfl | rfl | rfl | rfl | rfl | rfl | rfl | rfl | rfl | rfl | rfl | rfl | rfl : i = 0 ∨ i = 1 ∨ i = 2 ∨ i = 3 ∨ i = 4 ∨ i = 5 ∨ i = 6 ∨ i = 7 ∨ i = 8 ∨ i = 9 ∨ i = 10 ∨ i = 11 ∨ i = 12 ∨ i = 13 ∨ i = 14 ∨ i = 15 ∨ i = 16 ∨ i = 17 ∨ i = 18 ∨ i = 19 ∨ i = 20 ∨ i = 21 ∨ i = 22 ∨ i = 23 ∨ i = 24 ∨ i = 25 ∨ i = 26 ∨ i = 27 ∨ i = 28 ∨ i = 29 := by omega
          all_goals
            simp only [List.getElem?_cons_zero, List.getElem?_cons_succ, Option.some.injEq] at hi2
            subst hi2
            clear hi6
          · clear hds
            refine wpOp_yes rfl rfl (fun K0 hK0 => ?_)
            go_simp
            exact hK0 _ _ ⟨_, _, _, _, _, _, _, _, _, _, _, _, _, _, _, _, _, _, _, _, _, _, _, _, _, _, _, _, _, _, rfl, hidD (fun _ => rfl), g1, g2, g3, g4, g5, g6, g7, g8, g9, g10, g13, g18, g19, g20, g21, g22, g23, g24, g25, g26, g27, g28, g29, hq⟩
          · obtain rfl := g0.out (hds 0 (by simp))
            clear hds
            refine wpOp_yes rfl rfl (fun K0 hK0 => ?_)
            go_simp
            exact hK0 _ _ ⟨_, _, _, _, _, _, _, _, _, _, _, _, _, _, _, _, _, _, _, _, _, _, _, _, _, _, _, _, _, _, rfl, hidD (fun _ => rfl), hidD (fun _ => rfl), g2, g3, g4, g5, g6, g7, g8, g9, g10, g13, g18, g19, g20, g21, g22, g23, g24, g25, g26, g27, g28, g29, hq⟩
          · obtain rfl := g1.out (hds 1 (by simp))
            clear hds
            have k0 := (n12.below hq).c0
            have k1 := (n12.below hq).c1
            refine wpOp_yes rfl rfl (fun K0 hK0 => ?_)
            go_simp
            exact hK0 _ _ ⟨_, _, _, _, _, _, _, _, _, _, _, _, _, _, _, _, _, _, _, _, _, _, _, _, _, _, _, _, _, _, rfl, g0, hidD (fun _ => rfl), hidD (fun _ => rfl), g3, g4, g5, g6, g7, g8, g9, g10, g13, g18, g19, g20, g21, g22, g23, g24, g25, g26, g27, g28, g29, hq⟩
          · obtain rfl := g1.out (hds 1 (by simp))
            obtain rfl := g2.out (hds 2 (by simp))
            clear hds
            refine wpOp_yes rfl rfl (fun K0 hK0 => ?_)
            go_simp
            go_wp2_with (go_at_call 8; refine (TI12.out _ hq).mono ?_; rintro e w8 ⟨rfl, hb8⟩)
            exact ⟨_, _, _, _, _, _, _, _, _, _, _, _, _, _, _, _, _, _, _, _, _, _, _, _, _, _, _, _, _, _, rfl, g0, hidD (fun _ => rfl), hidD (fun _ => rfl), hidD (fun _ => rfl), g4, g5, hidD (fun h => (g6.out h).below hb8), g7, g8, g9, g10, g13, g18, g19, g20, g21, g22, g23, g24, g25, g26, g27, g28, g29, Below.then hq hb8⟩
          · obtain rfl := g1.out (hds 1 (by simp))
            clear hds
            have k0 := (n7.below hq).c0
            have k1 := (n7.below hq).c1
            refine wpOp_yes rfl rfl (fun K0 hK0 => ?_)
            go_simp
            exact hK0 _ _ ⟨_, _, _, _, _, _, _, _, _, _, _, _, _, _, _, _, _, _, _, _, _, _, _, _, _, _, _, _, _, _, rfl, g0, hidD (fun _ => rfl), g2, g3, hidD (fun _ => rfl), g5, g6, g7, g8, g9, g10, g13, g18, g19, g20, g21, g22, g23, g24, g25, g26, g27, g28, g29, hq⟩
          · obtain rfl := g1.out (hds 1 (by simp))
            clear hds
            refine wpOp_yes rfl rfl (fun K0 hK0 => ?_)
            go_simp
            exact hK0 _ _ ⟨_, _, _, _, _, _, _, _, _, _, _, _, _, _, _, _, _, _, _, _, _, _, _, _, _, _, _, _, _, _, rfl, g0, hidD (fun _ => rfl), g2, g3, g4, hidD (fun _ => rfl), g6, g7, g8, g9, g10, g13, g18, g19, g20, g21, g22, g23, g24, g25, g26, g27, g28, g29, hq⟩
          · obtain rfl := g1.out (hds 1 (by simp))
            obtain rfl := g3.out (hds 3 (by simp))
            obtain rfl := g4.out (hds 4 (by simp))
            obtain rfl := g5.out (hds 5 (by simp))
            clear hds
            refine wpOp_yes rfl rfl (fun K0 hK0 => ?_)
            go_simp
            go_wp2_with (go_at_call 24; refine (RPW.out _ hq).mono ?_; rintro e w8 ⟨v8, rfl, hv8, hb8⟩)
            exact ⟨_, _, _, _, _, _, _, _, _, _, _, _, _, _, _, _, _, _, _, _, _, _, _, _, _, _, _, _, _, _, rfl, g0, hidD (fun _ => rfl), g2, hidD (fun _ => rfl), hidD (fun _ => rfl), hidD (fun _ => rfl), hidD (fun _ => hv8), g7, g8, g9, g10, g13, g18, g19, g20, g21, g22, g23, g24, g25, g26, g27, g28, g29, Below.then hq hb8⟩
          · obtain rfl := g1.out (hds 1 (by simp))
            have h6 := g6.out (hds 6 (by simp))
            clear hds
            refine wpOp_yes rfl rfl (fun K0 hK0 => ?_)
            go_simp
            go_wp2_with (go_at_call 9; refine (TRP.out _ _ h6).mono ?_; rintro e w8 ⟨rfl, hb8⟩)
            exact ⟨_, _, _, _, _, _, _, _, _, _, _, _, _, _, _, _, _, _, _, _, _, _, _, _, _, _, _, _, _, _, rfl, g0, hidD (fun _ => rfl), g2, g3, g4, g5, hidD (fun h => (g6.out h).below hb8), hidD (fun _ => rfl), g8, g9, g10, g13, g18, g19, g20, g21, g22, g23, g24, g25, g26, g27, g28, g29, Below.then hq hb8⟩
          · obtain rfl := g1.out (hds 1 (by simp))
            obtain rfl := g3.out (hds 3 (by simp))
            obtain rfl := g7.out (hds 7 (by simp))
            clear hds
            refine wpOp_yes rfl rfl (fun K0 hK0 => ?_)
            go_simp
            exact hK0 _ _ ⟨_, _, _, _, _, _, _, _, _, _, _, _, _, _, _, _, _, _, _, _, _, _, _, _, _, _, _, _, _, _, rfl, g0, hidD (fun _ => rfl), g2, hidD (fun _ => rfl), g4, g5, g6, hidD (fun _ => rfl), hidD (fun _ => rfl), g9, g10, g13, g18, g19, g20, g21, g22, g23, g24, g25, g26, g27, g28, g29, hq⟩
          · obtain rfl := g1.out (hds 1 (by simp))
            obtain rfl := g8.out (hds 8 (by simp))
            clear hds
            refine wpOp_yes rfl rfl (fun K0 hK0 => ?_)
            go_simp
            exact hK0 _ _ ⟨_, _, _, _, _, _, _, _, _, _, _, _, _, _, _, _, _, _, _, _, _, _, _, _, _, _, _, _, _, _, rfl, g0, hidD (fun _ => rfl), g2, g3, g4, g5, g6, g7, hidD (fun _ => rfl), hidD (fun _ => rfl), g10, g13, g18, g19, g20, g21, g22, g23, g24, g25, g26, g27, g28, g29, hq⟩
          · obtain rfl := g7.out (hds 7 (by simp))
            obtain rfl := g9.out (hds 9 (by simp))
            clear hds
            refine wpOp_yes rfl rfl (fun K0 hK0 => ?_)
            go_simp
            exact hK0 _ _ ⟨_, _, _, _, _, _, _, _, _, _, _, _, _, _, _, _, _, _, _, _, _, _, _, _, _, _, _, _, _, _, rfl, g0, g1, g2, g3, g4, g5, g6, hidD (fun _ => rfl), g8, hidD (fun _ => rfl), hidD (fun _ => rfl), g13, g18, g19, g20, g21, g22, g23, g24, g25, g26, g27, g28, g29, hq⟩
          · obtain rfl := g10.out (hds 10 (by simp))
            clear hds
            exact wpOp_no rfl rfl ⟨_, _, _, _, _, _, _, _, _, _, _, _, _, _, _, _, _, _, _, _, _, _, _, _, _, _, _, _, _, _, rfl, g0, g1, g2, g3, g4, g5, g6, g7, g8, g9, hidD (fun _ => rfl), g13, g18, g19, g20, g21, g22, g23, g24, g25, g26, g27, g28, g29, hq⟩
          · obtain rfl := g10.out (hds 10 (by simp))
            clear hds
            exact wpOp_no rfl rfl ⟨_, _, _, _, _, _, _, _, _, _, _, _, _, _, _, _, _, _, _, _, _, _, _, _, _, _, _, _, _, _, rfl, g0, g1, g2, g3, g4, g5, g6, g7, g8, g9, hidD (fun _ => rfl), g13, g18, g19, g20, g21, g22, g23, g24, g25, g26, g27, g28, g29, hq⟩
          · obtain rfl := g10.out (hds 10 (by simp))
            clear hds
            exact wpOp_no rfl rfl ⟨_, _, _, _, _, _, _, _, _, _, _, _, _, _, _, _, _, _, _, _, _, _, _, _, _, _, _, _, _, _, rfl, g0, g1, g2, g3, g4, g5, g6, g7, g8, g9, hidD (fun _ => rfl), hidD (fun _ => rfl), g18, g19, g20, g21, g22, g23, g24, g25, g26, g27, g28, g29, hq⟩
          · obtain rfl := g13.out (hds 13 (by simp))
            clear hds
            exact wpOp_no rfl rfl ⟨_, _, _, _, _, _, _, _, _, _, _, _, _, _, _, _, _, _, _, _, _, _, _, _, _, _, _, _, _, _, rfl, g0, g1, g2, g3, g4, g5, g6, g7, g8, g9, g10, hidD (fun _ => rfl), g18, g19, g20, g21, g22, g23, g24, g25, g26, g27, g28, g29, hq⟩
          · obtain rfl := g13.out (hds 13 (by simp))
            clear hds
            exact wpOp_no rfl rfl ⟨_, _, _, _, _, _, _, _, _, _, _, _, _, _, _, _, _, _, _, _, _, _, _, _, _, _, _, _, _, _, rfl, g0, g1, g2, g3, g4, g5, g6, g7, g8, g9, g10, hidD (fun _ => rfl), g18, g19, g20, g21, g22, g23, g24, g25, g26, g27, g28, g29, hq⟩
          · obtain rfl := g13.out (hds 13 (by simp))
            clear hds
            exact wpOp_no rfl rfl ⟨_, _, _, _, _, _, _, _, _, _, _, _, _, _, _, _, _, _, _, _, _, _, _, _, _, _, _, _, _, _, rfl, g0, g1, g2, g3, g4, g5, g6, g7, g8, g9, g10, hidD (fun _ => rfl), g18, g19, g20, g21, g22, g23, g24, g25, g26, g27, g28, g29, hq⟩
          · obtain rfl := g10.out (hds 10 (by simp))
            obtain rfl := g13.out (hds 13 (by simp))
            clear hds
            exact wpOp_no rfl rfl ⟨_, _, _, _, _, _, _, _, _, _, _, _, _, _, _, _, _, _, _, _, _, _, _, _, _, _, _, _, _, _, rfl, g0, g1, g2, g3, g4, g5, g6, g7, g8, g9, hidD (fun _ => rfl), hidD (fun _ => rfl), g18, g19, g20, g21, g22, g23, g24, g25, g26, g27, g28, g29, hq⟩
          · obtain rfl := g10.out (hds 10 (by simp))
            clear hds
            refine wpOp_yes rfl rfl (fun K0 hK0 => ?_)
            go_simp
            exact hK0 _ _ ⟨_, _, _, _, _, _, _, _, _, _, _, _, _, _, _, _, _, _, _, _, _, _, _, _, _, _, _, _, _, _, rfl, g0, g1, g2, g3, g4, g5, g6, g7, g8, g9, hidD (fun _ => rfl), g13, hidD (fun _ => rfl), g19, g20, g21, g22, g23, g24, g25, g26, g27, g28, g29, hq⟩
          · obtain rfl := g18.out (hds 18 (by simp))
            clear hds
            refine wpOp_yes rfl rfl (fun K0 hK0 => ?_)
            go_simp
            exact hK0 _ _ ⟨_, _, _, _, _, _, _, _, _, _, _, _, _, _, _, _, _, _, _, _, _, _, _, _, _, _, _, _, _, _, rfl, g0, g1, g2, g3, g4, g5, g6, g7, g8, g9, g10, g13, hidD (fun _ => rfl), hidD (fun _ => rfl), g20, g21, g22, g23, g24, g25, g26, g27, g28, g29, hq⟩
          · obtain rfl := g19.out (hds 19 (by simp))
            clear hds
            have k0 := (n9.below hq).c0
            have k1 := (n9.below hq).c1
            refine wpOp_yes rfl rfl (fun K0 hK0 => ?_)
            go_simp
            exact hK0 _ _ ⟨_, _, _, _, _, _, _, _, _, _, _, _, _, _, _, _, _, _, _, _, _, _, _, _, _, _, _, _, _, _, rfl, g0, g1, g2, g3, g4, g5, g6, g7, g8, g9, g10, g13, g18, hidD (fun _ => rfl), hidD (fun _ => rfl), g21, g22, g23, g24, g25, g26, g27, g28, g29, hq⟩
          · obtain rfl := g19.out (hds 19 (by simp))
            obtain rfl := g20.out (hds 20 (by simp))
            clear hds
            refine wpOp_yes rfl rfl (fun K0 hK0 => ?_)
            go_simp
            go_wp2_with (go_at_call 8; refine (TI9.out _ hq).mono ?_; rintro e w8 ⟨rfl, hb8⟩)
            exact ⟨_, _, _, _, _, _, _, _, _, _, _, _, _, _, _, _, _, _, _, _, _, _, _, _, _, _, _, _, _, _, rfl, g0, g1, g2, g3, g4, g5, hidD (fun h => (g6.out h).below hb8), g7, g8, g9, g10, g13, g18, hidD (fun _ => rfl), hidD (fun _ => rfl), hidD (fun _ => rfl), g22, g23, g24, g25, g26, g27, g28, g29, Below.then hq hb8⟩
          · obtain rfl := g19.out (hds 19 (by simp))
            clear hds
            have k0 := (n7.below hq).c0
            have k1 := (n7.below hq).c1
            refine wpOp_yes rfl rfl (fun K0 hK0 => ?_)
            go_simp
            exact hK0 _ _ ⟨_, _, _, _, _, _, _, _, _, _, _, _, _, _, _, _, _, _, _, _, _, _, _, _, _, _, _, _, _, _, rfl, g0, g1, g2, g3, g4, g5, g6, g7, g8, g9, g10, g13, g18, hidD (fun _ => rfl), g20, g21, hidD (fun _ => rfl), g23, g24, g25, g26, g27, g28, g29, hq⟩
          · obtain rfl := g19.out (hds 19 (by simp))
            obtain rfl := g21.out (hds 21 (by simp))
            obtain rfl := g22.out (hds 22 (by simp))
            clear hds
            refine wpOp_yes rfl rfl (fun K0 hK0 => ?_)
            go_simp
            go_wp2_with (go_at_call 9; refine (TR7.out _ hq).mono ?_; rintro e w8 ⟨rfl, hb8⟩)
            exact ⟨_, _, _, _, _, _, _, _, _, _, _, _, _, _, _, _, _, _, _, _, _, _, _, _, _, _, _, _, _, _, rfl, g0, g1, g2, g3, g4, g5, hidD (fun h => (g6.out h).below hb8), g7, g8, g9, g10, g13, g18, hidD (fun _ => rfl), g20, hidD (fun _ => rfl), hidD (fun _ => rfl), hidD (fun _ => rfl), g24, g25, g26, g27, g28, g29, Below.then hq hb8⟩
          · obtain rfl := g19.out (hds 19 (by simp))
            obtain rfl := g21.out (hds 21 (by simp))
            obtain rfl := g23.out (hds 23 (by simp))
            clear hds
            refine wpOp_yes rfl rfl (fun K0 hK0 => ?_)
            go_simp
            exact hK0 _ _ ⟨_, _, _, _, _, _, _, _, _, _, _, _, _, _, _, _, _, _, _, _, _, _, _, _, _, _, _, _, _, _, rfl, g0, g1, g2, g3, g4, g5, g6, g7, g8, g9, g10, g13, g18, hidD (fun _ => rfl), g20, hidD (fun _ => rfl), g22, hidD (fun _ => rfl), hidD (fun _ => rfl), g25, g26, g27, g28, g29, hq⟩
          · obtain rfl := g19.out (hds 19 (by simp))
            obtain rfl := g24.out (hds 24 (by simp))
            clear hds
            refine wpOp_yes rfl rfl (fun K0 hK0 => ?_)
            go_simp
            exact hK0 _ _ ⟨_, _, _, _, _, _, _, _, _, _, _, _, _, _, _, _, _, _, _, _, _, _, _, _, _, _, _, _, _, _, rfl, g0, g1, g2, g3, g4, g5, g6, g7, g8, g9, g10, g13, g18, hidD (fun _ => rfl), g20, g21, g22, g23, hidD (fun _ => rfl), hidD (fun _ => rfl), g26, g27, g28, g29, hq⟩
          · obtain rfl := g23.out (hds 23 (by simp))
            obtain rfl := g25.out (hds 25 (by simp))
            clear hds
            refine wpOp_yes rfl rfl (fun K0 hK0 => ?_)
            go_simp
            exact hK0 _ _ ⟨_, _, _, _, _, _, _, _, _, _, _, _, _, _, _, _, _, _, _, _, _, _, _, _, _, _, _, _, _, _, rfl, g0, g1, g2, g3, g4, g5, g6, g7, g8, g9, g10, g13, g18, g19, g20, g21, g22, hidD (fun _ => rfl), g24, hidD (fun _ => rfl), hidD (fun _ => rfl), g27, g28, g29, hq⟩
          · obtain rfl := g26.out (hds 26 (by simp))
            clear hds
            refine wpOp_yes rfl rfl (fun K0 hK0 => ?_)
            go_simp
            go_wp2_with (go_at_call 12; refine (AL.out _ hq).mono ?_; rintro e w8 ⟨rfl, hb8⟩)
            exact ⟨_, _, _, _, _, _, _, _, _, _, _, _, _, _, _, _, _, _, _, _, _, _, _, _, _, _, _, _, _, _, rfl, g0, g1, g2, g3, g4, g5, hidD (fun h => (g6.out h).below hb8), g7, g8, g9, g10, g13, g18, g19, g20, g21, g22, g23, g24, g25, hidD (fun _ => rfl), hidD (fun _ => rfl), g28, g29, Below.then hq hb8⟩
          · obtain rfl := g26.out (hds 26 (by simp))
            obtain rfl := g27.out (hds 27 (by simp))
            clear hds
            refine wpOp_yes rfl rfl (fun K0 hK0 => ?_)
            go_simp
            exact hK0 _ _ ⟨_, _, _, _, _, _, _, _, _, _, _, _, _, _, _, _, _, _, _, _, _, _, _, _, _, _, _, _, _, _, rfl, g0, g1, g2, g3, g4, g5, g6, g7, g8, g9, g10, g13, g18, g19, g20, g21, g22, g23, g24, g25, hidD (fun _ => rfl), hidD (fun _ => rfl), hidD (fun _ => rfl), g29, hq⟩
          · obtain rfl := g28.out (hds 28 (by simp))
            clear hds
            refine wpOp_yes rfl rfl (fun K0 hK0 => ?_)
            go_simp
            exact hK0 _ _ ⟨_, _, _, _, _, _, _, _, _, _, _, _, _, _, _, _, _, _, _, _, _, _, _, _, _, _, _, _, _, _, rfl, g0, g1, g2, g3, g4, g5, g6, g7, g8, g9, g10, g13, g18, g19, g20, g21, g22, g23, g24, g25, g26, g27, hidD (fun _ => rfl), hidD (fun _ => rfl), hq⟩
        rintro D a wz hDD ⟨t6, t54, t55, t56, t57, t58, t59, t60, t61, t62, t63, t64, t65, t66, t67, t68, t69, t70, t71, t72, t73, t74, t75, t76, t77, t78, t79, t80, t81, t82, rfl, g0, g1, g2, g3, g4, g5, g6, g7, g8, g9, g10, g13, g18, g19, g20, g21, g22, g23, g24, g25, g26, g27, g28, g29, hq⟩
        obtain rfl := g29.out (hDD 29 (by decide))
        have hBz := hB.trans (hq.mono hB.size)
        clear g0 g1 g2 g3 g4 g5 g6 g7 g8 g9 g10 g13 g18 g19 g20 g21 g22 g23 g24 g25 g26 g27 g28 g29 hDD
        go_wp2
        go_ret
        exact ⟨rfl, hBz⟩

end Go.Proofs.YtjmmnpfedhkjbaaDoor
namespace Go.Proofs.YtjmmnpfedhkjbaaDoor
open Go.RowKit Go.Shelf

attribute [local go_sem] Oper.semAt_some

set_option maxRecDepth 100000 in
set_option maxHeartbeats 4000000 in
theorem wholeProducts_c0 (s r : ByteArray) (hs : s.size ≤ 140737488351232) (hr : r.size ≤ 140737488351232) (n : Int) (hn0 : 200 < n) (w : World) (htab : Lib.TabIs Tryd.prog w "internal/strconv.uint64pow10" .u64 Lib.pow10Tab) :
    Calls Tryd.prog 5 #[.string s, .string r, .int .i64 n] w fun e w' => e = .returned (.bool true) ∧ Below w.heap.size w w' := by
  have HT := hidD htab
  have HN := hidD hn0
  clear hn0
  have hmx : Tryd.prog.follows .mixedOrders = true := by kernel_rfl
  clear htab
  have hB : Below w.heap.size w w := Below.refl _ w
  go_enter Tryd.func5, Tryd.ntmps5
  go_upto_region 2 with (go_at_call 13; refine (lread_c s hs _).mono ?_; rintro e w7 ⟨u, x, rfl, hu, hx, hb⟩; obtain ⟨a7, l7, c7, rfl⟩ := hu.form; obtain ⟨s7, hsg⟩ : ∃ b, decide (x < 0) = b := ⟨_, rfl⟩; rw [hsg] at hu; rw [hsg]; clear hsg)
  obtain ⟨V7, hV⟩ : ∃ V, w7.alloc (.cells #[.slice a7 l7 c7, .bool s7] 30) = V := ⟨_, rfl⟩
  have lift : Below w.heap.size w V7 := by rw [← hV]; exact hb.alloc hb.size _
  have n7 : Box2 V7 w7.heap.size 30 (.slice a7 l7 c7) (.bool s7) := by rw [← hV]; exact Box2.new _ _ _ _
  have i7 : IsBig V7 (.agg #[.slice a7 l7 c7, .bool s7]) (x) := by rw [← hV]; exact hu.alloc _
  obtain ⟨B7, hBk⟩ : ∃ B, B = w7.heap.size := ⟨_, rfl⟩
  rw [hV]
  rw [← hBk] at n7 ⊢
  replace hB := hB.trans (lift.mono hB.size)
  clear hV hBk hb hu lift
  replace k7a := n7.c0
  replace k7b := n7.c1
  go_upto_region 3 with (go_at_call 13; refine (lread_c r hr _).mono ?_; rintro e w8 ⟨u, y, rfl, hu, hy, hb⟩; obtain ⟨a8, l8, c8, rfl⟩ := hu.form; obtain ⟨s8, hsg⟩ : ∃ b, decide (y < 0) = b := ⟨_, rfl⟩; rw [hsg] at hu; rw [hsg]; clear hsg)
  obtain ⟨V8, hV⟩ : ∃ V, w8.alloc (.cells #[.slice a8 l8 c8, .bool s8] 30) = V := ⟨_, rfl⟩
  have lift : Below V7.heap.size V7 V8 := by rw [← hV]; exact hb.alloc hb.size _
  have n8 : Box2 V8 w8.heap.size 30 (.slice a8 l8 c8) (.bool s8) := by rw [← hV]; exact Box2.new _ _ _ _
  have i8 : IsBig V8 (.agg #[.slice a8 l8 c8, .bool s8]) (y) := by rw [← hV]; exact hu.alloc _
  obtain ⟨B8, hBk⟩ : ∃ B, B = w8.heap.size := ⟨_, rfl⟩
  rw [hV]
  rw [← hBk] at n8 ⊢
  replace hB := hB.trans (lift.mono hB.size)
  replace n7 := n7.below lift
  replace i7 := i7.below lift
  clear hV hBk hb hu lift
  replace k7a := n7.c0
  replace k7b := n7.c1
  replace k8a := n8.c0
  replace k8b := n8.c1
  go_upto_region 4 with (go_at_call 14; refine (given_c _ x _ i7 hx).mono ?_; rintro e w9 ⟨u, rfl, hu, hb⟩; obtain ⟨a9, l9, c9, rfl⟩ := hu.form; obtain ⟨s9, hsg⟩ : ∃ b, decide (x < 0) = b := ⟨_, rfl⟩; rw [hsg] at hu; rw [hsg]; clear hsg)
  obtain ⟨V9, hV⟩ : ∃ V, w9.alloc (.cells #[.bool s9, .slice a9 l9 c9] 25) = V := ⟨_, rfl⟩
  have lift : Below V8.heap.size V8 V9 := by rw [← hV]; exact hb.alloc hb.size _
  have n9 : Box2 V9 w9.heap.size 25 (.bool s9) (.slice a9 l9 c9) := by rw [← hV]; exact Box2.new _ _ _ _
  have i9 : IsInt V9 (.agg #[.bool s9, .slice a9 l9 c9]) (x) := by rw [← hV]; exact hu.alloc _
  obtain ⟨B9, hBk⟩ : ∃ B, B = w9.heap.size := ⟨_, rfl⟩
  rw [hV]
  rw [← hBk] at n9 ⊢
  replace hB := hB.trans (lift.mono hB.size)
  replace n7 := n7.below lift
  replace i7 := i7.below lift
  replace n8 := n8.below lift
  replace i8 := i8.below lift
  clear hV hBk hb hu lift
  replace k7a := n7.c0
  replace k7b := n7.c1
  replace k8a := n8.c0
  replace k8b := n8.c1
  replace k9a := n9.c0
  replace k9b := n9.c1
  have HGV := hidD (fun (V : World) (h : Below V9.heap.size V9 V) => given_c _ y V (i8.below h) hy)
  have HTM := hidD (fun (V : World) (u : Value) (h : Below V9.heap.size V9 V) (hu : IsInt V u y) => itimes_c _ u x y V (i9.below h) hu (by have := hx.words2; have := hy.words2; omega))
  refine wp_region_tab hmx [[], [], [1], [0, 2, 2], [], [4, 3, 3, 0, 1, 2, 3, 4]] (by kernel_rfl) (by decide)
    (fun D a V => ∃ t10 t20 t21 t22 t23 : Value, a = { tmps := #[.string s, .string r, .int .i64 n, undef, undef, undef, .bool false, .pointer (some ⟨B7, 0, none⟩), .pointer (some ⟨B8, 0, none⟩), .pointer (some ⟨B9, 0, none⟩), t10, undef, undef, undef, .string s, .agg #[.slice a7 l7 c7, .bool s7], .string r, .agg #[.slice a8 l8 c8, .bool s8], .agg #[.slice a7 l7 c7, .bool s7], .agg #[.bool s9, .slice a9 l9 c9], t20, t21, t22, t23, undef, undef, undef, undef, undef, undef, undef, undef, undef, undef, undef, undef, undef, undef, undef, undef, undef, undef, undef, undef, undef, undef, undef, undef, undef, undef, undef, undef, undef, undef, undef, undef, undef, undef, undef, undef, undef, undef, undef, undef, undef, undef, undef, undef, undef, undef, undef, undef, undef, undef, undef, undef, undef, undef, undef, undef, undef, undef, undef], defers := [] } ∧
      Hid (D 0 = true → t20 = .agg #[.bool s9, .slice a9 l9 c9]) ∧ Hid (D 1 = true → t21 = .agg #[.slice a8 l8 c8, .bool s8]) ∧ Hid (D 2 = true → IsInt V t22 y) ∧ Hid (D 3 = true → IsInt V t23 (x * y)) ∧
      Hid (D 4 = true → D 5 = false → ∃ B, t10 = .pointer (some ⟨B, 0, none⟩) ∧ Box2 V B 25 (.bool false) (.slice none 0 0) ∧ V9.heap.size ≤ B) ∧
      Hid (D 5 = true → ∃ B s3 a3 l3 c3, t10 = .pointer (some ⟨B, 0, none⟩) ∧ t23 = .agg #[.bool s3, .slice a3 l3 c3] ∧ Box2 V B 25 (.bool s3) (.slice a3 l3 c3) ∧ V9.heap.size ≤ B) ∧ Below V9.heap.size V9 V)
    ⟨_, _, _, _, _, rfl, hidD (fun h => by cases h), hidD (fun h => by cases h), hidD (fun h => by cases h), hidD (fun h => by cases h), hidD (fun h => by cases h), hidD (fun h => by cases h), (Below.refl _ V9).drew⟩ ?step ?fin
  case step =>
    rintro D a V i ds hcl2 hi2 hds hDi ⟨t10, t20, t21, t22, t23, rfl, g0, g1, g2, g3, g4, g5, hq⟩
    have hi6 : i < 6 := (List.getElem?_eq_some_iff.1 hi2).1
    obtain rfl | rfl | rfl | rfl | rfl | rfl : i = 0 ∨ i = 1 ∨ i = 2 ∨ i = 3 ∨ i = 4 ∨ i = 5 := by omega
    all_goals
      simp only [List.getElem?_cons_zero, List.getElem?_cons_succ, Option.some.injEq] at hi2
      subst hi2
      clear hi6
    · have k0 := (n9.below hq).c0
      have k1 := (n9.below hq).c1
      clear hds hcl2
      refine wpOp_go rfl rfl (fun K hK => ?_)
      go_simp
      exact hK _ _ ⟨_, _, _, _, _, rfl, hidD (fun _ => rfl), g1, g2, g3, g4, g5, hq⟩
    · have k0 := (n8.below hq).c0
      have k1 := (n8.below hq).c1
      clear hds hcl2
      refine wpOp_go rfl rfl (fun K hK => ?_)
      go_simp
      exact hK _ _ ⟨_, _, _, _, _, rfl, g0, hidD (fun _ => rfl), g2, g3, g4, g5, hq⟩
    · have hf5 : D 5 = false := by
        cases h : D 5 with
        | false => rfl
        | true => rw [hcl2 5 _ rfl h 2 (by simp)] at hDi; cases hDi
      have hf3 : D 3 = false := by
        cases h : D 3 with
        | false => rfl
        | true => rw [hcl2 3 _ rfl h 2 (by simp)] at hDi; cases hDi
      obtain rfl := g1.out (hds 1 (by simp))
      clear hds hcl2
      refine wpOp_go rfl rfl (fun K hK => ?_)
      go_simp
      go_wp2_with (go_at_call 14; refine (HGV.out _ hq).mono ?_; rintro e w5 ⟨v5, rfl, hv5, hb5⟩)
      exact ⟨_, _, _, _, _, rfl, g0, hidD (fun _ => rfl), hidD (fun _ => hv5), hidD (fun h => by simp [hf3] at h), hidD (fun h h' => by
        obtain ⟨B, e, q, q2⟩ := g4.out h h'
        exact ⟨B, e, q.below hb5, q2⟩), hidD (fun h => by simp [hf5] at h), Below.then hq hb5⟩
    · have hf5 : D 5 = false := by
        cases h : D 5 with
        | false => rfl
        | true => rw [hcl2 5 _ rfl h 3 (by simp)] at hDi; cases hDi
      obtain rfl := g0.out (hds 0 (by simp))
      have h2 := g2.out (hds 2 (by simp))
      clear hds hcl2
      refine wpOp_go rfl rfl (fun K hK => ?_)
      go_simp
      go_wp2_with (go_at_call 21; refine (HTM.out _ _ hq h2).mono ?_; rintro e w5 ⟨v5, rfl, hv5, hb5⟩)
      exact ⟨_, _, _, _, _, rfl, hidD (fun _ => rfl), g1, hidD (fun _ => h2.below hb5), hidD (fun _ => hv5), hidD (fun h h' => by
        obtain ⟨B, e, q, q2⟩ := g4.out h h'
        exact ⟨B, e, q.below hb5, q2⟩), hidD (fun h => by simp [hf5] at h), Below.then hq hb5⟩
    · have hf5 : D 5 = false := by
        cases h : D 5 with
        | false => rfl
        | true => rw [hcl2 5 _ rfl h 4 (by simp)] at hDi; cases hDi
      clear hds hcl2
      refine wpOp_go rfl rfl (fun K hK => ?_)
      go_simp
      exact hK _ _ ⟨_, _, _, _, _, rfl, g0, g1, hidD (fun h => (g2.out h).alloc _), hidD (fun h => (g3.out h).alloc _), hidD (fun _ _ => ⟨_, rfl, Box2.new _ _ _ _, hq.size⟩), hidD (fun h => by simp [hf5] at h), hq.alloc hq.size _⟩
    · obtain ⟨B, rfl, hbB, hwB⟩ := g4.out (hds 4 (by simp)) hDi
      have h3 := g3.out (hds 3 (by simp))
      obtain ⟨a3, l3, c3, rfl⟩ := h3.form
      have k0 := hbB.c0
      have k1 := hbB.c1
      have f0 := hbB.f0
      have f1 := hbB.f1
      clear g4 g5 hds hcl2
      refine wpOp_go rfl rfl (fun K hK => ?_)
      go_simp
      exact hK _ _ ⟨_, _, _, _, _, rfl, g0, g1, hidD (fun h => (g2.out h).box hbB rfl rfl), hidD (fun _ => h3.box hbB rfl rfl), hidD (fun _ h => by simp at h), hidD (fun _ => ⟨B, _, a3, l3, c3, rfl, rfl, (hbB.set0 _).set1 _, hwB⟩), (hq.setCell (p := ⟨B, 0, none⟩) hwB _).setCell (p := ⟨B, 1, none⟩) hwB _⟩
  clear HGV HTM
  rintro D a V10 hDD ⟨t10, t20, t21, t22, t23, rfl, g0, g1, g2, g3, g4, g5, hq⟩
  obtain ⟨B10, s10, a10, l10, c10, rfl, rfl, n10, _⟩ := g5.out (hDD 5 (by decide))
  have i10 := g3.out (hDD 3 (by decide))
  obtain rfl := g0.out (hDD 0 (by decide))
  obtain rfl := g1.out (hDD 1 (by decide))
  clear g0 g1 g2 g3 g4 g5 hDD k7a k7b k8a k8b k9a k9b
  replace n7 := n7.below hq
  replace i7 := i7.below hq
  replace n8 := n8.below hq
  replace i8 := i8.below hq
  replace n9 := n9.below hq
  replace i9 := i9.below hq
  replace hB := hB.trans (hq.mono hB.size)
  clear hq
  obtain ⟨S1, hS1⟩ : ∃ S : ByteArray, (⟨(decZ (x * y)).toArray⟩ : ByteArray) = S := ⟨_, rfl⟩
  have TI10 := hidD (fun (V : World) (h : Below V10.heap.size V10 V) => show Calls Tryd.prog 8 #[.agg #[.bool s10, .slice a10 l10 c10]] V fun e w' => e = .returned (.string S1) ∧ Below V.heap.size V w' by
    have h1 := itext_c _ _ V (i10.below h) (tab_below HT.out (hB.trans (h.mono hB.size)))
    rw [hS1] at h1
    exact h1)
  have TMR := hidD (fun (V : World) (h : Below V10.heap.size V10 V) => rtimes_c _ _ x y V (i7.below h) (i8.below h) hx.size hy.size)
  have TR1 := hidD (fun (V : World) (v : Value) (h : IsBig V v (x * y)) => show Calls Tryd.prog 9 #[v] V fun e w' => e = .returned (.string S1) ∧ Below V.heap.size V w' by
    have h1 := text_c v _ V h (sz_mul hx.sz hy.sz)
    rw [hS1] at h1
    exact h1)
  clear hS1
  go_upto_region 5 with fail
  have hq : Below V10.heap.size V10 V10.drew := (Below.refl _ V10).drew
  replace k7a := n7.c0
  replace k7b := n7.c1
  replace k8a := n8.c0
  replace k8b := n8.c1
  replace k10a := n10.c0
  replace k10b := n10.c1
  go_region_held3 (fun w' => w'.cell? ⟨B7, 0, none⟩ = some (.slice a7 l7 c7) ∧ w'.cell? ⟨B7, 1, none⟩ = some (.bool s7) ∧ w'.cell? ⟨B8, 0, none⟩ = some (.slice a8 l8 c8) ∧ w'.cell? ⟨B8, 1, none⟩ = some (.bool s8) ∧ w'.cell? ⟨B10, 0, none⟩ = some (.bool s10) ∧ w'.cell? ⟨B10, 1, none⟩ = some (.slice a10 l10 c10)) (first | (exact ⟨k7a, k7b, k8a, k8b, k10a, k10b⟩) | (refine ⟨?_, ?_, ?_, ?_, ?_, ?_⟩ <;> (go_keep; done)))
    (first
      | (go_at_call 8; refine (TI10.out _ hq).mono ?_; rintro e w8 ⟨rfl, hb8⟩; clear k7a k7b k8a k8b k10a k10b; replace hq := Below.then hq hb8; have k7a := (n7.below hq).c0; have k7b := (n7.below hq).c1; have k8a := (n8.below hq).c0; have k8b := (n8.below hq).c1; have k10a := (n10.below hq).c0; have k10b := (n10.below hq).c1)
      | (go_at_call 22; refine (TMR.out _ hq).mono ?_; rintro e w8 ⟨v8, rfl, h4, hb8⟩; obtain ⟨a4, l4, c4, rfl⟩ := h4.form; obtain ⟨s4, hs4⟩ : ∃ b, decide (x * y < 0) = b := ⟨_, rfl⟩; rw [hs4] at h4; rw [hs4]; clear hs4; clear k7a k7b k8a k8b k10a k10b; replace hq := Below.then hq hb8; have k7a := (n7.below hq).c0; have k7b := (n7.below hq).c1; have k8a := (n8.below hq).c0; have k8b := (n8.below hq).c1; have k10a := (n10.below hq).c0; have k10b := (n10.below hq).c1)
      | (go_at_call 9; refine (TR1.out _ _ h4).mono ?_; rintro e w8 ⟨rfl, hb8⟩; clear k7a k7b k8a k8b k10a k10b; replace hq := Below.then hq hb8; have k7a := (n7.below hq).c0; have k7b := (n7.below hq).c1; have k8a := (n8.below hq).c0; have k8b := (n8.below hq).c1; have k10a := (n10.below hq).c0; have k10b := (n10.below hq).c1))
  replace hB := hB.trans (hq.mono hB.size)
  replace n7 := n7.below hq
  replace i7 := i7.below hq
  replace n9 := n9.below hq
  replace i9 := i9.below hq
  clear n8 n10 TI10 TMR TR1 hq k7a k7b k8a k8b k10a k10b
  replace k7a := n7.c0
  obtain ⟨W0, hW0⟩ : ∃ W0, w8 = W0 := ⟨_, rfl⟩
  subst hW0
  have hl7 : l7 = szB x := by
    obtain ⟨a', l', c', e, hr⟩ := i7
    cases e
    exact (row_fn hr).1
  have HL7 := hidD hl7
  clear hl7
  obtain ⟨q, hqe⟩ : ∃ q : Bool, (decide ((5 : Int) < (l7 : Int)) && decide (9 < n)) = q := ⟨_, rfl⟩
  have HQE := hidD hqe
  clear hqe
  go_upto_region 8 with fail
  go_cut [39] (fun v w1 => v = .bool q ∧ w1 = w8)
  case first =>
    by_cases h5 : 5 < l7
    · have e5 : q = decide (9 < n) := by rw [← HQE.out]; simp; omega
      go_wp2_with fail
      go_meet
      case rel => exact ⟨by rw [e5], rfl⟩
    · have e5 : q = false := by rw [← HQE.out]; simp; omega
      go_wp2_with fail
      go_meet
      case rel => exact ⟨by rw [e5], rfl⟩
  case rest =>
    obtain ⟨rfl, rfl⟩ := hcut
    go_upto_if 39 with fail
    go_cut [11] (fun kv w1 => ∃ K : Int, kv = .int .i64 K ∧ (5 < l7 → K ≤ 9) ∧ Hid (K = n ∨ K = 9 ∧ 9 < n) ∧ w1 = wc)
    case first =>
      cases q
      · go_wp2_with fail
        go_meet
        case rel => exact ⟨n, rfl, fun h => by have h1 := HQE.out; simp at h1; omega, hidD (Or.inl rfl), rfl⟩
      · go_wp2_with fail
        go_meet
        case rel => exact ⟨9, rfl, fun _ => by omega, hidD (Or.inr ⟨rfl, by have h1 := HQE.out; simp at h1; omega⟩), rfl⟩
    case rest =>
      obtain ⟨K, rfl, hK, hKn, rfl⟩ := hcut
      replace k9a := n9.c0
      replace k9b := n9.c1
      have hKz : 0 ≤ K := by have h1 := HN.out; have h2 := hKn.out; omega
      clear hKn
      by_cases hok : 0 ≤ K ∧ K ≤ 200
      · obtain ⟨k, rfl⟩ : ∃ k : Nat, K = k := ⟨K.toNat, by omega⟩
        clear hKz
        have hk2 : k ≤ 200 := by omega
        have hbnd : szB x * k ≤ 100000 := by
          have h1 := hx.sz
          by_cases h5 : 5 < l7
          · have h9 := hK h5
            have := Nat.mul_le_mul h1 (show k ≤ 9 by omega)
            omega
          · have hl := HL7.out
            have := Nat.mul_le_mul (show szB x ≤ 5 by omega) hk2
            omega
        have HPW := hidD (ipower_ok _ x k _ i9 hk2 (by
          have h1 := Nat.mul_le_mul hx.words2 hk2
          omega))
        have HBN := hidD hbnd
        have n1 : ¬ ((k : Int) < 0) := by omega
        have n2 : (k : Int) ≤ 200 := by omega
        have n3 : (0 : Int) ≤ (k : Int) := by omega
        clear hok hbnd hK
        go_upto_region 11 with (go_at_call 23; refine HPW.out.mono ?_; rintro e w12 ⟨u, rfl, hu, hb⟩; obtain ⟨a12, l12, c12, rfl⟩ := hu.form; obtain ⟨s12, hsg⟩ : ∃ b, decide (x ^ k < 0) = b := ⟨_, rfl⟩; rw [hsg] at hu; rw [hsg]; clear hsg)
        go_upto_region 13 with fail
        obtain ⟨W12, hW⟩ : ∃ W, w12.alloc (.cells #[.bool s12, .slice a12 l12 c12] 25) = W := ⟨_, rfl⟩
        have lift : Below wc.heap.size wc W12 := by rw [← hW]; exact hb.alloc hb.size _
        have n12 : Box2 W12 w12.heap.size 25 (.bool s12) (.slice a12 l12 c12) := by rw [← hW]; exact Box2.new _ _ _ _
        have i12 : IsInt W12 (.agg #[.bool s12, .slice a12 l12 c12]) (x ^ k) := by rw [← hW]; exact hu.alloc _
        obtain ⟨B12, hBk⟩ : ∃ B, B = w12.heap.size := ⟨_, rfl⟩
        rw [hW]
        rw [← hBk] at n12 ⊢
        replace hB := hB.trans (lift.mono hB.size)
        replace n7 := n7.below lift
        replace i7 := i7.below lift
        replace n9 := n9.below lift
        replace i9 := i9.below lift
        clear hW hBk hb lift k7a k9a k9b hu
        obtain ⟨Sx, hSx⟩ : ∃ S : ByteArray, (⟨(decZ x).toArray⟩ : ByteArray) = S := ⟨_, rfl⟩
        obtain ⟨Sp, hSp⟩ : ∃ S : ByteArray, (⟨(decZ (x ^ k)).toArray⟩ : ByteArray) = S := ⟨_, rfl⟩
        have TI9 := hidD (fun (V : World) (h : Below W12.heap.size W12 V) => show Calls Tryd.prog 8 #[.agg #[.bool s9, .slice a9 l9 c9]] V fun e w' => e = .returned (.string Sx) ∧ Below V.heap.size V w' by
          have h1 := itext_c _ _ V (i9.below h) (tab_below HT.out (hB.trans (h.mono hB.size)))
          rw [hSx] at h1
          exact h1)
        have TI12 := hidD (fun (V : World) (h : Below W12.heap.size W12 V) => show Calls Tryd.prog 8 #[.agg #[.bool s12, .slice a12 l12 c12]] V fun e w' => e = .returned (.string Sp) ∧ Below V.heap.size V w' by
          have h1 := itext_c _ _ V (i12.below h) (tab_below HT.out (hB.trans (h.mono hB.size)))
          rw [hSp] at h1
          exact h1)
        have RPW := hidD (fun (V : World) (h : Below W12.heap.size W12 V) => rpower_c _ x k V (i7.below h) hk2 (by have := HBN.out; omega) (by have := hx.sz; omega))
        have TRP := hidD (fun (V : World) (v : Value) (h : IsBig V v (x ^ k)) => show Calls Tryd.prog 9 #[v] V fun e w' => e = .returned (.string Sp) ∧ Below V.heap.size V w' by
          have h1 := text_c v _ V h (by have h2 := szB_pow_le x k; have h3 := HBN.out; omega)
          rw [hSp] at h1
          exact h1)
        have TR7 := hidD (fun (V : World) (h : Below W12.heap.size W12 V) => show Calls Tryd.prog 9 #[.agg #[.slice a7 l7 c7, .bool s7]] V fun e w' => e = .returned (.string Sx) ∧ Below V.heap.size V w' by
          have h1 := text_c _ x V (i7.below h) hx.size
          rw [hSx] at h1
          exact h1)
        have AL := hidD (fun (V : World) (h : Below W12.heap.size W12 V) => alive_c V (tab_below HT.out (hB.trans (h.mono hB.size))))
        clear hSx i7 i9 hSp i12
        refine wp_region_tab hmx [[], [0], [1], [2, 1, 1], [1], [1], [4, 5, 3, 1], [6, 6, 1], [3, 7, 1], [1, 8], [9, 7], [10], [11, 10], [12, 10, 10], [13], [14, 13, 13], [15, 13], [13, 16, 10], [10, 17], [18, 15], [19], [20, 19, 19], [19], [22, 21, 19], [21, 23, 19], [19, 24], [25, 23], [26, 26], [26, 27], [28, 27, 0, 1, 2, 3, 4, 5, 6, 7, 8, 9, 10, 11, 12, 13, 14, 15, 16, 17, 18, 19, 20, 21, 22, 23, 24, 25, 26, 27, 28]] (by kernel_rfl) (by decide)
          (fun D a V => ∃ t6 t54 t55 t56 t57 t58 t59 t60 t61 t62 t63 t64 t65 t66 t67 t68 t69 t70 t71 t72 t73 t74 t75 t76 t77 t78 t79 t80 t81 t82 : Value, a = { tmps := #[.string s, .string r, .int .i64 n, undef, undef, undef, t6, .pointer (some ⟨B7, 0, none⟩), .pointer (some ⟨B8, 0, none⟩), .pointer (some ⟨B9, 0, none⟩), .pointer (some ⟨B10, 0, none⟩), .int .i64 (k : Nat), .pointer (some ⟨B12, 0, none⟩), .bool true, u14, u15, u16, u17, u18, u19, u20, u21, u22, u23, u24, u25, u26, u27, u28, u29, u30, u31, u32, u33, u34, u35, u36, u37, u38, u39, .tuple #[.agg #[.bool s12, .slice a12 l12 c12], .bool true], .agg #[.bool s9, .slice a9 l9 c9], .int .i64 (k : Nat), .tuple #[.agg #[.bool s12, .slice a12 l12 c12], .bool true], .agg #[.bool s12, .slice a12 l12 c12], .bool true, .bool true, .int .i64 (k : Nat), .bool true, .bool true, .int .i64 (k : Nat), .bool true, .bool true, .bool false, t54, t55, t56, t57, t58, t59, t60, t61, t62, t63, t64, t65, t66, t67, t68, t69, t70, t71, t72, t73, t74, t75, t76, t77, t78, t79, t80, t81, t82], defers := [] } ∧
                    Hid (D 0 = true → t54 = .bool true) ∧ Hid (D 1 = true → t55 = .bool true) ∧ Hid (D 2 = true → t56 = .agg #[.bool s12, .slice a12 l12 c12]) ∧ Hid (D 3 = true → t57 = .string Sp) ∧ Hid (D 4 = true → t58 = .agg #[.slice a7 l7 c7, .bool s7]) ∧ Hid (D 5 = true → t59 = .int .i64 (k : Nat)) ∧ Hid (D 6 = true → IsBig V t60 (x ^ k)) ∧ Hid (D 7 = true → t61 = .string Sp) ∧ Hid (D 8 = true → t62 = .bool true) ∧ Hid (D 9 = true → t63 = .bool true) ∧ Hid (D 10 = true → t64 = .bool true) ∧ Hid (D 13 = true → t67 = undef) ∧ Hid (D 18 = true → t72 = .bool true) ∧ Hid (D 19 = true → t73 = .bool true) ∧ Hid (D 20 = true → t74 = .agg #[.bool s9, .slice a9 l9 c9]) ∧ Hid (D 21 = true → t75 = .string Sx) ∧ Hid (D 22 = true → t76 = .agg #[.slice a7 l7 c7, .bool s7]) ∧ Hid (D 23 = true → t77 = .string Sx) ∧ Hid (D 24 = true → t78 = .bool true) ∧ Hid (D 25 = true → t79 = .bool true) ∧ Hid (D 26 = true → t80 = .bool true) ∧ Hid (D 27 = true → t81 = .bool true) ∧ Hid (D 28 = true → t82 = .bool true) ∧ Hid (D 29 = true → t6 = .bool true) ∧ Below W12.heap.size W12 V)
          ⟨_, _, _, _, _, _, _, _, _, _, _, _, _, _, _, _, _, _, _, _, _, _, _, _, _, _, _, _, _, _, rfl, hidD (fun h => by cases h), hidD (fun h => by cases h), hidD (fun h => by cases h), hidD (fun h => by cases h), hidD (fun h => by cases h), hidD (fun h => by cases h), hidD (fun h => by cases h), hidD (fun h => by cases h), hidD (fun h => by cases h), hidD (fun h => by cases h), hidD (fun h => by cases h), hidD (fun h => by cases h), hidD (fun h => by cases h), hidD (fun h => by cases h), hidD (fun h => by cases h), hidD (fun h => by cases h), hidD (fun h => by cases h), hidD (fun h => by cases h), hidD (fun h => by cases h), hidD (fun h => by cases h), hidD (fun h => by cases h), hidD (fun h => by cases h), hidD (fun h => by cases h), hidD (fun h => by cases h), (Below.refl _ W12).drew⟩ ?stepA ?finA
        case stepA =>
          rintro D a V i ds hcl2 hi2 hds hDi ⟨t6, t54, t55, t56, t57, t58, t59, t60, t61, t62, t63, t64, t65, t66, t67, t68, t69, t70, t71, t72, t73, t74, t75, t76, t77, t78, t79, t80, t81, t82, rfl, g0, g1, g2, g3, g4, g5, g6, g7, g8, g9, g10, g13, g18, g19, g20, g21, g22, g23, g24, g25, g26, g27, g28, g29, hq⟩
          have hi6 : i < 30 := (List.getElem?_eq_some_iff.1 hi2).1
          clear hcl2 hDi
          obtain rfl | rfl | rfl | rfl | rfl | rfl | rfl | rfl | rfl | rfl | rfl | rfl | rfl | rfl | rfl | rfl | rfl | rfl | rfl | rfl | rfl | rfl | rfl | rfl | rfl | rfl | rfl | rfl | rfl | rfl : i = 0 ∨ i = 1 ∨ i = 2 ∨ i = 3 ∨ i = 4 ∨ i = 5 ∨ i = 6 ∨ i = 7 ∨ i = 8 ∨ i = 9 ∨ i = 10 ∨ i = 11 ∨ i = 12 ∨ i = 13 ∨ i = 14 ∨ i = 15 ∨ i = 16 ∨ i = 17 ∨ i = 18 ∨ i = 19 ∨ i = 20 ∨ i = 21 ∨ i = 22 ∨ i = 23 ∨ i = 24 ∨ i = 25 ∨ i = 26 ∨ i = 27 ∨ i = 28 ∨ i = 29 := by omega
          all_goals
            simp only [List.getElem?_cons_zero, List.getElem?_cons_succ, Option.some.injEq] at hi2
            subst hi2
            clear hi6
          · clear hds
            refine wpOp_yes rfl rfl (fun K0 hK0 => ?_)
            go_simp
            exact hK0 _ _ ⟨_, _, _, _, _, _, _, _, _, _, _, _, _, _, _, _, _, _, _, _, _, _, _, _, _, _, _, _, _, _, rfl, hidD (fun _ => rfl), g1, g2, g3, g4, g5, g6, g7, g8, g9, g10, g13, g18, g19, g20, g21, g22, g23, g24, g25, g26, g27, g28, g29, hq⟩
          · obtain rfl := g0.out (hds 0 (by simp))
            clear hds
            refine wpOp_yes rfl rfl (fun K0 hK0 => ?_)
            go_simp
            exact hK0 _ _ ⟨_, _, _, _, _, _, _, _, _, _, _, _, _, _, _, _, _, _, _, _, _, _, _, _, _, _, _, _, _, _, rfl, hidD (fun _ => rfl), hidD (fun _ => rfl), g2, g3, g4, g5, g6, g7, g8, g9, g10, g13, g18, g19, g20, g21, g22, g23, g24, g25, g26, g27, g28, g29, hq⟩
          · obtain rfl := g1.out (hds 1 (by simp))
            clear hds
            have k0 := (n12.below hq).c0
            have k1 := (n12.below hq).c1
            refine wpOp_yes rfl rfl (fun K0 hK0 => ?_)
            go_simp
            exact hK0 _ _ ⟨_, _, _, _, _, _, _, _, _, _, _, _, _, _, _, _, _, _, _, _, _, _, _, _, _, _, _, _, _, _, rfl, g0, hidD (fun _ => rfl), hidD (fun _ => rfl), g3, g4, g5, g6, g7, g8, g9, g10, g13, g18, g19, g20, g21, g22, g23, g24, g25, g26, g27, g28, g29, hq⟩
          · obtain rfl := g1.out (hds 1 (by simp))
            obtain rfl := g2.out (hds 2 (by simp))
            clear hds
            refine wpOp_yes rfl rfl (fun K0 hK0 => ?_)
            go_simp
            go_wp2_with (go_at_call 8; refine (TI12.out _ hq).mono ?_; rintro e w8 ⟨rfl, hb8⟩)
            exact ⟨_, _, _, _, _, _, _, _, _, _, _, _, _, _, _, _, _, _, _, _, _, _, _, _, _, _, _, _, _, _, rfl, g0, hidD (fun _ => rfl), hidD (fun _ => rfl), hidD (fun _ => rfl), g4, g5, hidD (fun h => (g6.out h).below hb8), g7, g8, g9, g10, g13, g18, g19, g20, g21, g22, g23, g24, g25, g26, g27, g28, g29, Below.then hq hb8⟩
          · obtain rfl := g1.out (hds 1 (by simp))
            clear hds
            have k0 := (n7.below hq).c0
            have k1 := (n7.below hq).c1
            refine wpOp_yes rfl rfl (fun K0 hK0 => ?_)
            go_simp
            exact hK0 _ _ ⟨_, _, _, _, _, _, _, _, _, _, _, _, _, _, _, _, _, _, _, _, _, _, _, _, _, _, _, _, _, _, rfl, g0, hidD (fun _ => rfl), g2, g3, hidD (fun _ => rfl), g5, g6, g7, g8, g9, g10, g13, g18, g19, g20, g21, g22, g23, g24, g25, g26, g27, g28, g29, hq⟩
          · obtain rfl := g1.out (hds 1 (by simp))
            clear hds
            refine wpOp_yes rfl rfl (fun K0 hK0 => ?_)
            go_simp
            exact hK0 _ _ ⟨_, _, _, _, _, _, _, _, _, _, _, _, _, _, _, _, _, _, _, _, _, _, _, _, _, _, _, _, _, _, rfl, g0, hidD (fun _ => rfl), g2, g3, g4, hidD (fun _ => rfl), g6, g7, g8, g9, g10, g13, g18, g19, g20, g21, g22, g23, g24, g25, g26, g27, g28, g29, hq⟩
          · obtain rfl := g1.out (hds 1 (by simp))
            obtain rfl := g3.out (hds 3 (by simp))
            obtain rfl := g4.out (hds 4 (by simp))
            obtain rfl := g5.out (hds 5 (by simp))
            clear hds
            refine wpOp_yes rfl rfl (fun K0 hK0 => ?_)
            go_simp
            go_wp2_with (go_at_call 24; refine (RPW.out _ hq).mono ?_; rintro e w8 ⟨v8, rfl, hv8, hb8⟩)
            exact ⟨_, _, _, _, _, _, _, _, _, _, _, _, _, _, _, _, _, _, _, _, _, _, _, _, _, _, _, _, _, _, rfl, g0, hidD (fun _ => rfl), g2, hidD (fun _ => rfl), hidD (fun _ => rfl), hidD (fun _ => rfl), hidD (fun _ => hv8), g7, g8, g9, g10, g13, g18, g19, g20, g21, g22, g23, g24, g25, g26, g27, g28, g29, Below.then hq hb8⟩
          · obtain rfl := g1.out (hds 1 (by simp))
            have h6 := g6.out (hds 6 (by simp))
            clear hds
            refine wpOp_yes rfl rfl (fun K0 hK0 => ?_)
            go_simp
            go_wp2_with (go_at_call 9; refine (TRP.out _ _ h6).mono ?_; rintro e w8 ⟨rfl, hb8⟩)
            exact ⟨_, _, _, _, _, _, _, _, _, _, _, _, _, _, _, _, _, _, _, _, _, _, _, _, _, _, _, _, _, _, rfl, g0, hidD (fun _ => rfl), g2, g3, g4, g5, hidD (fun h => (g6.out h).below hb8), hidD (fun _ => rfl), g8, g9, g10, g13, g18, g19, g20, g21, g22, g23, g24, g25, g26, g27, g28, g29, Below.then hq hb8⟩
          · obtain rfl := g1.out (hds 1 (by simp))
            obtain rfl := g3.out (hds 3 (by simp))
            obtain rfl := g7.out (hds 7 (by simp))
            clear hds
            refine wpOp_yes rfl rfl (fun K0 hK0 => ?_)
            go_simp
            exact hK0 _ _ ⟨_, _, _, _, _, _, _, _, _, _, _, _, _, _, _, _, _, _, _, _, _, _, _, _, _, _, _, _, _, _, rfl, g0, hidD (fun _ => rfl), g2, hidD (fun _ => rfl), g4, g5, g6, hidD (fun _ => rfl), hidD (fun _ => rfl), g9, g10, g13, g18, g19, g20, g21, g22, g23, g24, g25, g26, g27, g28, g29, hq⟩
          · obtain rfl := g1.out (hds 1 (by simp))
            obtain rfl := g8.out (hds 8 (by simp))
            clear hds
            refine wpOp_yes rfl rfl (fun K0 hK0 => ?_)
            go_simp
            exact hK0 _ _ ⟨_, _, _, _, _, _, _, _, _, _, _, _, _, _, _, _, _, _, _, _, _, _, _, _, _, _, _, _, _, _, rfl, g0, hidD (fun _ => rfl), g2, g3, g4, g5, g6, g7, hidD (fun _ => rfl), hidD (fun _ => rfl), g10, g13, g18, g19, g20, g21, g22, g23, g24, g25, g26, g27, g28, g29, hq⟩
          · obtain rfl := g7.out (hds 7 (by simp))
            obtain rfl := g9.out (hds 9 (by simp))
            clear hds
            refine wpOp_yes rfl rfl (fun K0 hK0 => ?_)
            go_simp
            exact hK0 _ _ ⟨_, _, _, _, _, _, _, _, _, _, _, _, _, _, _, _, _, _, _, _, _, _, _, _, _, _, _, _, _, _, rfl, g0, g1, g2, g3, g4, g5, g6, hidD (fun _ => rfl), g8, hidD (fun _ => rfl), hidD (fun _ => rfl), g13, g18, g19, g20, g21, g22, g23, g24, g25, g26, g27, g28, g29, hq⟩
          · obtain rfl := g10.out (hds 10 (by simp))
            clear hds
            exact wpOp_no rfl rfl ⟨_, _, _, _, _, _, _, _, _, _, _, _, _, _, _, _, _, _, _, _, _, _, _, _, _, _, _, _, _, _, rfl, g0, g1, g2, g3, g4, g5, g6, g7, g8, g9, hidD (fun _ => rfl), g13, g18, g19, g20, g21, g22, g23, g24, g25, g26, g27, g28, g29, hq⟩
          · obtain rfl := g10.out (hds 10 (by simp))
            clear hds
            exact wpOp_no rfl rfl ⟨_, _, _, _, _, _, _, _, _, _, _, _, _, _, _, _, _, _, _, _, _, _, _, _, _, _, _, _, _, _, rfl, g0, g1, g2, g3, g4, g5, g6, g7, g8, g9, hidD (fun _ => rfl), g13, g18, g19, g20, g21, g22, g23, g24, g25, g26, g27, g28, g29, hq⟩
          · obtain rfl := g10.out (hds 10 (by simp))
            clear hds
            exact wpOp_no rfl rfl ⟨_, _, _, _, _, _, _, _, _, _, _, _, _, _, _, _, _, _, _, _, _, _, _, _, _, _, _, _, _, _, rfl, g0, g1, g2, g3, g4, g5, g6, g7, g8, g9, hidD (fun _ => rfl), hidD (fun _ => rfl), g18, g19, g20, g21, g22, g23, g24, g25, g26, g27, g28, g29, hq⟩
          · obtain rfl := g13.out (hds 13 (by simp))
            clear hds
            exact wpOp_no rfl rfl ⟨_, _, _, _, _, _, _, _, _, _, _, _, _, _, _, _, _, _, _, _, _, _, _, _, _, _, _, _, _, _, rfl, g0, g1, g2, g3, g4, g5, g6, g7, g8, g9, g10, hidD (fun _ => rfl), g18, g19, g20, g21, g22, g23, g24, g25, g26, g27, g28, g29, hq⟩
          · obtain rfl := g13.out (hds 13 (by simp))
            clear hds
            exact wpOp_no rfl rfl ⟨_, _, _, _, _, _, _, _, _, _, _, _, _, _, _, _, _, _, _, _, _, _, _, _, _, _, _, _, _, _, rfl, g0, g1, g2, g3, g4, g5, g6, g7, g8, g9, g10, hidD (fun _ => rfl), g18, g19, g20, g21, g22, g23, g24, g25, g26, g27, g28, g29, hq⟩
          · obtain rfl := g13.out (hds 13 (by simp))
            clear hds
            exact wpOp_no rfl rfl ⟨_, _, _, _, _, _, _, _, _, _, _, _, _, _, _, _, _, _, _, _, _, _, _, _, _, _, _, _, _, _, rfl, g0, g1, g2, g3, g4, g5, g6, g7, g8, g9, g10, hidD (fun _ => rfl), g18, g19, g20, g21, g22, g23, g24, g25, g26, g27, g28, g29, hq⟩
          · obtain rfl := g10.out (hds 10 (by simp))
            obtain rfl := g13.out (hds 13 (by simp))
            clear hds
            exact wpOp_no rfl rfl ⟨_, _, _, _, _, _, _, _, _, _, _, _, _, _, _, _, _, _, _, _, _, _, _, _, _, _, _, _, _, _, rfl, g0, g1, g2, g3, g4, g5, g6, g7, g8, g9, hidD (fun _ => rfl), hidD (fun _ => rfl), g18, g19, g20, g21, g22, g23, g24, g25, g26, g27, g28, g29, hq⟩
          · obtain rfl := g10.out (hds 10 (by simp))
            clear hds
            refine wpOp_yes rfl rfl (fun K0 hK0 => ?_)
            go_simp
            exact hK0 _ _ ⟨_, _, _, _, _, _, _, _, _, _, _, _, _, _, _, _, _, _, _, _, _, _, _, _, _, _, _, _, _, _, rfl, g0, g1, g2, g3, g4, g5, g6, g7, g8, g9, hidD (fun _ => rfl), g13, hidD (fun _ => rfl), g19, g20, g21, g22, g23, g24, g25, g26, g27, g28, g29, hq⟩
          · obtain rfl := g18.out (hds 18 (by simp))
            clear hds
            refine wpOp_yes rfl rfl (fun K0 hK0 => ?_)
            go_simp
            exact hK0 _ _ ⟨_, _, _, _, _, _, _, _, _, _, _, _, _, _, _, _, _, _, _, _, _, _, _, _, _, _, _, _, _, _, rfl, g0, g1, g2, g3, g4, g5, g6, g7, g8, g9, g10, g13, hidD (fun _ => rfl), hidD (fun _ => rfl), g20, g21, g22, g23, g24, g25, g26, g27, g28, g29, hq⟩
          · obtain rfl := g19.out (hds 19 (by simp))
            clear hds
            have k0 := (n9.below hq).c0
            have k1 := (n9.below hq).c1
            refine wpOp_yes rfl rfl (fun K0 hK0 => ?_)
            go_simp
            exact hK0 _ _ ⟨_, _, _, _, _, _, _, _, _, _, _, _, _, _, _, _, _, _, _, _, _, _, _, _, _, _, _, _, _, _, rfl, g0, g1, g2, g3, g4, g5, g6, g7, g8, g9, g10, g13, g18, hidD (fun _ => rfl), hidD (fun _ => rfl), g21, g22, g23, g24, g25, g26, g27, g28, g29, hq⟩
          · obtain rfl := g19.out (hds 19 (by simp))
            obtain rfl := g20.out (hds 20 (by simp))
            clear hds
            refine wpOp_yes rfl rfl (fun K0 hK0 => ?_)
            go_simp
            go_wp2_with (go_at_call 8; refine (TI9.out _ hq).mono ?_; rintro e w8 ⟨rfl, hb8⟩)
            exact ⟨_, _, _, _, _, _, _, _, _, _, _, _, _, _, _, _, _, _, _, _, _, _, _, _, _, _, _, _, _, _, rfl, g0, g1, g2, g3, g4, g5, hidD (fun h => (g6.out h).below hb8), g7, g8, g9, g10, g13, g18, hidD (fun _ => rfl), hidD (fun _ => rfl), hidD (fun _ => rfl), g22, g23, g24, g25, g26, g27, g28, g29, Below.then hq hb8⟩
          · obtain rfl := g19.out (hds 19 (by simp))
            clear hds
            have k0 := (n7.below hq).c0
            have k1 := (n7.below hq).c1
            refine wpOp_yes rfl rfl (fun K0 hK0 => ?_)
            go_simp
            exact hK0 _ _ ⟨_, _, _, _, _, _, _, _, _, _, _, _, _, _, _, _, _, _, _, _, _, _, _, _, _, _, _, _, _, _, rfl, g0, g1, g2, g3, g4, g5, g6, g7, g8, g9, g10, g13, g18, hidD (fun _ => rfl), g20, g21, hidD (fun _ => rfl), g23, g24, g25, g26, g27, g28, g29, hq⟩
          · obtain rfl := g19.out (hds 19 (by simp))
            obtain rfl := g21.out (hds 21 (by simp))
            obtain rfl := g22.out (hds 22 (by simp))
            clear hds
            refine wpOp_yes rfl rfl (fun K0 hK0 => ?_)
            go_simp
            go_wp2_with (go_at_call 9; refine (TR7.out _ hq).mono ?_; rintro e w8 ⟨rfl, hb8⟩)
            exact ⟨_, _, _, _, _, _, _, _, _, _, _, _, _, _, _, _, _, _, _, _, _, _, _, _, _, _, _, _, _, _, rfl, g0, g1, g2, g3, g4, g5, hidD (fun h => (g6.out h).below hb8), g7, g8, g9, g10, g13, g18, hidD (fun _ => rfl), g20, hidD (fun _ => rfl), hidD (fun _ => rfl), hidD (fun _ => rfl), g24, g25, g26, g27, g28, g29, Below.then hq hb8⟩
          · obtain rfl := g19.out (hds 19 (by simp))
            obtain rfl := g21.out (hds 21 (by simp))
            obtain rfl := g23.out (hds 23 (by simp))
            clear hds
            refine wpOp_yes rfl rfl (fun K0 hK0 => ?_)
            go_simp
            exact hK0 _ _ ⟨_, _, _, _, _, _, _, _, _, _, _, _, _, _, _, _, _, _, _, _, _, _, _, _, _, _, _, _, _, _, rfl, g0, g1, g2, g3, g4, g5, g6, g7, g8, g9, g10, g13, g18, hidD (fun _ => rfl), g20, hidD (fun _ => rfl), g22, hidD (fun _ => rfl), hidD (fun _ => rfl), g25, g26, g27, g28, g29, hq⟩
          · obtain rfl := g19.out (hds 19 (by simp))
            obtain rfl := g24.out (hds 24 (by simp))
            clear hds
            refine wpOp_yes rfl rfl (fun K0 hK0 => ?_)
            go_simp
            exact hK0 _ _ ⟨_, _, _, _, _, _, _, _, _, _, _, _, _, _, _, _, _, _, _, _, _, _, _, _, _, _, _, _, _, _, rfl, g0, g1, g2, g3, g4, g5, g6, g7, g8, g9, g10, g13, g18, hidD (fun _ => rfl), g20, g21, g22, g23, hidD (fun _ => rfl), hidD (fun _ => rfl), g26, g27, g28, g29, hq⟩
          · obtain rfl := g23.out (hds 23 (by simp))
            obtain rfl := g25.out (hds 25 (by simp))
            clear hds
            refine wpOp_yes rfl rfl (fun K0 hK0 => ?_)
            go_simp
            exact hK0 _ _ ⟨_, _, _, _, _, _, _, _, _, _, _, _, _, _, _, _, _, _, _, _, _, _, _, _, _, _, _, _, _, _, rfl, g0, g1, g2, g3, g4, g5, g6, g7, g8, g9, g10, g13, g18, g19, g20, g21, g22, hidD (fun _ => rfl), g24, hidD (fun _ => rfl), hidD (fun _ => rfl), g27, g28, g29, hq⟩
          · obtain rfl := g26.out (hds 26 (by simp))
            clear hds
            refine wpOp_yes rfl rfl (fun K0 hK0 => ?_)
            go_simp
            go_wp2_with (go_at_call 12; refine (AL.out _ hq).mono ?_; rintro e w8 ⟨rfl, hb8⟩)
            exact ⟨_, _, _, _, _, _, _, _, _, _, _, _, _, _, _, _, _, _, _, _, _, _, _, _, _, _, _, _, _, _, rfl, g0, g1, g2, g3, g4, g5, hidD (fun h => (g6.out h).below hb8), g7, g8, g9, g10, g13, g18, g19, g20, g21, g22, g23, g24, g25, hidD (fun _ => rfl), hidD (fun _ => rfl), g28, g29, Below.then hq hb8⟩
          · obtain rfl := g26.out (hds 26 (by simp))
            obtain rfl := g27.out (hds 27 (by simp))
            clear hds
            refine wpOp_yes rfl rfl (fun K0 hK0 => ?_)
            go_simp
            exact hK0 _ _ ⟨_, _, _, _, _, _, _, _, _, _, _, _, _, _, _, _, _, _, _, _, _, _, _, _, _, _, _, _, _, _, rfl, g0, g1, g2, g3, g4, g5, g6, g7, g8, g9, g10, g13, g18, g19, g20, g21, g22, g23, g24, g25, hidD (fun _ => rfl), hidD (fun _ => rfl), hidD (fun _ => rfl), g29, hq⟩
          · obtain rfl := g28.out (hds 28 (by simp))
            clear hds
            refine wpOp_yes rfl rfl (fun K0 hK0 => ?_)
            go_simp
            exact hK0 _ _ ⟨_, _, _, _, _, _, _, _, _, _, _, _, _, _, _, _, _, _, _, _, _, _, _, _, _, _, _, _, _, _, rfl, g0, g1, g2, g3, g4, g5, g6, g7, g8, g9, g10, g13, g18, g19, g20, g21, g22, g23, g24, g25, g26, g27, hidD (fun _ => rfl), hidD (fun _ => rfl), hq⟩
        rintro D a wz hDD ⟨t6, t54, t55, t56, t57, t58, t59, t60, t61, t62, t63, t64, t65, t66, t67, t68, t69, t70, t71, t72, t73, t74, t75, t76, t77, t78, t79, t80, t81, t82, rfl, g0, g1, g2, g3, g4, g5, g6, g7, g8, g9, g10, g13, g18, g19, g20, g21, g22, g23, g24, g25, g26, g27, g28, g29, hq⟩
        obtain rfl := g29.out (hDD 29 (by decide))
        have hBz := hB.trans (hq.mono hB.size)
        clear g0 g1 g2 g3 g4 g5 g6 g7 g8 g9 g10 g13 g18 g19 g20 g21 g22 g23 g24 g25 g26 g27 g28 g29 hDD
        go_wp2
        go_ret
        exact ⟨rfl, hBz⟩
      · have hno : 0 ≤ K ∧ 200 < K := by omega
        have HPN := hidD (ipower_no s9 a9 l9 c9 K wc (Or.inr hno))
        clear hok hK hKz
        · have n1 : 0 ≤ K := hno.1
          have n2 : ¬ (K ≤ 200) := by omega
          have n3 : decide (K ≤ 200) = false := decide_eq_false (by omega)
          clear hno
          go_upto_region 11 with (go_at_call 23; refine HPN.out.mono ?_; rintro e w12 ⟨rfl, hb⟩)
          go_upto_region 13 with fail
          obtain ⟨W12, hW⟩ : ∃ W, w12.alloc (.cells #[.bool false, .slice none 0 0] 25) = W := ⟨_, rfl⟩
          have lift : Below wc.heap.size wc W12 := by rw [← hW]; exact hb.alloc hb.size _
          have n12 : Box2 W12 w12.heap.size 25 (.bool false) (.slice none 0 0) := by rw [← hW]; exact Box2.new _ _ _ _
          obtain ⟨B12, hBk⟩ : ∃ B, B = w12.heap.size := ⟨_, rfl⟩
          rw [hW]
          rw [← hBk] at n12 ⊢
          replace hB := hB.trans (lift.mono hB.size)
          replace n7 := n7.below lift
          replace i7 := i7.below lift
          replace n9 := n9.below lift
          replace i9 := i9.below lift
          clear hW hBk hb lift k7a k9a k9b
          obtain ⟨Sx, hSx⟩ : ∃ S : ByteArray, (⟨(decZ x).toArray⟩ : ByteArray) = S := ⟨_, rfl⟩
          have TI9 := hidD (fun (V : World) (h : Below W12.heap.size W12 V) => show Calls Tryd.prog 8 #[.agg #[.bool s9, .slice a9 l9 c9]] V fun e w' => e = .returned (.string Sx) ∧ Below V.heap.size V w' by
            have h1 := itext_c _ _ V (i9.below h) (tab_below HT.out (hB.trans (h.mono hB.size)))
            rw [hSx] at h1
            exact h1)
          have TR7 := hidD (fun (V : World) (h : Below W12.heap.size W12 V) => show Calls Tryd.prog 9 #[.agg #[.slice a7 l7 c7, .bool s7]] V fun e w' => e = .returned (.string Sx) ∧ Below V.heap.size V w' by
            have h1 := text_c _ x V (i7.below h) hx.size
            rw [hSx] at h1
            exact h1)
          have AL := hidD (fun (V : World) (h : Below W12.heap.size W12 V) => alive_c V (tab_below HT.out (hB.trans (h.mono hB.size))))
          clear hSx i7 i9
          refine wp_region_tab hmx [[], [0], [1], [2, 1, 1], [1], [1], [4, 5, 3, 1], [6, 6, 1], [3, 7, 1], [1, 8], [9, 7], [10], [11, 10], [12, 10, 10], [13], [14, 13, 13], [15, 13], [13, 16, 10], [10, 17], [18, 15], [19], [20, 19, 19], [19], [22, 21, 19], [21, 23, 19], [19, 24], [25, 23], [26, 26], [26, 27], [28, 27, 0, 1, 2, 3, 4, 5, 6, 7, 8, 9, 10, 11, 12, 13, 14, 15, 16, 17, 18, 19, 20, 21, 22, 23, 24, 25, 26, 27, 28]] (by kernel_rfl) (by decide)
            (fun D a V => ∃ t6 t54 t55 t56 t57 t58 t59 t60 t61 t62 t63 t64 t65 t66 t67 t68 t69 t70 t71 t72 t73 t74 t75 t76 t77 t78 t79 t80 t81 t82 : Value, a = { tmps := #[.string s, .string r, .int .i64 n, undef, undef, undef, t6, .pointer (some ⟨B7, 0, none⟩), .pointer (some ⟨B8, 0, none⟩), .pointer (some ⟨B9, 0, none⟩), .pointer (some ⟨B10, 0, none⟩), .int .i64 K, .pointer (some ⟨B12, 0, none⟩), .bool false, u14, u15, u16, u17, u18, u19, u20, u21, u22, u23, u24, u25, u26, u27, u28, u29, u30, u31, u32, u33, u34, u35, u36, u37, u38, u39, .tuple #[.agg #[.bool false, .slice none 0 0], .bool false], .agg #[.bool s9, .slice a9 l9 c9], .int .i64 K, .tuple #[.agg #[.bool false, .slice none 0 0], .bool false], .agg #[.bool false, .slice none 0 0], .bool false, .bool false, .int .i64 K, .bool true, .bool true, .int .i64 K, .bool false, .bool false, .bool false, t54, t55, t56, t57, t58, t59, t60, t61, t62, t63, t64, t65, t66, t67, t68, t69, t70, t71, t72, t73, t74, t75, t76, t77, t78, t79, t80, t81, t82], defers := [] } ∧
                        Hid (D 0 = true → t54 = .bool false) ∧ Hid (D 1 = true → t55 = .bool false) ∧ Hid (D 9 = true → t63 = .bool false) ∧ Hid (D 10 = true → t64 = .bool false) ∧ Hid (D 11 = true → t65 = .bool false) ∧ Hid (D 12 = true → t66 = .bool true) ∧ Hid (D 13 = true → t67 = .bool true) ∧ Hid (D 14 = true → t68 = .agg #[.bool false, .slice none 0 0]) ∧ Hid (D 15 = true → t69 = .string ⟨#[48]⟩) ∧ Hid (D 16 = true → t70 = .bool true) ∧ Hid (D 17 = true → t71 = .bool true) ∧ Hid (D 18 = true → t72 = .bool true) ∧ Hid (D 19 = true → t73 = .bool true) ∧ Hid (D 20 = true → t74 = .agg #[.bool s9, .slice a9 l9 c9]) ∧ Hid (D 21 = true → t75 = .string Sx) ∧ Hid (D 22 = true → t76 = .agg #[.slice a7 l7 c7, .bool s7]) ∧ Hid (D 23 = true → t77 = .string Sx) ∧ Hid (D 24 = true → t78 = .bool true) ∧ Hid (D 25 = true → t79 = .bool true) ∧ Hid (D 26 = true → t80 = .bool true) ∧ Hid (D 27 = true → t81 = .bool true) ∧ Hid (D 28 = true → t82 = .bool true) ∧ Hid (D 29 = true → t6 = .bool true) ∧ Below W12.heap.size W12 V)
            ⟨_, _, _, _, _, _, _, _, _, _, _, _, _, _, _, _, _, _, _, _, _, _, _, _, _, _, _, _, _, _, rfl, hidD (fun h => by cases h), hidD (fun h => by cases h), hidD (fun h => by cases h), hidD (fun h => by cases h), hidD (fun h => by cases h), hidD (fun h => by cases h), hidD (fun h => by cases h), hidD (fun h => by cases h), hidD (fun h => by cases h), hidD (fun h => by cases h), hidD (fun h => by cases h), hidD (fun h => by cases h), hidD (fun h => by cases h), hidD (fun h => by cases h), hidD (fun h => by cases h), hidD (fun h => by cases h), hidD (fun h => by cases h), hidD (fun h => by cases h), hidD (fun h => by cases h), hidD (fun h => by cases h), hidD (fun h => by cases h), hidD (fun h => by cases h), hidD (fun h => by cases h), (Below.refl _ W12).drew⟩ ?stepC ?finC
          case stepC =>
            rintro D a V i ds hcl2 hi2 hds hDi ⟨t6, t54, t55, t56, t57, t58, t59, t60, t61, t62, t63, t64, t65, t66, t67, t68, t69, t70, t71, t72, t73, t74, t75, t76, t77, t78, t79, t80, t81, t82, rfl, g0, g1, g9, g10, g11, g12, g13, g14, g15, g16, g17, g18, g19, g20, g21, g22, g23, g24, g25, g26, g27, g28, g29, hq⟩
            have hi6 : i < 30 := (List.getElem?_eq_some_iff.1 hi2).1
            clear hcl2 hDi
            obtain rfl | rfl | rfl | rfl | rfl | rfl | rfl | rfl | rfl | rfl | rfl | rfl | rfl | rfl | rfl | rfl | rfl | rfl | rfl | rfl | rfl | rfl | rfl | rfl | rfl | rfl | rfl | rfl | rfl | rfl : i = 0 ∨ i = 1 ∨ i = 2 ∨ i = 3 ∨ i = 4 ∨ i = 5 ∨ i = 6 ∨ i = 7 ∨ i = 8 ∨ i = 9 ∨ i = 10 ∨ i = 11 ∨ i = 12 ∨ i = 13 ∨ i = 14 ∨ i = 15 ∨ i = 16 ∨ i = 17 ∨ i = 18 ∨ i = 19 ∨ i = 20 ∨ i = 21 ∨ i = 22 ∨ i = 23 ∨ i = 24 ∨ i = 25 ∨ i = 26 ∨ i = 27 ∨ i = 28 ∨ i = 29 := by omega
            all_goals
              simp only [List.getElem?_cons_zero, List.getElem?_cons_succ, Option.some.injEq] at hi2
              subst hi2
              clear hi6
            · clear hds
              refine wpOp_yes rfl rfl (fun K0 hK0 => ?_)
              go_simp
              exact hK0 _ _ ⟨_, _, _, _, _, _, _, _, _, _, _, _, _, _, _, _, _, _, _, _, _, _, _, _, _, _, _, _, _, _, rfl, hidD (fun _ => rfl), g1, g9, g10, g11, g12, g13, g14, g15, g16, g17, g18, g19, g20, g21, g22, g23, g24, g25, g26, g27, g28, g29, hq⟩
            · obtain rfl := g0.out (hds 0 (by simp))
              clear hds
              refine wpOp_yes rfl rfl (fun K0 hK0 => ?_)
              go_simp
              exact hK0 _ _ ⟨_, _, _, _, _, _, _, _, _, _, _, _, _, _, _, _, _, _, _, _, _, _, _, _, _, _, _, _, _, _, rfl, hidD (fun _ => rfl), hidD (fun _ => rfl), g9, g10, g11, g12, g13, g14, g15, g16, g17, g18, g19, g20, g21, g22, g23, g24, g25, g26, g27, g28, g29, hq⟩
            · obtain rfl := g1.out (hds 1 (by simp))
              clear hds
              exact wpOp_no rfl rfl ⟨_, _, _, _, _, _, _, _, _, _, _, _, _, _, _, _, _, _, _, _, _, _, _, _, _, _, _, _, _, _, rfl, g0, hidD (fun _ => rfl), g9, g10, g11, g12, g13, g14, g15, g16, g17, g18, g19, g20, g21, g22, g23, g24, g25, g26, g27, g28, g29, hq⟩
            · obtain rfl := g1.out (hds 1 (by simp))
              clear hds
              exact wpOp_no rfl rfl ⟨_, _, _, _, _, _, _, _, _, _, _, _, _, _, _, _, _, _, _, _, _, _, _, _, _, _, _, _, _, _, rfl, g0, hidD (fun _ => rfl), g9, g10, g11, g12, g13, g14, g15, g16, g17, g18, g19, g20, g21, g22, g23, g24, g25, g26, g27, g28, g29, hq⟩
            · obtain rfl := g1.out (hds 1 (by simp))
              clear hds
              exact wpOp_no rfl rfl ⟨_, _, _, _, _, _, _, _, _, _, _, _, _, _, _, _, _, _, _, _, _, _, _, _, _, _, _, _, _, _, rfl, g0, hidD (fun _ => rfl), g9, g10, g11, g12, g13, g14, g15, g16, g17, g18, g19, g20, g21, g22, g23, g24, g25, g26, g27, g28, g29, hq⟩
            · obtain rfl := g1.out (hds 1 (by simp))
              clear hds
              exact wpOp_no rfl rfl ⟨_, _, _, _, _, _, _, _, _, _, _, _, _, _, _, _, _, _, _, _, _, _, _, _, _, _, _, _, _, _, rfl, g0, hidD (fun _ => rfl), g9, g10, g11, g12, g13, g14, g15, g16, g17, g18, g19, g20, g21, g22, g23, g24, g25, g26, g27, g28, g29, hq⟩
            · obtain rfl := g1.out (hds 1 (by simp))
              clear hds
              exact wpOp_no rfl rfl ⟨_, _, _, _, _, _, _, _, _, _, _, _, _, _, _, _, _, _, _, _, _, _, _, _, _, _, _, _, _, _, rfl, g0, hidD (fun _ => rfl), g9, g10, g11, g12, g13, g14, g15, g16, g17, g18, g19, g20, g21, g22, g23, g24, g25, g26, g27, g28, g29, hq⟩
            · obtain rfl := g1.out (hds 1 (by simp))
              clear hds
              exact wpOp_no rfl rfl ⟨_, _, _, _, _, _, _, _, _, _, _, _, _, _, _, _, _, _, _, _, _, _, _, _, _, _, _, _, _, _, rfl, g0, hidD (fun _ => rfl), g9, g10, g11, g12, g13, g14, g15, g16, g17, g18, g19, g20, g21, g22, g23, g24, g25, g26, g27, g28, g29, hq⟩
            · obtain rfl := g1.out (hds 1 (by simp))
              clear hds
              exact wpOp_no rfl rfl ⟨_, _, _, _, _, _, _, _, _, _, _, _, _, _, _, _, _, _, _, _, _, _, _, _, _, _, _, _, _, _, rfl, g0, hidD (fun _ => rfl), g9, g10, g11, g12, g13, g14, g15, g16, g17, g18, g19, g20, g21, g22, g23, g24, g25, g26, g27, g28, g29, hq⟩
            · obtain rfl := g1.out (hds 1 (by simp))
              clear hds
              refine wpOp_yes rfl rfl (fun K0 hK0 => ?_)
              go_simp
              exact hK0 _ _ ⟨_, _, _, _, _, _, _, _, _, _, _, _, _, _, _, _, _, _, _, _, _, _, _, _, _, _, _, _, _, _, rfl, g0, hidD (fun _ => rfl), hidD (fun _ => rfl), g10, g11, g12, g13, g14, g15, g16, g17, g18, g19, g20, g21, g22, g23, g24, g25, g26, g27, g28, g29, hq⟩
            · obtain rfl := g9.out (hds 9 (by simp))
              clear hds
              refine wpOp_yes rfl rfl (fun K0 hK0 => ?_)
              go_simp
              exact hK0 _ _ ⟨_, _, _, _, _, _, _, _, _, _, _, _, _, _, _, _, _, _, _, _, _, _, _, _, _, _, _, _, _, _, rfl, g0, g1, hidD (fun _ => rfl), hidD (fun _ => rfl), g11, g12, g13, g14, g15, g16, g17, g18, g19, g20, g21, g22, g23, g24, g25, g26, g27, g28, g29, hq⟩
            · obtain rfl := g10.out (hds 10 (by simp))
              clear hds
              refine wpOp_yes rfl rfl (fun K0 hK0 => ?_)
              go_simp
              exact hK0 _ _ ⟨_, _, _, _, _, _, _, _, _, _, _, _, _, _, _, _, _, _, _, _, _, _, _, _, _, _, _, _, _, _, rfl, g0, g1, g9, hidD (fun _ => rfl), hidD (fun _ => rfl), g12, g13, g14, g15, g16, g17, g18, g19, g20, g21, g22, g23, g24, g25, g26, g27, g28, g29, hq⟩
            · obtain rfl := g10.out (hds 10 (by simp))
              obtain rfl := g11.out (hds 11 (by simp))
              clear hds
              refine wpOp_yes rfl rfl (fun K0 hK0 => ?_)
              go_simp
              exact hK0 _ _ ⟨_, _, _, _, _, _, _, _, _, _, _, _, _, _, _, _, _, _, _, _, _, _, _, _, _, _, _, _, _, _, rfl, g0, g1, g9, hidD (fun _ => rfl), hidD (fun _ => rfl), hidD (fun _ => rfl), g13, g14, g15, g16, g17, g18, g19, g20, g21, g22, g23, g24, g25, g26, g27, g28, g29, hq⟩
            · obtain rfl := g10.out (hds 10 (by simp))
              obtain rfl := g12.out (hds 12 (by simp))
              clear hds
              refine wpOp_yes rfl rfl (fun K0 hK0 => ?_)
              go_simp
              exact hK0 _ _ ⟨_, _, _, _, _, _, _, _, _, _, _, _, _, _, _, _, _, _, _, _, _, _, _, _, _, _, _, _, _, _, rfl, g0, g1, g9, hidD (fun _ => rfl), g11, hidD (fun _ => rfl), hidD (fun _ => rfl), g14, g15, g16, g17, g18, g19, g20, g21, g22, g23, g24, g25, g26, g27, g28, g29, hq⟩
            · obtain rfl := g13.out (hds 13 (by simp))
              clear hds
              have k0 := (n12.below hq).c0
              have k1 := (n12.below hq).c1
              refine wpOp_yes rfl rfl (fun K0 hK0 => ?_)
              go_simp
              exact hK0 _ _ ⟨_, _, _, _, _, _, _, _, _, _, _, _, _, _, _, _, _, _, _, _, _, _, _, _, _, _, _, _, _, _, rfl, g0, g1, g9, g10, g11, g12, hidD (fun _ => rfl), hidD (fun _ => rfl), g15, g16, g17, g18, g19, g20, g21, g22, g23, g24, g25, g26, g27, g28, g29, hq⟩
            · obtain rfl := g13.out (hds 13 (by simp))
              obtain rfl := g14.out (hds 14 (by simp))
              clear hds
              refine wpOp_yes rfl rfl (fun K0 hK0 => ?_)
              go_simp
              go_wp2_with (go_at_call 8; refine (itext_0 none 0 _).mono ?_; rintro e w8 ⟨rfl, hb8⟩)
              exact ⟨_, _, _, _, _, _, _, _, _, _, _, _, _, _, _, _, _, _, _, _, _, _, _, _, _, _, _, _, _, _, rfl, g0, g1, g9, g10, g11, g12, hidD (fun _ => rfl), hidD (fun _ => rfl), hidD (fun _ => rfl), g16, g17, g18, g19, g20, g21, g22, g23, g24, g25, g26, g27, g28, g29, Below.then hq hb8⟩
            · obtain rfl := g13.out (hds 13 (by simp))
              obtain rfl := g15.out (hds 15 (by simp))
              clear hds
              refine wpOp_yes rfl rfl (fun K0 hK0 => ?_)
              go_simp
              exact hK0 _ _ ⟨_, _, _, _, _, _, _, _, _, _, _, _, _, _, _, _, _, _, _, _, _, _, _, _, _, _, _, _, _, _, rfl, g0, g1, g9, g10, g11, g12, hidD (fun _ => rfl), g14, hidD (fun _ => rfl), hidD (fun _ => rfl), g17, g18, g19, g20, g21, g22, g23, g24, g25, g26, g27, g28, g29, hq⟩
            · obtain rfl := g10.out (hds 10 (by simp))
              obtain rfl := g13.out (hds 13 (by simp))
              obtain rfl := g16.out (hds 16 (by simp))
              clear hds
              refine wpOp_yes rfl rfl (fun K0 hK0 => ?_)
              go_simp
              exact hK0 _ _ ⟨_, _, _, _, _, _, _, _, _, _, _, _, _, _, _, _, _, _, _, _, _, _, _, _, _, _, _, _, _, _, rfl, g0, g1, g9, hidD (fun _ => rfl), g11, g12, hidD (fun _ => rfl), g14, g15, hidD (fun _ => rfl), hidD (fun _ => rfl), g18, g19, g20, g21, g22, g23, g24, g25, g26, g27, g28, g29, hq⟩
            · obtain rfl := g10.out (hds 10 (by simp))
              obtain rfl := g17.out (hds 17 (by simp))
              clear hds
              refine wpOp_yes rfl rfl (fun K0 hK0 => ?_)
              go_simp
              exact hK0 _ _ ⟨_, _, _, _, _, _, _, _, _, _, _, _, _, _, _, _, _, _, _, _, _, _, _, _, _, _, _, _, _, _, rfl, g0, g1, g9, hidD (fun _ => rfl), g11, g12, g13, g14, g15, g16, hidD (fun _ => rfl), hidD (fun _ => rfl), g19, g20, g21, g22, g23, g24, g25, g26, g27, g28, g29, hq⟩
            · obtain rfl := g15.out (hds 15 (by simp))
              obtain rfl := g18.out (hds 18 (by simp))
              clear hds
              refine wpOp_yes rfl rfl (fun K0 hK0 => ?_)
              go_simp
              exact hK0 _ _ ⟨_, _, _, _, _, _, _, _, _, _, _, _, _, _, _, _, _, _, _, _, _, _, _, _, _, _, _, _, _, _, rfl, g0, g1, g9, g10, g11, g12, g13, g14, hidD (fun _ => rfl), g16, g17, hidD (fun _ => rfl), hidD (fun _ => rfl), g20, g21, g22, g23, g24, g25, g26, g27, g28, g29, hq⟩
            · obtain rfl := g19.out (hds 19 (by simp))
              clear hds
              have k0 := (n9.below hq).c0
              have k1 := (n9.below hq).c1
              refine wpOp_yes rfl rfl (fun K0 hK0 => ?_)
              go_simp
              exact hK0 _ _ ⟨_, _, _, _, _, _, _, _, _, _, _, _, _, _, _, _, _, _, _, _, _, _, _, _, _, _, _, _, _, _, rfl, g0, g1, g9, g10, g11, g12, g13, g14, g15, g16, g17, g18, hidD (fun _ => rfl), hidD (fun _ => rfl), g21, g22, g23, g24, g25, g26, g27, g28, g29, hq⟩
            · obtain rfl := g19.out (hds 19 (by simp))
              obtain rfl := g20.out (hds 20 (by simp))
              clear hds
              refine wpOp_yes rfl rfl (fun K0 hK0 => ?_)
              go_simp
              go_wp2_with (go_at_call 8; refine (TI9.out _ hq).mono ?_; rintro e w8 ⟨rfl, hb8⟩)
              exact ⟨_, _, _, _, _, _, _, _, _, _, _, _, _, _, _, _, _, _, _, _, _, _, _, _, _, _, _, _, _, _, rfl, g0, g1, g9, g10, g11, g12, g13, g14, g15, g16, g17, g18, hidD (fun _ => rfl), hidD (fun _ => rfl), hidD (fun _ => rfl), g22, g23, g24, g25, g26, g27, g28, g29, Below.then hq hb8⟩
            · obtain rfl := g19.out (hds 19 (by simp))
              clear hds
              have k0 := (n7.below hq).c0
              have k1 := (n7.below hq).c1
              refine wpOp_yes rfl rfl (fun K0 hK0 => ?_)
              go_simp
              exact hK0 _ _ ⟨_, _, _, _, _, _, _, _, _, _, _, _, _, _, _, _, _, _, _, _, _, _, _, _, _, _, _, _, _, _, rfl, g0, g1, g9, g10, g11, g12, g13, g14, g15, g16, g17, g18, hidD (fun _ => rfl), g20, g21, hidD (fun _ => rfl), g23, g24, g25, g26, g27, g28, g29, hq⟩
            · obtain rfl := g19.out (hds 19 (by simp))
              obtain rfl := g21.out (hds 21 (by simp))
              obtain rfl := g22.out (hds 22 (by simp))
              clear hds
              refine wpOp_yes rfl rfl (fun K0 hK0 => ?_)
              go_simp
              go_wp2_with (go_at_call 9; refine (TR7.out _ hq).mono ?_; rintro e w8 ⟨rfl, hb8⟩)
              exact ⟨_, _, _, _, _, _, _, _, _, _, _, _, _, _, _, _, _, _, _, _, _, _, _, _, _, _, _, _, _, _, rfl, g0, g1, g9, g10, g11, g12, g13, g14, g15, g16, g17, g18, hidD (fun _ => rfl), g20, hidD (fun _ => rfl), hidD (fun _ => rfl), hidD (fun _ => rfl), g24, g25, g26, g27, g28, g29, Below.then hq hb8⟩
            · obtain rfl := g19.out (hds 19 (by simp))
              obtain rfl := g21.out (hds 21 (by simp))
              obtain rfl := g23.out (hds 23 (by simp))
              clear hds
              refine wpOp_yes rfl rfl (fun K0 hK0 => ?_)
              go_simp
              exact hK0 _ _ ⟨_, _, _, _, _, _, _, _, _, _, _, _, _, _, _, _, _, _, _, _, _, _, _, _, _, _, _, _, _, _, rfl, g0, g1, g9, g10, g11, g12, g13, g14, g15, g16, g17, g18, hidD (fun _ => rfl), g20, hidD (fun _ => rfl), g22, hidD (fun _ => rfl), hidD (fun _ => rfl), g25, g26, g27, g28, g29, hq⟩
            · obtain rfl := g19.out (hds 19 (by simp))
              obtain rfl := g24.out (hds 24 (by simp))
              clear hds
              refine wpOp_yes rfl rfl (fun K0 hK0 => ?_)
              go_simp
              exact hK0 _ _ ⟨_, _, _, _, _, _, _, _, _, _, _, _, _, _, _, _, _, _, _, _, _, _, _, _, _, _, _, _, _, _, rfl, g0, g1, g9, g10, g11, g12, g13, g14, g15, g16, g17, g18, hidD (fun _ => rfl), g20, g21, g22, g23, hidD (fun _ => rfl), hidD (fun _ => rfl), g26, g27, g28, g29, hq⟩
            · obtain rfl := g23.out (hds 23 (by simp))
              obtain rfl := g25.out (hds 25 (by simp))
              clear hds
              refine wpOp_yes rfl rfl (fun K0 hK0 => ?_)
              go_simp
              exact hK0 _ _ ⟨_, _, _, _, _, _, _, _, _, _, _, _, _, _, _, _, _, _, _, _, _, _, _, _, _, _, _, _, _, _, rfl, g0, g1, g9, g10, g11, g12, g13, g14, g15, g16, g17, g18, g19, g20, g21, g22, hidD (fun _ => rfl), g24, hidD (fun _ => rfl), hidD (fun _ => rfl), g27, g28, g29, hq⟩
            · obtain rfl := g26.out (hds 26 (by simp))
              clear hds
              refine wpOp_yes rfl rfl (fun K0 hK0 => ?_)
              go_simp
              go_wp2_with (go_at_call 12; refine (AL.out _ hq).mono ?_; rintro e w8 ⟨rfl, hb8⟩)
              exact ⟨_, _, _, _, _, _, _, _, _, _, _, _, _, _, _, _, _, _, _, _, _, _, _, _, _, _, _, _, _, _, rfl, g0, g1, g9, g10, g11, g12, g13, g14, g15, g16, g17, g18, g19, g20, g21, g22, g23, g24, g25, hidD (fun _ => rfl), hidD (fun _ => rfl), g28, g29, Below.then hq hb8⟩
            · obtain rfl := g26.out (hds 26 (by simp))
              obtain rfl := g27.out (hds 27 (by simp))
              clear hds
              refine wpOp_yes rfl rfl (fun K0 hK0 => ?_)
              go_simp
              exact hK0 _ _ ⟨_, _, _, _, _, _, _, _, _, _, _, _, _, _, _, _, _, _, _, _, _, _, _, _, _, _, _, _, _, _, rfl, g0, g1, g9, g10, g11, g12, g13, g14, g15, g16, g17, g18, g19, g20, g21, g22, g23, g24, g25, hidD (fun _ => rfl), hidD (fun _ => rfl), hidD (fun _ => rfl), g29, hq⟩
            · obtain rfl := g28.out (hds 28 (by simp))
              clear hds
              refine wpOp_yes rfl rfl (fun K0 hK0 => ?_)
              go_simp
              exact hK0 _ _ ⟨_, _, _, _, _, _, _, _, _, _, _, _, _, _, _, _, _, _, _, _, _, _, _, _, _, _, _, _, _, _, rfl, g0, g1, g9, g10, g11, g12, g13, g14, g15, g16, g17, g18, g19, g20, g21, g22, g23, g24, g25, g26, g27, hidD (fun _ => rfl), hidD (fun _ => rfl), hq⟩
          rintro D a wz hDD ⟨t6, t54, t55, t56, t57, t58, t59, t60, t61, t62, t63, t64, t65, t66, t67, t68, t69, t70, t71, t72, t73, t74, t75, t76, t77, t78, t79, t80, t81, t82, rfl, g0, g1, g9, g10, g11, g12, g13, g14, g15, g16, g17, g18, g19, g20, g21, g22, g23, g24, g25, g26, g27, g28, g29, hq⟩
          obtain rfl := g29.out (hDD 29 (by decide))
          have hBz := hB.trans (hq.mono hB.size)
          clear g0 g1 g9 g10 g11 g12 g13 g14 g15 g16 g17 g18 g19 g20 g21 g22 g23 g24 g25 g26 g27 g28 g29 hDD
          go_wp2
          go_ret
          exact ⟨rfl, hBz⟩

end Go.Proofs.YtjmmnpfedhkjbaaDoor
namespace Go.Proofs.YtjmmnpfedhkjbaaDoor
open Go.RowKit Go.Shelf

theorem wholeProducts_c (s r : ByteArray) (hs : s.size ≤ 140737488351232) (hr : r.size ≤ 140737488351232) (n : Int) (w : World) (htab : Lib.TabIs Tryd.prog w "internal/strconv.uint64pow10" .u64 Lib.pow10Tab) :
    Calls Tryd.prog 5 #[.string s, .string r, .int .i64 n] w fun e w' => e = .returned (.bool true) ∧ Below w.heap.size w w' := by
  by_cases h1 : n < 0
  · exact wholeProducts_a s r hs hr n h1 w htab
  · by_cases h2 : n ≤ 200
    · exact wholeProducts_b s r hs hr n ⟨by omega, h2⟩ w htab
    · exact wholeProducts_c0 s r hs hr n (by omega) w htab


end Go.Proofs.YtjmmnpfedhkjbaaDoor
