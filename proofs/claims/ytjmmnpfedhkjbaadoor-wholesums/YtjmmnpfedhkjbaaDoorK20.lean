import Derived.Test.YtjmmnpfedhkjbaaDoorK19
namespace Go.Proofs.YtjmmnpfedhkjbaaDoor
open Go.RowKit Go.Shelf

attribute [local go_sem] Oper.semAt_some

theorem Small.sz {z : Int} (h : Small z) : szB z ≤ 2000 := by
  have := good_size h.good.1 (B := 10000) (by omega)
  rw [h.good.2] at this
  unfold szB; exact this

theorem sz_pow {x y z : Int} {k : Nat} (hx : szB x ≤ k) (hy : szB y ≤ k) (hz : z.natAbs ≤ x.natAbs + y.natAbs) : szB z ≤ k + 1 := by
  unfold szB at *
  have h1 := val_lt (dig_limbs (B := 10000) (by omega) x.natAbs)
  have h2 := val_lt (dig_limbs (B := 10000) (by omega) y.natAbs)
  rw [val_limbs (by omega)] at h1 h2
  have h3 : (10000 : Nat) ^ (limbs 10000 x.natAbs).length ≤ 10000 ^ k := Nat.pow_le_pow_right (by omega) hx
  have h4 : (10000 : Nat) ^ (limbs 10000 y.natAbs).length ≤ 10000 ^ k := Nat.pow_le_pow_right (by omega) hy
  have h6 : (10000 : Nat) ^ (k + 1) = 10000 ^ k * 10000 := Nat.pow_succ ..
  exact limbs_length_le (B := 10000) (by omega) (n := z.natAbs) (k := k + 1) (by rw [h6]; omega)

theorem sz_two {x y z : Int} (hx : szB x ≤ 2000) (hy : szB y ≤ 2000) (hz : z.natAbs ≤ x.natAbs + y.natAbs) : szB z ≤ 1000000000 :=
  Nat.le_trans (sz_pow hx hy hz) (by omega)

set_option maxRecDepth 100000 in
set_option maxHeartbeats 4000000 in
theorem wholeSums_c (s r : ByteArray) (hs : s.size ≤ 140737488351232) (hr : r.size ≤ 140737488351232) (w : World) (htab : Lib.TabIs Tryd.prog w "internal/strconv.uint64pow10" .u64 Lib.pow10Tab) :
    Calls Tryd.prog 4 #[.string s, .string r] w fun e w' => e = .returned (.bool true) ∧ Below w.heap.size w w' := by
  have HT := hidD htab
  have hmx : Tryd.prog.follows .mixedOrders = true := by kernel_rfl
  clear htab
  have hB : Below w.heap.size w w := Below.refl _ w
  go_enter Tryd.func4, Tryd.ntmps4
  go_upto_region 2 with (go_at_call 13; refine (lread_c s hs _).mono ?_; rintro e w5 ⟨u, x, rfl, hu, hx, hb⟩; obtain ⟨a5, l5, c5, rfl⟩ := hu.form; obtain ⟨s5, hsg⟩ : ∃ b, decide (x < 0) = b := ⟨_, rfl⟩; rw [hsg] at hu; rw [hsg]; clear hsg)
  obtain ⟨V5, hV⟩ : ∃ V, w5.alloc (.cells #[.slice a5 l5 c5, .bool s5] 30) = V := ⟨_, rfl⟩
  have lift : Below w.heap.size w V5 := by rw [← hV]; exact hb.alloc hb.size _
  have n5 : Box2 V5 w5.heap.size 30 (.slice a5 l5 c5) (.bool s5) := by rw [← hV]; exact Box2.new _ _ _ _
  have i5 : IsBig V5 (.agg #[.slice a5 l5 c5, .bool s5]) (x) := by rw [← hV]; exact hu.alloc _
  obtain ⟨B5, hBk⟩ : ∃ B, B = w5.heap.size := ⟨_, rfl⟩
  rw [hV]
  rw [← hBk] at n5 ⊢
  have hB := hB.trans (lift.mono hB.size)
  clear hV hBk hb hu lift
  have k5a := n5.c0
  have k5b := n5.c1
  go_upto_region 3 with (go_at_call 13; refine (lread_c r hr _).mono ?_; rintro e w6 ⟨u, y, rfl, hu, hy, hb⟩; obtain ⟨a6, l6, c6, rfl⟩ := hu.form; obtain ⟨s6, hsg⟩ : ∃ b, decide (y < 0) = b := ⟨_, rfl⟩; rw [hsg] at hu; rw [hsg]; clear hsg)
  obtain ⟨V6, hV⟩ : ∃ V, w6.alloc (.cells #[.slice a6 l6 c6, .bool s6] 30) = V := ⟨_, rfl⟩
  have lift : Below V5.heap.size V5 V6 := by rw [← hV]; exact hb.alloc hb.size _
  have n6 : Box2 V6 w6.heap.size 30 (.slice a6 l6 c6) (.bool s6) := by rw [← hV]; exact Box2.new _ _ _ _
  have i6 : IsBig V6 (.agg #[.slice a6 l6 c6, .bool s6]) (y) := by rw [← hV]; exact hu.alloc _
  obtain ⟨B6, hBk⟩ : ∃ B, B = w6.heap.size := ⟨_, rfl⟩
  rw [hV]
  rw [← hBk] at n6 ⊢
  have hB := hB.trans (lift.mono hB.size)
  have n5 := n5.below lift
  have i5 := i5.below lift
  clear hV hBk hb hu lift
  have k5a := n5.c0
  have k5b := n5.c1
  have k6a := n6.c0
  have k6b := n6.c1
  go_upto_region 4 with (go_at_call 14; refine (given_c _ x _ i5 hx).mono ?_; rintro e w7 ⟨u, rfl, hu, hb⟩; obtain ⟨a7, l7, c7, rfl⟩ := hu.form; obtain ⟨s7, hsg⟩ : ∃ b, decide (x < 0) = b := ⟨_, rfl⟩; rw [hsg] at hu; rw [hsg]; clear hsg)
  obtain ⟨V7, hV⟩ : ∃ V, w7.alloc (.cells #[.bool s7, .slice a7 l7 c7] 25) = V := ⟨_, rfl⟩
  have lift : Below V6.heap.size V6 V7 := by rw [← hV]; exact hb.alloc hb.size _
  have n7 : Box2 V7 w7.heap.size 25 (.bool s7) (.slice a7 l7 c7) := by rw [← hV]; exact Box2.new _ _ _ _
  have i7 : IsInt V7 (.agg #[.bool s7, .slice a7 l7 c7]) (x) := by rw [← hV]; exact hu.alloc _
  obtain ⟨B7, hBk⟩ : ∃ B, B = w7.heap.size := ⟨_, rfl⟩
  rw [hV]
  rw [← hBk] at n7 ⊢
  have hB := hB.trans (lift.mono hB.size)
  have n5 := n5.below lift
  have i5 := i5.below lift
  have n6 := n6.below lift
  have i6 := i6.below lift
  clear hV hBk hb hu lift
  have k5a := n5.c0
  have k5b := n5.c1
  have k6a := n6.c0
  have k6b := n6.c1
  have k7a := n7.c0
  have k7b := n7.c1
  go_upto_region 5 with (go_at_call 14; refine (given_c _ y _ i6 hy).mono ?_; rintro e w8 ⟨u, rfl, hu, hb⟩; obtain ⟨a8, l8, c8, rfl⟩ := hu.form; obtain ⟨s8, hsg⟩ : ∃ b, decide (y < 0) = b := ⟨_, rfl⟩; rw [hsg] at hu; rw [hsg]; clear hsg)
  obtain ⟨V8, hV⟩ : ∃ V, w8.alloc (.cells #[.bool s8, .slice a8 l8 c8] 25) = V := ⟨_, rfl⟩
  have lift : Below V7.heap.size V7 V8 := by rw [← hV]; exact hb.alloc hb.size _
  have n8 : Box2 V8 w8.heap.size 25 (.bool s8) (.slice a8 l8 c8) := by rw [← hV]; exact Box2.new _ _ _ _
  have i8 : IsInt V8 (.agg #[.bool s8, .slice a8 l8 c8]) (y) := by rw [← hV]; exact hu.alloc _
  obtain ⟨B8, hBk⟩ : ∃ B, B = w8.heap.size := ⟨_, rfl⟩
  rw [hV]
  rw [← hBk] at n8 ⊢
  have hB := hB.trans (lift.mono hB.size)
  have n5 := n5.below lift
  have i5 := i5.below lift
  have n6 := n6.below lift
  have i6 := i6.below lift
  have n7 := n7.below lift
  have i7 := i7.below lift
  clear hV hBk hb hu lift
  have k5a := n5.c0
  have k5b := n5.c1
  have k6a := n6.c0
  have k6b := n6.c1
  have k7a := n7.c0
  have k7b := n7.c1
  have k8a := n8.c0
  have k8b := n8.c1
  go_upto_region 6 with (go_at_call 15; refine (iplus_c _ _ x y _ i7 i8 hx.words hy.words).mono ?_; rintro e w9 ⟨u, rfl, hu, hb⟩; obtain ⟨a9, l9, c9, rfl⟩ := hu.form; obtain ⟨s9, hsg⟩ : ∃ b, decide (x + y < 0) = b := ⟨_, rfl⟩; rw [hsg] at hu; rw [hsg]; clear hsg)
  obtain ⟨V9, hV⟩ : ∃ V, w9.alloc (.cells #[.bool s9, .slice a9 l9 c9] 25) = V := ⟨_, rfl⟩
  have lift : Below V8.heap.size V8 V9 := by rw [← hV]; exact hb.alloc hb.size _
  have n9 : Box2 V9 w9.heap.size 25 (.bool s9) (.slice a9 l9 c9) := by rw [← hV]; exact Box2.new _ _ _ _
  have i9 : IsInt V9 (.agg #[.bool s9, .slice a9 l9 c9]) (x + y) := by rw [← hV]; exact hu.alloc _
  obtain ⟨B9, hBk⟩ : ∃ B, B = w9.heap.size := ⟨_, rfl⟩
  rw [hV]
  rw [← hBk] at n9 ⊢
  have hB := hB.trans (lift.mono hB.size)
  have n5 := n5.below lift
  have i5 := i5.below lift
  have n6 := n6.below lift
  have i6 := i6.below lift
  have n7 := n7.below lift
  have i7 := i7.below lift
  have n8 := n8.below lift
  have i8 := i8.below lift
  clear hV hBk hb hu lift
  have k5a := n5.c0
  have k5b := n5.c1
  have k6a := n6.c0
  have k6b := n6.c1
  have k7a := n7.c0
  have k7b := n7.c1
  have k8a := n8.c0
  have k8b := n8.c1
  have k9a := n9.c0
  have k9b := n9.c1
  go_upto_region 7 with (go_at_call 16; refine (iminus_c _ _ x y _ i7 i8 hx.words hy.words).mono ?_; rintro e w10 ⟨u, rfl, hu, hb⟩; obtain ⟨a10, l10, c10, rfl⟩ := hu.form; obtain ⟨s10, hsg⟩ : ∃ b, decide (x - y < 0) = b := ⟨_, rfl⟩; rw [hsg] at hu; rw [hsg]; clear hsg)
  obtain ⟨V10, hV⟩ : ∃ V, w10.alloc (.cells #[.bool s10, .slice a10 l10 c10] 25) = V := ⟨_, rfl⟩
  have lift : Below V9.heap.size V9 V10 := by rw [← hV]; exact hb.alloc hb.size _
  have n10 : Box2 V10 w10.heap.size 25 (.bool s10) (.slice a10 l10 c10) := by rw [← hV]; exact Box2.new _ _ _ _
  have i10 : IsInt V10 (.agg #[.bool s10, .slice a10 l10 c10]) (x - y) := by rw [← hV]; exact hu.alloc _
  obtain ⟨B10, hBk⟩ : ∃ B, B = w10.heap.size := ⟨_, rfl⟩
  rw [hV]
  rw [← hBk] at n10 ⊢
  have hB := hB.trans (lift.mono hB.size)
  have n5 := n5.below lift
  have i5 := i5.below lift
  have n6 := n6.below lift
  have i6 := i6.below lift
  have n7 := n7.below lift
  have i7 := i7.below lift
  have n8 := n8.below lift
  have i8 := i8.below lift
  have n9 := n9.below lift
  have i9 := i9.below lift
  clear hV hBk hb hu lift
  have k5a := n5.c0
  have k5b := n5.c1
  have k6a := n6.c0
  have k6b := n6.c1
  have k7a := n7.c0
  have k7b := n7.c1
  have k8a := n8.c0
  have k8b := n8.c1
  have k9a := n9.c0
  have k9b := n9.c1
  have k10a := n10.c0
  have k10b := n10.c1
  go_upto_region 8 with (go_at_call 17; refine (iorder_c _ _ x y _ i7 i8).mono ?_; rintro e W0 ⟨rfl, hb⟩; obtain ⟨q, hqq⟩ : ∃ q, cmpI x y = q := ⟨_, rfl⟩; rw [hqq])
  have hB := hB.trans (hb.mono hB.size)
  have n5 := n5.below hb
  have i5 := i5.below hb
  have n6 := n6.below hb
  have i6 := i6.below hb
  have n7 := n7.below hb
  have i7 := i7.below hb
  have n8 := n8.below hb
  have i8 := i8.below hb
  have n9 := n9.below hb
  have i9 := i9.below hb
  have n10 := n10.below hb
  have i10 := i10.below hb
  have HQ := hidD hqq
  clear hb hqq
  obtain ⟨S1, hS1⟩ : ∃ S : ByteArray, (⟨(decZ (x + y)).toArray⟩ : ByteArray) = S := ⟨_, rfl⟩
  obtain ⟨S2, hS2⟩ : ∃ S : ByteArray, (⟨(decZ (x - y)).toArray⟩ : ByteArray) = S := ⟨_, rfl⟩
  obtain ⟨Sx, hSx⟩ : ∃ S : ByteArray, (⟨(decZ (x)).toArray⟩ : ByteArray) = S := ⟨_, rfl⟩
  obtain ⟨Sy, hSy⟩ : ∃ S : ByteArray, (⟨(decZ (y)).toArray⟩ : ByteArray) = S := ⟨_, rfl⟩
  have TI9 := hidD (fun (V : World) (h : Below W0.heap.size W0 V) => show Calls Tryd.prog 8 #[.agg #[.bool s9, .slice a9 l9 c9]] V fun e w' => e = .returned (.string S1) ∧ Below V.heap.size V w' by
    have h1 := itext_c _ _ V (i9.below h) (tab_below HT.out (hB.trans (h.mono hB.size)))
    rw [hS1] at h1
    exact h1)
  have TI10 := hidD (fun (V : World) (h : Below W0.heap.size W0 V) => show Calls Tryd.prog 8 #[.agg #[.bool s10, .slice a10 l10 c10]] V fun e w' => e = .returned (.string S2) ∧ Below V.heap.size V w' by
    have h1 := itext_c _ _ V (i10.below h) (tab_below HT.out (hB.trans (h.mono hB.size)))
    rw [hS2] at h1
    exact h1)
  have TI7 := hidD (fun (V : World) (h : Below W0.heap.size W0 V) => show Calls Tryd.prog 8 #[.agg #[.bool s7, .slice a7 l7 c7]] V fun e w' => e = .returned (.string Sx) ∧ Below V.heap.size V w' by
    have h1 := itext_c _ _ V (i7.below h) (tab_below HT.out (hB.trans (h.mono hB.size)))
    rw [hSx] at h1
    exact h1)
  have TI8 := hidD (fun (V : World) (h : Below W0.heap.size W0 V) => show Calls Tryd.prog 8 #[.agg #[.bool s8, .slice a8 l8 c8]] V fun e w' => e = .returned (.string Sy) ∧ Below V.heap.size V w' by
    have h1 := itext_c _ _ V (i8.below h) (tab_below HT.out (hB.trans (h.mono hB.size)))
    rw [hSy] at h1
    exact h1)
  have SM := hidD (fun (V : World) (h : Below W0.heap.size W0 V) => sum_c _ _ x y V (i5.below h) (i6.below h) hx.size hy.size)
  have LS := hidD (fun (V : World) (h : Below W0.heap.size W0 V) => rless_c _ _ x y V (i5.below h) (i6.below h) hx.size hy.size)
  have RO := hidD (fun (V : World) (h : Below W0.heap.size W0 V) => show Calls Tryd.prog 20 #[.agg #[.slice a5 l5 c5, .bool s5], .agg #[.slice a6 l6 c6, .bool s6]] V fun e w' => e = .returned (.int .i64 q) ∧ Below V.heap.size V w' by
    have h1 := rorder_c _ _ x y V (i5.below h) (i6.below h) hx.size hy.size
    rw [HQ.out] at h1
    exact h1)
  have TR1 := hidD (fun (V : World) (v : Value) (h : IsBig V v (x + y)) => show Calls Tryd.prog 9 #[v] V fun e w' => e = .returned (.string S1) ∧ Below V.heap.size V w' by
    have h1 := text_c v _ V h (sz_two hx.sz hy.sz (by omega))
    rw [hS1] at h1
    exact h1)
  have TR2 := hidD (fun (V : World) (v : Value) (h : IsBig V v (x - y)) => show Calls Tryd.prog 9 #[v] V fun e w' => e = .returned (.string S2) ∧ Below V.heap.size V w' by
    have h1 := text_c v _ V h (sz_two hx.sz hy.sz (by omega))
    rw [hS2] at h1
    exact h1)
  have TR5 := hidD (fun (V : World) (h : Below W0.heap.size W0 V) => show Calls Tryd.prog 9 #[.agg #[.slice a5 l5 c5, .bool s5]] V fun e w' => e = .returned (.string Sx) ∧ Below V.heap.size V w' by
    have h1 := text_c _ x V (i5.below h) hx.size
    rw [hSx] at h1
    exact h1)
  have TR6 := hidD (fun (V : World) (h : Below W0.heap.size W0 V) => show Calls Tryd.prog 9 #[.agg #[.slice a6 l6 c6, .bool s6]] V fun e w' => e = .returned (.string Sy) ∧ Below V.heap.size V w' by
    have h1 := text_c _ y V (i6.below h) hy.size
    rw [hSy] at h1
    exact h1)
  have AL := hidD (fun (V : World) (h : Below W0.heap.size W0 V) => alive_c V (tab_below HT.out (hB.trans (h.mono hB.size))))
  clear hS1 hS2 hSx hSy i5 i6 i7 i8 i9 i10 k5a k5b k6a k6b k7a k7b k8a k8b k9a k9b k10a k10b
  have hq : Below W0.heap.size W0 W0.drew := (Below.refl _ W0).drew
  have k5a := n5.c0
  have k5b := n5.c1
  have k6a := n6.c0
  have k6b := n6.c1
  have k7a := n7.c0
  have k7b := n7.c1
  have k8a := n8.c0
  have k8b := n8.c1
  have k9a := n9.c0
  have k9b := n9.c1
  have k10a := n10.c0
  have k10b := n10.c1
  go_region_held3 (fun w' => w'.cell? ⟨B5, 0, none⟩ = some (.slice a5 l5 c5) ∧ w'.cell? ⟨B5, 1, none⟩ = some (.bool s5) ∧ w'.cell? ⟨B6, 0, none⟩ = some (.slice a6 l6 c6) ∧ w'.cell? ⟨B6, 1, none⟩ = some (.bool s6) ∧ w'.cell? ⟨B7, 0, none⟩ = some (.bool s7) ∧ w'.cell? ⟨B7, 1, none⟩ = some (.slice a7 l7 c7) ∧ w'.cell? ⟨B8, 0, none⟩ = some (.bool s8) ∧ w'.cell? ⟨B8, 1, none⟩ = some (.slice a8 l8 c8) ∧ w'.cell? ⟨B9, 0, none⟩ = some (.bool s9) ∧ w'.cell? ⟨B9, 1, none⟩ = some (.slice a9 l9 c9) ∧ w'.cell? ⟨B10, 0, none⟩ = some (.bool s10) ∧ w'.cell? ⟨B10, 1, none⟩ = some (.slice a10 l10 c10)) (first | (exact ⟨k5a, k5b, k6a, k6b, k7a, k7b, k8a, k8b, k9a, k9b, k10a, k10b⟩) | (refine ⟨?_, ?_, ?_, ?_, ?_, ?_, ?_, ?_, ?_, ?_, ?_, ?_⟩ <;> (go_keep; done)))
    (first
      | (go_at_call 8; refine (TI9.out _ hq).mono ?_; clear TI9; rintro e w8 ⟨rfl, hb8⟩; clear k5a k5b k6a k6b k7a k7b k8a k8b k9a k9b k10a k10b; have hq := Below.then hq hb8; have k5a := (n5.below hq).c0; have k5b := (n5.below hq).c1; have k6a := (n6.below hq).c0; have k6b := (n6.below hq).c1; have k7a := (n7.below hq).c0; have k7b := (n7.below hq).c1; have k8a := (n8.below hq).c0; have k8b := (n8.below hq).c1; have k9a := (n9.below hq).c0; have k9b := (n9.below hq).c1; have k10a := (n10.below hq).c0; have k10b := (n10.below hq).c1)
      | (go_at_call 8; refine (TI10.out _ hq).mono ?_; clear TI10; rintro e w8 ⟨rfl, hb8⟩; clear k5a k5b k6a k6b k7a k7b k8a k8b k9a k9b k10a k10b; have hq := Below.then hq hb8; have k5a := (n5.below hq).c0; have k5b := (n5.below hq).c1; have k6a := (n6.below hq).c0; have k6b := (n6.below hq).c1; have k7a := (n7.below hq).c0; have k7b := (n7.below hq).c1; have k8a := (n8.below hq).c0; have k8b := (n8.below hq).c1; have k9a := (n9.below hq).c0; have k9b := (n9.below hq).c1; have k10a := (n10.below hq).c0; have k10b := (n10.below hq).c1)
      | (go_at_call 8; refine (TI7.out _ hq).mono ?_; clear TI7; rintro e w8 ⟨rfl, hb8⟩; clear k5a k5b k6a k6b k7a k7b k8a k8b k9a k9b k10a k10b; have hq := Below.then hq hb8; have k5a := (n5.below hq).c0; have k5b := (n5.below hq).c1; have k6a := (n6.below hq).c0; have k6b := (n6.below hq).c1; have k7a := (n7.below hq).c0; have k7b := (n7.below hq).c1; have k8a := (n8.below hq).c0; have k8b := (n8.below hq).c1; have k9a := (n9.below hq).c0; have k9b := (n9.below hq).c1; have k10a := (n10.below hq).c0; have k10b := (n10.below hq).c1)
      | (go_at_call 8; refine (TI8.out _ hq).mono ?_; clear TI8; rintro e w8 ⟨rfl, hb8⟩; clear k5a k5b k6a k6b k7a k7b k8a k8b k9a k9b k10a k10b; have hq := Below.then hq hb8; have k5a := (n5.below hq).c0; have k5b := (n5.below hq).c1; have k6a := (n6.below hq).c0; have k6b := (n6.below hq).c1; have k7a := (n7.below hq).c0; have k7b := (n7.below hq).c1; have k8a := (n8.below hq).c0; have k8b := (n8.below hq).c1; have k9a := (n9.below hq).c0; have k9b := (n9.below hq).c1; have k10a := (n10.below hq).c0; have k10b := (n10.below hq).c1)
      | (go_at_call 18; refine (SM.out _ hq).mono ?_; rintro e w8 ⟨v8, rfl, h4, hb8⟩; obtain ⟨a4, l4, c4, rfl⟩ := h4.form; obtain ⟨s4, hs4⟩ : ∃ b, decide (x + y < 0) = b := ⟨_, rfl⟩; rw [hs4] at h4; rw [hs4]; clear hs4; clear k5a k5b k6a k6b k7a k7b k8a k8b k9a k9b k10a k10b; have hq := Below.then hq hb8; have k5a := (n5.below hq).c0; have k5b := (n5.below hq).c1; have k6a := (n6.below hq).c0; have k6b := (n6.below hq).c1; have k7a := (n7.below hq).c0; have k7b := (n7.below hq).c1; have k8a := (n8.below hq).c0; have k8b := (n8.below hq).c1; have k9a := (n9.below hq).c0; have k9b := (n9.below hq).c1; have k10a := (n10.below hq).c0; have k10b := (n10.below hq).c1)
      | (go_at_call 9; refine (TR1.out _ _ h4).mono ?_; clear TR1; rintro e w8 ⟨rfl, hb8⟩; clear k5a k5b k6a k6b k7a k7b k8a k8b k9a k9b k10a k10b; have hq := Below.then hq hb8; have k5a := (n5.below hq).c0; have k5b := (n5.below hq).c1; have k6a := (n6.below hq).c0; have k6b := (n6.below hq).c1; have k7a := (n7.below hq).c0; have k7b := (n7.below hq).c1; have k8a := (n8.below hq).c0; have k8b := (n8.below hq).c1; have k9a := (n9.below hq).c0; have k9b := (n9.below hq).c1; have k10a := (n10.below hq).c0; have k10b := (n10.below hq).c1)
      | (go_at_call 19; refine (LS.out _ hq).mono ?_; rintro e w8 ⟨v8, rfl, h12, hb8⟩; obtain ⟨a12, l12, c12, rfl⟩ := h12.form; obtain ⟨s12, hs12⟩ : ∃ b, decide (x - y < 0) = b := ⟨_, rfl⟩; rw [hs12] at h12; rw [hs12]; clear hs12; clear k5a k5b k6a k6b k7a k7b k8a k8b k9a k9b k10a k10b; have hq := Below.then hq hb8; have k5a := (n5.below hq).c0; have k5b := (n5.below hq).c1; have k6a := (n6.below hq).c0; have k6b := (n6.below hq).c1; have k7a := (n7.below hq).c0; have k7b := (n7.below hq).c1; have k8a := (n8.below hq).c0; have k8b := (n8.below hq).c1; have k9a := (n9.below hq).c0; have k9b := (n9.below hq).c1; have k10a := (n10.below hq).c0; have k10b := (n10.below hq).c1)
      | (go_at_call 9; refine (TR2.out _ _ h12).mono ?_; clear TR2; rintro e w8 ⟨rfl, hb8⟩; clear k5a k5b k6a k6b k7a k7b k8a k8b k9a k9b k10a k10b; have hq := Below.then hq hb8; have k5a := (n5.below hq).c0; have k5b := (n5.below hq).c1; have k6a := (n6.below hq).c0; have k6b := (n6.below hq).c1; have k7a := (n7.below hq).c0; have k7b := (n7.below hq).c1; have k8a := (n8.below hq).c0; have k8b := (n8.below hq).c1; have k9a := (n9.below hq).c0; have k9b := (n9.below hq).c1; have k10a := (n10.below hq).c0; have k10b := (n10.below hq).c1)
      | (go_at_call 20; refine (RO.out _ hq).mono ?_; rintro e w8 ⟨rfl, hb8⟩; clear k5a k5b k6a k6b k7a k7b k8a k8b k9a k9b k10a k10b; have hq := Below.then hq hb8; have k5a := (n5.below hq).c0; have k5b := (n5.below hq).c1; have k6a := (n6.below hq).c0; have k6b := (n6.below hq).c1; have k7a := (n7.below hq).c0; have k7b := (n7.below hq).c1; have k8a := (n8.below hq).c0; have k8b := (n8.below hq).c1; have k9a := (n9.below hq).c0; have k9b := (n9.below hq).c1; have k10a := (n10.below hq).c0; have k10b := (n10.below hq).c1)
      | (go_at_call 9; refine (TR5.out _ hq).mono ?_; clear TR5; rintro e w8 ⟨rfl, hb8⟩; clear k5a k5b k6a k6b k7a k7b k8a k8b k9a k9b k10a k10b; have hq := Below.then hq hb8; have k5a := (n5.below hq).c0; have k5b := (n5.below hq).c1; have k6a := (n6.below hq).c0; have k6b := (n6.below hq).c1; have k7a := (n7.below hq).c0; have k7b := (n7.below hq).c1; have k8a := (n8.below hq).c0; have k8b := (n8.below hq).c1; have k9a := (n9.below hq).c0; have k9b := (n9.below hq).c1; have k10a := (n10.below hq).c0; have k10b := (n10.below hq).c1)
      | (go_at_call 9; refine (TR6.out _ hq).mono ?_; clear TR6; rintro e w8 ⟨rfl, hb8⟩; clear k5a k5b k6a k6b k7a k7b k8a k8b k9a k9b k10a k10b; have hq := Below.then hq hb8; have k5a := (n5.below hq).c0; have k5b := (n5.below hq).c1; have k6a := (n6.below hq).c0; have k6b := (n6.below hq).c1; have k7a := (n7.below hq).c0; have k7b := (n7.below hq).c1; have k8a := (n8.below hq).c0; have k8b := (n8.below hq).c1; have k9a := (n9.below hq).c0; have k9b := (n9.below hq).c1; have k10a := (n10.below hq).c0; have k10b := (n10.below hq).c1)
      | (go_at_call 12; refine (AL.out _ hq).mono ?_; rintro e w8 ⟨rfl, hb8⟩; clear k5a k5b k6a k6b k7a k7b k8a k8b k9a k9b k10a k10b; have hq := Below.then hq hb8; have k5a := (n5.below hq).c0; have k5b := (n5.below hq).c1; have k6a := (n6.below hq).c0; have k6b := (n6.below hq).c1; have k7a := (n7.below hq).c0; have k7b := (n7.below hq).c1; have k8a := (n8.below hq).c0; have k8b := (n8.below hq).c1; have k9a := (n9.below hq).c0; have k9b := (n9.below hq).c1; have k10a := (n10.below hq).c0; have k10b := (n10.below hq).c1))
  all_goals
    have hB9 := hB.trans (hq.mono hB.size)
    clear hq
    try go_wp2
    go_ret
    exact ⟨rfl, hB9⟩
end Go.Proofs.YtjmmnpfedhkjbaaDoor
