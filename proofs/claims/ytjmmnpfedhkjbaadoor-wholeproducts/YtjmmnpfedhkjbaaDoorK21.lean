import Derived.Test.YtjmmnpfedhkjbaaDoorK20
import Derived.Test.YtjmmnpfedhkjbaaDoorK19
import Derived.Test.YtjmmnpfedhkjbaaDoorK17
import Derived.Test.YtjmmnpfedhkjbaaDoorK06
import Derived.Lib.BitFns
namespace Go.Proofs.YtjmmnpfedhkjbaaDoor
open Go.RowKit Go.Shelf

attribute [local go_sem] Oper.semAt_some

theorem Small.sz {z : Int} (h : Small z) : szB z ≤ 2000 := by
  have := good_size h.good.1 (B := 10000) (by omega)
  rw [h.good.2] at this
  unfold szB; exact this

theorem sz_pow {x y z : Int} {k : Nat} (hx : szB x ≤ k) (hy : szB y ≤ k) (hz : z.natAbs ≤ x.natAbs + y.natAbs) : szB z ≤ k + 1 := by
  unfold szB at *
  have h1 := val_lt (dig_limbs (B := 10000) (by omega) x.natAbs)
  have h2 := val_lt (dig_limbs (B := 10000) (by omega) y.natAbs)
  rw [val_limbs (by omega)] at h1 h2
  have h3 : (10000 : Nat) ^ (limbs 10000 x.natAbs).length ≤ 10000 ^ k := Nat.pow_le_pow_right (by omega) hx
  have h4 : (10000 : Nat) ^ (limbs 10000 y.natAbs).length ≤ 10000 ^ k := Nat.pow_le_pow_right (by omega) hy
  have h6 : (10000 : Nat) ^ (k + 1) = 10000 ^ k * 10000 := Nat.pow_succ ..
  exact limbs_length_le (B := 10000) (by omega) (n := z.natAbs) (k := k + 1) (by rw [h6]; omega)

theorem sz_two {x y z : Int} (hx : szB x ≤ 2000) (hy : szB y ≤ 2000) (hz : z.natAbs ≤ x.natAbs + y.natAbs) : szB z ≤ 1000000000 :=
  Nat.le_trans (sz_pow hx hy hz) (by omega)

set_option maxRecDepth 100000 in
set_option maxHeartbeats 4000000 in
theorem wholeSums_c (s r : ByteArray) (hs : s.size ≤ 140737488351232) (hr : r.size ≤ 140737488351232) (w : World) (htab : Lib.TabIs Tryd.prog w "internal/strconv.uint64pow10" .u64 Lib.pow10Tab) :
    Calls Tryd.prog 4 #[.string s, .string r] w fun e w' => e = .returned (.bool true) ∧ Below w.heap.size w w' := by
  have HT := hidD htab
  have hmx : Tryd.prog.follows .mixedOrders = true := by kernel_rfl
  clear htab
  have hB : Below w.heap.size w w := Below.refl _ w
  go_enter Tryd.func4, Tryd.ntmps4
  go_upto_region 2 with (go_at_call 13; refine (lread_c s hs _).mono ?_; rintro e w5 ⟨u, x, rfl, hu, hx, hb⟩; obtain ⟨a5, l5, c5, rfl⟩ := hu.form; obtain ⟨s5, hsg⟩ : ∃ b, decide (x < 0) = b := ⟨_, rfl⟩; rw [hsg] at hu; rw [hsg]; clear hsg)
  obtain ⟨V5, hV⟩ : ∃ V, w5.alloc (.cells #[.slice a5 l5 c5, .bool s5] 30) = V := ⟨_, rfl⟩
  have lift : Below w.heap.size w V5 := by rw [← hV]; exact hb.alloc hb.size _
  have n5 : Box2 V5 w5.heap.size 30 (.slice a5 l5 c5) (.bool s5) := by rw [← hV]; exact Box2.new _ _ _ _
  have i5 : IsBig V5 (.agg #[.slice a5 l5 c5, .bool s5]) (x) := by rw [← hV]; exact hu.alloc _
  obtain ⟨B5, hBk⟩ : ∃ B, B = w5.heap.size := ⟨_, rfl⟩
  rw [hV]
  rw [← hBk] at n5 ⊢
  have hB := hB.trans (lift.mono hB.size)
  clear hV hBk hb hu lift
  have k5a := n5.c0
  have k5b := n5.c1
  go_upto_region 3 with (go_at_call 13; refine (lread_c r hr _).mono ?_; rintro e w6 ⟨u, y, rfl, hu, hy, hb⟩; obtain ⟨a6, l6, c6, rfl⟩ := hu.form; obtain ⟨s6, hsg⟩ : ∃ b, decide (y < 0) = b := ⟨_, rfl⟩; rw [hsg] at hu; rw [hsg]; clear hsg)
  obtain ⟨V6, hV⟩ : ∃ V, w6.alloc (.cells #[.slice a6 l6 c6, .bool s6] 30) = V := ⟨_, rfl⟩
  have lift : Below V5.heap.size V5 V6 := by rw [← hV]; exact hb.alloc hb.size _
  have n6 : Box2 V6 w6.heap.size 30 (.slice a6 l6 c6) (.bool s6) := by rw [← hV]; exact Box2.new _ _ _ _
  have i6 : IsBig V6 (.agg #[.slice a6 l6 c6, .bool s6]) (y) := by rw [← hV]; exact hu.alloc _
  obtain ⟨B6, hBk⟩ : ∃ B, B = w6.heap.size := ⟨_, rfl⟩
  rw [hV]
  rw [← hBk] at n6 ⊢
  have hB := hB.trans (lift.mono hB.size)
  have n5 := n5.below lift
  have i5 := i5.below lift
  clear hV hBk hb hu lift
  have k5a := n5.c0
  have k5b := n5.c1
  have k6a := n6.c0
  have k6b := n6.c1
  go_upto_region 4 with (go_at_call 14; refine (given_c _ x _ i5 hx).mono ?_; rintro e w7 ⟨u, rfl, hu, hb⟩; obtain ⟨a7, l7, c7, rfl⟩ := hu.form; obtain ⟨s7, hsg⟩ : ∃ b, decide (x < 0) = b := ⟨_, rfl⟩; rw [hsg] at hu; rw [hsg]; clear hsg)
  obtain ⟨V7, hV⟩ : ∃ V, w7.alloc (.cells #[.bool s7, .slice a7 l7 c7] 25) = V := ⟨_, rfl⟩
  have lift : Below V6.heap.size V6 V7 := by rw [← hV]; exact hb.alloc hb.size _
  have n7 : Box2 V7 w7.heap.size 25 (.bool s7) (.slice a7 l7 c7) := by rw [← hV]; exact Box2.new _ _ _ _
  have i7 : IsInt V7 (.agg #[.bool s7, .slice a7 l7 c7]) (x) := by rw [← hV]; exact hu.alloc _
  obtain ⟨B7, hBk⟩ : ∃ B, B = w7.heap.size := ⟨_, rfl⟩
  rw [hV]
  rw [← hBk] at n7 ⊢
  have hB := hB.trans (lift.mono hB.size)
  have n5 := n5.below lift
  have i5 := i5.below lift
  have n6 := n6.below lift
  have i6 := i6.below lift
  clear hV hBk hb hu lift
  have k5a := n5.c0
  have k5b := n5.c1
  have k6a := n6.c0
  have k6b := n6.c1
  have k7a := n7.c0
  have k7b := n7.c1
  go_upto_region 5 with (go_at_call 14; refine (given_c _ y _ i6 hy).mono ?_; rintro e w8 ⟨u, rfl, hu, hb⟩; obtain ⟨a8, l8, c8, rfl⟩ := hu.form; obtain ⟨s8, hsg⟩ : ∃ b, decide (y < 0) = b := ⟨_, rfl⟩; rw [hsg] at hu; rw [hsg]; clear hsg)
  obtain ⟨V8, hV⟩ : ∃ V, w8.alloc (.cells #[.bool s8, .slice a8 l8 c8] 25) = V := ⟨_, rfl⟩
  have lift : Below V7.heap.size V7 V8 := by rw [← hV]; exact hb.alloc hb.size _
  have n8 : Box2 V8 w8.heap.size 25 (.bool s8) (.slice a8 l8 c8) := by rw [← hV]; exact Box2.new _ _ _ _
  have i8 : IsInt V8 (.agg #[.bool s8, .slice a8 l8 c8]) (y) := by rw [← hV]; exact hu.alloc _
  obtain ⟨B8, hBk⟩ : ∃ B, B = w8.heap.size := ⟨_, rfl⟩
  rw [hV]
  rw [← hBk] at n8 ⊢
  have hB := hB.trans (lift.mono hB.size)
  have n5 := n5.below lift
  have i5 := i5.below lift
  have n6 := n6.below lift
  have i6 := i6.below lift
  have n7 := n7.below lift
  have i7 := i7.below lift
  clear hV hBk hb hu lift
  have k5a := n5.c0
  have k5b := n5.c1
  have k6a := n6.c0
  have k6b := n6.c1
  have k7a := n7.c0
  have k7b := n7.c1
  have k8a := n8.c0
  have k8b := n8.c1
  go_upto_region 6 with (go_at_call 15; refine (iplus_c _ _ x y _ i7 i8 hx.words hy.words).mono ?_; rintro e w9 ⟨u, rfl, hu, hb⟩; obtain ⟨a9, l9, c9, rfl⟩ := hu.form; obtain ⟨s9, hsg⟩ : ∃ b, decide (x + y < 0) = b := ⟨_, rfl⟩; rw [hsg] at hu; rw [hsg]; clear hsg)
  obtain ⟨V9, hV⟩ : ∃ V, w9.alloc (.cells #[.bool s9, .slice a9 l9 c9] 25) = V := ⟨_, rfl⟩
  have lift : Below V8.heap.size V8 V9 := by rw [← hV]; exact hb.alloc hb.size _
  have n9 : Box2 V9 w9.heap.size 25 (.bool s9) (.slice a9 l9 c9) := by rw [← hV]; exact Box2.new _ _ _ _
  have i9 : IsInt V9 (.agg #[.bool s9, .slice a9 l9 c9]) (x + y) := by rw [← hV]; exact hu.alloc _
  obtain ⟨B9, hBk⟩ : ∃ B, B = w9.heap.size := ⟨_, rfl⟩
  rw [hV]
  rw [← hBk] at n9 ⊢
  have hB := hB.trans (lift.mono hB.size)
  have n5 := n5.below lift
  have i5 := i5.below lift
  have n6 := n6.below lift
  have i6 := i6.below lift
  have n7 := n7.below lift
  have i7 := i7.below lift
  have n8 := n8.below lift
  have i8 := i8.below lift
  clear hV hBk hb hu lift
  have k5a := n5.c0
  have k5b := n5.c1
  have k6a := n6.c0
  have k6b := n6.c1
  have k7a := n7.c0
  have k7b := n7.c1
  have k8a := n8.c0
  have k8b := n8.c1
  have k9a := n9.c0
  have k9b := n9.c1
  go_upto_region 7 with (go_at_call 16; refine (iminus_c _ _ x y _ i7 i8 hx.words hy.words).mono ?_; rintro e w10 ⟨u, rfl, hu, hb⟩; obtain ⟨a10, l10, c10, rfl⟩ := hu.form; obtain ⟨s10, hsg⟩ : ∃ b, decide (x - y < 0) = b := ⟨_, rfl⟩; rw [hsg] at hu; rw [hsg]; clear hsg)
  obtain ⟨V10, hV⟩ : ∃ V, w10.alloc (.cells #[.bool s10, .slice a10 l10 c10] 25) = V := ⟨_, rfl⟩
  have lift : Below V9.heap.size V9 V10 := by rw [← hV]; exact hb.alloc hb.size _
  have n10 : Box2 V10 w10.heap.size 25 (.bool s10) (.slice a10 l10 c10) := by rw [← hV]; exact Box2.new _ _ _ _
  have i10 : IsInt V10 (.agg #[.bool s10, .slice a10 l10 c10]) (x - y) := by rw [← hV]; exact hu.alloc _
  obtain ⟨B10, hBk⟩ : ∃ B, B = w10.heap.size := ⟨_, rfl⟩
  rw [hV]
  rw [← hBk] at n10 ⊢
  have hB := hB.trans (lift.mono hB.size)
  have n5 := n5.below lift
  have i5 := i5.below lift
  have n6 := n6.below lift
  have i6 := i6.below lift
  have n7 := n7.below lift
  have i7 := i7.below lift
  have n8 := n8.below lift
  have i8 := i8.below lift
  have n9 := n9.below lift
  have i9 := i9.below lift
  clear hV hBk hb hu lift
  have k5a := n5.c0
  have k5b := n5.c1
  have k6a := n6.c0
  have k6b := n6.c1
  have k7a := n7.c0
  have k7b := n7.c1
  have k8a := n8.c0
  have k8b := n8.c1
  have k9a := n9.c0
  have k9b := n9.c1
  have k10a := n10.c0
  have k10b := n10.c1
  go_upto_region 8 with (go_at_call 17; refine (iorder_c _ _ x y _ i7 i8).mono ?_; rintro e W0 ⟨rfl, hb⟩; obtain ⟨q, hqq⟩ : ∃ q, cmpI x y = q := ⟨_, rfl⟩; rw [hqq])
  have hB := hB.trans (hb.mono hB.size)
  have n5 := n5.below hb
  have i5 := i5.below hb
  have n6 := n6.below hb
  have i6 := i6.below hb
  have n7 := n7.below hb
  have i7 := i7.below hb
  have n8 := n8.below hb
  have i8 := i8.below hb
  have n9 := n9.below hb
  have i9 := i9.below hb
  have n10 := n10.below hb
  have i10 := i10.below hb
  have HQ := hidD hqq
  clear hb hqq
  obtain ⟨S1, hS1⟩ : ∃ S : ByteArray, (⟨(decZ (x + y)).toArray⟩ : ByteArray) = S := ⟨_, rfl⟩
  obtain ⟨S2, hS2⟩ : ∃ S : ByteArray, (⟨(decZ (x - y)).toArray⟩ : ByteArray) = S := ⟨_, rfl⟩
  obtain ⟨Sx, hSx⟩ : ∃ S : ByteArray, (⟨(decZ (x)).toArray⟩ : ByteArray) = S := ⟨_, rfl⟩
  obtain ⟨Sy, hSy⟩ : ∃ S : ByteArray, (⟨(decZ (y)).toArray⟩ : ByteArray) = S := ⟨_, rfl⟩
  have TI9 := hidD (fun (V : World) (h : Below W0.heap.size W0 V) => show Calls Tryd.prog 8 #[.agg #[.bool s9, .slice a9 l9 c9]] V fun e w' => e = .returned (.string S1) ∧ Below V.heap.size V w' by
    have h1 := itext_c _ _ V (i9.below h) (tab_below HT.out (hB.trans (h.mono hB.size)))
    rw [hS1] at h1
    exact h1)
  have TI10 := hidD (fun (V : World) (h : Below W0.heap.size W0 V) => show Calls Tryd.prog 8 #[.agg #[.bool s10, .slice a10 l10 c10]] V fun e w' => e = .returned (.string S2) ∧ Below V.heap.size V w' by
    have h1 := itext_c _ _ V (i10.below h) (tab_below HT.out (hB.trans (h.mono hB.size)))
    rw [hS2] at h1
    exact h1)
  have TI7 := hidD (fun (V : World) (h : Below W0.heap.size W0 V) => show Calls Tryd.prog 8 #[.agg #[.bool s7, .slice a7 l7 c7]] V fun e w' => e = .returned (.string Sx) ∧ Below V.heap.size V w' by
    have h1 := itext_c _ _ V (i7.below h) (tab_below HT.out (hB.trans (h.mono hB.size)))
    rw [hSx] at h1
    exact h1)
  have TI8 := hidD (fun (V : World) (h : Below W0.heap.size W0 V) => show Calls Tryd.prog 8 #[.agg #[.bool s8, .slice a8 l8 c8]] V fun e w' => e = .returned (.string Sy) ∧ Below V.heap.size V w' by
    have h1 := itext_c _ _ V (i8.below h) (tab_below HT.out (hB.trans (h.mono hB.size)))
    rw [hSy] at h1
    exact h1)
  have SM := hidD (fun (V : World) (h : Below W0.heap.size W0 V) => sum_c _ _ x y V (i5.below h) (i6.below h) hx.size hy.size)
  have LS := hidD (fun (V : World) (h : Below W0.heap.size W0 V) => rless_c _ _ x y V (i5.below h) (i6.below h) hx.size hy.size)
  have RO := hidD (fun (V : World) (h : Below W0.heap.size W0 V) => show Calls Tryd.prog 20 #[.agg #[.slice a5 l5 c5, .bool s5], .agg #[.slice a6 l6 c6, .bool s6]] V fun e w' => e = .returned (.int .i64 q) ∧ Below V.heap.size V w' by
    have h1 := rorder_c _ _ x y V (i5.below h) (i6.below h) hx.size hy.size
    rw [HQ.out] at h1
    exact h1)
  have TR1 := hidD (fun (V : World) (v : Value) (h : IsBig V v (x + y)) => show Calls Tryd.prog 9 #[v] V fun e w' => e = .returned (.string S1) ∧ Below V.heap.size V w' by
    have h1 := text_c v _ V h (sz_two hx.sz hy.sz (by omega))
    rw [hS1] at h1
    exact h1)
  have TR2 := hidD (fun (V : World) (v : Value) (h : IsBig V v (x - y)) => show Calls Tryd.prog 9 #[v] V fun e w' => e = .returned (.string S2) ∧ Below V.heap.size V w' by
    have h1 := text_c v _ V h (sz_two hx.sz hy.sz (by omega))
    rw [hS2] at h1
    exact h1)
  have TR5 := hidD (fun (V : World) (h : Below W0.heap.size W0 V) => show Calls Tryd.prog 9 #[.agg #[.slice a5 l5 c5, .bool s5]] V fun e w' => e = .returned (.string Sx) ∧ Below V.heap.size V w' by
    have h1 := text_c _ x V (i5.below h) hx.size
    rw [hSx] at h1
    exact h1)
  have TR6 := hidD (fun (V : World) (h : Below W0.heap.size W0 V) => show Calls Tryd.prog 9 #[.agg #[.slice a6 l6 c6, .bool s6]] V fun e w' => e = .returned (.string Sy) ∧ Below V.heap.size V w' by
    have h1 := text_c _ y V (i6.below h) hy.size
    rw [hSy] at h1
    exact h1)
  have AL := hidD (fun (V : World) (h : Below W0.heap.size W0 V) => alive_c V (tab_below HT.out (hB.trans (h.mono hB.size))))
  clear hS1 hS2 hSx hSy i5 i6 i7 i8 i9 i10 k5a k5b k6a k6b k7a k7b k8a k8b k9a k9b k10a k10b
  have hq : Below W0.heap.size W0 W0.drew := (Below.refl _ W0).drew
  have k5a := n5.c0
  have k5b := n5.c1
  have k6a := n6.c0
  have k6b := n6.c1
  have k7a := n7.c0
  have k7b := n7.c1
  have k8a := n8.c0
  have k8b := n8.c1
  have k9a := n9.c0
  have k9b := n9.c1
  have k10a := n10.c0
  have k10b := n10.c1
  go_region_held3 (fun w' => w'.cell? ⟨B5, 0, none⟩ = some (.slice a5 l5 c5) ∧ w'.cell? ⟨B5, 1, none⟩ = some (.bool s5) ∧ w'.cell? ⟨B6, 0, none⟩ = some (.slice a6 l6 c6) ∧ w'.cell? ⟨B6, 1, none⟩ = some (.bool s6) ∧ w'.cell? ⟨B7, 0, none⟩ = some (.bool s7) ∧ w'.cell? ⟨B7, 1, none⟩ = some (.slice a7 l7 c7) ∧ w'.cell? ⟨B8, 0, none⟩ = some (.bool s8) ∧ w'.cell? ⟨B8, 1, none⟩ = some (.slice a8 l8 c8) ∧ w'.cell? ⟨B9, 0, none⟩ = some (.bool s9) ∧ w'.cell? ⟨B9, 1, none⟩ = some (.slice a9 l9 c9) ∧ w'.cell? ⟨B10, 0, none⟩ = some (.bool s10) ∧ w'.cell? ⟨B10, 1, none⟩ = some (.slice a10 l10 c10)) (first | (exact ⟨k5a, k5b, k6a, k6b, k7a, k7b, k8a, k8b, k9a, k9b, k10a, k10b⟩) | (refine ⟨?_, ?_, ?_, ?_, ?_, ?_, ?_, ?_, ?_, ?_, ?_, ?_⟩ <;> (go_keep; done)))
    (first
      | (go_at_call 8; refine (TI9.out _ hq).mono ?_; clear TI9; rintro e w8 ⟨rfl, hb8⟩; clear k5a k5b k6a k6b k7a k7b k8a k8b k9a k9b k10a k10b; have hq := Below.then hq hb8; have k5a := (n5.below hq).c0; have k5b := (n5.below hq).c1; have k6a := (n6.below hq).c0; have k6b := (n6.below hq).c1; have k7a := (n7.below hq).c0; have k7b := (n7.below hq).c1; have k8a := (n8.below hq).c0; have k8b := (n8.below hq).c1; have k9a := (n9.below hq).c0; have k9b := (n9.below hq).c1; have k10a := (n10.below hq).c0; have k10b := (n10.below hq).c1)
      | (go_at_call 8; refine (TI10.out _ hq).mono ?_; clear TI10; rintro e w8 ⟨rfl, hb8⟩; clear k5a k5b k6a k6b k7a k7b k8a k8b k9a k9b k10a k10b; have hq := Below.then hq hb8; have k5a := (n5.below hq).c0; have k5b := (n5.below hq).c1; have k6a := (n6.below hq).c0; have k6b := (n6.below hq).c1; have k7a := (n7.below hq).c0; have k7b := (n7.below hq).c1; have k8a := (n8.below hq).c0; have k8b := (n8.below hq).c1; have k9a := (n9.below hq).c0; have k9b := (n9.below hq).c1; have k10a := (n10.below hq).c0; have k10b := (n10.below hq).c1)
      | (go_at_call 8; refine (TI7.out _ hq).mono ?_; clear TI7; rintro e w8 ⟨rfl, hb8⟩; clear k5a k5b k6a k6b k7a k7b k8a k8b k9a k9b k10a k10b; have hq := Below.then hq hb8; have k5a := (n5.below hq).c0; have k5b := (n5.below hq).c1; have k6a := (n6.below hq).c0; have k6b := (n6.below hq).c1; have k7a := (n7.below hq).c0; have k7b := (n7.below hq).c1; have k8a := (n8.below hq).c0; have k8b := (n8.below hq).c1; have k9a := (n9.below hq).c0; have k9b := (n9.below hq).c1; have k10a := (n10.below hq).c0; have k10b := (n10.below hq).c1)
      | (go_at_call 8; refine (TI8.out _ hq).mono ?_; clear TI8; rintro e w8 ⟨rfl, hb8⟩; clear k5a k5b k6a k6b k7a k7b k8a k8b k9a k9b k10a k10b; have hq := Below.then hq hb8; have k5a := (n5.below hq).c0; have k5b := (n5.below hq).c1; have k6a := (n6.below hq).c0; have k6b := (n6.below hq).c1; have k7a := (n7.below hq).c0; have k7b := (n7.below hq).c1; have k8a := (n8.below hq).c0; have k8b := (n8.below hq).c1; have k9a := (n9.below hq).c0; have k9b := (n9.below hq).c1; have k10a := (n10.below hq).c0; have k10b := (n10.below hq).c1)
      | (go_at_call 18; refine (SM.out _ hq).mono ?_; rintro e w8 ⟨v8, rfl, h4, hb8⟩; obtain ⟨a4, l4, c4, rfl⟩ := h4.form; obtain ⟨s4, hs4⟩ : ∃ b, decide (x + y < 0) = b := ⟨_, rfl⟩; rw [hs4] at h4; rw [hs4]; clear hs4; clear k5a k5b k6a k6b k7a k7b k8a k8b k9a k9b k10a k10b; have hq := Below.then hq hb8; have k5a := (n5.below hq).c0; have k5b := (n5.below hq).c1; have k6a := (n6.below hq).c0; have k6b := (n6.below hq).c1; have k7a := (n7.below hq).c0; have k7b := (n7.below hq).c1; have k8a := (n8.below hq).c0; have k8b := (n8.below hq).c1; have k9a := (n9.below hq).c0; have k9b := (n9.below hq).c1; have k10a := (n10.below hq).c0; have k10b := (n10.below hq).c1)
      | (go_at_call 9; refine (TR1.out _ _ h4).mono ?_; clear TR1; rintro e w8 ⟨rfl, hb8⟩; clear k5a k5b k6a k6b k7a k7b k8a k8b k9a k9b k10a k10b; have hq := Below.then hq hb8; have k5a := (n5.below hq).c0; have k5b := (n5.below hq).c1; have k6a := (n6.below hq).c0; have k6b := (n6.below hq).c1; have k7a := (n7.below hq).c0; have k7b := (n7.below hq).c1; have k8a := (n8.below hq).c0; have k8b := (n8.below hq).c1; have k9a := (n9.below hq).c0; have k9b := (n9.below hq).c1; have k10a := (n10.below hq).c0; have k10b := (n10.below hq).c1)
      | (go_at_call 19; refine (LS.out _ hq).mono ?_; rintro e w8 ⟨v8, rfl, h12, hb8⟩; obtain ⟨a12, l12, c12, rfl⟩ := h12.form; obtain ⟨s12, hs12⟩ : ∃ b, decide (x - y < 0) = b := ⟨_, rfl⟩; rw [hs12] at h12; rw [hs12]; clear hs12; clear k5a k5b k6a k6b k7a k7b k8a k8b k9a k9b k10a k10b; have hq := Below.then hq hb8; have k5a := (n5.below hq).c0; have k5b := (n5.below hq).c1; have k6a := (n6.below hq).c0; have k6b := (n6.below hq).c1; have k7a := (n7.below hq).c0; have k7b := (n7.below hq).c1; have k8a := (n8.below hq).c0; have k8b := (n8.below hq).c1; have k9a := (n9.below hq).c0; have k9b := (n9.below hq).c1; have k10a := (n10.below hq).c0; have k10b := (n10.below hq).c1)
      | (go_at_call 9; refine (TR2.out _ _ h12).mono ?_; clear TR2; rintro e w8 ⟨rfl, hb8⟩; clear k5a k5b k6a k6b k7a k7b k8a k8b k9a k9b k10a k10b; have hq := Below.then hq hb8; have k5a := (n5.below hq).c0; have k5b := (n5.below hq).c1; have k6a := (n6.below hq).c0; have k6b := (n6.below hq).c1; have k7a := (n7.below hq).c0; have k7b := (n7.below hq).c1; have k8a := (n8.below hq).c0; have k8b := (n8.below hq).c1; have k9a := (n9.below hq).c0; have k9b := (n9.below hq).c1; have k10a := (n10.below hq).c0; have k10b := (n10.below hq).c1)
      | (go_at_call 20; refine (RO.out _ hq).mono ?_; rintro e w8 ⟨rfl, hb8⟩; clear k5a k5b k6a k6b k7a k7b k8a k8b k9a k9b k10a k10b; have hq := Below.then hq hb8; have k5a := (n5.below hq).c0; have k5b := (n5.below hq).c1; have k6a := (n6.below hq).c0; have k6b := (n6.below hq).c1; have k7a := (n7.below hq).c0; have k7b := (n7.below hq).c1; have k8a := (n8.below hq).c0; have k8b := (n8.below hq).c1; have k9a := (n9.below hq).c0; have k9b := (n9.below hq).c1; have k10a := (n10.below hq).c0; have k10b := (n10.below hq).c1)
      | (go_at_call 9; refine (TR5.out _ hq).mono ?_; clear TR5; rintro e w8 ⟨rfl, hb8⟩; clear k5a k5b k6a k6b k7a k7b k8a k8b k9a k9b k10a k10b; have hq := Below.then hq hb8; have k5a := (n5.below hq).c0; have k5b := (n5.below hq).c1; have k6a := (n6.below hq).c0; have k6b := (n6.below hq).c1; have k7a := (n7.below hq).c0; have k7b := (n7.below hq).c1; have k8a := (n8.below hq).c0; have k8b := (n8.below hq).c1; have k9a := (n9.below hq).c0; have k9b := (n9.below hq).c1; have k10a := (n10.below hq).c0; have k10b := (n10.below hq).c1)
      | (go_at_call 9; refine (TR6.out _ hq).mono ?_; clear TR6; rintro e w8 ⟨rfl, hb8⟩; clear k5a k5b k6a k6b k7a k7b k8a k8b k9a k9b k10a k10b; have hq := Below.then hq hb8; have k5a := (n5.below hq).c0; have k5b := (n5.below hq).c1; have k6a := (n6.below hq).c0; have k6b := (n6.below hq).c1; have k7a := (n7.below hq).c0; have k7b := (n7.below hq).c1; have k8a := (n8.below hq).c0; have k8b := (n8.below hq).c1; have k9a := (n9.below hq).c0; have k9b := (n9.below hq).c1; have k10a := (n10.below hq).c0; have k10b := (n10.below hq).c1)
      | (go_at_call 12; refine (AL.out _ hq).mono ?_; rintro e w8 ⟨rfl, hb8⟩; clear k5a k5b k6a k6b k7a k7b k8a k8b k9a k9b k10a k10b; have hq := Below.then hq hb8; have k5a := (n5.below hq).c0; have k5b := (n5.below hq).c1; have k6a := (n6.below hq).c0; have k6b := (n6.below hq).c1; have k7a := (n7.below hq).c0; have k7b := (n7.below hq).c1; have k8a := (n8.below hq).c0; have k8b := (n8.below hq).c1; have k9a := (n9.below hq).c0; have k9b := (n9.below hq).c1; have k10a := (n10.below hq).c0; have k10b := (n10.below hq).c1))
  all_goals
    have hB9 := hB.trans (hq.mono hB.size)
    clear hq
    try go_wp2
    go_ret
    exact ⟨rfl, hB9⟩
end Go.Proofs.YtjmmnpfedhkjbaaDoor
namespace Go.Proofs.YtjmmnpfedhkjbaaDoor
open Go.RowKit Go.Shelf

attribute [local go_sem] Oper.semAt_some

theorem szB_pow_le (x : Int) (j : Nat) : szB (x ^ j) ≤ szB x * j + 1 := by
  unfold szB
  have h1 := val_lt (dig_limbs (B := 10000) (by omega) x.natAbs)
  rw [val_limbs (by omega)] at h1
  have h2 : x.natAbs ^ j ≤ 10000 ^ ((limbs 10000 x.natAbs).length * j) := by
    rw [Nat.pow_mul]
    exact Nat.pow_le_pow_left (Nat.le_of_lt h1) j
  have h3 : (10000 : Nat) ^ ((limbs 10000 x.natAbs).length * j) < 10000 ^ ((limbs 10000 x.natAbs).length * j + 1) := Nat.pow_lt_pow_right (by omega) (by omega)
  rw [Int.natAbs_pow]
  exact limbs_length_le (by omega) (Nat.lt_of_le_of_lt h2 h3)

set_option maxRecDepth 100000 in
set_option maxHeartbeats 1000000 in
theorem rpower_c (v : Value) (x : Int) (k : Nat) (w : World) (h : IsBig w v x) (hk : k ≤ 200) (hz : szB x * k ≤ 100000000) (hz1 : szB x ≤ 100000000) :
    Calls Tryd.prog 24 #[v, .int .i64 (k : Nat)] w fun e w' => ∃ u, e = .returned u ∧ IsBig w' u (x ^ k) ∧ Below w.heap.size w w' := by
  obtain ⟨a, la, ca, rfl⟩ := h.form
  obtain ⟨s, hs⟩ : ∃ s, decide (x < 0) = s := ⟨_, rfl⟩
  rw [hs] at h ⊢
  clear hs
  obtain ⟨W0, hW0⟩ : ∃ W0, (w.alloc (.cells #[.slice a la ca, .bool s] 30)).alloc (.cells #[.slice none 0 0, .bool false] 30) = W0 := ⟨_, rfl⟩
  have hB0 : Below w.heap.size w W0 := by rw [← hW0]; exact below_2 w _ _
  have b0 : Box2 W0 w.heap.size 30 (.slice a la ca) (.bool s) := by rw [← hW0]; exact (Box2.new w _ _ _).alloc _
  have bR : Box2 W0 (w.heap.size + 1) 30 (.slice none 0 0) (.bool false) := by
    have h := Box2.new (w.alloc (.cells #[.slice a la ca, .bool s] 30)) 30 (.slice none 0 0) (.bool false)
    rw [World.size_alloc, hW0] at h; exact h
  have h0 := h.below hB0
  have HZ := hidD (fun j (hj : j ≤ k) => show szB (x ^ j) ≤ 1000000000 by
    have h1 := szB_pow_le x j
    have h2 := Nat.mul_le_mul_left (szB x) hj
    omega)
  clear h
  go_enter Tryd.func24, Tryd.ntmps24
  go_wp2_with (go_at_call 11; refine (of_c 1 (by omega) (by omega) _).mono ?_; rintro e w3 ⟨u, rfl, hu, hb3⟩; obtain ⟨ua, ul, uc, rfl⟩ := hu.form; obtain ⟨t, ht⟩ : ∃ t, decide ((1 : Int) < 0) = t := ⟨_, rfl⟩; rw [ht] at hu; rw [ht]; clear ht)
  clear hW0
  have hu1 : IsBig (w3.alloc (.cells #[.slice ua ul uc, .bool t] 30)) (.agg #[.slice ua ul uc, .bool t]) (x ^ 0) := by rw [Int.pow_zero]; exact hu.alloc _
  have bN := Box2.new w3 30 (.slice ua ul uc) (.bool t)
  have b0' := (b0.below hb3).alloc (.cells #[.slice ua ul uc, .bool t] 30)
  have bR' := (bR.below hb3).alloc (.cells #[.slice ua ul uc, .bool t] 30)
  have h0' := (h0.below hb3).alloc (.cells #[.slice ua ul uc, .bool t] 30)
  have hB4 : Below w.heap.size w (w3.alloc (.cells #[.slice ua ul uc, .bool t] 30)) := (Below.then hB0 hb3).alloc (Below.then hB0 hb3).size _
  obtain ⟨B5, hB5⟩ : ∃ B5, B5 = w3.heap.size := ⟨_, rfl⟩
  have hB5w : w.heap.size + 1 < B5 := by have h1 := hb3.size; have h2 := bR.lt; omega
  rw [← hB5] at bN ⊢
  clear b0 bR h0 hb3 hB0 hu hB5
  go_loopw [6] (fun iv wr => ∃ (i : Nat) (na : Option Addr) (nl nc : Nat) (q : Bool), iv = .int .i64 i ∧ i ≤ k ∧ Box2 wr B5 30 (.slice na nl nc) (.bool q) ∧ IsBig wr (.agg #[.slice na nl nc, .bool q]) (x ^ i) ∧ Box2 wr w.heap.size 30 (.slice a la ca) (.bool s) ∧ Box2 wr (w.heap.size + 1) 30 (.slice none 0 0) (.bool false) ∧ IsBig wr (.agg #[.slice a la ca, .bool s]) x ∧ Below w.heap.size w wr)
    (fun iv _ => k - (intOf iv).toNat)
  case atStart => exact ⟨0, ua, ul, uc, t, rfl, Nat.zero_le _, bN, hu1, b0', bR', h0', hB4⟩
  case round =>
    clear bN hu1 b0' bR' h0' hB4
    obtain ⟨i, na, nl, nc, q, rfl, hi, bN, hu, b0, bR, h0, hB⟩ := hrel
    have m0 := bN.c0
    have m1 := bN.c1
    have f0 := bN.f0
    have f1 := bN.f1
    have m2 := b0.c0
    have m3 := b0.c1
    by_cases hlt : i < k
    · have HT := hidD (rtimes_c _ _ (x ^ i) x wr hu h0 (HZ.out i hi) (by omega))
      go_wp2_with (go_at_call 22; refine HT.out.mono ?_; rintro e w5 ⟨u5, rfl, hu5, hb5⟩; rw [← Int.pow_succ] at hu5; obtain ⟨a5, l5, c5, rfl⟩ := hu5.form; obtain ⟨s5, hs5⟩ : ∃ b, decide (x ^ (i + 1) < 0) = b := ⟨_, rfl⟩; rw [hs5] at hu5; rw [hs5]; clear hs5; have g0 := (bN.below hb5).c0; have g1 := (bN.below hb5).c1; have e0 := (bN.below hb5).f0; have e1 := (bN.below hb5).f1)
      have bN5 := bN.below hb5
      have hq := Below.then hB hb5
      exact ⟨⟨i + 1, a5, l5, c5, s5, by simp, by omega, (bN5.set0 _).set1 _, hu5.box bN5 rfl rfl, ((b0.below hb5).far (p := ⟨B5, 0, none⟩) (fun e => by simp only at e; omega) _).far (p := ⟨B5, 1, none⟩) (fun e => by simp only at e; omega) _, ((bR.below hb5).far (p := ⟨B5, 0, none⟩) (fun e => by simp only at e; omega) _).far (p := ⟨B5, 1, none⟩) (fun e => by simp only at e; omega) _, (h0.below hb5).box bN5 rfl rfl, (hq.setCell (p := ⟨B5, 0, none⟩) (by simp only; omega) _).setCell (p := ⟨B5, 1, none⟩) (by simp only; omega) _⟩, by simp [intOf]; omega⟩
    · obtain rfl : i = k := by omega
      have r0 := bR.c0
      have r1 := bR.c1
      have e0 := bR.f0
      have e1 := bR.f1
      go_wp2_with fail
      have hfin := hu.box bR rfl rfl (x0 := .slice na nl nc) (x1 := .bool q)
      exact bodyPost_ret (v := .agg #[.slice na nl nc, .bool q]) (by simp [results, Tryd.results24, go_sem, r0, r1]) rfl ⟨_, rfl, hfin, (hB.setCell (p := ⟨_, 0, none⟩) (by simp only; omega) _).setCell (p := ⟨_, 1, none⟩) (by simp only; omega) _⟩
end Go.Proofs.YtjmmnpfedhkjbaaDoor
namespace Go.Proofs.YtjmmnpfedhkjbaaDoor
open Go.RowKit Go.Shelf

attribute [local go_sem] Oper.semAt_some

set_option maxRecDepth 100000 in
set_option maxHeartbeats 1000000 in
theorem mtimes_w (a : Option Addr) (la ca : Nat) (b : Option Addr) (lb cb m n : Nat) (w : World) (hlen : la + lb ≤ 1099511627776)
    (ra : Row .u64 w (.slice a la ca) (limbs B64 m)) (rb : Row .u64 w (.slice b lb cb) (limbs B64 n)) :
    Calls Tryd.prog 41 #[.slice a la ca, .slice b lb cb] w fun e w' => ∃ u, e = .returned u ∧ UN w' u (m * n) ∧ Below w.heap.size w w' := by
  have hmk := make_row (la + lb) (by omega) w
  rw [show ((la + lb : Nat) : Int) = (la : Int) + (lb : Int) from by omega] at hmk
  obtain ⟨W1, hW1⟩ : ∃ W1, W1 = w.alloc (.cells (cellsOf .u64 (List.replicate (la + lb) 0)).toArray 56) := ⟨_, rfl⟩
  have hB1 : Below w.heap.size w W1 := by rw [hW1]; exact (Below.refl _ w).alloc (Nat.le_refl _) _
  have hA1 : Arr W1 w.heap.size (List.replicate (la + lb) 0) := by rw [hW1]; exact Arr.made (World.alloc_heap_new w _)
  rw [← hW1] at hmk
  have HP := hidD (product_w w.heap.size (la + lb) (la + lb) (List.replicate (la + lb) 0) a la ca b lb cb m n W1 hA1 (fun x hx => by rw [List.eq_of_mem_replicate hx]; unfold B64; omega) (by rw [List.length_replicate]; exact Nat.le_refl _) (Nat.le_refl _) (by omega) hlen (Row.below ra hB1) (Row.below rb hB1)
    (fun p e h0 => by have := row_lt ra e h0; omega) (fun p e h0 => by have := row_lt rb e h0; omega))
  have hl1 := (row_fn ra).2.1
  have hl2 := (row_fn ra).2.2.1
  have hl3 := (row_fn rb).2.1
  have hl4 := (row_fn rb).2.2.1
  clear hW1 hA1 ra rb
  go_enter Tryd.func41, Tryd.ntmps41
  go_wp2_with (go_at_call 56; refine HP.out.mono ?_; rintro e w5 ⟨u, rfl, ⟨hu, hg5⟩, _, _⟩; obtain ⟨ua, uc, rfl⟩ := UN.form hu)
  go_ret
  exact ⟨_, rfl, hu, below_grown hB1 hg5 (Nat.le_refl _)⟩

set_option maxRecDepth 100000 in
set_option maxHeartbeats 1000000 in
theorem itimes_c (va vb : Value) (x y : Int) (w : World) (ha : IsInt w va x) (hb : IsInt w vb y) (hl : (limbs B64 x.natAbs).length + (limbs B64 y.natAbs).length ≤ 1099511627776) :
    Calls Tryd.prog 21 #[va, vb] w fun e w' => ∃ u, e = .returned u ∧ IsInt w' u (x * y) ∧ Below w.heap.size w w' := by
  obtain ⟨a, la, ca, e0, hu⟩ := ha
  cases e0
  obtain ⟨b, lb, cb, e0, hv⟩ := hb
  cases e0
  have ela := hu.len
  have elb := hv.len
  obtain ⟨s, hs⟩ : ∃ s, decide (x < 0) = s := ⟨_, rfl⟩
  obtain ⟨t, ht⟩ : ∃ t, decide (y < 0) = t := ⟨_, rfl⟩
  have hsg : (if (!(s == t)) = true then -((x.natAbs * y.natAbs : Nat) : Int) else ((x.natAbs * y.natAbs : Nat) : Int)) = x * y := by
    rw [← hs, ← ht, ← Int.natAbs_mul]
    rcases Int.lt_trichotomy x 0 with hx | hx | hx <;> rcases Int.lt_trichotomy y 0 with hy | hy | hy
    · have := Int.mul_pos_of_neg_of_neg hx hy
      simp [hx, hy]; omega
    · subst hy; simp
    · have := Int.mul_neg_of_neg_of_pos hx hy
      have h1 : ¬ y < 0 := by omega
      simp [hx, h1]; omega
    · subst hx; simp
    · subst hx; simp
    · subst hx; simp
    · have := Int.mul_neg_of_pos_of_neg hx hy
      have h1 : ¬ x < 0 := by omega
      simp [hy, h1]; omega
    · subst hy; simp
    · have := Int.mul_pos hx hy
      have h1 : ¬ x < 0 := by omega
      have h2 : ¬ y < 0 := by omega
      simp [h1, h2]; omega
  rw [hs, ht]
  obtain ⟨W0, hW0⟩ : ∃ W0, ((w.alloc (.cells #[.bool s, .slice a la ca] 25)).alloc (.cells #[.bool t, .slice b lb cb] 25)).alloc (.cells #[.bool false, .slice none 0 0] 25) = W0 := ⟨_, rfl⟩
  have hB0 : Below w.heap.size w W0 := by rw [← hW0]; exact below_3 w _ _ _
  have b0 : Box2 W0 w.heap.size 25 (.bool s) (.slice a la ca) := by rw [← hW0]; exact ((Box2.new w _ _ _).alloc _).alloc _
  have b1 : Box2 W0 (w.heap.size + 1) 25 (.bool t) (.slice b lb cb) := by
    have h := (Box2.new (w.alloc (.cells #[.bool s, .slice a la ca] 25)) 25 (.bool t) (.slice b lb cb)).alloc (.cells #[.bool false, .slice none 0 0] 25)
    rw [World.size_alloc, hW0] at h; exact h
  have bR : Box2 W0 (w.heap.size + 1 + 1) 25 (.bool false) (.slice none 0 0) := by
    have h := Box2.new ((w.alloc (.cells #[.bool s, .slice a la ca] 25)).alloc (.cells #[.bool t, .slice b lb cb] 25)) 25 (.bool false) (.slice none 0 0)
    rw [World.size_alloc, World.size_alloc, hW0] at h; exact h
  have HT := hidD (fun (V : World) (h : Below W0.heap.size W0 V) => mtimes_w a la ca b lb cb _ _ V (by omega) (UN.below (UN.below hu hB0) h) (UN.below (UN.below hv hB0) h))
  have HS := hidD (fun (V : World) (u : Value) (hu : UN V u (x.natAbs * y.natAbs)) => show Calls Tryd.prog 27 #[.bool (!(s == t)), u] V fun e w' => ∃ u, e = .returned u ∧ IsInt w' u (x * y) ∧ Below V.heap.size V w' by
    have h1 := signed_c (!(s == t)) u _ V hu
    rw [hsg] at h1
    exact h1)
  clear hu hv hsg hs ht ela elb hl
  go_enter Tryd.func21, Tryd.ntmps21
  go_wp2_with fail
  try rw [hW0]
  clear hW0
  have hq : Below W0.heap.size W0 W0.drew := (Below.refl _ W0).drew
  have k0 := b0.c0
  have k1 := b0.c1
  have k2 := b1.c0
  have k3 := b1.c1
  have ne2 : ¬ (w.heap.size = w.heap.size + 1 + 1) := by omega
  go_region_held3 (fun w' => w'.cell? ⟨w.heap.size, 0, none⟩ = some (.bool s) ∧ w'.cell? ⟨w.heap.size, 1, none⟩ = some (.slice a la ca) ∧ w'.cell? ⟨w.heap.size + 1, 0, none⟩ = some (.bool t) ∧ w'.cell? ⟨w.heap.size + 1, 1, none⟩ = some (.slice b lb cb)) (refine ⟨?_, ?_, ?_, ?_⟩ <;> (first | (go_keep; done) | ((repeat rw [cell_set_nb (by omega)]); simp [*]; done)))
    (first
      | (go_at_call 41; refine (HT.out _ hq).mono ?_; rintro e w1 ⟨u1, rfl, hu1, hb1⟩; obtain ⟨na, nc, rfl⟩ := UN.form hu1; have hq := Below.then hq hb1; have k0 := (b0.below hq).c0; have k1 := (b0.below hq).c1; have k2 := (b1.below hq).c0; have k3 := (b1.below hq).c1)
      | (go_at_call 27; refine (HS.out _ _ hu1).mono ?_; rintro e w2 ⟨u2, rfl, hu2, hb2⟩; obtain ⟨sa, sl, sc, rfl⟩ := hu2.form; obtain ⟨s2, hs2⟩ : ∃ s2, decide (x * y < 0) = s2 := ⟨_, rfl⟩; rw [hs2] at hu2; rw [hs2]; clear hs2; have hq := Below.then hq hb2; have k0 := (b0.below hq).c0; have k1 := (b0.below hq).c1; have k2 := (b1.below hq).c0; have k3 := (b1.below hq).c1; have r0 := (bR.below hq).c0; have r1 := (bR.below hq).c1; have f0 := (bR.below hq).f0; have f1 := (bR.below hq).f1))
  all_goals go_wp2_with fail
  have hq2 := hB0.trans (hq.mono hB0.size)
  have hfin := hu2.box (bR.below hq) rfl rfl (x0 := .bool s2) (x1 := .slice sa sl sc)
  exact bodyPost_ret (v := .agg #[.bool s2, .slice sa sl sc]) (by simp [results, Tryd.results21, go_sem, r0, r1]) rfl ⟨_, rfl, hfin, (hq2.setCell (p := ⟨_, 0, none⟩) (by simp only; omega) _).setCell (p := ⟨_, 1, none⟩) (by simp only; omega) _⟩
end Go.Proofs.YtjmmnpfedhkjbaaDoor
namespace Go.Proofs.YtjmmnpfedhkjbaaDoor
open Go.RowKit Go.Shelf

attribute [local go_sem] Oper.semAt_some

theorem bits_top : ∀ k : Fin 201, k.val ≠ 0 → k.val / 2 ^ (Lib.bitLen k.val - 1) = 1 ∧ 1 ≤ Lib.bitLen k.val ∧ Lib.bitLen k.val ≤ 8 := by decide +kernel

theorem pow_words {m e la : Nat} (h : la = (limbs B64 m).length) : (limbs B64 (m ^ e)).length ≤ la * e + 1 := by
  have h1 := val_lt (dig_limbs two_le_B64 m)
  rw [val_limbs two_le_B64, ← h] at h1
  have h2 : m ^ e ≤ B64 ^ (la * e) := by
    rw [Nat.pow_mul]
    exact Nat.pow_le_pow_left (Nat.le_of_lt h1) e
  have h3 : B64 ^ (la * e) < B64 ^ (la * e + 1) := Nat.pow_lt_pow_right (by unfold B64; omega) (by omega)
  exact limbs_length_le two_le_B64 (Nat.lt_of_le_of_lt h2 h3)

theorem pow_words1 {m e la : Nat} (h : la = (limbs B64 m).length) (he : 0 < e) : (limbs B64 (m ^ e)).length ≤ la * e := by
  have h1 := val_lt (dig_limbs two_le_B64 m)
  rw [val_limbs two_le_B64, ← h] at h1
  have h2 : m ^ e < B64 ^ (la * e) := by
    rw [Nat.pow_mul]
    exact Nat.pow_lt_pow_left h1 (by omega)
  exact limbs_length_le two_le_B64 h2

theorem clone_row (a : Option Addr) (la ca : Nat) (us : List Nat) (w : World) (ra : Row .u64 w (.slice a la ca) us) :
    Calls Tryd.prog 46 #[.slice a la ca] w fun e w' => ∃ za zc, e = .returned (.slice za la zc) ∧ Row .u64 w' (.slice za la zc) us ∧ (∀ p, za = some p → 0 < la → w.heap.size ≤ p.block ∧ p.block < w'.heap.size) ∧ Below w.heap.size w w' := by
  obtain ⟨hl, hc, hm, hk, hf⟩ := row_fn ra
  rcases Nat.eq_zero_or_pos la with h0 | h0
  · subst h0
    obtain rfl : us = [] := List.eq_nil_of_length_eq_zero hl.symm
    cases a with
    | none =>
      refine (clone_nil 0 ca w).mono ?_
      rintro e w' ⟨rfl, rfl⟩
      exact ⟨none, 0, rfl, ⟨none, 0, rfl, Nat.le_refl _, by omega, by omega, Or.inl rfl⟩, fun p e _ => (by cases e), Below.refl _ _⟩
    | some p =>
      refine (clone_some p ca [] w (by simp) (fun j hj => by simp at hj)).mono ?_
      rintro e w' ⟨v', rfl, ho, hb⟩
      rcases ho.2 with ⟨ev, _⟩ | ⟨g, cap, cur, ev, _, _, h4, h5, _⟩
      · subst ev
        exact ⟨none, 0, rfl, ⟨none, 0, rfl, Nat.le_refl _, by omega, by omega, Or.inl rfl⟩, fun p e _ => (by cases e), hb⟩
      · subst ev
        exact ⟨_, cap, rfl, ⟨_, cap, rfl, Nat.zero_le _, h5, by simp, Or.inl rfl⟩, fun p _ h => by simp at h, hb⟩
  · obtain ⟨ab, ao, rfl, _, _⟩ := hf 0 h0
    have h1 := clone_some ⟨ab, ao, none⟩ ca us w (by omega) (fun j hj => by
      obtain ⟨b', o', e, hlt, hcell⟩ := hf j (by omega)
      cases e
      rw [addr_plain]
      exact hcell)
    rw [← hl] at h1
    refine h1.mono ?_
    rintro e w' ⟨v', rfl, ho, hb⟩
    rcases ho.2 with ⟨_, ev⟩ | ⟨g, cap, cur, ev, h2, h3, h4, h5, _⟩
    · omega
    · subst ev
      have hA := Arr.owns ho
      have hr := hA.row 0 la cap (by omega) h4 h5 hk
      rw [List.drop_zero, List.take_of_length_le (by omega)] at hr
      exact ⟨_, cap, rfl, hr, fun p e _ => by cases e; exact ⟨h2, hA.lt⟩, hb⟩
end Go.Proofs.YtjmmnpfedhkjbaaDoor
namespace Go.Proofs.YtjmmnpfedhkjbaaDoor
open Go.RowKit Go.Shelf

attribute [local go_sem] Oper.semAt_some

theorem and_one : ∀ f : Fin 201, bits BinOp.and IntKind.u64 (f.val : Int) 1 = ((f.val % 2 : Nat) : Int) := by decide +kernel

set_option maxRecDepth 100000 in
set_option maxHeartbeats 2000000 in
theorem mpower_w (a : Option Addr) (la ca m k : Nat) (w : World) (ra : Row .u64 w (.slice a la ca) (limbs B64 m)) (hk1 : 1 ≤ k) (hk2 : k ≤ 200) (hlk : la * k ≤ 1000000000) :
    Calls Tryd.prog 42 #[.slice a la ca, .int .u64 (k : Nat)] w fun e w' => ∃ u, e = .returned u ∧ UN w' u (m ^ k) ∧ Below w.heap.size w w' := by
  have hmx : Tryd.prog.follows .mixedOrders = true := by kernel_rfl
  obtain ⟨hl1, hc1, hm1, hla, hf1⟩ := row_fn ra
  have HCL := hidD (clone_row a la ca _ w ra)
  have HRA := hidD ra
  have hkw : IntKind.i64.wrap (k : Int) = (k : Int) := by simp [IntKind.wrap, IntKind.signed, IntKind.bits]; omega
  obtain ⟨L, hLe⟩ : ∃ L, L = la * k := ⟨_, rfl⟩
  have hL : L ≤ 1000000000 := by omega
  have hlw : IntKind.i64.wrap ((la : Int) * (k : Int)) = (L : Int) := by
    have e : (la : Int) * (k : Int) = ((la * k : Nat) : Int) := by rw [Int.natCast_mul]
    rw [e, ← hLe]
    simp [IntKind.wrap, IntKind.signed, IntKind.bits]; omega
  have HLE := hidD hLe
  have HL1 := hidD hl1
  clear hf1 hl1 ra hLe
  go_enter Tryd.func42, Tryd.ntmps42
  go_upto_region 2 with (go_at_call 46; refine HCL.out.mono ?_; rintro e w2 ⟨za, zc, rfl, hz, hzb, hb2⟩)
  refine wp_region_tab hmx [[], [0], [], [2], [1, 3], [4, 4], [], [6], [], [8], [7, 9], [10, 10], [5, 0, 1, 2, 3, 4, 5], [11, 12, 0, 1, 2, 3, 4, 5, 6, 7, 8, 9, 10, 11, 12]] (by kernel_rfl) (by decide)
    (fun D a0 V => ∃ g1 g2 : Nat, ∃ t6 t7 t11 t12 t13 t14 t15 t16 t17 t18 t19 t20 t21 t22 : Value, a0 = { tmps := #[.slice a la ca, .int .u64 (k : Nat), undef, undef, .slice none 0 0, .slice za la zc, t6, t7, undef, .slice a la ca, .slice za la zc, t11, t12, t13, t14, t15, t16, t17, t18, t19, t20, t21, t22, undef, undef, undef, undef, undef, undef, undef, undef, undef, undef, undef, undef, undef, undef, undef, undef, undef, undef, undef, undef, undef, undef, undef, undef, undef, undef], defers := [] } ∧
      Hid (D 0 = true → t11 = .slice a la ca) ∧ Hid (D 1 = true → t12 = .int .i64 (la : Nat)) ∧ Hid (D 2 = true → t13 = .int .u64 (k : Nat)) ∧ Hid (D 3 = true → t14 = .int .i64 (k : Nat)) ∧ Hid (D 4 = true → t15 = .int .i64 (L : Nat)) ∧ Hid (D 5 = true → t16 = .slice (some ⟨g1, 0, none⟩) L L) ∧ Hid (D 6 = true → t17 = .slice a la ca) ∧ Hid (D 7 = true → t18 = .int .i64 (la : Nat)) ∧ Hid (D 8 = true → t19 = .int .u64 (k : Nat)) ∧ Hid (D 9 = true → t20 = .int .i64 (k : Nat)) ∧ Hid (D 10 = true → t21 = .int .i64 (L : Nat)) ∧ Hid (D 11 = true → t22 = .slice (some ⟨g2, 0, none⟩) L L) ∧ Hid (D 12 = true → t6 = .slice (some ⟨g1, 0, none⟩) L L) ∧ Hid (D 13 = true → t7 = .slice (some ⟨g2, 0, none⟩) L L) ∧
      (D 5 = true → Arr V g1 (List.replicate L 0) ∧ w2.heap.size ≤ g1) ∧ (D 11 = true → Arr V g2 (List.replicate L 0) ∧ w2.heap.size ≤ g2) ∧ (D 5 = true → D 11 = true → g1 ≠ g2) ∧ Below w2.heap.size w2 V)
    ⟨0, 0, _, _, _, _, _, _, _, _, _, _, _, _, _, _, rfl, hidD (fun h => by cases h), hidD (fun h => by cases h), hidD (fun h => by cases h), hidD (fun h => by cases h), hidD (fun h => by cases h), hidD (fun h => by cases h), hidD (fun h => by cases h), hidD (fun h => by cases h), hidD (fun h => by cases h), hidD (fun h => by cases h), hidD (fun h => by cases h), hidD (fun h => by cases h), hidD (fun h => by cases h), hidD (fun h => by cases h), by simp, by simp, by simp, (Below.refl _ w2).drew⟩ ?step ?fin
  case step =>
    rintro D a0 V i ds hcl2 hi2 hds hDi ⟨g1, g2, t6, t7, t11, t12, t13, t14, t15, t16, t17, t18, t19, t20, t21, t22, rfl, g_0, g_1, g_2, g_3, g_4, g_5, g_6, g_7, g_8, g_9, g_10, g_11, g_12, g_13, q1, q2, q3, hq⟩
    have hi6 : i < 14 := (List.getElem?_eq_some_iff.1 hi2).1
    obtain rfl | rfl | rfl | rfl | rfl | rfl | rfl | rfl | rfl | rfl | rfl | rfl | rfl | rfl : i = 0 ∨ i = 1 ∨ i = 2 ∨ i = 3 ∨ i = 4 ∨ i = 5 ∨ i = 6 ∨ i = 7 ∨ i = 8 ∨ i = 9 ∨ i = 10 ∨ i = 11 ∨ i = 12 ∨ i = 13 := by omega
    all_goals
      simp only [List.getElem?_cons_zero, List.getElem?_cons_succ, Option.some.injEq] at hi2
      subst hi2
      clear hi6
    · clear hds hcl2
      refine wpOp_go rfl rfl (fun K hK => ?_)
      go_simp
      exact hK _ _ ⟨g1, g2, _, _, _, _, _, _, _, _, _, _, _, _, _, _, rfl, hidD (fun _ => rfl), g_1, g_2, g_3, g_4, g_5, g_6, g_7, g_8, g_9, g_10, g_11, g_12, g_13, q1, q2, q3, hq⟩
    · obtain rfl := g_0.out (hds 0 (by simp))
      clear hds hcl2
      refine wpOp_go rfl rfl (fun K hK => ?_)
      go_simp
      exact hK _ _ ⟨g1, g2, _, _, _, _, _, _, _, _, _, _, _, _, _, _, rfl, hidD (fun _ => rfl), hidD (fun _ => rfl), g_2, g_3, g_4, g_5, g_6, g_7, g_8, g_9, g_10, g_11, g_12, g_13, q1, q2, q3, hq⟩
    · clear hds hcl2
      refine wpOp_go rfl rfl (fun K hK => ?_)
      go_simp
      exact hK _ _ ⟨g1, g2, _, _, _, _, _, _, _, _, _, _, _, _, _, _, rfl, g_0, g_1, hidD (fun _ => rfl), g_3, g_4, g_5, g_6, g_7, g_8, g_9, g_10, g_11, g_12, g_13, q1, q2, q3, hq⟩
    · obtain rfl := g_2.out (hds 2 (by simp))
      clear hds hcl2
      refine wpOp_go rfl rfl (fun K hK => ?_)
      go_simp
      exact hK _ _ ⟨g1, g2, _, _, _, _, _, _, _, _, _, _, _, _, _, _, rfl, g_0, g_1, hidD (fun _ => rfl), hidD (fun _ => rfl), g_4, g_5, g_6, g_7, g_8, g_9, g_10, g_11, g_12, g_13, q1, q2, q3, hq⟩
    · obtain rfl := g_1.out (hds 1 (by simp))
      obtain rfl := g_3.out (hds 3 (by simp))
      clear hds hcl2
      refine wpOp_go rfl rfl (fun K hK => ?_)
      go_simp
      exact hK _ _ ⟨g1, g2, _, _, _, _, _, _, _, _, _, _, _, _, _, _, rfl, g_0, hidD (fun _ => rfl), g_2, hidD (fun _ => rfl), hidD (fun _ => rfl), g_5, g_6, g_7, g_8, g_9, g_10, g_11, g_12, g_13, q1, q2, q3, hq⟩
    · obtain rfl := g_4.out (hds 4 (by simp))
      have hf12 : D 12 = false := by
        cases h : D 12 with
        | false => rfl
        | true => rw [hcl2 12 _ rfl h 5 (by simp)] at hDi; cases hDi
      have hf13 : D 13 = false := by
        cases h : D 13 with
        | false => rfl
        | true => rw [hcl2 13 _ rfl h 5 (by simp)] at hDi; cases hDi
      have hmk := make_row L (by omega) V
      clear hds hcl2
      refine wpOp_go rfl rfl (fun K hK => ?_)
      go_simp
      exact hK _ _ ⟨V.heap.size, g2, _, _, _, _, _, _, _, _, _, _, _, _, _, _, rfl, g_0, g_1, g_2, g_3, hidD (fun _ => rfl), hidD (fun _ => rfl), g_6, g_7, g_8, g_9, g_10, g_11, hidD (fun h => by simp [hf12] at h), hidD (fun h => by simp [hf13] at h), fun _ => ⟨Arr.made (World.alloc_heap_new V _), hq.size⟩, fun h => ⟨(q2 h).1.alloc _, (q2 h).2⟩, fun _ h e => by have := (q2 h).1.lt; omega, hq.alloc hq.size _⟩
    · clear hds hcl2
      refine wpOp_go rfl rfl (fun K hK => ?_)
      go_simp
      exact hK _ _ ⟨g1, g2, _, _, _, _, _, _, _, _, _, _, _, _, _, _, rfl, g_0, g_1, g_2, g_3, g_4, g_5, hidD (fun _ => rfl), g_7, g_8, g_9, g_10, g_11, g_12, g_13, q1, q2, q3, hq⟩
    · obtain rfl := g_6.out (hds 6 (by simp))
      clear hds hcl2
      refine wpOp_go rfl rfl (fun K hK => ?_)
      go_simp
      exact hK _ _ ⟨g1, g2, _, _, _, _, _, _, _, _, _, _, _, _, _, _, rfl, g_0, g_1, g_2, g_3, g_4, g_5, hidD (fun _ => rfl), hidD (fun _ => rfl), g_8, g_9, g_10, g_11, g_12, g_13, q1, q2, q3, hq⟩
    · clear hds hcl2
      refine wpOp_go rfl rfl (fun K hK => ?_)
      go_simp
      exact hK _ _ ⟨g1, g2, _, _, _, _, _, _, _, _, _, _, _, _, _, _, rfl, g_0, g_1, g_2, g_3, g_4, g_5, g_6, g_7, hidD (fun _ => rfl), g_9, g_10, g_11, g_12, g_13, q1, q2, q3, hq⟩
    · obtain rfl := g_8.out (hds 8 (by simp))
      clear hds hcl2
      refine wpOp_go rfl rfl (fun K hK => ?_)
      go_simp
      exact hK _ _ ⟨g1, g2, _, _, _, _, _, _, _, _, _, _, _, _, _, _, rfl, g_0, g_1, g_2, g_3, g_4, g_5, g_6, g_7, hidD (fun _ => rfl), hidD (fun _ => rfl), g_10, g_11, g_12, g_13, q1, q2, q3, hq⟩
    · obtain rfl := g_7.out (hds 7 (by simp))
      obtain rfl := g_9.out (hds 9 (by simp))
      clear hds hcl2
      refine wpOp_go rfl rfl (fun K hK => ?_)
      go_simp
      exact hK _ _ ⟨g1, g2, _, _, _, _, _, _, _, _, _, _, _, _, _, _, rfl, g_0, g_1, g_2, g_3, g_4, g_5, g_6, hidD (fun _ => rfl), g_8, hidD (fun _ => rfl), hidD (fun _ => rfl), g_11, g_12, g_13, q1, q2, q3, hq⟩
    · obtain rfl := g_10.out (hds 10 (by simp))
      have hf13 : D 13 = false := by
        cases h : D 13 with
        | false => rfl
        | true => rw [hcl2 13 _ rfl h 11 (by simp)] at hDi; cases hDi
      have hmk := make_row L (by omega) V
      clear hds hcl2
      refine wpOp_go rfl rfl (fun K hK => ?_)
      go_simp
      exact hK _ _ ⟨g1, V.heap.size, _, _, _, _, _, _, _, _, _, _, _, _, _, _, rfl, g_0, g_1, g_2, g_3, g_4, g_5, g_6, g_7, g_8, g_9, hidD (fun _ => rfl), hidD (fun _ => rfl), g_12, hidD (fun h => by simp [hf13] at h), fun h => ⟨(q1 h).1.alloc _, (q1 h).2⟩, fun _ => ⟨Arr.made (World.alloc_heap_new V _), hq.size⟩, fun h _ e => by have := (q1 h).1.lt; omega, hq.alloc hq.size _⟩
    · obtain rfl := g_5.out (hds 5 (by simp))
      clear hds hcl2
      refine wpOp_go rfl rfl (fun K hK => ?_)
      go_simp
      exact hK _ _ ⟨g1, g2, _, _, _, _, _, _, _, _, _, _, _, _, _, _, rfl, g_0, g_1, g_2, g_3, g_4, hidD (fun _ => rfl), g_6, g_7, g_8, g_9, g_10, g_11, hidD (fun _ => rfl), g_13, q1, q2, q3, hq⟩
    · obtain rfl := g_11.out (hds 11 (by simp))
      clear hds hcl2
      refine wpOp_go rfl rfl (fun K hK => ?_)
      go_simp
      exact hK _ _ ⟨g1, g2, _, _, _, _, _, _, _, _, _, _, _, _, _, _, rfl, g_0, g_1, g_2, g_3, g_4, g_5, g_6, g_7, g_8, g_9, g_10, hidD (fun _ => rfl), g_12, hidD (fun _ => rfl), q1, q2, q3, hq⟩
  rintro D a0 V hDD ⟨g1, g2, t6, t7, t11, t12, t13, t14, t15, t16, t17, t18, t19, t20, t21, t22, rfl, g_0, g_1, g_2, g_3, g_4, g_5, g_6, g_7, g_8, g_9, g_10, g_11, g_12, g_13, q1, q2, q3, hq⟩
  obtain rfl := g_0.out (hDD 0 (by decide))
  obtain rfl := g_1.out (hDD 1 (by decide))
  obtain rfl := g_2.out (hDD 2 (by decide))
  obtain rfl := g_3.out (hDD 3 (by decide))
  obtain rfl := g_4.out (hDD 4 (by decide))
  obtain rfl := g_5.out (hDD 5 (by decide))
  obtain rfl := g_6.out (hDD 6 (by decide))
  obtain rfl := g_7.out (hDD 7 (by decide))
  obtain rfl := g_8.out (hDD 8 (by decide))
  obtain rfl := g_9.out (hDD 9 (by decide))
  obtain rfl := g_10.out (hDD 10 (by decide))
  obtain rfl := g_11.out (hDD 11 (by decide))
  obtain rfl := g_12.out (hDD 12 (by decide))
  obtain rfl := g_13.out (hDD 13 (by decide))
  obtain ⟨hA1, hg1⟩ := q1 (hDD 5 (by decide))
  obtain ⟨hA2, hg2⟩ := q2 (hDD 11 (by decide))
  have hg12 := q3 (hDD 5 (by decide)) (hDD 11 (by decide))
  clear q1 q2 q3 hDD g_0 g_1 g_2 g_3 g_4 g_5 g_6 g_7 g_8 g_9 g_10 g_11 g_12 g_13
  obtain ⟨nb, hnb⟩ : ∃ nb, Lib.bitLen k = nb := ⟨_, rfl⟩
  have hbt := bits_top ⟨k, by omega⟩ (by simp only; omega)
  simp only [hnb] at hbt
  obtain ⟨ht1, ht2, ht3⟩ := hbt
  have HLN := hidD (fun (U : World) => show Calls Tryd.prog 57 #[.int .u64 (k : Nat)] U fun e w' => e = .returned (.int .i64 (nb : Nat)) ∧ w' = U by
    have h := Tryd.bits_Len (k : Int) U (by omega) (by omega)
    rw [Int.toNat_natCast, hnb] at h
    exact h)
  have HT1 := hidD ht1
  clear hnb ht1 hlw hkw
  have hBV : Below w.heap.size w V := Below.then hb2 hq
  have hzV := Row.below hz hq
  have hz1 : limbs B64 m = limbs B64 (m ^ (k / 2 ^ (nb - 1))) := by rw [HT1.out, Nat.pow_one]
  rw [hz1] at hzV
  clear hz1
  go_wp2_with (go_at_call 57; refine (HLN.out _).mono ?_; rintro e w4 ⟨rfl, rfl⟩)
  go_loopw [5, 6, 7, 8] (fun zv rv sv iv wr => ∃ (j : Nat) (za : Option Addr) (zl zc x1 x2 : Nat) (d1 d2 : List Nat), iv = .int .i64 ((j : Int) - 1) ∧ j ≤ 8 ∧ zv = .slice za zl zc ∧ rv = .slice (some ⟨x1, 0, none⟩) L L ∧ sv = .slice (some ⟨x2, 0, none⟩) L L ∧ x1 ≠ x2 ∧ w2.heap.size ≤ x1 ∧ w2.heap.size ≤ x2 ∧ Arr wr x1 d1 ∧ Arr wr x2 d2 ∧ Dig B64 d1 ∧ Dig B64 d2 ∧ d1.length = L ∧ d2.length = L ∧ Hid (Row .u64 wr (.slice za zl zc) (limbs B64 (m ^ (k / 2 ^ j)))) ∧ Hid (∀ p, za = some p → 0 < zl → p.block ≠ x1) ∧ Below w.heap.size w wr ∧ Hid (1 ≤ k / 2 ^ j))
    (fun _ _ _ iv _ => (intOf iv + 1).toNat)
  case atStart => exact ⟨nb - 1, za, la, zc, g1, g2, _, _, by congr 1; omega, by omega, rfl, rfl, rfl, hg12, hg1, hg2, hA1, hA2, fun x hx => by rw [List.eq_of_mem_replicate hx]; unfold B64; omega, fun x hx => by rw [List.eq_of_mem_replicate hx]; unfold B64; omega, List.length_replicate, List.length_replicate, hzV, fun p e h0 => by have := (hzb p e h0).2; omega, hBV, by show 1 ≤ _; rw [HT1.out]; omega⟩
  case round =>
    clear hA1 hA2 hzV hBV hq hz hzb hg1 hg2 hg12 HLN HT1 HCL
    obtain ⟨j, za, zl, zc, x1, x2, d1, d2, rfl, hj, rfl, rfl, rfl, hx, hx1, hx2, hA1, hA2, hD1, hD2, hl1, hl2, HZ, HZB, hB, HE⟩ := hrel
    by_cases hj0 : j = 0
    · subst hj0
      go_wp2
      go_ret
      have h1 := HZ.out
      rw [Nat.pow_zero, Nat.div_one] at h1
      exact ⟨_, rfl, h1, hB⟩
    · obtain ⟨i, rfl⟩ : ∃ i, j = i + 1 := ⟨j - 1, by omega⟩
      have e1 : ((i + 1 : Nat) : Int) - 1 = (i : Nat) := by omega
      rw [e1]
      clear hj0 e1
      have hzl := (row_fn HZ.out).1
      have hzw := pow_words1 HL1.out (e := k / 2 ^ (i + 1)) HE.out
      have hdd : k / 2 ^ (i + 1) = k / 2 ^ i / 2 := by rw [Nat.pow_succ, Nat.div_div_eq_div_mul]
      have hfk := Nat.div_le_self k (2 ^ i)
      have HFD := hidD (show k / 2 ^ i = k / 2 ^ i from rfl)
      rw [hdd] at HZ HE hzl hzw
      obtain ⟨f, hf⟩ : ∃ f, k / 2 ^ i = f := ⟨_, rfl⟩
      rw [hf] at HZ HE hzl hzw hfk
      have hee : 2 * (f / 2) ≤ k := by omega
      have hlz : zl + zl ≤ L := by
        have h1 := Nat.mul_le_mul_left la hee
        rw [HLE.out]
        have h2 : la * (2 * (f / 2)) = 2 * (la * (f / 2)) := by rw [Nat.mul_left_comm]
        omega
      have HP := hidD (product_w x1 L L d1 za zl zc za zl zc _ _ wr hA1 hD1 (by omega) hlz (by omega) (by omega) HZ.out HZ.out HZB.out HZB.out)
      clear hzl hzw hee hdd HFD
      go_upto_region 8 with (go_at_call 56; refine HP.out.mono ?_; rintro e w5 ⟨u, rfl, ⟨hu, hg5⟩, hform, d1', hA1', hD1', hl1'⟩; obtain ⟨ua, uc, rfl⟩ := UN.form hu)
      have hul := (row_fn hu).1
      obtain ⟨ul, hule⟩ : ∃ ul, (limbs B64 (m ^ (f / 2) * m ^ (f / 2))).length = ul := ⟨_, rfl⟩
      rw [hule] at hu hform ⊢
      have HUL := hidD hule
      clear hule hul
      have hfi : ((k : Int) / 2 ^ i) = (f : Int) := by rw [← hf, Int.natCast_ediv, Int.natCast_pow]; rfl
      have hand := and_one ⟨f, by omega⟩
      simp only at hand
      have hB5 : Below w.heap.size w w5 := below_grown hB hg5 (by have := hb2.size; omega)
      have hA2' := hA2.kept hg5 (fun e => hx (by cases e; rfl))
      have HUB := hidD (show ∀ p, ua = some p → 0 < ul → p.block ≠ x2 from fun p e h0 => by
        rcases hform with e2 | ⟨l, e2⟩
        · cases e2; cases e
        · cases e2; cases e; exact hx)
      have HUV := hidD (show m ^ (f / 2) * m ^ (f / 2) = m ^ (2 * (f / 2)) by rw [← Nat.pow_add, ← Nat.two_mul])
      have hulb : ul ≤ la * (2 * (f / 2)) := by
        have h1 := pow_words1 HL1.out (e := 2 * (f / 2)) (by have := HE.out; omega)
        rw [← HUV.out, HUL.out] at h1
        exact h1
      have HRA5 := hidD (Row.below HRA.out hB5)
      have HFK := hidD hf
      have hx2w : w.heap.size ≤ x2 := by have := hb2.size; omega
      have hf1 := HE.out
      clear hform hf
      by_cases hodd : f % 2 = 1
      · have hlz2 : ul + la ≤ L := by
          have e2 : 2 * (f / 2) + 1 = f := by omega
          have h1 := Nat.mul_le_mul_left la hfk
          rw [HLE.out]
          have h3 : la * f = la * (2 * (f / 2)) + la := by
            conv => lhs; rw [← e2]
            rw [Nat.mul_succ]
          omega
        have hbt : (bits .and .u64 ((k : Int) / 2 ^ i) 1 == 1) = true := by rw [hfi, hand, hodd]; rfl
        have HP2 := hidD (product_w x2 L L d2 ua ul uc a la ca _ m w5 hA2' hD2 (by omega) hlz2 (by omega) (by omega) hu HRA5.out HUB.out (fun p e h0 => by have := row_lt HRA.out e h0; omega))
        clear hand hulb hfi
        go_wp2_with (go_at_call 56; refine HP2.out.mono ?_; rintro e w6 ⟨u6, rfl, ⟨hu6, hg6⟩, hform6, d2', hA26, hD26, hl26⟩; obtain ⟨ya, yc, rfl⟩ := UN.form hu6)
        refine ⟨⟨i, ya, _, yc, x1, x2, d1', d2', rfl, by omega, rfl, rfl, rfl, hx, hx1, hx2, hA1'.kept hg6 (fun e => hx (Option.some.inj e)), hA26, hD1', hD26, by omega, by omega, ?_, ?_, below_grown hB5 hg6 hx2w, ?_⟩, by simp [intOf]⟩
        · show Row .u64 w6 _ _
          have e3 : m ^ (k / 2 ^ i) = m ^ (f / 2) * m ^ (f / 2) * m := by
            rw [HFK.out, HUV.out, ← Nat.pow_succ]
            congr 1; omega
          rw [e3]; exact hu6
        · show ∀ p, ya = some p → _ → p.block ≠ x1
          intro p e h0
          rcases hform6 with e2 | ⟨l, e2⟩
          · injection e2 with e3
            rw [e3] at e; cases e
          · injection e2 with e3
            rw [e3] at e; cases e; exact fun h => hx h.symm
        · show 1 ≤ k / 2 ^ i
          rw [HFK.out]; omega
      · have hev : f % 2 = 0 := by omega
        have hbt : (bits .and .u64 ((k : Int) / 2 ^ i) 1 == 1) = false := by rw [hfi, hand, hev]; rfl
        clear hand hulb hfi
        go_wp2
        refine ⟨⟨i, ua, ul, uc, x2, x1, d2, d1', rfl, by omega, rfl, rfl, rfl, fun e => hx e.symm, hx2, hx1, hA2', hA1', hD2, hD1', hl2, by omega, ?_, HUB, hB5, ?_⟩, by simp [intOf]⟩
        · show Row .u64 w5 _ _
          have e3 : m ^ (k / 2 ^ i) = m ^ (f / 2) * m ^ (f / 2) := by
            rw [HFK.out, HUV.out]
            congr 1; omega
          rw [e3]; exact hu
        · show 1 ≤ k / 2 ^ i
          rw [HFK.out]; omega
end Go.Proofs.YtjmmnpfedhkjbaaDoor
namespace Go.Proofs.YtjmmnpfedhkjbaaDoor
open Go.RowKit Go.Shelf

attribute [local go_sem] Oper.semAt_some

theorem pow_sign (x : Int) (k : Nat) : (if (decide (x < 0) && decide (k % 2 = 1)) = true then -((x.natAbs ^ k : Nat) : Int) else ((x.natAbs ^ k : Nat) : Int)) = x ^ k := by
  by_cases hx : x < 0
  · obtain ⟨n, rfl⟩ : ∃ n : Nat, x = -(n : Int) := ⟨x.natAbs, by omega⟩
    rw [Int.natAbs_neg, Int.natAbs_natCast]
    by_cases hk : k % 2 = 1
    · simp only [hx, hk, decide_true, Bool.and_self, if_true]
      have : (-(n : Int)) ^ k = -((n : Int) ^ k) := by
        obtain ⟨j, rfl⟩ : ∃ j, k = 2 * j + 1 := ⟨k / 2, by omega⟩
        rw [Int.pow_succ, Int.pow_succ, Int.pow_mul, Int.pow_mul, show (-(n : Int)) ^ 2 = (n : Int) ^ 2 from by rw [Int.pow_succ, Int.pow_succ, Int.pow_succ, Int.pow_succ, Int.pow_zero]; simp; exact Int.neg_mul_neg _ _]
        exact Int.mul_neg _ _
      rw [this, Int.natCast_pow]
    · simp only [hx, hk, decide_true, decide_false, Bool.and_false, Bool.false_eq_true, if_false]
      have : (-(n : Int)) ^ k = (n : Int) ^ k := by
        obtain ⟨j, rfl⟩ : ∃ j, k = 2 * j := ⟨k / 2, by omega⟩
        rw [Int.pow_mul, Int.pow_mul, show (-(n : Int)) ^ 2 = (n : Int) ^ 2 from by rw [Int.pow_succ, Int.pow_succ, Int.pow_succ, Int.pow_succ, Int.pow_zero]; simp; exact Int.neg_mul_neg _ _]
      rw [this, Int.natCast_pow]
  · simp only [hx, decide_false, Bool.false_and, Bool.false_eq_true, if_false]
    rw [Int.natCast_pow]
    congr 1
    omega

set_option maxRecDepth 100000 in
set_option maxHeartbeats 1000000 in
theorem ipower_no (s : Bool) (a : Option Addr) (la ca : Nat) (n : Int) (w : World) (hn : n < 0 ∨ 0 ≤ n ∧ 200 < n) :
    Calls Tryd.prog 23 #[.agg #[.bool s, .slice a la ca], .int .i64 n] w fun e w' => e = .returned (.tuple #[.agg #[.bool false, .slice none 0 0], .bool false]) ∧ Below w.heap.size w w' := by
  have bR := Box2.new (w.alloc (.cells #[.bool s, .slice a la ca] 25)) 25 (.bool false) (.slice none 0 0)
  have hB0 := belowI2 w (.cells #[.bool s, .slice a la ca] 25) (.cells #[.bool false, .slice none 0 0] 25)
  simp only [World.size_alloc] at bR
  have r0 := bR.c0
  have r1 := bR.c1
  have f0 := bR.f0
  have f1 := bR.f1
  rcases hn with hn | ⟨hn1, hn2⟩
  all_goals
    go_enter Tryd.func23, Tryd.ntmps23
    go_wp2_with fail
    exact bodyPost_ret (v := .tuple #[.agg #[.bool false, .slice none 0 0], .bool false]) (by simp [results, Tryd.results23, go_sem, r0, r1]) rfl ⟨rfl, hB0⟩

set_option maxRecDepth 100000 in
set_option maxHeartbeats 1000000 in
theorem ipower_0 (s : Bool) (a : Option Addr) (la ca : Nat) (w : World) :
    Calls Tryd.prog 23 #[.agg #[.bool s, .slice a la ca], .int .i64 0] w fun e w' => ∃ u, e = .returned (.tuple #[u, .bool true]) ∧ IsInt w' u 1 ∧ Below w.heap.size w w' := by
  have bR := Box2.new (w.alloc (.cells #[.bool s, .slice a la ca] 25)) 25 (.bool false) (.slice none 0 0)
  have hB0 := belowI2 w (.cells #[.bool s, .slice a la ca] 25) (.cells #[.bool false, .slice none 0 0] 25)
  simp only [World.size_alloc] at bR
  go_enter Tryd.func23, Tryd.ntmps23
  go_wp2_with (go_at_call 10; refine (iof_c 1 (by omega) (by omega) _).mono ?_; rintro e w5 ⟨u, rfl, hu, hb5⟩; obtain ⟨ua, ul, uc, rfl⟩ := hu.form; obtain ⟨t, ht⟩ : ∃ t, decide ((1 : Int) < 0) = t := ⟨_, rfl⟩; rw [ht] at hu; rw [ht]; clear ht; have r0 := (bR.below hb5).c0; have r1 := (bR.below hb5).c1; have f0 := (bR.below hb5).f0; have f1 := (bR.below hb5).f1)
  have hq := Below.then hB0 hb5
  have hfin := hu.box (bR.below hb5) rfl rfl (x0 := .bool t) (x1 := .slice ua ul uc)
  exact bodyPost_ret (v := .tuple #[.agg #[.bool t, .slice ua ul uc], .bool true]) (by simp [results, Tryd.results23, go_sem, r0, r1]) rfl ⟨_, rfl, hfin, (hq.setCell (p := ⟨_, 0, none⟩) (by simp only; omega) _).setCell (p := ⟨_, 1, none⟩) (by simp only; omega) _⟩

set_option maxRecDepth 100000 in
set_option maxHeartbeats 1000000 in
theorem ipower_c (va : Value) (x : Int) (k : Nat) (w : World) (ha : IsInt w va x) (hk1 : 1 ≤ k) (hk2 : k ≤ 200) (hlk : (limbs B64 x.natAbs).length * k ≤ 1000000000) :
    Calls Tryd.prog 23 #[va, .int .i64 (k : Nat)] w fun e w' => ∃ u, e = .returned (.tuple #[u, .bool true]) ∧ IsInt w' u (x ^ k) ∧ Below w.heap.size w w' := by
  obtain ⟨a, la, ca, e0, hu⟩ := ha
  cases e0
  have ela := hu.len
  rw [← ela] at hlk
  have hsg := pow_sign x k
  obtain ⟨s, hs⟩ : ∃ s, decide (x < 0) = s := ⟨_, rfl⟩
  rw [hs] at hsg ⊢
  obtain ⟨W0, hW0⟩ : ∃ W0, (w.alloc (.cells #[.bool s, .slice a la ca] 25)).alloc (.cells #[.bool false, .slice none 0 0] 25) = W0 := ⟨_, rfl⟩
  have hB0 : Below w.heap.size w W0 := by rw [← hW0]; exact belowI2 w _ _
  have b0 : Box2 W0 w.heap.size 25 (.bool s) (.slice a la ca) := by rw [← hW0]; exact (Box2.new w _ _ _).alloc _
  have bR : Box2 W0 (w.heap.size + 1) 25 (.bool false) (.slice none 0 0) := by
    have h := Box2.new (w.alloc (.cells #[.bool s, .slice a la ca] 25)) 25 (.bool false) (.slice none 0 0)
    rw [World.size_alloc, hW0] at h; exact h
  have HPW := hidD (mpower_w a la ca _ k W0 (UN.below hu hB0) hk1 hk2 hlk)
  have HS := hidD (fun (V : World) (u : Value) (b : Bool) (hb : b = (s && decide (k % 2 = 1))) (hu : UN V u (x.natAbs ^ k)) => show Calls Tryd.prog 27 #[.bool b, u] V fun e w' => ∃ u, e = .returned u ∧ IsInt w' u (x ^ k) ∧ Below V.heap.size V w' by
    have h1 := signed_c b u _ V hu
    rw [hb, hsg] at h1
    rw [hb]
    exact h1)
  have k0 := b0.c0
  have k1 := b0.c1
  have n1 : ¬ ((k : Int) < 0) := by omega
  have n2 : ¬ ((200 : Int) < (k : Int)) := by omega
  have n3 : ¬ ((k : Int) = 0) := by omega
  clear hu hsg hs ela
  cases s <;> rcases (show (k : Int) % 2 = 1 ∨ (k : Int) % 2 = 0 by omega) with ho | ho
  all_goals
    go_enter Tryd.func23, Tryd.ntmps23
    go_wp2_with (first
      | (go_at_call 42; refine HPW.out.mono ?_; rintro e w1 ⟨u1, rfl, hu1, hb1⟩; obtain ⟨na, nc, rfl⟩ := UN.form hu1)
      | (go_at_call 27; refine (HS.out _ _ _ (by simp; try omega) hu1).mono ?_; rintro e w2 ⟨u2, rfl, hu2, hb2⟩; obtain ⟨sa, sl, sc, rfl⟩ := hu2.form; obtain ⟨s2, hs2⟩ : ∃ s2, decide (x ^ k < 0) = s2 := ⟨_, rfl⟩; rw [hs2] at hu2; rw [hs2]; clear hs2; have hq := Below.then hb1 hb2; have r0 := (bR.below hq).c0; have r1 := (bR.below hq).c1; have f0 := (bR.below hq).f0; have f1 := (bR.below hq).f1))
    have hq2 := hB0.trans (hq.mono hB0.size)
    have hfin := hu2.box (bR.below hq) rfl rfl (x0 := .bool s2) (x1 := .slice sa sl sc)
    exact bodyPost_ret (v := .tuple #[.agg #[.bool s2, .slice sa sl sc], .bool true]) (by simp [results, Tryd.results23, go_sem, r0, r1]) rfl ⟨_, rfl, hfin, (hq2.setCell (p := ⟨_, 0, none⟩) (by simp only; omega) _).setCell (p := ⟨_, 1, none⟩) (by simp only; omega) _⟩
end Go.Proofs.YtjmmnpfedhkjbaaDoor
namespace Go.Proofs.YtjmmnpfedhkjbaaDoor
open Go.RowKit Go.Shelf

attribute [local go_sem] Oper.semAt_some

theorem sz_mul {x y : Int} (hx : szB x ≤ 2000) (hy : szB y ≤ 2000) : szB (x * y) ≤ 1000000000 := by
  unfold szB at *
  have h1 := val_lt (dig_limbs (B := 10000) (by omega) x.natAbs)
  have h2 := val_lt (dig_limbs (B := 10000) (by omega) y.natAbs)
  rw [val_limbs (by omega)] at h1 h2
  have h3 : x.natAbs * y.natAbs < 10000 ^ ((limbs 10000 x.natAbs).length + (limbs 10000 y.natAbs).length) := by
    rw [Nat.pow_add]
    exact Nat.mul_lt_mul'' h1 h2
  have h4 := limbs_length_le (B := 10000) (by omega) h3
  rw [Int.natAbs_mul]
  omega

theorem Small.words2 {z : Int} (h : Small z) : (limbs B64 z.natAbs).length ≤ 2000 := by
  have := good_size h.good.1 (B := B64) (by unfold B64; omega)
  rw [h.good.2] at this
  exact this

theorem ipower_ok (va : Value) (x : Int) (k : Nat) (w : World) (ha : IsInt w va x) (hk2 : k ≤ 200) (hlk : (limbs B64 x.natAbs).length * k ≤ 1000000000) :
    Calls Tryd.prog 23 #[va, .int .i64 (k : Nat)] w fun e w' => ∃ u, e = .returned (.tuple #[u, .bool true]) ∧ IsInt w' u (x ^ k) ∧ Below w.heap.size w w' := by
  rcases Nat.eq_zero_or_pos k with h0 | h0
  · subst h0
    obtain ⟨a, l, c, rfl⟩ := ha.form
    rw [Int.pow_zero]
    exact ipower_0 _ a l c w
  · exact ipower_c va x k w ha h0 hk2 hlk

end Go.Proofs.YtjmmnpfedhkjbaaDoor
namespace Go.Proofs.YtjmmnpfedhkjbaaDoor
open Go.RowKit Go.Shelf

attribute [local go_sem] Oper.semAt_some

set_option maxRecDepth 100000 in
set_option maxHeartbeats 4000000 in
theorem wholeProducts_a (s r : ByteArray) (hs : s.size ≤ 140737488351232) (hr : r.size ≤ 140737488351232) (n : Int) (hn0 : n < 0) (w : World) (htab : Lib.TabIs Tryd.prog w "internal/strconv.uint64pow10" .u64 Lib.pow10Tab) :
    Calls Tryd.prog 5 #[.string s, .string r, .int .i64 n] w fun e w' => e = .returned (.bool true) ∧ Below w.heap.size w w' := by
  have HT := hidD htab
  have HN := hidD hn0
  clear hn0
  have hmx : Tryd.prog.follows .mixedOrders = true := by kernel_rfl
  clear htab
  have hB : Below w.heap.size w w := Below.refl _ w
  go_enter Tryd.func5, Tryd.ntmps5
  go_upto_region 2 with (go_at_call 13; refine (lread_c s hs _).mono ?_; rintro e w7 ⟨u, x, rfl, hu, hx, hb⟩; obtain ⟨a7, l7, c7, rfl⟩ := hu.form; obtain ⟨s7, hsg⟩ : ∃ b, decide (x < 0) = b := ⟨_, rfl⟩; rw [hsg] at hu; rw [hsg]; clear hsg)
  obtain ⟨V7, hV⟩ : ∃ V, w7.alloc (.cells #[.slice a7 l7 c7, .bool s7] 30) = V := ⟨_, rfl⟩
  have lift : Below w.heap.size w V7 := by rw [← hV]; exact hb.alloc hb.size _
  have n7 : Box2 V7 w7.heap.size 30 (.slice a7 l7 c7) (.bool s7) := by rw [← hV]; exact Box2.new _ _ _ _
  have i7 : IsBig V7 (.agg #[.slice a7 l7 c7, .bool s7]) (x) := by rw [← hV]; exact hu.alloc _
  obtain ⟨B7, hBk⟩ : ∃ B, B = w7.heap.size := ⟨_, rfl⟩
  rw [hV]
  rw [← hBk] at n7 ⊢
  replace hB := hB.trans (lift.mono hB.size)
  clear hV hBk hb hu lift
  replace k7a := n7.c0
  replace k7b := n7.c1
  go_upto_region 3 with (go_at_call 13; refine (lread_c r hr _).mono ?_; rintro e w8 ⟨u, y, rfl, hu, hy, hb⟩; obtain ⟨a8, l8, c8, rfl⟩ := hu.form; obtain ⟨s8, hsg⟩ : ∃ b, decide (y < 0) = b := ⟨_, rfl⟩; rw [hsg] at hu; rw [hsg]; clear hsg)
  obtain ⟨V8, hV⟩ : ∃ V, w8.alloc (.cells #[.slice a8 l8 c8, .bool s8] 30) = V := ⟨_, rfl⟩
  have lift : Below V7.heap.size V7 V8 := by rw [← hV]; exact hb.alloc hb.size _
  have n8 : Box2 V8 w8.heap.size 30 (.slice a8 l8 c8) (.bool s8) := by rw [← hV]; exact Box2.new _ _ _ _
  have i8 : IsBig V8 (.agg #[.slice a8 l8 c8, .bool s8]) (y) := by rw [← hV]; exact hu.alloc _
  obtain ⟨B8, hBk⟩ : ∃ B, B = w8.heap.size := ⟨_, rfl⟩
  rw [hV]
  rw [← hBk] at n8 ⊢
  replace hB := hB.trans (lift.mono hB.size)
  replace n7 := n7.below lift
  replace i7 := i7.below lift
  clear hV hBk hb hu lift
  replace k7a := n7.c0
  replace k7b := n7.c1
  replace k8a := n8.c0
  replace k8b := n8.c1
  go_upto_region 4 with (go_at_call 14; refine (given_c _ x _ i7 hx).mono ?_; rintro e w9 ⟨u, rfl, hu, hb⟩; obtain ⟨a9, l9, c9, rfl⟩ := hu.form; obtain ⟨s9, hsg⟩ : ∃ b, decide (x < 0) = b := ⟨_, rfl⟩; rw [hsg] at hu; rw [hsg]; clear hsg)
  obtain ⟨V9, hV⟩ : ∃ V, w9.alloc (.cells #[.bool s9, .slice a9 l9 c9] 25) = V := ⟨_, rfl⟩
  have lift : Below V8.heap.size V8 V9 := by rw [← hV]; exact hb.alloc hb.size _
  have n9 : Box2 V9 w9.heap.size 25 (.bool s9) (.slice a9 l9 c9) := by rw [← hV]; exact Box2.new _ _ _ _
  have i9 : IsInt V9 (.agg #[.bool s9, .slice a9 l9 c9]) (x) := by rw [← hV]; exact hu.alloc _
  obtain ⟨B9, hBk⟩ : ∃ B, B = w9.heap.size := ⟨_, rfl⟩
  rw [hV]
  rw [← hBk] at n9 ⊢
  replace hB := hB.trans (lift.mono hB.size)
  replace n7 := n7.below lift
  replace i7 := i7.below lift
  replace n8 := n8.below lift
  replace i8 := i8.below lift
  clear hV hBk hb hu lift
  replace k7a := n7.c0
  replace k7b := n7.c1
  replace k8a := n8.c0
  replace k8b := n8.c1
  replace k9a := n9.c0
  replace k9b := n9.c1
  have HGV := hidD (fun (V : World) (h : Below V9.heap.size V9 V) => given_c _ y V (i8.below h) hy)
  have HTM := hidD (fun (V : World) (u : Value) (h : Below V9.heap.size V9 V) (hu : IsInt V u y) => itimes_c _ u x y V (i9.below h) hu (by have := hx.words2; have := hy.words2; omega))
  refine wp_region_tab hmx [[], [], [1], [0, 2, 2], [], [4, 3, 3, 0, 1, 2, 3, 4]] (by kernel_rfl) (by decide)
    (fun D a V => ∃ t10 t20 t21 t22 t23 : Value, a = { tmps := #[.string s, .string r, .int .i64 n, undef, undef, undef, .bool false, .pointer (some ⟨B7, 0, none⟩), .pointer (some ⟨B8, 0, none⟩), .pointer (some ⟨B9, 0, none⟩), t10, undef, undef, undef, .string s, .agg #[.slice a7 l7 c7, .bool s7], .string r, .agg #[.slice a8 l8 c8, .bool s8], .agg #[.slice a7 l7 c7, .bool s7], .agg #[.bool s9, .slice a9 l9 c9], t20, t21, t22, t23, undef, undef, undef, undef, undef, undef, undef, undef, undef, undef, undef, undef, undef, undef, undef, undef, undef, undef, undef, undef, undef, undef, undef, undef, undef, undef, undef, undef, undef, undef, undef, undef, undef, undef, undef, undef, undef, undef, undef, undef, undef, undef, undef, undef, undef, undef, undef, undef, undef, undef, undef, undef, undef, undef, undef, undef, undef, undef, undef], defers := [] } ∧
      Hid (D 0 = true → t20 = .agg #[.bool s9, .slice a9 l9 c9]) ∧ Hid (D 1 = true → t21 = .agg #[.slice a8 l8 c8, .bool s8]) ∧ Hid (D 2 = true → IsInt V t22 y) ∧ Hid (D 3 = true → IsInt V t23 (x * y)) ∧
      Hid (D 4 = true → D 5 = false → ∃ B, t10 = .pointer (some ⟨B, 0, none⟩) ∧ Box2 V B 25 (.bool false) (.slice none 0 0) ∧ V9.heap.size ≤ B) ∧
      Hid (D 5 = true → ∃ B s3 a3 l3 c3, t10 = .pointer (some ⟨B, 0, none⟩) ∧ t23 = .agg #[.bool s3, .slice a3 l3 c3] ∧ Box2 V B 25 (.bool s3) (.slice a3 l3 c3) ∧ V9.heap.size ≤ B) ∧ Below V9.heap.size V9 V)
    ⟨_, _, _, _, _, rfl, hidD (fun h => by cases h), hidD (fun h => by cases h), hidD (fun h => by cases h), hidD (fun h => by cases h), hidD (fun h => by cases h), hidD (fun h => by cases h), (Below.refl _ V9).drew⟩ ?step ?fin
  case step =>
    rintro D a V i ds hcl2 hi2 hds hDi ⟨t10, t20, t21, t22, t23, rfl, g0, g1, g2, g3, g4, g5, hq⟩
    have hi6 : i < 6 := (List.getElem?_eq_some_iff.1 hi2).1
    obtain rfl | rfl | rfl | rfl | rfl | rfl : i = 0 ∨ i = 1 ∨ i = 2 ∨ i = 3 ∨ i = 4 ∨ i = 5 := by omega
    all_goals
      simp only [List.getElem?_cons_zero, List.getElem?_cons_succ, Option.some.injEq] at hi2
      subst hi2
      clear hi6
    · have k0 := (n9.below hq).c0
      have k1 := (n9.below hq).c1
      clear hds hcl2
      refine wpOp_go rfl rfl (fun K hK => ?_)
      go_simp
      exact hK _ _ ⟨_, _, _, _, _, rfl, hidD (fun _ => rfl), g1, g2, g3, g4, g5, hq⟩
    · have k0 := (n8.below hq).c0
      have k1 := (n8.below hq).c1
      clear hds hcl2
      refine wpOp_go rfl rfl (fun K hK => ?_)
      go_simp
      exact hK _ _ ⟨_, _, _, _, _, rfl, g0, hidD (fun _ => rfl), g2, g3, g4, g5, hq⟩
    · have hf5 : D 5 = false := by
        cases h : D 5 with
        | false => rfl
        | true => rw [hcl2 5 _ rfl h 2 (by simp)] at hDi; cases hDi
      have hf3 : D 3 = false := by
        cases h : D 3 with
        | false => rfl
        | true => rw [hcl2 3 _ rfl h 2 (by simp)] at hDi; cases hDi
      obtain rfl := g1.out (hds 1 (by simp))
      clear hds hcl2
      refine wpOp_go rfl rfl (fun K hK => ?_)
      go_simp
      go_wp2_with (go_at_call 14; refine (HGV.out _ hq).mono ?_; rintro e w5 ⟨v5, rfl, hv5, hb5⟩)
      exact ⟨_, _, _, _, _, rfl, g0, hidD (fun _ => rfl), hidD (fun _ => hv5), hidD (fun h => by simp [hf3] at h), hidD (fun h h' => by
        obtain ⟨B, e, q, q2⟩ := g4.out h h'
        exact ⟨B, e, q.below hb5, q2⟩), hidD (fun h => by simp [hf5] at h), Below.then hq hb5⟩
    · have hf5 : D 5 = false := by
        cases h : D 5 with
        | false => rfl
        | true => rw [hcl2 5 _ rfl h 3 (by simp)] at hDi; cases hDi
      obtain rfl := g0.out (hds 0 (by simp))
      have h2 := g2.out (hds 2 (by simp))
      clear hds hcl2
      refine wpOp_go rfl rfl (fun K hK => ?_)
      go_simp
      go_wp2_with (go_at_call 21; refine (HTM.out _ _ hq h2).mono ?_; rintro e w5 ⟨v5, rfl, hv5, hb5⟩)
      exact ⟨_, _, _, _, _, rfl, hidD (fun _ => rfl), g1, hidD (fun _ => h2.below hb5), hidD (fun _ => hv5), hidD (fun h h' => by
        obtain ⟨B, e, q, q2⟩ := g4.out h h'
        exact ⟨B, e, q.below hb5, q2⟩), hidD (fun h => by simp [hf5] at h), Below.then hq hb5⟩
    · have hf5 : D 5 = false := by
        cases h : D 5 with
        | false => rfl
        | true => rw [hcl2 5 _ rfl h 4 (by simp)] at hDi; cases hDi
      clear hds hcl2
      refine wpOp_go rfl rfl (fun K hK => ?_)
      go_simp
      exact hK _ _ ⟨_, _, _, _, _, rfl, g0, g1, hidD (fun h => (g2.out h).alloc _), hidD (fun h => (g3.out h).alloc _), hidD (fun _ _ => ⟨_, rfl, Box2.new _ _ _ _, hq.size⟩), hidD (fun h => by simp [hf5] at h), hq.alloc hq.size _⟩
    · obtain ⟨B, rfl, hbB, hwB⟩ := g4.out (hds 4 (by simp)) hDi
      have h3 := g3.out (hds 3 (by simp))
      obtain ⟨a3, l3, c3, rfl⟩ := h3.form
      have k0 := hbB.c0
      have k1 := hbB.c1
      have f0 := hbB.f0
      have f1 := hbB.f1
      clear g4 g5 hds hcl2
      refine wpOp_go rfl rfl (fun K hK => ?_)
      go_simp
      exact hK _ _ ⟨_, _, _, _, _, rfl, g0, g1, hidD (fun h => (g2.out h).box hbB rfl rfl), hidD (fun _ => h3.box hbB rfl rfl), hidD (fun _ h => by simp at h), hidD (fun _ => ⟨B, _, a3, l3, c3, rfl, rfl, (hbB.set0 _).set1 _, hwB⟩), (hq.setCell (p := ⟨B, 0, none⟩) hwB _).setCell (p := ⟨B, 1, none⟩) hwB _⟩
  clear HGV HTM
  rintro D a V10 hDD ⟨t10, t20, t21, t22, t23, rfl, g0, g1, g2, g3, g4, g5, hq⟩
  obtain ⟨B10, s10, a10, l10, c10, rfl, rfl, n10, _⟩ := g5.out (hDD 5 (by decide))
  have i10 := g3.out (hDD 3 (by decide))
  obtain rfl := g0.out (hDD 0 (by decide))
  obtain rfl := g1.out (hDD 1 (by decide))
  clear g0 g1 g2 g3 g4 g5 hDD k7a k7b k8a k8b k9a k9b
  replace n7 := n7.below hq
  replace i7 := i7.below hq
  replace n8 := n8.below hq
  replace i8 := i8.below hq
  replace n9 := n9.below hq
  replace i9 := i9.below hq
  replace hB := hB.trans (hq.mono hB.size)
  clear hq
  obtain ⟨S1, hS1⟩ : ∃ S : ByteArray, (⟨(decZ (x * y)).toArray⟩ : ByteArray) = S := ⟨_, rfl⟩
  have TI10 := hidD (fun (V : World) (h : Below V10.heap.size V10 V) => show Calls Tryd.prog 8 #[.agg #[.bool s10, .slice a10 l10 c10]] V fun e w' => e = .returned (.string S1) ∧ Below V.heap.size V w' by
    have h1 := itext_c _ _ V (i10.below h) (tab_below HT.out (hB.trans (h.mono hB.size)))
    rw [hS1] at h1
    exact h1)
  have TMR := hidD (fun (V : World) (h : Below V10.heap.size V10 V) => rtimes_c _ _ x y V (i7.below h) (i8.below h) hx.size hy.size)
  have TR1 := hidD (fun (V : World) (v : Value) (h : IsBig V v (x * y)) => show Calls Tryd.prog 9 #[v] V fun e w' => e = .returned (.string S1) ∧ Below V.heap.size V w' by
    have h1 := text_c v _ V h (sz_mul hx.sz hy.sz)
    rw [hS1] at h1
    exact h1)
  clear hS1
  go_upto_region 5 with fail
  have hq : Below V10.heap.size V10 V10.drew := (Below.refl _ V10).drew
  replace k7a := n7.c0
  replace k7b := n7.c1
  replace k8a := n8.c0
  replace k8b := n8.c1
  replace k10a := n10.c0
  replace k10b := n10.c1
  go_region_held3 (fun w' => w'.cell? ⟨B7, 0, none⟩ = some (.slice a7 l7 c7) ∧ w'.cell? ⟨B7, 1, none⟩ = some (.bool s7) ∧ w'.cell? ⟨B8, 0, none⟩ = some (.slice a8 l8 c8) ∧ w'.cell? ⟨B8, 1, none⟩ = some (.bool s8) ∧ w'.cell? ⟨B10, 0, none⟩ = some (.bool s10) ∧ w'.cell? ⟨B10, 1, none⟩ = some (.slice a10 l10 c10)) (first | (exact ⟨k7a, k7b, k8a, k8b, k10a, k10b⟩) | (refine ⟨?_, ?_, ?_, ?_, ?_, ?_⟩ <;> (go_keep; done)))
    (first
      | (go_at_call 8; refine (TI10.out _ hq).mono ?_; rintro e w8 ⟨rfl, hb8⟩; clear k7a k7b k8a k8b k10a k10b; replace hq := Below.then hq hb8; have k7a := (n7.below hq).c0; have k7b := (n7.below hq).c1; have k8a := (n8.below hq).c0; have k8b := (n8.below hq).c1; have k10a := (n10.below hq).c0; have k10b := (n10.below hq).c1)
      | (go_at_call 22; refine (TMR.out _ hq).mono ?_; rintro e w8 ⟨v8, rfl, h4, hb8⟩; obtain ⟨a4, l4, c4, rfl⟩ := h4.form; obtain ⟨s4, hs4⟩ : ∃ b, decide (x * y < 0) = b := ⟨_, rfl⟩; rw [hs4] at h4; rw [hs4]; clear hs4; clear k7a k7b k8a k8b k10a k10b; replace hq := Below.then hq hb8; have k7a := (n7.below hq).c0; have k7b := (n7.below hq).c1; have k8a := (n8.below hq).c0; have k8b := (n8.below hq).c1; have k10a := (n10.below hq).c0; have k10b := (n10.below hq).c1)
      | (go_at_call 9; refine (TR1.out _ _ h4).mono ?_; rintro e w8 ⟨rfl, hb8⟩; clear k7a k7b k8a k8b k10a k10b; replace hq := Below.then hq hb8; have k7a := (n7.below hq).c0; have k7b := (n7.below hq).c1; have k8a := (n8.below hq).c0; have k8b := (n8.below hq).c1; have k10a := (n10.below hq).c0; have k10b := (n10.below hq).c1))
  replace hB := hB.trans (hq.mono hB.size)
  replace n7 := n7.below hq
  replace i7 := i7.below hq
  replace n9 := n9.below hq
  replace i9 := i9.below hq
  clear n8 n10 TI10 TMR TR1 hq k7a k7b k8a k8b k10a k10b
  replace k7a := n7.c0
  obtain ⟨W0, hW0⟩ : ∃ W0, w8 = W0 := ⟨_, rfl⟩
  subst hW0
  have hl7 : l7 = szB x := by
    obtain ⟨a', l', c', e, hr⟩ := i7
    cases e
    exact (row_fn hr).1
  have HL7 := hidD hl7
  clear hl7
  obtain ⟨q, hqe⟩ : ∃ q : Bool, (decide ((5 : Int) < (l7 : Int)) && decide (9 < n)) = q := ⟨_, rfl⟩
  have HQE := hidD hqe
  clear hqe
  go_upto_region 8 with fail
  go_cut [39] (fun v w1 => v = .bool q ∧ w1 = w8)
  case first =>
    by_cases h5 : 5 < l7
    · have e5 : q = decide (9 < n) := by rw [← HQE.out]; simp; omega
      go_wp2_with fail
      go_meet
      case rel => exact ⟨by rw [e5], rfl⟩
    · have e5 : q = false := by rw [← HQE.out]; simp; omega
      go_wp2_with fail
      go_meet
      case rel => exact ⟨by rw [e5], rfl⟩
  case rest =>
    obtain ⟨rfl, rfl⟩ := hcut
    go_upto_if 39 with fail
    go_cut [11] (fun kv w1 => ∃ K : Int, kv = .int .i64 K ∧ (5 < l7 → K ≤ 9) ∧ Hid (K = n ∨ K = 9 ∧ 9 < n) ∧ w1 = wc)
    case first =>
      cases q
      · go_wp2_with fail
        go_meet
        case rel => exact ⟨n, rfl, fun h => by have h1 := HQE.out; simp at h1; omega, hidD (Or.inl rfl), rfl⟩
      · go_wp2_with fail
        go_meet
        case rel => exact ⟨9, rfl, fun _ => by omega, hidD (Or.inr ⟨rfl, by have h1 := HQE.out; simp at h1; omega⟩), rfl⟩
    case rest =>
      obtain ⟨K, rfl, hK, hKn, rfl⟩ := hcut
      replace k9a := n9.c0
      replace k9b := n9.c1
      have hno0 : K < 0 ∨ 0 ≤ K ∧ 200 < K := by have h1 := HN.out; have h2 := hKn.out; omega
      have hno : K < 0 := by have h1 := HN.out; have h2 := hKn.out; omega
      have HPN := hidD (ipower_no s9 a9 l9 c9 K wc hno0)
      clear hK hno0 hKn
      · have n1 : K < 0 := hno
        have n2 : ¬ (0 ≤ K) := by omega
        clear hno
        go_upto_region 11 with (go_at_call 23; refine HPN.out.mono ?_; rintro e w12 ⟨rfl, hb⟩)
        go_upto_region 13 with fail
        obtain ⟨W12, hW⟩ : ∃ W, w12.alloc (.cells #[.bool false, .slice none 0 0] 25) = W := ⟨_, rfl⟩
        have lift : Below wc.heap.size wc W12 := by rw [← hW]; exact hb.alloc hb.size _
        have n12 : Box2 W12 w12.heap.size 25 (.bool false) (.slice none 0 0) := by rw [← hW]; exact Box2.new _ _ _ _
        obtain ⟨B12, hBk⟩ : ∃ B, B = w12.heap.size := ⟨_, rfl⟩
        rw [hW]
        rw [← hBk] at n12 ⊢
        replace hB := hB.trans (lift.mono hB.size)
        replace n7 := n7.below lift
        replace i7 := i7.below lift
        replace n9 := n9.below lift
        replace i9 := i9.below lift
        clear hW hBk hb lift k7a k9a k9b
        obtain ⟨Sx, hSx⟩ : ∃ S : ByteArray, (⟨(decZ x).toArray⟩ : ByteArray) = S := ⟨_, rfl⟩
        have TI9 := hidD (fun (V : World) (h : Below W12.heap.size W12 V) => show Calls Tryd.prog 8 #[.agg #[.bool s9, .slice a9 l9 c9]] V fun e w' => e = .returned (.string Sx) ∧ Below V.heap.size V w' by
          have h1 := itext_c _ _ V (i9.below h) (tab_below HT.out (hB.trans (h.mono hB.size)))
          rw [hSx] at h1
          exact h1)
        have TR7 := hidD (fun (V : World) (h : Below W12.heap.size W12 V) => show Calls Tryd.prog 9 #[.agg #[.slice a7 l7 c7, .bool s7]] V fun e w' => e = .returned (.string Sx) ∧ Below V.heap.size V w' by
          have h1 := text_c _ x V (i7.below h) hx.size
          rw [hSx] at h1
          exact h1)
        have AL := hidD (fun (V : World) (h : Below W12.heap.size W12 V) => alive_c V (tab_below HT.out (hB.trans (h.mono hB.size))))
        clear hSx i7 i9
        refine wp_region_tab hmx [[], [0], [1], [2, 1, 1], [1], [1], [4, 5, 3, 1], [6, 6, 1], [3, 7, 1], [1, 8], [9, 7], [10], [11, 10], [12, 10, 10], [13], [14, 13, 13], [15, 13], [13, 16, 10], [10, 17], [18, 15], [19], [20, 19, 19], [19], [22, 21, 19], [21, 23, 19], [19, 24], [25, 23], [26, 26], [26, 27], [28, 27, 0, 1, 2, 3, 4, 5, 6, 7, 8, 9, 10, 11, 12, 13, 14, 15, 16, 17, 18, 19, 20, 21, 22, 23, 24, 25, 26, 27, 28]] (by kernel_rfl) (by decide)
          (fun D a V => ∃ t6 t54 t55 t56 t57 t58 t59 t60 t61 t62 t63 t64 t65 t66 t67 t68 t69 t70 t71 t72 t73 t74 t75 t76 t77 t78 t79 t80 t81 t82 : Value, a = { tmps := #[.string s, .string r, .int .i64 n, undef, undef, undef, t6, .pointer (some ⟨B7, 0, none⟩), .pointer (some ⟨B8, 0, none⟩), .pointer (some ⟨B9, 0, none⟩), .pointer (some ⟨B10, 0, none⟩), .int .i64 K, .pointer (some ⟨B12, 0, none⟩), .bool false, u14, u15, u16, u17, u18, u19, u20, u21, u22, u23, u24, u25, u26, u27, u28, u29, u30, u31, u32, u33, u34, u35, u36, u37, u38, u39, .tuple #[.agg #[.bool false, .slice none 0 0], .bool false], .agg #[.bool s9, .slice a9 l9 c9], .int .i64 K, .tuple #[.agg #[.bool false, .slice none 0 0], .bool false], .agg #[.bool false, .slice none 0 0], .bool false, .bool false, .int .i64 K, .bool false, .bool false, undef, undef, .bool false, .bool false, t54, t55, t56, t57, t58, t59, t60, t61, t62, t63, t64, t65, t66, t67, t68, t69, t70, t71, t72, t73, t74, t75, t76, t77, t78, t79, t80, t81, t82], defers := [] } ∧
                      Hid (D 0 = true → t54 = .bool false) ∧ Hid (D 1 = true → t55 = .bool false) ∧ Hid (D 9 = true → t63 = .bool false) ∧ Hid (D 10 = true → t64 = .bool false) ∧ Hid (D 11 = true → t65 = .bool false) ∧ Hid (D 12 = true → t66 = .bool true) ∧ Hid (D 13 = true → t67 = .bool true) ∧ Hid (D 14 = true → t68 = .agg #[.bool false, .slice none 0 0]) ∧ Hid (D 15 = true → t69 = .string ⟨#[48]⟩) ∧ Hid (D 16 = true → t70 = .bool true) ∧ Hid (D 17 = true → t71 = .bool true) ∧ Hid (D 18 = true → t72 = .bool true) ∧ Hid (D 19 = true → t73 = .bool true) ∧ Hid (D 20 = true → t74 = .agg #[.bool s9, .slice a9 l9 c9]) ∧ Hid (D 21 = true → t75 = .string Sx) ∧ Hid (D 22 = true → t76 = .agg #[.slice a7 l7 c7, .bool s7]) ∧ Hid (D 23 = true → t77 = .string Sx) ∧ Hid (D 24 = true → t78 = .bool true) ∧ Hid (D 25 = true → t79 = .bool true) ∧ Hid (D 26 = true → t80 = .bool true) ∧ Hid (D 27 = true → t81 = .bool true) ∧ Hid (D 28 = true → t82 = .bool true) ∧ Hid (D 29 = true → t6 = .bool true) ∧ Below W12.heap.size W12 V)
          ⟨_, _, _, _, _, _, _, _, _, _, _, _, _, _, _, _, _, _, _, _, _, _, _, _, _, _, _, _, _, _, rfl, hidD (fun h => by cases h), hidD (fun h => by cases h), hidD (fun h => by cases h), hidD (fun h => by cases h), hidD (fun h => by cases h), hidD (fun h => by cases h), hidD (fun h => by cases h), hidD (fun h => by cases h), hidD (fun h => by cases h), hidD (fun h => by cases h), hidD (fun h => by cases h), hidD (fun h => by cases h), hidD (fun h => by cases h), hidD (fun h => by cases h), hidD (fun h => by cases h), hidD (fun h => by cases h), hidD (fun h => by cases h), hidD (fun h => by cases h), hidD (fun h => by cases h), hidD (fun h => by cases h), hidD (fun h => by cases h), hidD (fun h => by cases h), hidD (fun h => by cases h), (Below.refl _ W12).drew⟩ ?stepB ?finB
        case stepB =>
          rintro D a V i ds hcl2 hi2 hds hDi ⟨t6, t54, t55, t56, t57, t58, t59, t60, t61, t62, t63, t64, t65, t66, t67, t68, t69, t70, t71, t72, t73, t74, t75, t76, t77, t78, t79, t80, t81, t82, rfl, g0, g1, g9, g10, g11, g12, g13, g14, g15, g16, g17, g18, g19, g20, g21, g22, g23, g24, g25, g26, g27, g28, g29, hq⟩
          have hi6 : i < 30 := (List.getElem?_eq_some_iff.1 hi2).1
          clear hcl2 hDi
          obtain rfl | rfl | rfl | rfl | rfl | rfl | rfl | rfl | rfl | rfl | rfl | rfl | rfl | rfl | rfl | rfl | rfl | rfl | rfl | rfl | rfl | rfl | rfl | rfl | rfl | rfl | rfl | rfl | rfl | rfl : i = 0 ∨ i = 1 ∨ i = 2 ∨ i = 3 ∨ i = 4 ∨ i = 5 ∨ i = 6 ∨ i = 7 ∨ i = 8 ∨ i = 9 ∨ i = 10 ∨ i = 11 ∨ i = 12 ∨ i = 13 ∨ i = 14 ∨ i = 15 ∨ i = 16 ∨ i = 17 ∨ i = 18 ∨ i = 19 ∨ i = 20 ∨ i = 21 ∨ i = 22 ∨ i = 23 ∨ i = 24 ∨ i = 25 ∨ i = 26 ∨ i = 27 ∨ i = 28 ∨ i = 29 := by omega
          all_goals
            simp only [List.getElem?_cons_zero, List.getElem?_cons_succ, Option.some.injEq] at hi2
            subst hi2
            clear hi6
          · clear hds
            refine wpOp_yes rfl rfl (fun K0 hK0 => ?_)
            go_simp
            exact hK0 _ _ ⟨_, _, _, _, _, _, _, _, _, _, _, _, _, _, _, _, _, _, _, _, _, _, _, _, _, _, _, _, _, _, rfl, hidD (fun _ => rfl), g1, g9, g10, g11, g12, g13, g14, g15, g16, g17, g18, g19, g20, g21, g22, g23, g24, g25, g26, g27, g28, g29, hq⟩
          · obtain rfl := g0.out (hds 0 (by simp))
            clear hds
            refine wpOp_yes rfl rfl (fun K0 hK0 => ?_)
            go_simp
            exact hK0 _ _ ⟨_, _, _, _, _, _, _, _, _, _, _, _, _, _, _, _, _, _, _, _, _, _, _, _, _, _, _, _, _, _, rfl, hidD (fun _ => rfl), hidD (fun _ => rfl), g9, g10, g11, g12, g13, g14, g15, g16, g17, g18, g19, g20, g21, g22, g23, g24, g25, g26, g27, g28, g29, hq⟩
          · obtain rfl := g1.out (hds 1 (by simp))
            clear hds
            exact wpOp_no rfl rfl ⟨_, _, _, _, _, _, _, _, _, _, _, _, _, _, _, _, _, _, _, _, _, _, _, _, _, _, _, _, _, _, rfl, g0, hidD (fun _ => rfl), g9, g10, g11, g12, g13, g14, g15, g16, g17, g18, g19, g20, g21, g22, g23, g24, g25, g26, g27, g28, g29, hq⟩
          · obtain rfl := g1.out (hds 1 (by simp))
            clear hds
            exact wpOp_no rfl rfl ⟨_, _, _, _, _, _, _, _, _, _, _, _, _, _, _, _, _, _, _, _, _, _, _, _, _, _, _, _, _, _, rfl, g0, hidD (fun _ => rfl), g9, g10, g11, g12, g13, g14, g15, g16, g17, g18, g19, g20, g21, g22, g23, g24, g25, g26, g27, g28, g29, hq⟩
          · obtain rfl := g1.out (hds 1 (by simp))
            clear hds
            exact wpOp_no rfl rfl ⟨_, _, _, _, _, _, _, _, _, _, _, _, _, _, _, _, _, _, _, _, _, _, _, _, _, _, _, _, _, _, rfl, g0, hidD (fun _ => rfl), g9, g10, g11, g12, g13, g14, g15, g16, g17, g18, g19, g20, g21, g22, g23, g24, g25, g26, g27, g28, g29, hq⟩
          · obtain rfl := g1.out (hds 1 (by simp))
            clear hds
            exact wpOp_no rfl rfl ⟨_, _, _, _, _, _, _, _, _, _, _, _, _, _, _, _, _, _, _, _, _, _, _, _, _, _, _, _, _, _, rfl, g0, hidD (fun _ => rfl), g9, g10, g11, g12, g13, g14, g15, g16, g17, g18, g19, g20, g21, g22, g23, g24, g25, g26, g27, g28, g29, hq⟩
          · obtain rfl := g1.out (hds 1 (by simp))
            clear hds
            exact wpOp_no rfl rfl ⟨_, _, _, _, _, _, _, _, _, _, _, _, _, _, _, _, _, _, _, _, _, _, _, _, _, _, _, _, _, _, rfl, g0, hidD (fun _ => rfl), g9, g10, g11, g12, g13, g14, g15, g16, g17, g18, g19, g20, g21, g22, g23, g24, g25, g26, g27, g28, g29, hq⟩
          · obtain rfl := g1.out (hds 1 (by simp))
            clear hds
            exact wpOp_no rfl rfl ⟨_, _, _, _, _, _, _, _, _, _, _, _, _, _, _, _, _, _, _, _, _, _, _, _, _, _, _, _, _, _, rfl, g0, hidD (fun _ => rfl), g9, g10, g11, g12, g13, g14, g15, g16, g17, g18, g19, g20, g21, g22, g23, g24, g25, g26, g27, g28, g29, hq⟩
          · obtain rfl := g1.out (hds 1 (by simp))
            clear hds
            exact wpOp_no rfl rfl ⟨_, _, _, _, _, _, _, _, _, _, _, _, _, _, _, _, _, _, _, _, _, _, _, _, _, _, _, _, _, _, rfl, g0, hidD (fun _ => rfl), g9, g10, g11, g12, g13, g14, g15, g16, g17, g18, g19, g20, g21, g22, g23, g24, g25, g26, g27, g28, g29, hq⟩
          · obtain rfl := g1.out (hds 1 (by simp))
            clear hds
            refine wpOp_yes rfl rfl (fun K0 hK0 => ?_)
            go_simp
            exact hK0 _ _ ⟨_, _, _, _, _, _, _, _, _, _, _, _, _, _, _, _, _, _, _, _, _, _, _, _, _, _, _, _, _, _, rfl, g0, hidD (fun _ => rfl), hidD (fun _ => rfl), g10, g11, g12, g13, g14, g15, g16, g17, g18, g19, g20, g21, g22, g23, g24, g25, g26, g27, g28, g29, hq⟩
          · obtain rfl := g9.out (hds 9 (by simp))
            clear hds
            refine wpOp_yes rfl rfl (fun K0 hK0 => ?_)
            go_simp
            exact hK0 _ _ ⟨_, _, _, _, _, _, _, _, _, _, _, _, _, _, _, _, _, _, _, _, _, _, _, _, _, _, _, _, _, _, rfl, g0, g1, hidD (fun _ => rfl), hidD (fun _ => rfl), g11, g12, g13, g14, g15, g16, g17, g18, g19, g20, g21, g22, g23, g24, g25, g26, g27, g28, g29, hq⟩
          · obtain rfl := g10.out (hds 10 (by simp))
            clear hds
            refine wpOp_yes rfl rfl (fun K0 hK0 => ?_)
            go_simp
            exact hK0 _ _ ⟨_, _, _, _, _, _, _, _, _, _, _, _, _, _, _, _, _, _, _, _, _, _, _, _, _, _, _, _, _, _, rfl, g0, g1, g9, hidD (fun _ => rfl), hidD (fun _ => rfl), g12, g13, g14, g15, g16, g17, g18, g19, g20, g21, g22, g23, g24, g25, g26, g27, g28, g29, hq⟩
          · obtain rfl := g10.out (hds 10 (by simp))
            obtain rfl := g11.out (hds 11 (by simp))
            clear hds
            refine wpOp_yes rfl rfl (fun K0 hK0 => ?_)
            go_simp
            exact hK0 _ _ ⟨_, _, _, _, _, _, _, _, _, _, _, _, _, _, _, _, _, _, _, _, _, _, _, _, _, _, _, _, _, _, rfl, g0, g1, g9, hidD (fun _ => rfl), hidD (fun _ => rfl), hidD (fun _ => rfl), g13, g14, g15, g16, g17, g18, g19, g20, g21, g22, g23, g24, g25, g26, g27, g28, g29, hq⟩
          · obtain rfl := g10.out (hds 10 (by simp))
            obtain rfl := g12.out (hds 12 (by simp))
            clear hds
            refine wpOp_yes rfl rfl (fun K0 hK0 => ?_)
            go_simp
            exact hK0 _ _ ⟨_, _, _, _, _, _, _, _, _, _, _, _, _, _, _, _, _, _, _, _, _, _, _, _, _, _, _, _, _, _, rfl, g0, g1, g9, hidD (fun _ => rfl), g11, hidD (fun _ => rfl), hidD (fun _ => rfl), g14, g15, g16, g17, g18, g19, g20, g21, g22, g23, g24, g25, g26, g27, g28, g29, hq⟩
          · obtain rfl := g13.out (hds 13 (by simp))
            clear hds
            have k0 := (n12.below hq).c0
            have k1 := (n12.below hq).c1
            refine wpOp_yes rfl rfl (fun K0 hK0 => ?_)
            go_simp
            exact hK0 _ _ ⟨_, _, _, _, _, _, _, _, _, _, _, _, _, _, _, _, _, _, _, _, _, _, _, _, _, _, _, _, _, _, rfl, g0, g1, g9, g10, g11, g12, hidD (fun _ => rfl), hidD (fun _ => rfl), g15, g16, g17, g18, g19, g20, g21, g22, g23, g24, g25, g26, g27, g28, g29, hq⟩
          · obtain rfl := g13.out (hds 13 (by simp))
            obtain rfl := g14.out (hds 14 (by simp))
            clear hds
            refine wpOp_yes rfl rfl (fun K0 hK0 => ?_)
            go_simp
            go_wp2_with (go_at_call 8; refine (itext_0 none 0 _).mono ?_; rintro e w8 ⟨rfl, hb8⟩)
            exact ⟨_, _, _, _, _, _, _, _, _, _, _, _, _, _, _, _, _, _, _, _, _, _, _, _, _, _, _, _, _, _, rfl, g0, g1, g9, g10, g11, g12, hidD (fun _ => rfl), hidD (fun _ => rfl), hidD (fun _ => rfl), g16, g17, g18, g19, g20, g21, g22, g23, g24, g25, g26, g27, g28, g29, Below.then hq hb8⟩
          · obtain rfl := g13.out (hds 13 (by simp))
            obtain rfl := g15.out (hds 15 (by simp))
            clear hds
            refine wpOp_yes rfl rfl (fun K0 hK0 => ?_)
            go_simp
            exact hK0 _ _ ⟨_, _, _, _, _, _, _, _, _, _, _, _, _, _, _, _, _, _, _, _, _, _, _, _, _, _, _, _, _, _, rfl, g0, g1, g9, g10, g11, g12, hidD (fun _ => rfl), g14, hidD (fun _ => rfl), hidD (fun _ => rfl), g17, g18, g19, g20, g21, g22, g23, g24, g25, g26, g27, g28, g29, hq⟩
          · obtain rfl := g10.out (hds 10 (by simp))
            obtain rfl := g13.out (hds 13 (by simp))
            obtain rfl := g16.out (hds 16 (by simp))
            clear hds
            refine wpOp_yes rfl rfl (fun K0 hK0 => ?_)
            go_simp
            exact hK0 _ _ ⟨_, _, _, _, _, _, _, _, _, _, _, _, _, _, _, _, _, _, _, _, _, _, _, _, _, _, _, _, _, _, rfl, g0, g1, g9, hidD (fun _ => rfl), g11, g12, hidD (fun _ => rfl), g14, g15, hidD (fun _ => rfl), hidD (fun _ => rfl), g18, g19, g20, g21, g22, g23, g24, g25, g26, g27, g28, g29, hq⟩
          · obtain rfl := g10.out (hds 10 (by simp))
            obtain rfl := g17.out (hds 17 (by simp))
            clear hds
            refine wpOp_yes rfl rfl (fun K0 hK0 => ?_)
            go_simp
            exact hK0 _ _ ⟨_, _, _, _, _, _, _, _, _, _, _, _, _, _, _, _, _, _, _, _, _, _, _, _, _, _, _, _, _, _, rfl, g0, g1, g9, hidD (fun _ => rfl), g11, g12, g13, g14, g15, g16, hidD (fun _ => rfl), hidD (fun _ => rfl), g19, g20, g21, g22, g23, g24, g25, g26, g27, g28, g29, hq⟩
          · obtain rfl := g15.out (hds 15 (by simp))
            obtain rfl := g18.out (hds 18 (by simp))
            clear hds
            refine wpOp_yes rfl rfl (fun K0 hK0 => ?_)
            go_simp
            exact hK0 _ _ ⟨_, _, _, _, _, _, _, _, _, _, _, _, _, _, _, _, _, _, _, _, _, _, _, _, _, _, _, _, _, _, rfl, g0, g1, g9, g10, g11, g12, g13, g14, hidD (fun _ => rfl), g16, g17, hidD (fun _ => rfl), hidD (fun _ => rfl), g20, g21, g22, g23, g24, g25, g26, g27, g28, g29, hq⟩
          · obtain rfl := g19.out (hds 19 (by simp))
            clear hds
            have k0 := (n9.below hq).c0
            have k1 := (n9.below hq).c1
            refine wpOp_yes rfl rfl (fun K0 hK0 => ?_)
            go_simp
            exact hK0 _ _ ⟨_, _, _, _, _, _, _, _, _, _, _, _, _, _, _, _, _, _, _, _, _, _, _, _, _, _, _, _, _, _, rfl, g0, g1, g9, g10, g11, g12, g13, g14, g15, g16, g17, g18, hidD (fun _ => rfl), hidD (fun _ => rfl), g21, g22, g23, g24, g25, g26, g27, g28, g29, hq⟩
          · obtain rfl := g19.out (hds 19 (by simp))
            obtain rfl := g20.out (hds 20 (by simp))
            clear hds
            refine wpOp_yes rfl rfl (fun K0 hK0 => ?_)
            go_simp
            go_wp2_with (go_at_call 8; refine (TI9.out _ hq).mono ?_; rintro e w8 ⟨rfl, hb8⟩)
            exact ⟨_, _, _, _, _, _, _, _, _, _, _, _, _, _, _, _, _, _, _, _, _, _, _, _, _, _, _, _, _, _, rfl, g0, g1, g9, g10, g11, g12, g13, g14, g15, g16, g17, g18, hidD (fun _ => rfl), hidD (fun _ => rfl), hidD (fun _ => rfl), g22, g23, g24, g25, g26, g27, g28, g29, Below.then hq hb8⟩
          · obtain rfl := g19.out (hds 19 (by simp))
            clear hds
            have k0 := (n7.below hq).c0
            have k1 := (n7.below hq).c1
            refine wpOp_yes rfl rfl (fun K0 hK0 => ?_)
            go_simp
            exact hK0 _ _ ⟨_, _, _, _, _, _, _, _, _, _, _, _, _, _, _, _, _, _, _, _, _, _, _, _, _, _, _, _, _, _, rfl, g0, g1, g9, g10, g11, g12, g13, g14, g15, g16, g17, g18, hidD (fun _ => rfl), g20, g21, hidD (fun _ => rfl), g23, g24, g25, g26, g27, g28, g29, hq⟩
          · obtain rfl := g19.out (hds 19 (by simp))
            obtain rfl := g21.out (hds 21 (by simp))
            obtain rfl := g22.out (hds 22 (by simp))
            clear hds
            refine wpOp_yes rfl rfl (fun K0 hK0 => ?_)
            go_simp
            go_wp2_with (go_at_call 9; refine (TR7.out _ hq).mono ?_; rintro e w8 ⟨rfl, hb8⟩)
            exact ⟨_, _, _, _, _, _, _, _, _, _, _, _, _, _, _, _, _, _, _, _, _, _, _, _, _, _, _, _, _, _, rfl, g0, g1, g9, g10, g11, g12, g13, g14, g15, g16, g17, g18, hidD (fun _ => rfl), g20, hidD (fun _ => rfl), hidD (fun _ => rfl), hidD (fun _ => rfl), g24, g25, g26, g27, g28, g29, Below.then hq hb8⟩
          · obtain rfl := g19.out (hds 19 (by simp))
            obtain rfl := g21.out (hds 21 (by simp))
            obtain rfl := g23.out (hds 23 (by simp))
            clear hds
            refine wpOp_yes rfl rfl (fun K0 hK0 => ?_)
            go_simp
            exact hK0 _ _ ⟨_, _, _, _, _, _, _, _, _, _, _, _, _, _, _, _, _, _, _, _, _, _, _, _, _, _, _, _, _, _, rfl, g0, g1, g9, g10, g11, g12, g13, g14, g15, g16, g17, g18, hidD (fun _ => rfl), g20, hidD (fun _ => rfl), g22, hidD (fun _ => rfl), hidD (fun _ => rfl), g25, g26, g27, g28, g29, hq⟩
          · obtain rfl := g19.out (hds 19 (by simp))
            obtain rfl := g24.out (hds 24 (by simp))
            clear hds
            refine wpOp_yes rfl rfl (fun K0 hK0 => ?_)
            go_simp
            exact hK0 _ _ ⟨_, _, _, _, _, _, _, _, _, _, _, _, _, _, _, _, _, _, _, _, _, _, _, _, _, _, _, _, _, _, rfl, g0, g1, g9, g10, g11, g12, g13, g14, g15, g16, g17, g18, hidD (fun _ => rfl), g20, g21, g22, g23, hidD (fun _ => rfl), hidD (fun _ => rfl), g26, g27, g28, g29, hq⟩
          · obtain rfl := g23.out (hds 23 (by simp))
            obtain rfl := g25.out (hds 25 (by simp))
            clear hds
            refine wpOp_yes rfl rfl (fun K0 hK0 => ?_)
            go_simp
            exact hK0 _ _ ⟨_, _, _, _, _, _, _, _, _, _, _, _, _, _, _, _, _, _, _, _, _, _, _, _, _, _, _, _, _, _, rfl, g0, g1, g9, g10, g11, g12, g13, g14, g15, g16, g17, g18, g19, g20, g21, g22, hidD (fun _ => rfl), g24, hidD (fun _ => rfl), hidD (fun _ => rfl), g27, g28, g29, hq⟩
          · obtain rfl := g26.out (hds 26 (by simp))
            clear hds
            refine wpOp_yes rfl rfl (fun K0 hK0 => ?_)
            go_simp
            go_wp2_with (go_at_call 12; refine (AL.out _ hq).mono ?_; rintro e w8 ⟨rfl, hb8⟩)
            exact ⟨_, _, _, _, _, _, _, _, _, _, _, _, _, _, _, _, _, _, _, _, _, _, _, _, _, _, _, _, _, _, rfl, g0, g1, g9, g10, g11, g12, g13, g14, g15, g16, g17, g18, g19, g20, g21, g22, g23, g24, g25, hidD (fun _ => rfl), hidD (fun _ => rfl), g28, g29, Below.then hq hb8⟩
          · obtain rfl := g26.out (hds 26 (by simp))
            obtain rfl := g27.out (hds 27 (by simp))
            clear hds
            refine wpOp_yes rfl rfl (fun K0 hK0 => ?_)
            go_simp
            exact hK0 _ _ ⟨_, _, _, _, _, _, _, _, _, _, _, _, _, _, _, _, _, _, _, _, _, _, _, _, _, _, _, _, _, _, rfl, g0, g1, g9, g10, g11, g12, g13, g14, g15, g16, g17, g18, g19, g20, g21, g22, g23, g24, g25, hidD (fun _ => rfl), hidD (fun _ => rfl), hidD (fun _ => rfl), g29, hq⟩
          · obtain rfl := g28.out (hds 28 (by simp))
            clear hds
            refine wpOp_yes rfl rfl (fun K0 hK0 => ?_)
            go_simp
            exact hK0 _ _ ⟨_, _, _, _, _, _, _, _, _, _, _, _, _, _, _, _, _, _, _, _, _, _, _, _, _, _, _, _, _, _, rfl, g0, g1, g9, g10, g11, g12, g13, g14, g15, g16, g17, g18, g19, g20, g21, g22, g23, g24, g25, g26, g27, hidD (fun _ => rfl), hidD (fun _ => rfl), hq⟩
        rintro D a wz hDD ⟨t6, t54, t55, t56, t57, t58, t59, t60, t61, t62, t63, t64, t65, t66, t67, t68, t69, t70, t71, t72, t73, t74, t75, t76, t77, t78, t79, t80, t81, t82, rfl, g0, g1, g9, g10, g11, g12, g13, g14, g15, g16, g17, g18, g19, g20, g21, g22, g23, g24, g25, g26, g27, g28, g29, hq⟩
        obtain rfl := g29.out (hDD 29 (by decide))
        have hBz := hB.trans (hq.mono hB.size)
        clear g0 g1 g9 g10 g11 g12 g13 g14 g15 g16 g17 g18 g19 g20 g21 g22 g23 g24 g25 g26 g27 g28 g29 hDD
        go_wp2
        go_ret
        exact ⟨rfl, hBz⟩

end Go.Proofs.YtjmmnpfedhkjbaaDoor
