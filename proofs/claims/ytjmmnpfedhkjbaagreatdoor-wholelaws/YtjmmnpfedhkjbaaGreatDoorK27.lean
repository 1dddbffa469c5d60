import Derived.Test.YtjmmnpfedhkjbaaGreatDoorK26
import Derived.Deep.RegionHeld3
namespace Go.Proofs.YtjmmnpfedhkjbaaGreatDoor
open Go.RowKit Go.Shelf

attribute [local go_sem] Oper.semAt_some

theorem gcd_words {x y : Int} {k : Nat} (hx : (limbs B64 x.natAbs).length ≤ k) (hy : (limbs B64 y.natAbs).length ≤ k) : (limbs B64 ((Int.gcd x y : Nat) : Int).natAbs).length ≤ k := by
  by_cases h0 : x = 0
  · refine words_le hy ?_
    rw [h0, Int.natAbs_natCast, Int.gcd, Int.natAbs_zero, Nat.gcd_zero_left]
    exact Nat.le_refl _
  · refine words_le hx ?_
    rw [Int.natAbs_natCast]
    exact Nat.gcd_le_left _ (by omega)

theorem isplit_zero (va vb : Value) (x y : Int) (w : World) (ha : IsInt w va x) (hb : IsInt w vb y) (hy : y = 0) :
    Calls Tryz.prog 7 #[va, vb] w fun e w' => ∃ q o, e = .returned (.tuple #[q, o, .bool false]) ∧ IsInt w' q 0 ∧ IsInt w' o 0 ∧ Below w.heap.size w w' := by
  obtain ⟨b, lb, cb, rfl, hv⟩ := hb
  have hl : lb = 0 := by rw [UN.len hv, hy, Int.natAbs_zero, limbs_zero]; rfl
  rw [hl]
  exact (isplit_0 va x b cb _ w ha).mono (by rintro e w' ⟨rfl, hb⟩; exact ⟨_, _, rfl, int_zero _, int_zero _, hb⟩)

theorem law_neg {g t h : Int} (hm : h = g * t.natAbs) (hg : 0 ≤ g) (hk : g * t < 0) : h = 0 - g * t := by
  have ht : t < 0 := by
    rcases Int.lt_or_le t 0 with h | h
    · exact h
    · have := Int.mul_nonneg hg h; omega
  have e : (t.natAbs : Int) = -t := by omega
  rw [hm, e, Int.mul_neg]; omega

theorem law_pos {g t h : Int} (hm : h = g * t.natAbs) (hg : 0 ≤ g) (hk : ¬ (g * t < 0)) : h = g * t := by
  rcases Int.lt_or_le t 0 with ht | ht
  · have e : (t.natAbs : Int) = -t := by omega
    have h1 : g * t ≤ 0 := Int.mul_nonpos_of_nonneg_of_nonpos hg (by omega)
    rw [hm, e, Int.mul_neg]; omega
  · have e : (t.natAbs : Int) = t := by omega
    rw [hm, e]

set_option maxRecDepth 100000 in
set_option maxHeartbeats 8000000 in
theorem wholeLaws_c (s r o : ByteArray) (hs : s.size ≤ 140737488351232) (hr : r.size ≤ 140737488351232) (ho : o.size ≤ 140737488351232) (w : World) (htab : Lib.TabIs Tryz.prog w "internal/strconv.uint64pow10" .u64 Lib.pow10Tab) :
    Calls Tryz.prog 4 #[.string s, .string r, .string o] w fun e w' => e = .returned (.bool true) ∧ Below w.heap.size w w' := by
  have HT := hidD htab
  clear htab
  have M0 : Hid (MemI w w []) := hidD (MemI.nil w)
  go_enter Tryz.func4, Tryz.ntmps4
  go_upto_region 2 with (first
    | (go_at_call 5; refine (lread_c s hs _).mono ?_; rintro e w1 ⟨u, x, rfl, hu0, hx, hb0⟩; obtain ⟨a1, l1, c1, rfl⟩ := hu0.form; obtain ⟨s1, hsg⟩ : ∃ b, decide (x < 0) = b := ⟨_, rfl⟩; rw [hsg] at hu0; rw [hsg]; clear hsg)
    | (go_at_call 6; refine (given_c _ x _ hu0 hx).mono ?_; rintro e w2 ⟨u, rfl, hu, hb⟩; obtain ⟨a2, l2, c2, rfl⟩ := hu.form; obtain ⟨s2, hsg⟩ : ∃ b, decide (x < 0) = b := ⟨_, rfl⟩; rw [hsg] at hu; rw [hsg]; clear hsg))
  obtain ⟨V3, hV⟩ : ∃ V, w2.alloc (.cells #[.bool s2, .slice a2 l2 c2] 29) = V := ⟨_, rfl⟩
  obtain ⟨B3, hBk⟩ : ∃ B, w2.heap.size = B := ⟨_, rfl⟩
  have MM := MemI.push ((M0.out.below hb0).below hb) hu
  rw [hV, hBk] at MM
  rw [hV]
  rw [hBk]
  have M1 : Hid (MemI w V3 [(B3, x)]) := hidD (MM)
  clear M0
  clear MM hV hBk
  clear hb hb0 hu hu0
  go_upto_region 3 with (first
    | (go_at_call 5; refine (lread_c r hr _).mono ?_; rintro e w4 ⟨u, y, rfl, hu0, hy, hb0⟩; obtain ⟨a4, l4, c4, rfl⟩ := hu0.form; obtain ⟨s4, hsg⟩ : ∃ b, decide (y < 0) = b := ⟨_, rfl⟩; rw [hsg] at hu0; rw [hsg]; clear hsg)
    | (go_at_call 6; refine (given_c _ y _ hu0 hy).mono ?_; rintro e w5 ⟨u, rfl, hu, hb⟩; obtain ⟨a5, l5, c5, rfl⟩ := hu.form; obtain ⟨s5, hsg⟩ : ∃ b, decide (y < 0) = b := ⟨_, rfl⟩; rw [hsg] at hu; rw [hsg]; clear hsg))
  obtain ⟨V6, hV⟩ : ∃ V, w5.alloc (.cells #[.bool s5, .slice a5 l5 c5] 29) = V := ⟨_, rfl⟩
  obtain ⟨B6, hBk⟩ : ∃ B, w5.heap.size = B := ⟨_, rfl⟩
  have MM := MemI.push ((M1.out.below hb0).below hb) hu
  rw [hV, hBk] at MM
  rw [hV]
  rw [hBk]
  have M2 : Hid (MemI w V6 [(B3, x), (B6, y)]) := hidD (MM)
  clear M1
  clear MM hV hBk
  clear hb hb0 hu hu0
  go_upto_region 4 with (first
    | (go_at_call 5; refine (lread_c o ho _).mono ?_; rintro e w7 ⟨u, t, rfl, hu0, ht, hb0⟩; obtain ⟨a7, l7, c7, rfl⟩ := hu0.form; obtain ⟨s7, hsg⟩ : ∃ b, decide (t < 0) = b := ⟨_, rfl⟩; rw [hsg] at hu0; rw [hsg]; clear hsg)
    | (go_at_call 6; refine (given_c _ t _ hu0 ht).mono ?_; rintro e w8 ⟨u, rfl, hu, hb⟩; obtain ⟨a8, l8, c8, rfl⟩ := hu.form; obtain ⟨s8, hsg⟩ : ∃ b, decide (t < 0) = b := ⟨_, rfl⟩; rw [hsg] at hu; rw [hsg]; clear hsg))
  obtain ⟨V9, hV⟩ : ∃ V, w8.alloc (.cells #[.bool s8, .slice a8 l8 c8] 29) = V := ⟨_, rfl⟩
  obtain ⟨B9, hBk⟩ : ∃ B, w8.heap.size = B := ⟨_, rfl⟩
  have MM := MemI.push ((M2.out.below hb0).below hb) hu
  rw [hV, hBk] at MM
  rw [hV]
  rw [hBk]
  have M3 : Hid (MemI w V9 [(B3, x), (B6, y), (B9, t)]) := hidD (MM)
  clear M2
  clear MM hV hBk
  clear hb hb0 hu hu0
  have HB10 := hidD (show (limbs B64 (x).natAbs).length ≤ 2000 from sm_words hx)
  have HB11 := hidD (show (limbs B64 (y).natAbs).length ≤ 2000 from sm_words hy)
  have HB12 := hidD (show (limbs B64 (t).natAbs).length ≤ 2000 from sm_words ht)
  clear hx hy ht
  obtain ⟨s13, a13, l13, c13, n13, i13⟩ := M3.out.get (i := 0) rfl
  have e13a := n13.c0
  have e13b := n13.c1
  obtain ⟨s14, a14, l14, c14, n14, i14⟩ := M3.out.get (i := 1) rfl
  have e14a := n14.c0
  have e14b := n14.c1
  go_upto_region 5 with (go_at_call 15; refine (itimes_c _ _ (x) (y) _ i13 i14 (by have h1 := HB10.out; have h2 := HB11.out; omega)).mono ?_; rintro e w15 ⟨u, rfl, hu, hb⟩; obtain ⟨a15, l15, c15, rfl⟩ := hu.form; obtain ⟨s15, hsg⟩ : ∃ b, decide (x * y < 0) = b := ⟨_, rfl⟩; rw [hsg] at hu; rw [hsg]; clear hsg)
  obtain ⟨V16, hV⟩ : ∃ V, w15.alloc (.cells #[.bool s15, .slice a15 l15 c15] 29) = V := ⟨_, rfl⟩
  obtain ⟨B16, hBk⟩ : ∃ B, w15.heap.size = B := ⟨_, rfl⟩
  have MM := MemI.push (M3.out.below hb) hu
  rw [hV, hBk] at MM
  rw [hV]
  rw [hBk]
  have M4 : Hid (MemI w V16 [(B3, x), (B6, y), (B9, t), (B16, x * y)]) := hidD (MM)
  clear M3
  clear MM hV hBk
  clear hb hu
  clear n13 i13 e13a e13b n14 i14 e14a e14b
  have HB17 := hidD (show (limbs B64 (x * y).natAbs).length ≤ 4000 from words_mul HB10.out HB11.out)
  obtain ⟨s18, a18, l18, c18, n18, i18⟩ := M4.out.get (i := 0) rfl
  have e18a := n18.c0
  have e18b := n18.c1
  obtain ⟨s19, a19, l19, c19, n19, i19⟩ := M4.out.get (i := 2) rfl
  have e19a := n19.c0
  have e19b := n19.c1
  go_upto_region 6 with (go_at_call 15; refine (itimes_c _ _ (x) (t) _ i18 i19 (by have h1 := HB10.out; have h2 := HB12.out; omega)).mono ?_; rintro e w20 ⟨u, rfl, hu, hb⟩; obtain ⟨a20, l20, c20, rfl⟩ := hu.form; obtain ⟨s20, hsg⟩ : ∃ b, decide (x * t < 0) = b := ⟨_, rfl⟩; rw [hsg] at hu; rw [hsg]; clear hsg)
  obtain ⟨V21, hV⟩ : ∃ V, w20.alloc (.cells #[.bool s20, .slice a20 l20 c20] 29) = V := ⟨_, rfl⟩
  obtain ⟨B21, hBk⟩ : ∃ B, w20.heap.size = B := ⟨_, rfl⟩
  have MM := MemI.push (M4.out.below hb) hu
  rw [hV, hBk] at MM
  rw [hV]
  rw [hBk]
  have M5 : Hid (MemI w V21 [(B3, x), (B6, y), (B9, t), (B16, x * y), (B21, x * t)]) := hidD (MM)
  clear M4
  clear MM hV hBk
  clear hb hu
  clear n18 i18 e18a e18b n19 i19 e19a e19b
  have HB22 := hidD (show (limbs B64 (x * t).natAbs).length ≤ 4000 from words_mul HB10.out HB12.out)
  obtain ⟨s23, a23, l23, c23, n23, i23⟩ := M5.out.get (i := 1) rfl
  have e23a := n23.c0
  have e23b := n23.c1
  obtain ⟨s24, a24, l24, c24, n24, i24⟩ := M5.out.get (i := 2) rfl
  have e24a := n24.c0
  have e24b := n24.c1
  go_upto_region 7 with (go_at_call 16; refine (iplus_c _ _ (y) (t) _ i23 i24 (by have h1 := HB11.out; omega) (by have h2 := HB12.out; omega)).mono ?_; rintro e w25 ⟨u, rfl, hu, hb⟩; obtain ⟨a25, l25, c25, rfl⟩ := hu.form; obtain ⟨s25, hsg⟩ : ∃ b, decide (y + t < 0) = b := ⟨_, rfl⟩; rw [hsg] at hu; rw [hsg]; clear hsg)
  obtain ⟨V26, hV⟩ : ∃ V, w25.alloc (.cells #[.bool s25, .slice a25 l25 c25] 29) = V := ⟨_, rfl⟩
  obtain ⟨B26, hBk⟩ : ∃ B, w25.heap.size = B := ⟨_, rfl⟩
  have MM := MemI.push (M5.out.below hb) hu
  rw [hV, hBk] at MM
  rw [hV]
  rw [hBk]
  have M6 : Hid (MemI w V26 [(B3, x), (B6, y), (B9, t), (B16, x * y), (B21, x * t), (B26, y + t)]) := hidD (MM)
  clear M5
  clear MM hV hBk
  clear hb hu
  clear n23 i23 e23a e23b n24 i24 e24a e24b
  have HB27 := hidD (show (limbs B64 (y + t).natAbs).length ≤ 4001 from words_add HB11.out HB12.out (by omega))
  obtain ⟨s28, a28, l28, c28, n28, i28⟩ := M6.out.get (i := 0) rfl
  have e28a := n28.c0
  have e28b := n28.c1
  obtain ⟨s29, a29, l29, c29, n29, i29⟩ := M6.out.get (i := 5) rfl
  have e29a := n29.c0
  have e29b := n29.c1
  go_upto_region 8 with (go_at_call 15; refine (itimes_c _ _ (x) (y + t) _ i28 i29 (by have h1 := HB10.out; have h2 := HB27.out; omega)).mono ?_; rintro e w30 ⟨u, rfl, hu, hb⟩; obtain ⟨a30, l30, c30, rfl⟩ := hu.form; obtain ⟨s30, hsg⟩ : ∃ b, decide (x * (y + t) < 0) = b := ⟨_, rfl⟩; rw [hsg] at hu; rw [hsg]; clear hsg)
  obtain ⟨V31, hV⟩ : ∃ V, w30.alloc (.cells #[.bool s30, .slice a30 l30 c30] 29) = V := ⟨_, rfl⟩
  obtain ⟨B31, hBk⟩ : ∃ B, w30.heap.size = B := ⟨_, rfl⟩
  have MM := MemI.push (M6.out.below hb) hu
  rw [hV, hBk] at MM
  rw [hV]
  rw [hBk]
  have M7 : Hid (MemI w V31 [(B3, x), (B6, y), (B9, t), (B16, x * y), (B21, x * t), (B26, y + t), (B31, x * (y + t))]) := hidD (MM)
  clear M6
  clear MM hV hBk
  clear hb hu
  clear n28 i28 e28a e28b n29 i29 e29a e29b
  have HB32 := hidD (show (limbs B64 (x * (y + t)).natAbs).length ≤ 6001 from words_mul HB10.out HB27.out)
  obtain ⟨s33, a33, l33, c33, n33, i33⟩ := M7.out.get (i := 3) rfl
  have e33a := n33.c0
  have e33b := n33.c1
  obtain ⟨s34, a34, l34, c34, n34, i34⟩ := M7.out.get (i := 4) rfl
  have e34a := n34.c0
  have e34b := n34.c1
  go_upto_region 9 with (go_at_call 16; refine (iplus_c _ _ (x * y) (x * t) _ i33 i34 (by have h1 := HB17.out; omega) (by have h2 := HB22.out; omega)).mono ?_; rintro e w35 ⟨u, rfl, hu, hb⟩; obtain ⟨a35, l35, c35, rfl⟩ := hu.form; obtain ⟨s35, hsg⟩ : ∃ b, decide (x * y + x * t < 0) = b := ⟨_, rfl⟩; rw [hsg] at hu; rw [hsg]; clear hsg)
  obtain ⟨V36, hV⟩ : ∃ V, w35.alloc (.cells #[.bool s35, .slice a35 l35 c35] 29) = V := ⟨_, rfl⟩
  obtain ⟨B36, hBk⟩ : ∃ B, w35.heap.size = B := ⟨_, rfl⟩
  have MM := MemI.push (M7.out.below hb) hu
  rw [hV, hBk] at MM
  rw [hV]
  rw [hBk]
  have M8 : Hid (MemI w V36 [(B3, x), (B6, y), (B9, t), (B16, x * y), (B21, x * t), (B26, y + t), (B31, x * (y + t)), (B36, x * y + x * t)]) := hidD (MM)
  clear M7
  clear MM hV hBk
  clear hb hu
  clear n33 i33 e33a e33b n34 i34 e34a e34b
  have HB37 := hidD (show (limbs B64 (x * y + x * t).natAbs).length ≤ 8001 from words_add HB17.out HB22.out (by omega))
  obtain ⟨s38, a38, l38, c38, n38, i38⟩ := M8.out.get (i := 0) rfl
  have e38a := n38.c0
  have e38b := n38.c1
  obtain ⟨s39, a39, l39, c39, n39, i39⟩ := M8.out.get (i := 5) rfl
  have e39a := n39.c0
  have e39b := n39.c1
  go_upto_region 10 with (go_at_call 16; refine (iplus_c _ _ (x) (y + t) _ i38 i39 (by have h1 := HB10.out; omega) (by have h2 := HB27.out; omega)).mono ?_; rintro e w40 ⟨u, rfl, hu, hb⟩; obtain ⟨a40, l40, c40, rfl⟩ := hu.form; obtain ⟨s40, hsg⟩ : ∃ b, decide (x + (y + t) < 0) = b := ⟨_, rfl⟩; rw [hsg] at hu; rw [hsg]; clear hsg)
  obtain ⟨V41, hV⟩ : ∃ V, w40.alloc (.cells #[.bool s40, .slice a40 l40 c40] 29) = V := ⟨_, rfl⟩
  obtain ⟨B41, hBk⟩ : ∃ B, w40.heap.size = B := ⟨_, rfl⟩
  have MM := MemI.push (M8.out.below hb) hu
  rw [hV, hBk] at MM
  rw [hV]
  rw [hBk]
  have M9 : Hid (MemI w V41 [(B3, x), (B6, y), (B9, t), (B16, x * y), (B21, x * t), (B26, y + t), (B31, x * (y + t)), (B36, x * y + x * t), (B41, x + (y + t))]) := hidD (MM)
  clear M8
  clear MM hV hBk
  clear hb hu
  clear n38 i38 e38a e38b n39 i39 e39a e39b
  have HB42 := hidD (show (limbs B64 (x + (y + t)).natAbs).length ≤ 6002 from words_add HB10.out HB27.out (by omega))
  obtain ⟨s43, a43, l43, c43, n43, i43⟩ := M9.out.get (i := 0) rfl
  have e43a := n43.c0
  have e43b := n43.c1
  obtain ⟨s44, a44, l44, c44, n44, i44⟩ := M9.out.get (i := 1) rfl
  have e44a := n44.c0
  have e44b := n44.c1
  go_upto_region 11 with (go_at_call 16; refine (iplus_c _ _ (x) (y) _ i43 i44 (by have h1 := HB10.out; omega) (by have h2 := HB11.out; omega)).mono ?_; rintro e w45 ⟨u, rfl, hu, hb⟩; obtain ⟨a45, l45, c45, rfl⟩ := hu.form; obtain ⟨s45, hsg⟩ : ∃ b, decide (x + y < 0) = b := ⟨_, rfl⟩; rw [hsg] at hu; rw [hsg]; clear hsg)
  obtain ⟨V46, hV⟩ : ∃ V, w45.alloc (.cells #[.bool s45, .slice a45 l45 c45] 29) = V := ⟨_, rfl⟩
  obtain ⟨B46, hBk⟩ : ∃ B, w45.heap.size = B := ⟨_, rfl⟩
  have MM := MemI.push (M9.out.below hb) hu
  rw [hV, hBk] at MM
  rw [hV]
  rw [hBk]
  have M10 : Hid (MemI w V46 [(B3, x), (B6, y), (B9, t), (B16, x * y), (B21, x * t), (B26, y + t), (B31, x * (y + t)), (B36, x * y + x * t), (B41, x + (y + t)), (B46, x + y)]) := hidD (MM)
  clear M9
  clear MM hV hBk
  clear hb hu
  clear n43 i43 e43a e43b n44 i44 e44a e44b
  have HB47 := hidD (show (limbs B64 (x + y).natAbs).length ≤ 4001 from words_add HB10.out HB11.out (by omega))
  obtain ⟨s48, a48, l48, c48, n48, i48⟩ := M10.out.get (i := 9) rfl
  have e48a := n48.c0
  have e48b := n48.c1
  obtain ⟨s49, a49, l49, c49, n49, i49⟩ := M10.out.get (i := 2) rfl
  have e49a := n49.c0
  have e49b := n49.c1
  go_upto_region 12 with (go_at_call 16; refine (iplus_c _ _ (x + y) (t) _ i48 i49 (by have h1 := HB47.out; omega) (by have h2 := HB12.out; omega)).mono ?_; rintro e w50 ⟨u, rfl, hu, hb⟩; obtain ⟨a50, l50, c50, rfl⟩ := hu.form; obtain ⟨s50, hsg⟩ : ∃ b, decide (x + y + t < 0) = b := ⟨_, rfl⟩; rw [hsg] at hu; rw [hsg]; clear hsg; have q0 := (n48.below hb).c0; have q1 := (n48.below hb).c1; have f0 := (n48.below hb).f0; have f1 := (n48.below hb).f1)
  obtain ⟨V51, hV⟩ : ∃ V, (w50.setCell ⟨B46, 0, none⟩ (.bool s50)).setCell ⟨B46, 1, none⟩ (.slice a50 l50 c50) = V := ⟨_, rfl⟩
  have MM := (M10.out.below hb).put (i := 9) rfl hu
  rw [hV] at MM
  rw [hV]
  have M11 : Hid (MemI w V51 [(B3, x), (B6, y), (B9, t), (B16, x * y), (B21, x * t), (B26, y + t), (B31, x * (y + t)), (B36, x * y + x * t), (B41, x + (y + t)), (B46, x + y + t)]) := hidD (MM)
  clear M10
  clear MM hV q0 q1 f0 f1
  clear hb hu
  clear n48 i48 e48a e48b n49 i49 e49a e49b
  have HB52 := hidD (show (limbs B64 (x + y + t).natAbs).length ≤ 6002 from words_add HB47.out HB12.out (by omega))
  obtain ⟨s53, a53, l53, c53, n53, i53⟩ := M11.out.get (i := 1) rfl
  have e53a := n53.c0
  have e53b := n53.c1
  obtain ⟨s54, a54, l54, c54, n54, i54⟩ := M11.out.get (i := 0) rfl
  have e54a := n54.c0
  have e54b := n54.c1
  go_upto_region 13 with (go_at_call 15; refine (itimes_c _ _ (y) (x) _ i53 i54 (by have h1 := HB11.out; have h2 := HB10.out; omega)).mono ?_; rintro e w55 ⟨u, rfl, hu, hb⟩; obtain ⟨a55, l55, c55, rfl⟩ := hu.form; obtain ⟨s55, hsg⟩ : ∃ b, decide (y * x < 0) = b := ⟨_, rfl⟩; rw [hsg] at hu; rw [hsg]; clear hsg)
  obtain ⟨V56, hV⟩ : ∃ V, w55.alloc (.cells #[.bool s55, .slice a55 l55 c55] 29) = V := ⟨_, rfl⟩
  obtain ⟨B56, hBk⟩ : ∃ B, w55.heap.size = B := ⟨_, rfl⟩
  have MM := MemI.push (M11.out.below hb) hu
  rw [hV, hBk] at MM
  rw [hV]
  rw [hBk]
  have M12 : Hid (MemI w V56 [(B3, x), (B6, y), (B9, t), (B16, x * y), (B21, x * t), (B26, y + t), (B31, x * (y + t)), (B36, x * y + x * t), (B41, x + (y + t)), (B46, x + y + t), (B56, y * x)]) := hidD (MM)
  clear M11
  clear MM hV hBk
  clear hb hu
  clear n53 i53 e53a e53b n54 i54 e54a e54b
  have HB57 := hidD (show (limbs B64 (y * x).natAbs).length ≤ 4000 from words_mul HB11.out HB10.out)
  obtain ⟨s58, a58, l58, c58, n58, i58⟩ := M12.out.get (i := 6) rfl
  have e58a := n58.c0
  have e58b := n58.c1
  obtain ⟨s59, a59, l59, c59, n59, i59⟩ := M12.out.get (i := 7) rfl
  have e59a := n59.c0
  have e59b := n59.c1
  obtain ⟨s60, a60, l60, c60, n60, i60⟩ := M12.out.get (i := 8) rfl
  have e60a := n60.c0
  have e60b := n60.c1
  obtain ⟨s61, a61, l61, c61, n61, i61⟩ := M12.out.get (i := 9) rfl
  have e61a := n61.c0
  have e61b := n61.c1
  obtain ⟨s62, a62, l62, c62, n62, i62⟩ := M12.out.get (i := 3) rfl
  have e62a := n62.c0
  have e62b := n62.c1
  obtain ⟨s63, a63, l63, c63, n63, i63⟩ := M12.out.get (i := 10) rfl
  have e63a := n63.c0
  have e63b := n63.c1
  have HO64 := hidD (show ∀ V : World, Below V56.heap.size V56 V → Calls Tryz.prog 17 #[.agg #[.bool s58, .slice a58 l58 c58], .agg #[.bool s59, .slice a59 l59 c59]] V fun e w' => e = .returned (.int .i64 0) ∧ Below V.heap.size V w' from fun V h => by
    have h1 := iorder_c _ _ (x * (y + t)) (x * y + x * t) V (i58.below h) (i59.below h)
    rw [cmpI_eq (Int.mul_add x y t)] at h1
    exact h1)
  have HO65 := hidD (show ∀ V : World, Below V56.heap.size V56 V → Calls Tryz.prog 17 #[.agg #[.bool s60, .slice a60 l60 c60], .agg #[.bool s61, .slice a61 l61 c61]] V fun e w' => e = .returned (.int .i64 0) ∧ Below V.heap.size V w' from fun V h => by
    have h1 := iorder_c _ _ (x + (y + t)) (x + y + t) V (i60.below h) (i61.below h)
    rw [cmpI_eq (Int.add_assoc x y t).symm] at h1
    exact h1)
  have HO66 := hidD (show ∀ V : World, Below V56.heap.size V56 V → Calls Tryz.prog 17 #[.agg #[.bool s62, .slice a62 l62 c62], .agg #[.bool s63, .slice a63 l63 c63]] V fun e w' => e = .returned (.int .i64 0) ∧ Below V.heap.size V w' from fun V h => by
    have h1 := iorder_c _ _ (x * y) (y * x) V (i62.below h) (i63.below h)
    rw [cmpI_eq (Int.mul_comm x y)] at h1
    exact h1)
  have hq : Below V56.heap.size V56 V56 := Below.refl _ _
  go_upto_region 15 with (first
    | (go_at_call 17; refine (HO64.out _ hq).mono ?_; clear HO64; rintro e w67 ⟨rfl, hb67⟩; have hq := Below.then hq hb67; have e58a := (n58.below hq).c0; have e58b := (n58.below hq).c1; have e59a := (n59.below hq).c0; have e59b := (n59.below hq).c1; have e60a := (n60.below hq).c0; have e60b := (n60.below hq).c1; have e61a := (n61.below hq).c0; have e61b := (n61.below hq).c1; have e62a := (n62.below hq).c0; have e62b := (n62.below hq).c1; have e63a := (n63.below hq).c0; have e63b := (n63.below hq).c1)
    | (go_at_call 17; refine (HO65.out _ hq).mono ?_; clear HO65; rintro e w68 ⟨rfl, hb68⟩; have hq := Below.then hq hb68; have e58a := (n58.below hq).c0; have e58b := (n58.below hq).c1; have e59a := (n59.below hq).c0; have e59b := (n59.below hq).c1; have e60a := (n60.below hq).c0; have e60b := (n60.below hq).c1; have e61a := (n61.below hq).c0; have e61b := (n61.below hq).c1; have e62a := (n62.below hq).c0; have e62b := (n62.below hq).c1; have e63a := (n63.below hq).c0; have e63b := (n63.below hq).c1)
    | (go_at_call 17; refine (HO66.out _ hq).mono ?_; clear HO66; rintro e w69 ⟨rfl, hb69⟩; have hq := Below.then hq hb69; have e58a := (n58.below hq).c0; have e58b := (n58.below hq).c1; have e59a := (n59.below hq).c0; have e59b := (n59.below hq).c1; have e60a := (n60.below hq).c0; have e60b := (n60.below hq).c1; have e61a := (n61.below hq).c0; have e61b := (n61.below hq).c1; have e62a := (n62.below hq).c0; have e62b := (n62.below hq).c1; have e63a := (n63.below hq).c0; have e63b := (n63.below hq).c1))
  have M13 : Hid (MemI w w69 [(B3, x), (B6, y), (B9, t), (B16, x * y), (B21, x * t), (B26, y + t), (B31, x * (y + t)), (B36, x * y + x * t), (B41, x + (y + t)), (B46, x + y + t), (B56, y * x)]) := hidD (M12.out.below hq)
  clear M12
  clear hq hb67 hb68 hb69
  clear n58 i58 e58a e58b n59 i59 e59a e59b n60 i60 e60a e60b n61 i61 e61a e61b n62 i62 e62a e62b n63 i63 e63a e63b
  try clear e58a e58b e59a e59b e60a e60b e61a e61b e62a e62b e63a e63b
  obtain ⟨s70, a70, l70, c70, n70, i70⟩ := M13.out.get (i := 9) rfl
  have e70a := n70.c0
  have e70b := n70.c1
  obtain ⟨s71, a71, l71, c71, n71, i71⟩ := M13.out.get (i := 2) rfl
  have e71a := n71.c0
  have e71b := n71.c1
  go_upto_region 16 with (go_at_call 18; refine (iminus_c _ _ (x + y + t) (t) _ i70 i71 (by have h1 := HB52.out; omega) (by have h2 := HB12.out; omega)).mono ?_; rintro e w72 ⟨u, rfl, hu, hb⟩; obtain ⟨a72, l72, c72, rfl⟩ := hu.form; obtain ⟨s72, hsg⟩ : ∃ b, decide (x + y + t - t < 0) = b := ⟨_, rfl⟩; rw [hsg] at hu; rw [hsg]; clear hsg)
  obtain ⟨V73, hV⟩ : ∃ V, w72.alloc (.cells #[.bool s72, .slice a72 l72 c72] 29) = V := ⟨_, rfl⟩
  obtain ⟨B73, hBk⟩ : ∃ B, w72.heap.size = B := ⟨_, rfl⟩
  have MM := MemI.push (M13.out.below hb) hu
  rw [hV, hBk] at MM
  rw [hV]
  rw [hBk]
  have M14 : Hid (MemI w V73 [(B3, x), (B6, y), (B9, t), (B16, x * y), (B21, x * t), (B26, y + t), (B31, x * (y + t)), (B36, x * y + x * t), (B41, x + (y + t)), (B46, x + y + t), (B56, y * x), (B73, x + y + t - t)]) := hidD (MM)
  clear M13
  clear MM hV hBk
  clear hb hu
  clear n70 i70 e70a e70b n71 i71 e71a e71b
  have HB74 := hidD (show (limbs B64 (x + y + t - t).natAbs).length ≤ 8003 from words_add HB52.out HB12.out (by omega))
  obtain ⟨s75, a75, l75, c75, n75, i75⟩ := M14.out.get (i := 11) rfl
  have e75a := n75.c0
  have e75b := n75.c1
  obtain ⟨s76, a76, l76, c76, n76, i76⟩ := M14.out.get (i := 1) rfl
  have e76a := n76.c0
  have e76b := n76.c1
  go_upto_region 17 with (go_at_call 18; refine (iminus_c _ _ (x + y + t - t) (y) _ i75 i76 (by have h1 := HB74.out; omega) (by have h2 := HB11.out; omega)).mono ?_; rintro e w77 ⟨u, rfl, hu, hb⟩; obtain ⟨a77, l77, c77, rfl⟩ := hu.form; obtain ⟨s77, hsg⟩ : ∃ b, decide (x + y + t - t - y < 0) = b := ⟨_, rfl⟩; rw [hsg] at hu; rw [hsg]; clear hsg; have q0 := (n75.below hb).c0; have q1 := (n75.below hb).c1; have f0 := (n75.below hb).f0; have f1 := (n75.below hb).f1)
  obtain ⟨V78, hV⟩ : ∃ V, (w77.setCell ⟨B73, 0, none⟩ (.bool s77)).setCell ⟨B73, 1, none⟩ (.slice a77 l77 c77) = V := ⟨_, rfl⟩
  have MM := (M14.out.below hb).put (i := 11) rfl hu
  rw [hV] at MM
  rw [hV]
  have M15 : Hid (MemI w V78 [(B3, x), (B6, y), (B9, t), (B16, x * y), (B21, x * t), (B26, y + t), (B31, x * (y + t)), (B36, x * y + x * t), (B41, x + (y + t)), (B46, x + y + t), (B56, y * x), (B73, x + y + t - t - y)]) := hidD (MM)
  clear M14
  clear MM hV q0 q1 f0 f1
  clear hb hu
  clear n75 i75 e75a e75b n76 i76 e76a e76b
  have HB79 := hidD (show (limbs B64 (x + y + t - t - y).natAbs).length ≤ 10004 from words_add HB74.out HB11.out (by omega))
  obtain ⟨s80, a80, l80, c80, n80, i80⟩ := M15.out.get (i := 11) rfl
  have e80a := n80.c0
  have e80b := n80.c1
  obtain ⟨s81, a81, l81, c81, n81, i81⟩ := M15.out.get (i := 0) rfl
  have e81a := n81.c0
  have e81b := n81.c1
  have HO82 := hidD (show ∀ V : World, Below V78.heap.size V78 V → Calls Tryz.prog 17 #[.agg #[.bool s80, .slice a80 l80 c80], .agg #[.bool s81, .slice a81 l81 c81]] V fun e w' => e = .returned (.int .i64 0) ∧ Below V.heap.size V w' from fun V h => by
    have h1 := iorder_c _ _ (x + y + t - t - y) (x) V (i80.below h) (i81.below h)
    rw [cmpI_eq (show x + y + t - t - y = x by omega)] at h1
    exact h1)
  have hq : Below V78.heap.size V78 V78 := Below.refl _ _
  go_upto_region 19 with (first
    | (go_at_call 17; refine (HO82.out _ hq).mono ?_; clear HO82; rintro e w83 ⟨rfl, hb83⟩; have hq := Below.then hq hb83; have e80a := (n80.below hq).c0; have e80b := (n80.below hq).c1; have e81a := (n81.below hq).c0; have e81b := (n81.below hq).c1))
  have M16 : Hid (MemI w w83 [(B3, x), (B6, y), (B9, t), (B16, x * y), (B21, x * t), (B26, y + t), (B31, x * (y + t)), (B36, x * y + x * t), (B41, x + (y + t)), (B46, x + y + t), (B56, y * x), (B73, x + y + t - t - y)]) := hidD (M15.out.below hq)
  clear M15
  clear hq hb83
  clear n80 i80 e80a e80b n81 i81 e81a e81b
  try clear e80a e80b e81a e81b
  go_upto_region 20 with fail
  obtain ⟨V84, hV⟩ : ∃ V, w83.alloc (.cells #[.bool false, .slice none 0 0] 29) = V := ⟨_, rfl⟩
  obtain ⟨B84, hBk⟩ : ∃ B, w83.heap.size = B := ⟨_, rfl⟩
  have MM := MemI.push (M16.out) (int_zero _)
  rw [hV, hBk] at MM
  rw [hV]
  rw [hBk]
  have M17 : Hid (MemI w V84 [(B3, x), (B6, y), (B9, t), (B16, x * y), (B21, x * t), (B26, y + t), (B31, x * (y + t)), (B36, x * y + x * t), (B41, x + (y + t)), (B46, x + y + t), (B56, y * x), (B73, x + y + t - t - y), (B84, (0 : Int))]) := hidD (MM)
  clear M16
  clear MM hV hBk
  have HB85 := hidD (show (limbs B64 ((0 : Int)).natAbs).length ≤ 0 from by rw [Int.natAbs_zero, limbs_zero]; exact Nat.le_refl _)
  obtain ⟨okv, hokv⟩ : ∃ okv : Bool, decide (y ≠ 0) = okv := ⟨_, rfl⟩
  have HOK := hidD hokv
  clear hokv
  obtain ⟨s86, a86, l86, c86, n86, i86⟩ := M17.out.get (i := 0) rfl
  have e86a := n86.c0
  have e86b := n86.c1
  obtain ⟨s87, a87, l87, c87, n87, i87⟩ := M17.out.get (i := 1) rfl
  have e87a := n87.c0
  have e87b := n87.c1
  have HSP := hidD (show Calls Tryz.prog 7 #[.agg #[.bool s86, .slice a86 l86 c86], .agg #[.bool s87, .slice a87 l87 c87]] V84 fun e w' => ∃ (q o : Value) (zq zr : Int), e = .returned (.tuple #[q, o, .bool okv]) ∧ IsInt w' q zq ∧ IsInt w' o zr ∧ (y ≠ 0 → zq = x / y ∧ zr = x % y) ∧ Below V84.heap.size V84 w' from by
    have h := HOK.out
    by_cases hy0 : y = 0
    · rw [decide_eq_false (fun h => h hy0)] at h
      subst h
      exact (isplit_zero _ _ x y _ i86 i87 hy0).mono (by rintro e w' ⟨q, o, rfl, h1, h2, hb⟩; exact ⟨q, o, 0, 0, rfl, h1, h2, fun h => absurd hy0 h, hb⟩)
    · rw [decide_eq_true hy0] at h
      subst h
      exact (isplit_c _ _ x y _ i86 i87 hy0 (by have h1 := HB10.out; omega) (by have h2 := HB11.out; omega)).mono (by rintro e w' ⟨q, o, rfl, h1, h2, hb⟩; exact ⟨q, o, _, _, rfl, h1, h2, fun _ => ⟨rfl, rfl⟩, hb⟩))
  go_upto_region 21 with (go_at_call 7; refine HSP.out.mono ?_; rintro e w88 ⟨u1, u2, zq, zr, rfl, hu1, hu2, hqr, hb⟩; have HQR := hidD hqr; clear hqr; obtain ⟨a88, l88, c88, rfl⟩ := hu1.form; obtain ⟨s88, hsg⟩ : ∃ b, decide (zq < 0) = b := ⟨_, rfl⟩; rw [hsg] at hu1; rw [hsg]; clear hsg; obtain ⟨a89, l89, c89, rfl⟩ := hu2.form; obtain ⟨s89, hsg⟩ : ∃ b, decide (zr < 0) = b := ⟨_, rfl⟩; rw [hsg] at hu2; rw [hsg]; clear hsg)
  have MM := MemI.push (MemI.push (M17.out.below hb) hu1) (hu2.alloc (.cells #[.bool s88, .slice a88 l88 c88] 29))
  rw [World.size_alloc] at MM
  obtain ⟨V91, hV⟩ : ∃ V, (w88.alloc (.cells #[.bool s88, .slice a88 l88 c88] 29)).alloc (.cells #[.bool s89, .slice a89 l89 c89] 29) = V := ⟨_, rfl⟩
  obtain ⟨B90, hBk⟩ : ∃ B, w88.heap.size = B := ⟨_, rfl⟩
  rw [hV, hBk] at MM
  rw [hV]
  rw [hBk]
  obtain ⟨B91, hBj⟩ : ∃ B, B90 + 1 = B := ⟨_, rfl⟩
  rw [hBj] at MM ⊢
  have M18 : Hid (MemI w V91 [(B3, x), (B6, y), (B9, t), (B16, x * y), (B21, x * t), (B26, y + t), (B31, x * (y + t)), (B36, x * y + x * t), (B41, x + (y + t)), (B46, x + y + t), (B56, y * x), (B73, x + y + t - t - y), (B84, (0 : Int)), (B90, zq), (B91, zr)]) := hidD (MM)
  clear M17
  clear MM hV hBk hBj hb hu1 hu2 HSP
  clear n86 i86 e86a e86b n87 i87 e87a e87b
  go_upto_if 104 with fail
  go_cut [22] (fun pv w' => pv = .bool okv ∧ Hid (MemI w w' [(B3, x), (B6, y), (B9, t), (B16, x * y), (B21, x * t), (B26, y + t), (B31, x * (y + t)), (B36, x * y + x * t), (B41, x + (y + t)), (B46, x + y + t), (B56, y * x), (B73, x + y + t - t - y), (B84, (0 : Int))]))
  case first =>
    as_aux_lemma =>
      cases okv with
      | false =>
        go_wp2_with fail
        go_meet
        case rel => exact ⟨rfl, hidD (MemI.take M18.out 13)⟩
      | true =>
        have HY := hidD (show y ≠ 0 from of_decide_eq_true HOK.out)
        obtain ⟨rfl, rfl⟩ := HQR.out HY.out
        have HB92 := hidD (show (limbs B64 (x / y).natAbs).length ≤ 2000 from words_le HB10.out (Int.natAbs_ediv_le_natAbs x y))
        have HB93 := hidD (show (limbs B64 (x % y).natAbs).length ≤ 2000 from words_le HB11.out (by have h1 := Int.emod_nonneg x HY.out; have h2 := Int.emod_lt x HY.out; omega))
        go_upto_region 22 with fail
        obtain ⟨s94, a94, l94, c94, n94, i94⟩ := M18.out.get (i := 13) rfl
        have e94a := n94.c0
        have e94b := n94.c1
        obtain ⟨s95, a95, l95, c95, n95, i95⟩ := M18.out.get (i := 1) rfl
        have e95a := n95.c0
        have e95b := n95.c1
        go_upto_region 23 with (go_at_call 15; refine (itimes_c _ _ (x / y) (y) _ i94 i95 (by have h1 := HB92.out; have h2 := HB11.out; omega)).mono ?_; rintro e w96 ⟨u, rfl, hu, hb⟩; obtain ⟨a96, l96, c96, rfl⟩ := hu.form; obtain ⟨s96, hsg⟩ : ∃ b, decide (x / y * y < 0) = b := ⟨_, rfl⟩; rw [hsg] at hu; rw [hsg]; clear hsg)
        obtain ⟨V97, hV⟩ : ∃ V, w96.alloc (.cells #[.bool s96, .slice a96 l96 c96] 29) = V := ⟨_, rfl⟩
        obtain ⟨B97, hBk⟩ : ∃ B, w96.heap.size = B := ⟨_, rfl⟩
        have MM := MemI.push (M18.out.below hb) hu
        rw [hV, hBk] at MM
        rw [hV]
        rw [hBk]
        have M19 : Hid (MemI w V97 [(B3, x), (B6, y), (B9, t), (B16, x * y), (B21, x * t), (B26, y + t), (B31, x * (y + t)), (B36, x * y + x * t), (B41, x + (y + t)), (B46, x + y + t), (B56, y * x), (B73, x + y + t - t - y), (B84, (0 : Int)), (B90, x / y), (B91, x % y), (B97, x / y * y)]) := hidD (MM)
        clear M18
        clear MM hV hBk
        clear hb hu
        clear n94 i94 e94a e94b n95 i95 e95a e95b
        have HB98 := hidD (show (limbs B64 (x / y * y).natAbs).length ≤ 4000 from words_mul HB92.out HB11.out)
        obtain ⟨s99, a99, l99, c99, n99, i99⟩ := M19.out.get (i := 15) rfl
        have e99a := n99.c0
        have e99b := n99.c1
        obtain ⟨s100, a100, l100, c100, n100, i100⟩ := M19.out.get (i := 14) rfl
        have e100a := n100.c0
        have e100b := n100.c1
        go_upto_region 24 with (go_at_call 16; refine (iplus_c _ _ (x / y * y) (x % y) _ i99 i100 (by have h1 := HB98.out; omega) (by have h2 := HB93.out; omega)).mono ?_; rintro e w101 ⟨u, rfl, hu, hb⟩; obtain ⟨a101, l101, c101, rfl⟩ := hu.form; obtain ⟨s101, hsg⟩ : ∃ b, decide (x / y * y + x % y < 0) = b := ⟨_, rfl⟩; rw [hsg] at hu; rw [hsg]; clear hsg; have q0 := (n99.below hb).c0; have q1 := (n99.below hb).c1; have f0 := (n99.below hb).f0; have f1 := (n99.below hb).f1)
        obtain ⟨V102, hV⟩ : ∃ V, (w101.setCell ⟨B97, 0, none⟩ (.bool s101)).setCell ⟨B97, 1, none⟩ (.slice a101 l101 c101) = V := ⟨_, rfl⟩
        have MM := (M19.out.below hb).put (i := 15) rfl hu
        rw [hV] at MM
        rw [hV]
        have M20 : Hid (MemI w V102 [(B3, x), (B6, y), (B9, t), (B16, x * y), (B21, x * t), (B26, y + t), (B31, x * (y + t)), (B36, x * y + x * t), (B41, x + (y + t)), (B46, x + y + t), (B56, y * x), (B73, x + y + t - t - y), (B84, (0 : Int)), (B90, x / y), (B91, x % y), (B97, x / y * y + x % y)]) := hidD (MM)
        clear M19
        clear MM hV q0 q1 f0 f1
        clear hb hu
        clear n99 i99 e99a e99b n100 i100 e100a e100b
        obtain ⟨s103, a103, l103, c103, n103, i103⟩ := M20.out.get (i := 1) rfl
        have e103a := n103.c0
        have e103b := n103.c1
        go_upto_region 25 with fail
        obtain ⟨V104, hV⟩ : ∃ V, V102.alloc (.cells #[.bool s103, .slice a103 l103 c103] 29) = V := ⟨_, rfl⟩
        obtain ⟨B104, hBk⟩ : ∃ B, V102.heap.size = B := ⟨_, rfl⟩
        have MM := MemI.push (M20.out) i103
        rw [hV, hBk] at MM
        rw [hV]
        rw [hBk]
        have M21 : Hid (MemI w V104 [(B3, x), (B6, y), (B9, t), (B16, x * y), (B21, x * t), (B26, y + t), (B31, x * (y + t)), (B36, x * y + x * t), (B41, x + (y + t)), (B46, x + y + t), (B56, y * x), (B73, x + y + t - t - y), (B84, (0 : Int)), (B90, x / y), (B91, x % y), (B97, x / y * y + x % y), (B104, y)]) := hidD (MM)
        clear M20
        clear MM hV hBk
        clear n103 i103 e103a e103b
        obtain ⟨cr, hcr, hcr0⟩ : ∃ cr : Int, cmpI (x % y) 0 = cr ∧ ¬ (cr < 0) := ⟨_, rfl, by have h1 := Int.emod_nonneg x HY.out; unfold cmpI; rw [if_neg (by omega)]; split <;> omega⟩
        have HCR := hidD hcr
        clear hcr
        have HXY := hidD (show x / y * y + x % y = x by rw [Int.emod_def, Int.mul_comm]; omega)
        by_cases hn : y < 0
        · have HN := hidD hn
          clear hn
          obtain ⟨s105, a105, l105, c105, n105, i105⟩ := M21.out.get (i := 1) rfl
          have e105a := n105.c0
          have e105b := n105.c1
          obtain ⟨s106, a106, l106, c106, n106, i106⟩ := M21.out.get (i := 12) rfl
          have e106a := n106.c0
          have e106b := n106.c1
          have HO107 := hidD (show ∀ V : World, Below V104.heap.size V104 V → Calls Tryz.prog 17 #[.agg #[.bool s105, .slice a105 l105 c105], .agg #[.bool s106, .slice a106 l106 c106]] V fun e w' => e = .returned (.int .i64 (-1)) ∧ Below V.heap.size V w' from fun V h => by
            have h1 := iorder_c _ _ (y) ((0 : Int)) V (i105.below h) (i106.below h)
            rw [cmpI_lt HN.out] at h1
            exact h1)
          have hq : Below V104.heap.size V104 V104 := Below.refl _ _
          go_upto_region 26 with (first
            | (go_at_call 17; refine (HO107.out _ hq).mono ?_; clear HO107; rintro e w108 ⟨rfl, hb108⟩; have hq := Below.then hq hb108; have e105a := (n105.below hq).c0; have e105b := (n105.below hq).c1; have e106a := (n106.below hq).c0; have e106b := (n106.below hq).c1))
          have M22 : Hid (MemI w w108 [(B3, x), (B6, y), (B9, t), (B16, x * y), (B21, x * t), (B26, y + t), (B31, x * (y + t)), (B36, x * y + x * t), (B41, x + (y + t)), (B46, x + y + t), (B56, y * x), (B73, x + y + t - t - y), (B84, (0 : Int)), (B90, x / y), (B91, x % y), (B97, x / y * y + x % y), (B104, y)]) := hidD (M21.out.below hq)
          clear M21
          clear hq hb108
          clear n105 i105 e105a e105b n106 i106 e106a e106b
          try clear e105a e105b e106a e106b
          obtain ⟨s109, a109, l109, c109, n109, i109⟩ := M22.out.get (i := 12) rfl
          have e109a := n109.c0
          have e109b := n109.c1
          obtain ⟨s110, a110, l110, c110, n110, i110⟩ := M22.out.get (i := 1) rfl
          have e110a := n110.c0
          have e110b := n110.c1
          obtain ⟨s112, a112, l112, c112, n112, i112⟩ := M22.out.get (i := 16) rfl
          have e112a := n112.c0
          have e112b := n112.c1
          go_upto_region 27 with (go_at_call 18; refine (iminus_c _ _ ((0 : Int)) (y) _ i109 i110 (by have h1 := HB85.out; omega) (by have h2 := HB11.out; omega)).mono ?_; rintro e w111 ⟨u, rfl, hu, hb⟩; obtain ⟨a111, l111, c111, rfl⟩ := hu.form; obtain ⟨s111, hsg⟩ : ∃ b, decide (0 - y < 0) = b := ⟨_, rfl⟩; rw [hsg] at hu; rw [hsg]; clear hsg; have q0 := (n112.below hb).c0; have q1 := (n112.below hb).c1; have f0 := (n112.below hb).f0; have f1 := (n112.below hb).f1)
          obtain ⟨V113, hV⟩ : ∃ V, (w111.setCell ⟨B104, 0, none⟩ (.bool s111)).setCell ⟨B104, 1, none⟩ (.slice a111 l111 c111) = V := ⟨_, rfl⟩
          have MM := (M22.out.below hb).put (i := 16) rfl hu
          rw [hV] at MM
          rw [hV]
          have M23 : Hid (MemI w V113 [(B3, x), (B6, y), (B9, t), (B16, x * y), (B21, x * t), (B26, y + t), (B31, x * (y + t)), (B36, x * y + x * t), (B41, x + (y + t)), (B46, x + y + t), (B56, y * x), (B73, x + y + t - t - y), (B84, (0 : Int)), (B90, x / y), (B91, x % y), (B97, x / y * y + x % y), (B104, 0 - y)]) := hidD (MM)
          clear M22
          clear MM hV q0 q1 f0 f1
          clear hb hu
          clear n109 i109 e109a e109b n110 i110 e110a e110b n112 i112 e112a e112b
          obtain ⟨s114, a114, l114, c114, n114, i114⟩ := M23.out.get (i := 15) rfl
          have e114a := n114.c0
          have e114b := n114.c1
          obtain ⟨s115, a115, l115, c115, n115, i115⟩ := M23.out.get (i := 0) rfl
          have e115a := n115.c0
          have e115b := n115.c1
          obtain ⟨s116, a116, l116, c116, n116, i116⟩ := M23.out.get (i := 14) rfl
          have e116a := n116.c0
          have e116b := n116.c1
          obtain ⟨s117, a117, l117, c117, n117, i117⟩ := M23.out.get (i := 12) rfl
          have e117a := n117.c0
          have e117b := n117.c1
          obtain ⟨s118, a118, l118, c118, n118, i118⟩ := M23.out.get (i := 16) rfl
          have e118a := n118.c0
          have e118b := n118.c1
          have HO119 := hidD (show ∀ V : World, Below V113.heap.size V113 V → Calls Tryz.prog 17 #[.agg #[.bool s114, .slice a114 l114 c114], .agg #[.bool s115, .slice a115 l115 c115]] V fun e w' => e = .returned (.int .i64 0) ∧ Below V.heap.size V w' from fun V h => by
            have h1 := iorder_c _ _ (x / y * y + x % y) (x) V (i114.below h) (i115.below h)
            rw [cmpI_eq HXY.out] at h1
            exact h1)
          have HO120 := hidD (show ∀ V : World, Below V113.heap.size V113 V → Calls Tryz.prog 17 #[.agg #[.bool s116, .slice a116 l116 c116], .agg #[.bool s117, .slice a117 l117 c117]] V fun e w' => e = .returned (.int .i64 cr) ∧ Below V.heap.size V w' from fun V h => by
            have h1 := iorder_c _ _ (x % y) ((0 : Int)) V (i116.below h) (i117.below h)
            rw [HCR.out] at h1
            exact h1)
          have HO121 := hidD (show ∀ V : World, Below V113.heap.size V113 V → Calls Tryz.prog 17 #[.agg #[.bool s116, .slice a116 l116 c116], .agg #[.bool s118, .slice a118 l118 c118]] V fun e w' => e = .returned (.int .i64 (-1)) ∧ Below V.heap.size V w' from fun V h => by
            have h1 := iorder_c _ _ (x % y) (0 - y) V (i116.below h) (i118.below h)
            rw [cmpI_lt (show x % y < 0 - y by have h1 := Int.emod_lt x HY.out; have h2 := HN.out; omega)] at h1
            exact h1)
          have hq : Below V113.heap.size V113 V113 := Below.refl _ _
          go_wp2_with (first
            | (go_at_call 17; refine (HO119.out _ hq).mono ?_; clear HO119; rintro e w122 ⟨rfl, hb122⟩; have hq := Below.then hq hb122; have e114a := (n114.below hq).c0; have e114b := (n114.below hq).c1; have e115a := (n115.below hq).c0; have e115b := (n115.below hq).c1; have e116a := (n116.below hq).c0; have e116b := (n116.below hq).c1; have e117a := (n117.below hq).c0; have e117b := (n117.below hq).c1; have e118a := (n118.below hq).c0; have e118b := (n118.below hq).c1)
            | (go_at_call 17; refine (HO120.out _ hq).mono ?_; clear HO120; rintro e w123 ⟨rfl, hb123⟩; have hq := Below.then hq hb123; have e114a := (n114.below hq).c0; have e114b := (n114.below hq).c1; have e115a := (n115.below hq).c0; have e115b := (n115.below hq).c1; have e116a := (n116.below hq).c0; have e116b := (n116.below hq).c1; have e117a := (n117.below hq).c0; have e117b := (n117.below hq).c1; have e118a := (n118.below hq).c0; have e118b := (n118.below hq).c1)
            | (go_at_call 17; refine (HO121.out _ hq).mono ?_; clear HO121; rintro e w124 ⟨rfl, hb124⟩; have hq := Below.then hq hb124; have e114a := (n114.below hq).c0; have e114b := (n114.below hq).c1; have e115a := (n115.below hq).c0; have e115b := (n115.below hq).c1; have e116a := (n116.below hq).c0; have e116b := (n116.below hq).c1; have e117a := (n117.below hq).c0; have e117b := (n117.below hq).c1; have e118a := (n118.below hq).c0; have e118b := (n118.below hq).c1))
          go_meet
          case rel => exact ⟨rfl, hidD (MemI.take (M23.out.below hq) 13)⟩
        · have HN := hidD (show 0 < y by have h := HY.out; omega)
          clear hn
          obtain ⟨s125, a125, l125, c125, n125, i125⟩ := M21.out.get (i := 1) rfl
          have e125a := n125.c0
          have e125b := n125.c1
          obtain ⟨s126, a126, l126, c126, n126, i126⟩ := M21.out.get (i := 12) rfl
          have e126a := n126.c0
          have e126b := n126.c1
          have HO127 := hidD (show ∀ V : World, Below V104.heap.size V104 V → Calls Tryz.prog 17 #[.agg #[.bool s125, .slice a125 l125 c125], .agg #[.bool s126, .slice a126 l126 c126]] V fun e w' => e = .returned (.int .i64 1) ∧ Below V.heap.size V w' from fun V h => by
            have h1 := iorder_c _ _ (y) ((0 : Int)) V (i125.below h) (i126.below h)
            rw [cmpI_gt HN.out] at h1
            exact h1)
          have hq : Below V104.heap.size V104 V104 := Below.refl _ _
          go_upto_region 27 with (first
            | (go_at_call 17; refine (HO127.out _ hq).mono ?_; clear HO127; rintro e w128 ⟨rfl, hb128⟩; have hq := Below.then hq hb128; have e125a := (n125.below hq).c0; have e125b := (n125.below hq).c1; have e126a := (n126.below hq).c0; have e126b := (n126.below hq).c1))
          have M22 : Hid (MemI w w128 [(B3, x), (B6, y), (B9, t), (B16, x * y), (B21, x * t), (B26, y + t), (B31, x * (y + t)), (B36, x * y + x * t), (B41, x + (y + t)), (B46, x + y + t), (B56, y * x), (B73, x + y + t - t - y), (B84, (0 : Int)), (B90, x / y), (B91, x % y), (B97, x / y * y + x % y), (B104, y)]) := hidD (M21.out.below hq)
          clear M21
          clear hq hb128
          clear n125 i125 e125a e125b n126 i126 e126a e126b
          try clear e125a e125b e126a e126b
          obtain ⟨s129, a129, l129, c129, n129, i129⟩ := M22.out.get (i := 15) rfl
          have e129a := n129.c0
          have e129b := n129.c1
          obtain ⟨s130, a130, l130, c130, n130, i130⟩ := M22.out.get (i := 0) rfl
          have e130a := n130.c0
          have e130b := n130.c1
          obtain ⟨s131, a131, l131, c131, n131, i131⟩ := M22.out.get (i := 14) rfl
          have e131a := n131.c0
          have e131b := n131.c1
          obtain ⟨s132, a132, l132, c132, n132, i132⟩ := M22.out.get (i := 12) rfl
          have e132a := n132.c0
          have e132b := n132.c1
          obtain ⟨s133, a133, l133, c133, n133, i133⟩ := M22.out.get (i := 16) rfl
          have e133a := n133.c0
          have e133b := n133.c1
          have HO134 := hidD (show ∀ V : World, Below w128.heap.size w128 V → Calls Tryz.prog 17 #[.agg #[.bool s129, .slice a129 l129 c129], .agg #[.bool s130, .slice a130 l130 c130]] V fun e w' => e = .returned (.int .i64 0) ∧ Below V.heap.size V w' from fun V h => by
            have h1 := iorder_c _ _ (x / y * y + x % y) (x) V (i129.below h) (i130.below h)
            rw [cmpI_eq HXY.out] at h1
            exact h1)
          have HO135 := hidD (show ∀ V : World, Below w128.heap.size w128 V → Calls Tryz.prog 17 #[.agg #[.bool s131, .slice a131 l131 c131], .agg #[.bool s132, .slice a132 l132 c132]] V fun e w' => e = .returned (.int .i64 cr) ∧ Below V.heap.size V w' from fun V h => by
            have h1 := iorder_c _ _ (x % y) ((0 : Int)) V (i131.below h) (i132.below h)
            rw [HCR.out] at h1
            exact h1)
          have HO136 := hidD (show ∀ V : World, Below w128.heap.size w128 V → Calls Tryz.prog 17 #[.agg #[.bool s131, .slice a131 l131 c131], .agg #[.bool s133, .slice a133 l133 c133]] V fun e w' => e = .returned (.int .i64 (-1)) ∧ Below V.heap.size V w' from fun V h => by
            have h1 := iorder_c _ _ (x % y) (y) V (i131.below h) (i133.below h)
            rw [cmpI_lt (show x % y < y by have h1 := Int.emod_lt x HY.out; have h2 := HN.out; omega)] at h1
            exact h1)
          have hq : Below w128.heap.size w128 w128 := Below.refl _ _
          go_wp2_with (first
            | (go_at_call 17; refine (HO134.out _ hq).mono ?_; clear HO134; rintro e w137 ⟨rfl, hb137⟩; have hq := Below.then hq hb137; have e129a := (n129.below hq).c0; have e129b := (n129.below hq).c1; have e130a := (n130.below hq).c0; have e130b := (n130.below hq).c1; have e131a := (n131.below hq).c0; have e131b := (n131.below hq).c1; have e132a := (n132.below hq).c0; have e132b := (n132.below hq).c1; have e133a := (n133.below hq).c0; have e133b := (n133.below hq).c1)
            | (go_at_call 17; refine (HO135.out _ hq).mono ?_; clear HO135; rintro e w138 ⟨rfl, hb138⟩; have hq := Below.then hq hb138; have e129a := (n129.below hq).c0; have e129b := (n129.below hq).c1; have e130a := (n130.below hq).c0; have e130b := (n130.below hq).c1; have e131a := (n131.below hq).c0; have e131b := (n131.below hq).c1; have e132a := (n132.below hq).c0; have e132b := (n132.below hq).c1; have e133a := (n133.below hq).c0; have e133b := (n133.below hq).c1)
            | (go_at_call 17; refine (HO136.out _ hq).mono ?_; clear HO136; rintro e w139 ⟨rfl, hb139⟩; have hq := Below.then hq hb139; have e129a := (n129.below hq).c0; have e129b := (n129.below hq).c1; have e130a := (n130.below hq).c0; have e130b := (n130.below hq).c1; have e131a := (n131.below hq).c0; have e131b := (n131.below hq).c1; have e132a := (n132.below hq).c0; have e132b := (n132.below hq).c1; have e133a := (n133.below hq).c0; have e133b := (n133.below hq).c1))
          go_meet
          case rel => exact ⟨rfl, hidD (MemI.take (M22.out.below hq) 13)⟩
  case rest =>
    as_aux_lemma =>
      obtain ⟨rfl, MM⟩ := hcut
      have M19 : Hid (MemI w wc [(B3, x), (B6, y), (B9, t), (B16, x * y), (B21, x * t), (B26, y + t), (B31, x * (y + t)), (B36, x * y + x * t), (B41, x + (y + t)), (B46, x + y + t), (B56, y * x), (B73, x + y + t - t - y), (B84, (0 : Int))]) := MM
      clear M18 MM HQR
      go_upto_region 29 with fail
      obtain ⟨s140, a140, l140, c140, n140, i140⟩ := M19.out.get (i := 0) rfl
      have e140a := n140.c0
      have e140b := n140.c1
      obtain ⟨s141, a141, l141, c141, n141, i141⟩ := M19.out.get (i := 1) rfl
      have e141a := n141.c0
      have e141b := n141.c1
      go_upto_region 30 with (go_at_call 8; refine (igcd_c _ _ (x) (y) _ i140 i141 (by have h1 := HB10.out; omega) (by have h2 := HB11.out; omega)).mono ?_; rintro e w142 ⟨u, rfl, hu, hb⟩; obtain ⟨a142, l142, c142, rfl⟩ := hu.form; obtain ⟨s142, hsg⟩ : ∃ b, decide (((Int.gcd x y : Nat) : Int) < 0) = b := ⟨_, rfl⟩; rw [hsg] at hu; rw [hsg]; clear hsg)
      obtain ⟨V143, hV⟩ : ∃ V, w142.alloc (.cells #[.bool s142, .slice a142 l142 c142] 29) = V := ⟨_, rfl⟩
      obtain ⟨B143, hBk⟩ : ∃ B, w142.heap.size = B := ⟨_, rfl⟩
      have MM := MemI.push (M19.out.below hb) hu
      rw [hV, hBk] at MM
      rw [hV]
      rw [hBk]
      have M20 : Hid (MemI w V143 [(B3, x), (B6, y), (B9, t), (B16, x * y), (B21, x * t), (B26, y + t), (B31, x * (y + t)), (B36, x * y + x * t), (B41, x + (y + t)), (B46, x + y + t), (B56, y * x), (B73, x + y + t - t - y), (B84, (0 : Int)), (B143, ((Int.gcd x y : Nat) : Int))]) := hidD (MM)
      clear M19
      clear MM hV hBk
      clear hb hu
      clear n140 i140 e140a e140b n141 i141 e141a e141b
      have HB144 := hidD (show (limbs B64 (((Int.gcd x y : Nat) : Int)).natAbs).length ≤ 2000 from gcd_words HB10.out HB11.out)
      have HGP := hidD (show 0 ≤ ((Int.gcd x y : Nat) : Int) by omega)
      obtain ⟨cg, hcg, hcg0, hcg1⟩ : ∃ cg : Int, cmpI ((Int.gcd x y : Nat) : Int) 0 = cg ∧ ¬ (cg < 0) ∧ (0 < cg ↔ 0 < ((Int.gcd x y : Nat) : Int)) := ⟨_, rfl, by have h := HGP.out; unfold cmpI; rw [if_neg (by omega)]; split <;> omega, by have h := HGP.out; unfold cmpI; rw [if_neg (by omega)]; split <;> omega⟩
      have HCG := hidD hcg
      have HCI := hidD hcg1
      clear hcg hcg1
      obtain ⟨s145, a145, l145, c145, n145, i145⟩ := M20.out.get (i := 13) rfl
      have e145a := n145.c0
      have e145b := n145.c1
      obtain ⟨s146, a146, l146, c146, n146, i146⟩ := M20.out.get (i := 12) rfl
      have e146a := n146.c0
      have e146b := n146.c1
      have HO147 := hidD (show ∀ V : World, Below V143.heap.size V143 V → Calls Tryz.prog 17 #[.agg #[.bool s145, .slice a145 l145 c145], .agg #[.bool s146, .slice a146 l146 c146]] V fun e w' => e = .returned (.int .i64 cg) ∧ Below V.heap.size V w' from fun V h => by
        have h1 := iorder_c _ _ (((Int.gcd x y : Nat) : Int)) ((0 : Int)) V (i145.below h) (i146.below h)
        rw [HCG.out] at h1
        exact h1)
      have hq : Below V143.heap.size V143 V143 := Below.refl _ _
      go_upto_region 32 with (first
        | (go_at_call 17; refine (HO147.out _ hq).mono ?_; clear HO147; rintro e w148 ⟨rfl, hb148⟩; have hq := Below.then hq hb148; have e145a := (n145.below hq).c0; have e145b := (n145.below hq).c1; have e146a := (n146.below hq).c0; have e146b := (n146.below hq).c1))
      have M21 : Hid (MemI w w148 [(B3, x), (B6, y), (B9, t), (B16, x * y), (B21, x * t), (B26, y + t), (B31, x * (y + t)), (B36, x * y + x * t), (B41, x + (y + t)), (B46, x + y + t), (B56, y * x), (B73, x + y + t - t - y), (B84, (0 : Int)), (B143, ((Int.gcd x y : Nat) : Int))]) := hidD (M20.out.below hq)
      clear M20
      clear hq hb148
      clear n145 i145 e145a e145b n146 i146 e146a e146b
      try clear e145a e145b e146a e146b
      obtain ⟨s149, a149, l149, c149, n149, i149⟩ := M21.out.get (i := 13) rfl
      have e149a := n149.c0
      have e149b := n149.c1
      obtain ⟨s150, a150, l150, c150, n150, i150⟩ := M21.out.get (i := 12) rfl
      have e150a := n150.c0
      have e150b := n150.c1
      have HO151 := hidD (show ∀ V : World, Below w148.heap.size w148 V → Calls Tryz.prog 17 #[.agg #[.bool s149, .slice a149 l149 c149], .agg #[.bool s150, .slice a150 l150 c150]] V fun e w' => e = .returned (.int .i64 cg) ∧ Below V.heap.size V w' from fun V h => by
        have h1 := iorder_c _ _ (((Int.gcd x y : Nat) : Int)) ((0 : Int)) V (i149.below h) (i150.below h)
        rw [HCG.out] at h1
        exact h1)
      have hq : Below w148.heap.size w148 w148 := Below.refl _ _
      go_upto_if 145 with (first
        | (go_at_call 17; refine (HO151.out _ hq).mono ?_; clear HO151; rintro e w152 ⟨rfl, hb152⟩; have hq := Below.then hq hb152; have e149a := (n149.below hq).c0; have e149b := (n149.below hq).c1; have e150a := (n150.below hq).c0; have e150b := (n150.below hq).c1))
      have M22 : Hid (MemI w w152 [(B3, x), (B6, y), (B9, t), (B16, x * y), (B21, x * t), (B26, y + t), (B31, x * (y + t)), (B36, x * y + x * t), (B41, x + (y + t)), (B46, x + y + t), (B56, y * x), (B73, x + y + t - t - y), (B84, (0 : Int)), (B143, ((Int.gcd x y : Nat) : Int))]) := hidD (M21.out.below hq)
      clear M21
      clear hq hb152
      clear n149 i149 e149a e149b n150 i150 e150a e150b
      try clear e149a e149b e150a e150b
      go_cut [25] (fun pv w' => pv = .pointer (some ⟨B143, 0, none⟩) ∧ Hid (MemI w w' [(B3, x), (B6, y), (B9, t), (B16, x * y), (B21, x * t), (B26, y + t), (B31, x * (y + t)), (B36, x * y + x * t), (B41, x + (y + t)), (B46, x + y + t), (B56, y * x), (B73, x + y + t - t - y), (B84, (0 : Int)), (B143, ((Int.gcd x y : Nat) : Int))]))
      case first =>
        as_aux_lemma =>
          by_cases hgp : 0 < cg
          · have HG := hidD (HCI.out.1 hgp)
            have hne : ((Int.gcd x y : Nat) : Int) ≠ 0 := by have h := HG.out; omega
            obtain ⟨s153, a153, l153, c153, n153, i153⟩ := M22.out.get (i := 0) rfl
            have e153a := n153.c0
            have e153b := n153.c1
            obtain ⟨s154, a154, l154, c154, n154, i154⟩ := M22.out.get (i := 13) rfl
            have e154a := n154.c0
            have e154b := n154.c1
            go_upto_region 34 with (go_at_call 7; refine (isplit_c _ _ (x) (((Int.gcd x y : Nat) : Int)) _ i153 i154 hne (by have h1 := HB10.out; omega) (by have h2 := HB144.out; omega)).mono ?_; rintro e w155 ⟨u1, u2, rfl, hu1, hu2, hb⟩; obtain ⟨a155, l155, c155, rfl⟩ := hu1.form; obtain ⟨s155, hsg⟩ : ∃ b, decide (x / ((Int.gcd x y : Nat) : Int) < 0) = b := ⟨_, rfl⟩; rw [hsg] at hu1; rw [hsg]; clear hsg; obtain ⟨a156, l156, c156, rfl⟩ := hu2.form; obtain ⟨s156, hsg⟩ : ∃ b, decide (x % ((Int.gcd x y : Nat) : Int) < 0) = b := ⟨_, rfl⟩; rw [hsg] at hu2; rw [hsg]; clear hsg)
            have MM := MemI.push (MemI.push (M22.out.below hb) hu1) (hu2.alloc (.cells #[.bool s155, .slice a155 l155 c155] 29))
            rw [World.size_alloc] at MM
            obtain ⟨V158, hV⟩ : ∃ V, (w155.alloc (.cells #[.bool s155, .slice a155 l155 c155] 29)).alloc (.cells #[.bool s156, .slice a156 l156 c156] 29) = V := ⟨_, rfl⟩
            obtain ⟨B157, hBk⟩ : ∃ B, w155.heap.size = B := ⟨_, rfl⟩
            rw [hV, hBk] at MM
            rw [hV]
            rw [hBk]
            obtain ⟨B158, hBj⟩ : ∃ B, B157 + 1 = B := ⟨_, rfl⟩
            rw [hBj] at MM ⊢
            have M23 : Hid (MemI w V158 [(B3, x), (B6, y), (B9, t), (B16, x * y), (B21, x * t), (B26, y + t), (B31, x * (y + t)), (B36, x * y + x * t), (B41, x + (y + t)), (B46, x + y + t), (B56, y * x), (B73, x + y + t - t - y), (B84, (0 : Int)), (B143, ((Int.gcd x y : Nat) : Int)), (B157, x / ((Int.gcd x y : Nat) : Int)), (B158, x % ((Int.gcd x y : Nat) : Int))]) := hidD (MM)
            clear M22
            clear MM hV hBk hBj hb hu1 hu2
            clear n153 i153 e153a e153b n154 i154 e154a e154b
            obtain ⟨s159, a159, l159, c159, n159, i159⟩ := M23.out.get (i := 1) rfl
            have e159a := n159.c0
            have e159b := n159.c1
            obtain ⟨s160, a160, l160, c160, n160, i160⟩ := M23.out.get (i := 13) rfl
            have e160a := n160.c0
            have e160b := n160.c1
            go_upto_region 35 with (go_at_call 7; refine (isplit_c _ _ (y) (((Int.gcd x y : Nat) : Int)) _ i159 i160 hne (by have h1 := HB11.out; omega) (by have h2 := HB144.out; omega)).mono ?_; rintro e w161 ⟨u1, u2, rfl, hu1, hu2, hb⟩; obtain ⟨a161, l161, c161, rfl⟩ := hu1.form; obtain ⟨s161, hsg⟩ : ∃ b, decide (y / ((Int.gcd x y : Nat) : Int) < 0) = b := ⟨_, rfl⟩; rw [hsg] at hu1; rw [hsg]; clear hsg; obtain ⟨a162, l162, c162, rfl⟩ := hu2.form; obtain ⟨s162, hsg⟩ : ∃ b, decide (y % ((Int.gcd x y : Nat) : Int) < 0) = b := ⟨_, rfl⟩; rw [hsg] at hu2; rw [hsg]; clear hsg)
            have MM := MemI.push (MemI.push (M23.out.below hb) hu1) (hu2.alloc (.cells #[.bool s161, .slice a161 l161 c161] 29))
            rw [World.size_alloc] at MM
            obtain ⟨V164, hV⟩ : ∃ V, (w161.alloc (.cells #[.bool s161, .slice a161 l161 c161] 29)).alloc (.cells #[.bool s162, .slice a162 l162 c162] 29) = V := ⟨_, rfl⟩
            obtain ⟨B163, hBk⟩ : ∃ B, w161.heap.size = B := ⟨_, rfl⟩
            rw [hV, hBk] at MM
            rw [hV]
            rw [hBk]
            obtain ⟨B164, hBj⟩ : ∃ B, B163 + 1 = B := ⟨_, rfl⟩
            rw [hBj] at MM ⊢
            have M24 : Hid (MemI w V164 [(B3, x), (B6, y), (B9, t), (B16, x * y), (B21, x * t), (B26, y + t), (B31, x * (y + t)), (B36, x * y + x * t), (B41, x + (y + t)), (B46, x + y + t), (B56, y * x), (B73, x + y + t - t - y), (B84, (0 : Int)), (B143, ((Int.gcd x y : Nat) : Int)), (B157, x / ((Int.gcd x y : Nat) : Int)), (B158, x % ((Int.gcd x y : Nat) : Int)), (B163, y / ((Int.gcd x y : Nat) : Int)), (B164, y % ((Int.gcd x y : Nat) : Int))]) := hidD (MM)
            clear M23
            clear MM hV hBk hBj hb hu1 hu2
            clear n159 i159 e159a e159b n160 i160 e160a e160b
            clear hne
            obtain ⟨s165, a165, l165, c165, n165, i165⟩ := M24.out.get (i := 15) rfl
            have e165a := n165.c0
            have e165b := n165.c1
            obtain ⟨s166, a166, l166, c166, n166, i166⟩ := M24.out.get (i := 12) rfl
            have e166a := n166.c0
            have e166b := n166.c1
            obtain ⟨s167, a167, l167, c167, n167, i167⟩ := M24.out.get (i := 17) rfl
            have e167a := n167.c0
            have e167b := n167.c1
            have HO168 := hidD (show ∀ V : World, Below V164.heap.size V164 V → Calls Tryz.prog 17 #[.agg #[.bool s165, .slice a165 l165 c165], .agg #[.bool s166, .slice a166 l166 c166]] V fun e w' => e = .returned (.int .i64 0) ∧ Below V.heap.size V w' from fun V h => by
              have h1 := iorder_c _ _ (x % ((Int.gcd x y : Nat) : Int)) ((0 : Int)) V (i165.below h) (i166.below h)
              rw [cmpI_eq (Int.emod_eq_zero_of_dvd (Int.gcd_dvd_left ..))] at h1
              exact h1)
            have HO169 := hidD (show ∀ V : World, Below V164.heap.size V164 V → Calls Tryz.prog 17 #[.agg #[.bool s167, .slice a167 l167 c167], .agg #[.bool s166, .slice a166 l166 c166]] V fun e w' => e = .returned (.int .i64 0) ∧ Below V.heap.size V w' from fun V h => by
              have h1 := iorder_c _ _ (y % ((Int.gcd x y : Nat) : Int)) ((0 : Int)) V (i167.below h) (i166.below h)
              rw [cmpI_eq (Int.emod_eq_zero_of_dvd (Int.gcd_dvd_right ..))] at h1
              exact h1)
            have hq : Below V164.heap.size V164 V164 := Below.refl _ _
            go_wp2_with (first
              | (go_at_call 17; refine (HO168.out _ hq).mono ?_; clear HO168; rintro e w170 ⟨rfl, hb170⟩; have hq := Below.then hq hb170; have e165a := (n165.below hq).c0; have e165b := (n165.below hq).c1; have e166a := (n166.below hq).c0; have e166b := (n166.below hq).c1; have e167a := (n167.below hq).c0; have e167b := (n167.below hq).c1)
              | (go_at_call 17; refine (HO169.out _ hq).mono ?_; clear HO169; rintro e w171 ⟨rfl, hb171⟩; have hq := Below.then hq hb171; have e165a := (n165.below hq).c0; have e165b := (n165.below hq).c1; have e166a := (n166.below hq).c0; have e166b := (n166.below hq).c1; have e167a := (n167.below hq).c0; have e167b := (n167.below hq).c1))
            go_meet
            case rel => exact ⟨rfl, hidD (MemI.take (M24.out.below hq) 14)⟩
          · go_wp2_with fail
            go_meet
            case rel => exact ⟨rfl, M22⟩
      case rest =>
        as_aux_lemma =>
          obtain ⟨rfl, MM⟩ := hcut
          have M23 : Hid (MemI w wc [(B3, x), (B6, y), (B9, t), (B16, x * y), (B21, x * t), (B26, y + t), (B31, x * (y + t)), (B36, x * y + x * t), (B41, x + (y + t)), (B46, x + y + t), (B56, y * x), (B73, x + y + t - t - y), (B84, (0 : Int)), (B143, ((Int.gcd x y : Nat) : Int))]) := MM
          clear M22 MM hcg0 HCG HCI
          go_upto_region 37 with fail
          obtain ⟨s172, a172, l172, c172, n172, i172⟩ := M23.out.get (i := 4) rfl
          have e172a := n172.c0
          have e172b := n172.c1
          obtain ⟨s173, a173, l173, c173, n173, i173⟩ := M23.out.get (i := 1) rfl
          have e173a := n173.c0
          have e173b := n173.c1
          obtain ⟨s174, a174, l174, c174, n174, i174⟩ := M23.out.get (i := 2) rfl
          have e174a := n174.c0
          have e174b := n174.c1
          have HT1 := hidD (fun (V : World) (h : Below wc.heap.size wc V) => itimes_c _ _ y t V (i173.below h) (i174.below h) (by have h1 := HB11.out; have h2 := HB12.out; omega))
          have HG1 := hidD (fun (V : World) (u : Value) (h : Below wc.heap.size wc V) (hu : IsInt V u (y * t)) => igcd_c _ u (x * t) (y * t) V (i172.below h) hu (by have h1 := HB22.out; omega) (by have h2 := words_mul HB11.out HB12.out; omega))
          have hq : Below wc.heap.size wc wc.drew := (Below.refl _ wc).drew
          go_cut [32] (fun pv w' => ∃ B : Nat, pv = .pointer (some ⟨B, 0, none⟩) ∧ Hid (MemI w w' ([(B3, x), (B6, y), (B9, t), (B16, x * y), (B21, x * t), (B26, y + t), (B31, x * (y + t)), (B36, x * y + x * t), (B41, x + (y + t)), (B46, x + y + t), (B56, y * x), (B73, x + y + t - t - y), (B84, (0 : Int)), (B143, ((Int.gcd x y : Nat) : Int)), (B, ((Int.gcd (x * t) (y * t) : Nat) : Int))])))
          case first =>
            go_region_held3 (fun w' => w'.cell? ⟨B21, 0, none⟩ = some (.bool s172) ∧ w'.cell? ⟨B21, 1, none⟩ = some (.slice a172 l172 c172) ∧ w'.cell? ⟨B6, 0, none⟩ = some (.bool s173) ∧ w'.cell? ⟨B6, 1, none⟩ = some (.slice a173 l173 c173) ∧ w'.cell? ⟨B9, 0, none⟩ = some (.bool s174) ∧ w'.cell? ⟨B9, 1, none⟩ = some (.slice a174 l174 c174)) (first | exact ⟨e172a, e172b, e173a, e173b, e174a, e174b⟩ | (go_keep; done) | (refine ⟨?_, ?_, ?_, ?_, ?_, ?_⟩ <;> (rw [cell_set_nb (by omega), cell_set_nb (by omega)]; first | assumption | (go_keep; done))))
              (first
                | (go_at_call 15; refine (HT1.out _ hq).mono ?_; clear HT1; rintro e w177 ⟨u177, rfl, hum, hb177⟩; obtain ⟨a177, l177, c177, rfl⟩ := hum.form; obtain ⟨s177, hsg⟩ : ∃ b, decide (y * t < 0) = b := ⟨_, rfl⟩; rw [hsg] at hum; rw [hsg]; clear hsg; have hq := Below.then hq hb177; have e172a := (n172.below hq).c0; have e172b := (n172.below hq).c1; have e173a := (n173.below hq).c0; have e173b := (n173.below hq).c1; have e174a := (n174.below hq).c0; have e174b := (n174.below hq).c1)
                | (go_at_call 15; refine (HT1.out _ (hq.alloc hq.size _)).mono ?_; clear HT1; rintro e w177 ⟨u177, rfl, hum, hb177⟩; obtain ⟨a177, l177, c177, rfl⟩ := hum.form; obtain ⟨s177, hsg⟩ : ∃ b, decide (y * t < 0) = b := ⟨_, rfl⟩; rw [hsg] at hum; rw [hsg]; clear hsg; have lt172 := n172.lt; have lt173 := n173.lt; have lt174 := n174.lt; have hqz := hq; have hbz := hb177; have bq : Box2 w177 wc.heap.size 29 (.bool false) (.slice none 0 0) := (Box2.new wc.drew 29 (.bool false) (.slice none 0 0)).below hb177; have q0 := bq.c0; have q1 := bq.c1; have f0 := bq.f0; have f1 := bq.f1; have hq := below_at hq hb177; have e172a := (n172.below hq).c0; have e172b := (n172.below hq).c1; have e173a := (n173.below hq).c0; have e173b := (n173.below hq).c1; have e174a := (n174.below hq).c0; have e174b := (n174.below hq).c1)
                | (go_at_call 8; refine (HG1.out _ _ hq hum).mono ?_; clear HG1; rintro e w175 ⟨u175, rfl, hu, hb175⟩; obtain ⟨a175, l175, c175, rfl⟩ := hu.form; obtain ⟨s175, hsg⟩ : ∃ b, decide (((Int.gcd (x * t) (y * t) : Nat) : Int) < 0) = b := ⟨_, rfl⟩; rw [hsg] at hu; rw [hsg]; clear hsg; have hbc := hb175; have bq := bq.below hb175; have q0 := bq.c0; have q1 := bq.c1; have f0 := bq.f0; have f1 := bq.f1; have hq := Below.then hq hb175; have e172a := (n172.below hq).c0; have e172b := (n172.below hq).c1; have e173a := (n173.below hq).c0; have e173b := (n173.below hq).c1; have e174a := (n174.below hq).c0; have e174b := (n174.below hq).c1)
                | (go_at_call 8; refine (HG1.out _ _ hq hum).mono ?_; clear HG1; rintro e w175 ⟨u175, rfl, hu, hb175⟩; obtain ⟨a175, l175, c175, rfl⟩ := hu.form; obtain ⟨s175, hsg⟩ : ∃ b, decide (((Int.gcd (x * t) (y * t) : Nat) : Int) < 0) = b := ⟨_, rfl⟩; rw [hsg] at hu; rw [hsg]; clear hsg; have hqm := hq; have hq := Below.then hq hb175; have e172a := (n172.below hq).c0; have e172b := (n172.below hq).c1; have e173a := (n173.below hq).c0; have e173b := (n173.below hq).c1; have e174a := (n174.below hq).c0; have e174b := (n174.below hq).c1; have lt172 := (n172.below hq).lt; have lt173 := (n173.below hq).lt; have lt174 := (n174.below hq).lt)
                | (go_at_call 8; refine (HG1.out _ _ (hq.alloc hq.size _) (hum.alloc _)).mono ?_; clear HG1; rintro e w175 ⟨u175, rfl, hu, hb175⟩; obtain ⟨a175, l175, c175, rfl⟩ := hu.form; obtain ⟨s175, hsg⟩ : ∃ b, decide (((Int.gcd (x * t) (y * t) : Nat) : Int) < 0) = b := ⟨_, rfl⟩; rw [hsg] at hu; rw [hsg]; clear hsg; have hqa := hq; have lt172 := (n172.below hq).lt; have lt173 := (n173.below hq).lt; have lt174 := (n174.below hq).lt; have hq := below_at hq hb175; have e172a := (n172.below hq).c0; have e172b := (n172.below hq).c1; have e173a := (n173.below hq).c0; have e173b := (n173.below hq).c1; have e174a := (n174.below hq).c0; have e174b := (n174.below hq).c1; have bq := (Box2.new w177 29 (.bool false) (.slice none 0 0)).below hb175; have q0 := bq.c0; have q1 := bq.c1; have f0 := bq.f0; have f1 := bq.f1))
            all_goals go_wp2_with fail
            all_goals go_meet
            all_goals
              case rel =>
                first
                | exact ⟨_, rfl, hidD (MemI.push (M23.out.below hq) hu)⟩
                | exact ⟨_, rfl, hidD ((((M23.out.below hqa).push (int_zero _)).below hb175).put (i := 14) rfl hu)⟩
                | exact ⟨_, rfl, hidD (((((M23.out.below hqz).push (int_zero _)).below hbz).below hbc).put (i := 14) rfl hu)⟩
          case rest =>
            obtain ⟨B176, rfl, MM⟩ := hcut
            have M24 : Hid (MemI w wc [(B3, x), (B6, y), (B9, t), (B16, x * y), (B21, x * t), (B26, y + t), (B31, x * (y + t)), (B36, x * y + x * t), (B41, x + (y + t)), (B46, x + y + t), (B56, y * x), (B73, x + y + t - t - y), (B84, (0 : Int)), (B143, ((Int.gcd x y : Nat) : Int)), (B176, ((Int.gcd (x * t) (y * t) : Nat) : Int))]) := MM
            clear M23 MM
            clear HT1 HG1
            try clear hq
            clear n172 i172 e172a e172b n173 i173 e173a e173b n174 i174 e174a e174b
            obtain ⟨s179, a179, l179, c179, n179, i179⟩ := M24.out.get (i := 13) rfl
            have e179a := n179.c0
            have e179b := n179.c1
            obtain ⟨s180, a180, l180, c180, n180, i180⟩ := M24.out.get (i := 2) rfl
            have e180a := n180.c0
            have e180b := n180.c1
            go_upto_region 39 with (go_at_call 15; refine (itimes_c _ _ (((Int.gcd x y : Nat) : Int)) (t) _ i179 i180 (by have h1 := HB144.out; have h2 := HB12.out; omega)).mono ?_; rintro e w181 ⟨u, rfl, hu, hb⟩; obtain ⟨a181, l181, c181, rfl⟩ := hu.form; obtain ⟨s181, hsg⟩ : ∃ b, decide (((Int.gcd x y : Nat) : Int) * t < 0) = b := ⟨_, rfl⟩; rw [hsg] at hu; rw [hsg]; clear hsg)
            obtain ⟨V182, hV⟩ : ∃ V, w181.alloc (.cells #[.bool s181, .slice a181 l181 c181] 29) = V := ⟨_, rfl⟩
            obtain ⟨B182, hBk⟩ : ∃ B, w181.heap.size = B := ⟨_, rfl⟩
            have MM := MemI.push (M24.out.below hb) hu
            rw [hV, hBk] at MM
            rw [hV]
            rw [hBk]
            have M25 : Hid (MemI w V182 [(B3, x), (B6, y), (B9, t), (B16, x * y), (B21, x * t), (B26, y + t), (B31, x * (y + t)), (B36, x * y + x * t), (B41, x + (y + t)), (B46, x + y + t), (B56, y * x), (B73, x + y + t - t - y), (B84, (0 : Int)), (B143, ((Int.gcd x y : Nat) : Int)), (B176, ((Int.gcd (x * t) (y * t) : Nat) : Int)), (B182, ((Int.gcd x y : Nat) : Int) * t)]) := hidD (MM)
            clear M24
            clear MM hV hBk
            clear hb hu
            clear n179 i179 e179a e179b n180 i180 e180a e180b
            have HB183 := hidD (show (limbs B64 (((Int.gcd x y : Nat) : Int) * t).natAbs).length ≤ 4000 from words_mul HB144.out HB12.out)
            have HGM := hidD (show (Int.gcd (x * t) (y * t) : Int) = ((Int.gcd x y : Nat) : Int) * t.natAbs by rw [Int.gcd_mul_right]; push_cast; rfl)
            obtain ⟨ck, hck, hck1⟩ : ∃ ck : Int, cmpI (((Int.gcd x y : Nat) : Int) * t) 0 = ck ∧ (ck < 0 ↔ ((Int.gcd x y : Nat) : Int) * t < 0) := ⟨_, rfl, by unfold cmpI; split <;> (try split) <;> omega⟩
            have HCK := hidD hck
            have HCI := hidD hck1
            clear hck hck1
            obtain ⟨s184, a184, l184, c184, n184, i184⟩ := M25.out.get (i := 15) rfl
            have e184a := n184.c0
            have e184b := n184.c1
            obtain ⟨s185, a185, l185, c185, n185, i185⟩ := M25.out.get (i := 12) rfl
            have e185a := n185.c0
            have e185b := n185.c1
            have HO186 := hidD (show ∀ V : World, Below V182.heap.size V182 V → Calls Tryz.prog 17 #[.agg #[.bool s184, .slice a184 l184 c184], .agg #[.bool s185, .slice a185 l185 c185]] V fun e w' => e = .returned (.int .i64 ck) ∧ Below V.heap.size V w' from fun V h => by
              have h1 := iorder_c _ _ (((Int.gcd x y : Nat) : Int) * t) ((0 : Int)) V (i184.below h) (i185.below h)
              rw [HCK.out] at h1
              exact h1)
            have hq : Below V182.heap.size V182 V182 := Below.refl _ _
            go_upto_if 181 with (first
              | (go_at_call 17; refine (HO186.out _ hq).mono ?_; clear HO186; rintro e w187 ⟨rfl, hb187⟩; have hq := Below.then hq hb187; have e184a := (n184.below hq).c0; have e184b := (n184.below hq).c1; have e185a := (n185.below hq).c0; have e185b := (n185.below hq).c1))
            have M26 : Hid (MemI w w187 [(B3, x), (B6, y), (B9, t), (B16, x * y), (B21, x * t), (B26, y + t), (B31, x * (y + t)), (B36, x * y + x * t), (B41, x + (y + t)), (B46, x + y + t), (B56, y * x), (B73, x + y + t - t - y), (B84, (0 : Int)), (B143, ((Int.gcd x y : Nat) : Int)), (B176, ((Int.gcd (x * t) (y * t) : Nat) : Int)), (B182, ((Int.gcd x y : Nat) : Int) * t)]) := hidD (M25.out.below hq)
            clear M25
            clear hq hb187
            clear n184 i184 e184a e184b n185 i185 e185a e185b
            try clear e184a e184b e185a e185b
            go_cut [33] (fun pv w' => pv = .pointer (some ⟨B182, 0, none⟩) ∧ Hid (MemI w w' [(B3, x), (B6, y), (B9, t), (B16, x * y), (B21, x * t), (B26, y + t), (B31, x * (y + t)), (B36, x * y + x * t), (B41, x + (y + t)), (B46, x + y + t), (B56, y * x), (B73, x + y + t - t - y), (B84, (0 : Int)), (B143, ((Int.gcd x y : Nat) : Int)), (B176, ((Int.gcd (x * t) (y * t) : Nat) : Int)), (B182, ((Int.gcd (x * t) (y * t) : Nat) : Int))]))
            case first =>
              by_cases hk : ck < 0
              · have HK := hidD (HCI.out.1 hk)
                have HEQ := hidD (show 0 - ((Int.gcd x y : Nat) : Int) * t = ((Int.gcd (x * t) (y * t) : Nat) : Int) from (law_neg HGM.out HGP.out (by have h := HK.out; omega)).symm)
                obtain ⟨s188, a188, l188, c188, n188, i188⟩ := M26.out.get (i := 12) rfl
                have e188a := n188.c0
                have e188b := n188.c1
                obtain ⟨s189, a189, l189, c189, n189, i189⟩ := M26.out.get (i := 15) rfl
                have e189a := n189.c0
                have e189b := n189.c1
                go_wp2_with (go_at_call 18; refine (iminus_c _ _ ((0 : Int)) (((Int.gcd x y : Nat) : Int) * t) _ i188 i189 (by have h1 := HB85.out; omega) (by have h2 := HB183.out; omega)).mono ?_; rintro e w190 ⟨u, rfl, hu, hb⟩; rw [HEQ.out] at hu; obtain ⟨a190, l190, c190, rfl⟩ := hu.form; obtain ⟨s190, hsg⟩ : ∃ b, decide (((Int.gcd (x * t) (y * t) : Nat) : Int) < 0) = b := ⟨_, rfl⟩; rw [hsg] at hu; rw [hsg]; clear hsg; have q0 := (n189.below hb).c0; have q1 := (n189.below hb).c1; have f0 := (n189.below hb).f0; have f1 := (n189.below hb).f1)
                go_meet
                case rel => exact ⟨rfl, hidD ((M26.out.below hb).put (i := 15) rfl hu)⟩
              · have HEQ := hidD (show ((Int.gcd x y : Nat) : Int) * t = ((Int.gcd (x * t) (y * t) : Nat) : Int) from (law_pos HGM.out HGP.out (by have h := HCI.out; omega)).symm)
                have MM := M26.out
                rw [HEQ.out] at MM
                go_wp2_with fail
                go_meet
                case rel => exact ⟨rfl, hidD MM⟩
            case rest =>
              obtain ⟨rfl, MM⟩ := hcut
              have M27 : Hid (MemI w wc [(B3, x), (B6, y), (B9, t), (B16, x * y), (B21, x * t), (B26, y + t), (B31, x * (y + t)), (B36, x * y + x * t), (B41, x + (y + t)), (B46, x + y + t), (B56, y * x), (B73, x + y + t - t - y), (B84, (0 : Int)), (B143, ((Int.gcd x y : Nat) : Int)), (B176, ((Int.gcd (x * t) (y * t) : Nat) : Int)), (B182, ((Int.gcd (x * t) (y * t) : Nat) : Int))]) := MM
              clear M26 MM HCK HCI
              obtain ⟨s191, a191, l191, c191, n191, i191⟩ := M27.out.get (i := 14) rfl
              have e191a := n191.c0
              have e191b := n191.c1
              obtain ⟨s192, a192, l192, c192, n192, i192⟩ := M27.out.get (i := 15) rfl
              have e192a := n192.c0
              have e192b := n192.c1
              have HO193 := hidD (show ∀ V : World, Below wc.heap.size wc V → Calls Tryz.prog 17 #[.agg #[.bool s191, .slice a191 l191 c191], .agg #[.bool s192, .slice a192 l192 c192]] V fun e w' => e = .returned (.int .i64 0) ∧ Below V.heap.size V w' from fun V h => by
                have h1 := iorder_c _ _ (((Int.gcd (x * t) (y * t) : Nat) : Int)) (((Int.gcd (x * t) (y * t) : Nat) : Int)) V (i191.below h) (i192.below h)
                rw [cmpI_eq rfl] at h1
                exact h1)
              have AL := hidD (fun (V : World) (h : Below wc.heap.size wc V) => alive_c V (tab_below HT.out (M27.out.2.2.trans (h.mono M27.out.2.2.size))))
              have hq : Below wc.heap.size wc wc := Below.refl _ _
              go_wp2_with (first
                | (go_at_call 17; refine (HO193.out _ hq).mono ?_; clear HO193; rintro e w194 ⟨rfl, hb194⟩; have hq := Below.then hq hb194; have e191a := (n191.below hq).c0; have e191b := (n191.below hq).c1; have e192a := (n192.below hq).c0; have e192b := (n192.below hq).c1)
                | (go_at_call 13; refine (AL.out _ hq).mono ?_; clear AL; rintro e w195 ⟨rfl, hb195⟩; have hq := Below.then hq hb195))
              go_ret
              exact ⟨rfl, M27.out.2.2.trans (hq.mono M27.out.2.2.size)⟩
end Go.Proofs.YtjmmnpfedhkjbaaGreatDoor
