import Derived.Test.YtcahodpphikgnaaGreatDoorK32
namespace Go.Proofs.YtcahodpphikgnaaGreatDoor
open Go.RowKit Go.Shelf

attribute [local go_sem] Oper.semAt_some

theorem sq_sum {p q : Rat} (hp : SmQ 2000 p) (hq : SmQ 2000 q) : Sq (p + q) ∧ Sq (p - q) ∧ Sq (p * q) ∧ (q ≠ 0 → Sq (p / q)) :=
  ⟨Sq.of (hp.add hq) (by omega), by rw [Rat.sub_eq_add_neg]; exact Sq.of (hp.add hq.neg) (by omega), Sq.of (hp.mul hq) (by omega), fun h => Sq.of (hp.over hq h) (by omega)⟩

theorem textQ_nil : textQ 0 = [48] := by
  unfold textQ
  rw [if_pos (by decide), show decZ (Rat.num 0) = [48] from decZ_of (by decide) (by decide)]

set_option maxRecDepth 100000 in
set_option maxHeartbeats 16000000 in
theorem ratioWorks_c (s t : ByteArray) (hs : s.size ≤ 140737488351232) (ht : t.size ≤ 140737488351232) (w : World) (htab : Lib.TabIs Tryz.prog w "internal/strconv.uint64pow10" .u64 Lib.pow10Tab) :
    Calls Tryz.prog 5 #[.string s, .string t] w fun e w' => e = .returned (.bool true) ∧ Below w.heap.size w w' := by
  have HT := hidD htab
  have P1 := hidD (fun (V : World) => read_c s hs V)
  have P2 := hidD (fun (V : World) => read_c t ht V)
  have P3 := hidD (fun (V : World) => given_c s V)
  have P4 := hidD (fun (V : World) => given_c t V)
  have HSS := hidD (sq_sum (valQ_sm (wlst s)) (valQ_sm (wlst t)))
  have HP := hidD (valQ_sq (wlst s))
  have HQ := hidD (valQ_sq (wlst t))
  obtain ⟨p, hp⟩ : ∃ x, valQ (wlst s) = x := ⟨_, rfl⟩
  obtain ⟨q, hq⟩ : ∃ x, valQ (wlst t) = x := ⟨_, rfl⟩
  rw [hp] at P1 P3 HP
  rw [hq] at P2 P4 HQ
  rw [hp, hq] at HSS
  have HSA := hidD HSS.out.1
  have HSB := hidD HSS.out.2.1
  have HSC := hidD HSS.out.2.2.1
  have HSD := hidD HSS.out.2.2.2
  obtain ⟨bq, hbq⟩ : ∃ b, decide (q ≠ 0) = b := ⟨_, rfl⟩
  have HBQ := hidD hbq
  obtain ⟨sg, hsg⟩ : ∃ x, q.num.sign = x := ⟨_, rfl⟩
  have hsb : (sg != 0) = bq := by
    rw [← hbq, ← hsg, Bool.eq_iff_iff, bne_iff_ne, decide_eq_true_eq]
    exact not_congr (Int.sign_eq_zero_iff_zero.trans Rat.num_eq_zero)
  have hbb : (bq != bq) = false := by cases bq <;> rfl
  have HSG := hidD hsg
  obtain ⟨co, hco⟩ : ∃ x, cmpI (p.num * (q.den : Int)) (q.num * (p.den : Int)) = x := ⟨_, rfl⟩
  have HCO := hidD (show cmpQ p q = co from hco)
  have HCR := hidD hco
  have hcc : (co != co) = false := by simp
  obtain ⟨TA, hTA⟩ : ∃ S : ByteArray, ⟨(textQ (p + q)).toArray⟩ = S := ⟨_, rfl⟩
  obtain ⟨TB, hTB⟩ : ∃ S : ByteArray, ⟨(textQ (p - q)).toArray⟩ = S := ⟨_, rfl⟩
  obtain ⟨TC, hTC⟩ : ∃ S : ByteArray, ⟨(textQ (p * q)).toArray⟩ = S := ⟨_, rfl⟩
  obtain ⟨TD, hTD⟩ : ∃ S : ByteArray, ⟨(textQ (p / q)).toArray⟩ = S := ⟨_, rfl⟩
  obtain ⟨TP, hTP⟩ : ∃ S : ByteArray, ⟨(textQ p).toArray⟩ = S := ⟨_, rfl⟩
  obtain ⟨TQ, hTQ⟩ : ∃ S : ByteArray, ⟨(textQ q).toArray⟩ = S := ⟨_, rfl⟩
  have HTA := hidD hTA
  have HTB := hidD hTB
  have HTC := hidD hTC
  have HTD := hidD hTD
  have HTP := hidD hTP
  have HTQ := hidD hTQ
  clear htab hp hq hbq hsg hco hTA hTB hTC hTD hTP hTQ hs ht HSS
  have M0 : Hid (Mem w w []) := hidD (Mem.nil w)
  go_enter Tryz.func5, Tryz.ntmps5
  go_upto_region 2 with (go_at_call 25; refine (P1.out _).mono ?_; clear P1; rintro e w600 ⟨u, rfl, hu, hb⟩; obtain ⟨a600, l600, c600, s600, b600, k600, d600, t600, rfl⟩ := IsRef.form hu)
  obtain ⟨V1, hV⟩ : ∃ V, w600.alloc (.cells #[.slice a600 l600 c600, .bool s600, .slice b600 k600 d600, .bool t600] 34) = V := ⟨_, rfl⟩
  obtain ⟨B1, hBk⟩ : ∃ B, w600.heap.size = B := ⟨_, rfl⟩
  have MM : Mem w (w600.alloc (.cells #[.slice a600 l600 c600, .bool s600, .slice b600 k600 d600, .bool t600] 34)) [some (w600.heap.size, .ref (p))] := Mem.push (M0.out.below hb) (.ref (p)) hu
  rw [hV, hBk] at MM
  rw [hV]
  rw [hBk]
  have M1 : Hid (Mem w V1 [some (B1, .ref (p))]) := hidD (MM)
  clear M0
  clear MM hV hBk
  clear hu hb
  go_upto_region 3 with (go_at_call 25; refine (P2.out _).mono ?_; clear P2; rintro e w601 ⟨u, rfl, hu, hb⟩; obtain ⟨a601, l601, c601, s601, b601, k601, d601, t601, rfl⟩ := IsRef.form hu)
  obtain ⟨V2, hV⟩ : ∃ V, w601.alloc (.cells #[.slice a601 l601 c601, .bool s601, .slice b601 k601 d601, .bool t601] 34) = V := ⟨_, rfl⟩
  obtain ⟨B2, hBk⟩ : ∃ B, w601.heap.size = B := ⟨_, rfl⟩
  have MM : Mem w (w601.alloc (.cells #[.slice a601 l601 c601, .bool s601, .slice b601 k601 d601, .bool t601] 34)) [some (B1, .ref (p)), some (w601.heap.size, .ref (q))] := Mem.push (M1.out.below hb) (.ref (q)) hu
  rw [hV, hBk] at MM
  rw [hV]
  rw [hBk]
  have M2 : Hid (Mem w V2 [some (B1, .ref (p)), some (B2, .ref (q))]) := hidD (MM)
  clear M1
  clear MM hV hBk
  clear hu hb
  go_upto_region 4 with (go_at_call 26; refine (P3.out _).mono ?_; clear P3; rintro e w602 ⟨u, rfl, hu, hb⟩; obtain ⟨s602, a602, l602, c602, t602, b602, k602, d602, rfl⟩ := IsRat.form hu)
  obtain ⟨V3, hV⟩ : ∃ V, w602.alloc (.cells #[.bool s602, .slice a602 l602 c602, .bool t602, .slice b602 k602 d602] 27) = V := ⟨_, rfl⟩
  obtain ⟨B3, hBk⟩ : ∃ B, w602.heap.size = B := ⟨_, rfl⟩
  have MM : Mem w (w602.alloc (.cells #[.bool s602, .slice a602 l602 c602, .bool t602, .slice b602 k602 d602] 27)) [some (B1, .ref (p)), some (B2, .ref (q)), some (w602.heap.size, .rat (p))] := Mem.push (M2.out.below hb) (.rat (p)) hu
  rw [hV, hBk] at MM
  rw [hV]
  rw [hBk]
  have M3 : Hid (Mem w V3 [some (B1, .ref (p)), some (B2, .ref (q)), some (B3, .rat (p))]) := hidD (MM)
  clear M2
  clear MM hV hBk
  clear hu hb
  go_upto_region 5 with (go_at_call 26; refine (P4.out _).mono ?_; clear P4; rintro e w603 ⟨u, rfl, hu, hb⟩; obtain ⟨s603, a603, l603, c603, t603, b603, k603, d603, rfl⟩ := IsRat.form hu)
  obtain ⟨V4, hV⟩ : ∃ V, w603.alloc (.cells #[.bool s603, .slice a603 l603 c603, .bool t603, .slice b603 k603 d603] 27) = V := ⟨_, rfl⟩
  obtain ⟨B4, hBk⟩ : ∃ B, w603.heap.size = B := ⟨_, rfl⟩
  have MM : Mem w (w603.alloc (.cells #[.bool s603, .slice a603 l603 c603, .bool t603, .slice b603 k603 d603] 27)) [some (B1, .ref (p)), some (B2, .ref (q)), some (B3, .rat (p)), some (w603.heap.size, .rat (q))] := Mem.push (M3.out.below hb) (.rat (q)) hu
  rw [hV, hBk] at MM
  rw [hV]
  rw [hBk]
  have M4 : Hid (Mem w V4 [some (B1, .ref (p)), some (B2, .ref (q)), some (B3, .rat (p)), some (B4, .rat (q))]) := hidD (MM)
  clear M3
  clear MM hV hBk
  clear hu hb
  obtain ⟨s5, a5, l5, c5, t5, b5, k5, d5, n5, r5, i5, j5⟩ := M4.out.rat (i := 2) rfl
  have e5a := n5.c0
  have e5b := n5.c1
  have e5c := n5.c2
  have e5d := n5.c3
  obtain ⟨s6, a6, l6, c6, t6, b6, k6, d6, n6, r6, i6, j6⟩ := M4.out.rat (i := 3) rfl
  have e6a := n6.c0
  have e6b := n6.c1
  have e6c := n6.c2
  have e6d := n6.c3
  have HC := hidD (qplus_c _ _ p q V4 r5 r6 HP.out HQ.out)
  go_upto_region 6 with (go_at_call 27; refine HC.out.mono ?_; clear HC; rintro e w507 ⟨u, rfl, hu, hb⟩; obtain ⟨s507, a507, l507, c507, t507, b507, k507, d507, rfl⟩ := IsRat.form hu)
  obtain ⟨V8, hV⟩ : ∃ V, w507.alloc (.cells #[.bool s507, .slice a507 l507 c507, .bool t507, .slice b507 k507 d507] 27) = V := ⟨_, rfl⟩
  obtain ⟨B8, hBk⟩ : ∃ B, w507.heap.size = B := ⟨_, rfl⟩
  have MM : Mem w (w507.alloc (.cells #[.bool s507, .slice a507 l507 c507, .bool t507, .slice b507 k507 d507] 27)) [some (B1, .ref (p)), some (B2, .ref (q)), some (B3, .rat (p)), some (B4, .rat (q)), some (w507.heap.size, .rat (p + q))] := Mem.push (M4.out.below hb) (.rat (p + q)) hu
  rw [hV, hBk] at MM
  rw [hV]
  rw [hBk]
  have M5 : Hid (Mem w V8 [some (B1, .ref (p)), some (B2, .ref (q)), some (B3, .rat (p)), some (B4, .rat (q)), some (B8, .rat (p + q))]) := hidD (MM)
  clear M4
  clear MM hV hBk
  clear n5 e5a e5b e5c e5d i5 r5 j5 n6 e6a e6b e6c e6d i6 r6 j6 hu hb
  obtain ⟨s9, a9, l9, c9, t9, b9, k9, d9, n9, r9, i9, j9⟩ := M5.out.rat (i := 2) rfl
  have e9a := n9.c0
  have e9b := n9.c1
  have e9c := n9.c2
  have e9d := n9.c3
  obtain ⟨s10, a10, l10, c10, t10, b10, k10, d10, n10, r10, i10, j10⟩ := M5.out.rat (i := 3) rfl
  have e10a := n10.c0
  have e10b := n10.c1
  have e10c := n10.c2
  have e10d := n10.c3
  have HC := hidD (qminus_c _ _ p q V8 r9 r10 HP.out HQ.out)
  go_upto_region 7 with (go_at_call 28; refine HC.out.mono ?_; clear HC; rintro e w511 ⟨u, rfl, hu, hb⟩; obtain ⟨s511, a511, l511, c511, t511, b511, k511, d511, rfl⟩ := IsRat.form hu)
  obtain ⟨V12, hV⟩ : ∃ V, w511.alloc (.cells #[.bool s511, .slice a511 l511 c511, .bool t511, .slice b511 k511 d511] 27) = V := ⟨_, rfl⟩
  obtain ⟨B12, hBk⟩ : ∃ B, w511.heap.size = B := ⟨_, rfl⟩
  have MM : Mem w (w511.alloc (.cells #[.bool s511, .slice a511 l511 c511, .bool t511, .slice b511 k511 d511] 27)) [some (B1, .ref (p)), some (B2, .ref (q)), some (B3, .rat (p)), some (B4, .rat (q)), some (B8, .rat (p + q)), some (w511.heap.size, .rat (p - q))] := Mem.push (M5.out.below hb) (.rat (p - q)) hu
  rw [hV, hBk] at MM
  rw [hV]
  rw [hBk]
  have M6 : Hid (Mem w V12 [some (B1, .ref (p)), some (B2, .ref (q)), some (B3, .rat (p)), some (B4, .rat (q)), some (B8, .rat (p + q)), some (B12, .rat (p - q))]) := hidD (MM)
  clear M5
  clear MM hV hBk
  clear n9 e9a e9b e9c e9d i9 r9 j9 n10 e10a e10b e10c e10d i10 r10 j10 hu hb
  obtain ⟨s13, a13, l13, c13, t13, b13, k13, d13, n13, r13, i13, j13⟩ := M6.out.rat (i := 2) rfl
  have e13a := n13.c0
  have e13b := n13.c1
  have e13c := n13.c2
  have e13d := n13.c3
  obtain ⟨s14, a14, l14, c14, t14, b14, k14, d14, n14, r14, i14, j14⟩ := M6.out.rat (i := 3) rfl
  have e14a := n14.c0
  have e14b := n14.c1
  have e14c := n14.c2
  have e14d := n14.c3
  have HC := hidD (qtimes_c _ _ p q V12 r13 r14 HP.out HQ.out)
  go_upto_region 8 with (go_at_call 29; refine HC.out.mono ?_; clear HC; rintro e w515 ⟨u, rfl, hu, hb⟩; obtain ⟨s515, a515, l515, c515, t515, b515, k515, d515, rfl⟩ := IsRat.form hu)
  obtain ⟨V16, hV⟩ : ∃ V, w515.alloc (.cells #[.bool s515, .slice a515 l515 c515, .bool t515, .slice b515 k515 d515] 27) = V := ⟨_, rfl⟩
  obtain ⟨B16, hBk⟩ : ∃ B, w515.heap.size = B := ⟨_, rfl⟩
  have MM : Mem w (w515.alloc (.cells #[.bool s515, .slice a515 l515 c515, .bool t515, .slice b515 k515 d515] 27)) [some (B1, .ref (p)), some (B2, .ref (q)), some (B3, .rat (p)), some (B4, .rat (q)), some (B8, .rat (p + q)), some (B12, .rat (p - q)), some (w515.heap.size, .rat (p * q))] := Mem.push (M6.out.below hb) (.rat (p * q)) hu
  rw [hV, hBk] at MM
  rw [hV]
  rw [hBk]
  have M7 : Hid (Mem w V16 [some (B1, .ref (p)), some (B2, .ref (q)), some (B3, .rat (p)), some (B4, .rat (q)), some (B8, .rat (p + q)), some (B12, .rat (p - q)), some (B16, .rat (p * q))]) := hidD (MM)
  clear M6
  clear MM hV hBk
  clear n13 e13a e13b e13c e13d i13 r13 j13 n14 e14a e14b e14c e14d i14 r14 j14 hu hb
  obtain ⟨s17, a17, l17, c17, t17, b17, k17, d17, n17, r17, i17, j17⟩ := M7.out.rat (i := 2) rfl
  have e17a := n17.c0
  have e17b := n17.c1
  have e17c := n17.c2
  have e17d := n17.c3
  obtain ⟨s18, a18, l18, c18, t18, b18, k18, d18, n18, r18, i18, j18⟩ := M7.out.rat (i := 3) rfl
  have e18a := n18.c0
  have e18b := n18.c1
  have e18c := n18.c2
  have e18d := n18.c3
  have HC := hidD (qover_c _ _ p q V16 r17 r18 HP.out HQ.out)
  rw [HBQ.out] at HC
  go_upto_region 9 with (go_at_call 30; refine HC.out.mono ?_; clear HC; rintro e w519 ⟨u, rfl, hu, hb⟩; obtain ⟨s519, a519, l519, c519, t519, b519, k519, d519, rfl⟩ := IsRat.form hu)
  obtain ⟨V20, hV⟩ : ∃ V, w519.alloc (.cells #[.bool s519, .slice a519 l519 c519, .bool t519, .slice b519 k519 d519] 27) = V := ⟨_, rfl⟩
  obtain ⟨B20, hBk⟩ : ∃ B, w519.heap.size = B := ⟨_, rfl⟩
  have MM : Mem w (w519.alloc (.cells #[.bool s519, .slice a519 l519 c519, .bool t519, .slice b519 k519 d519] 27)) [some (B1, .ref (p)), some (B2, .ref (q)), some (B3, .rat (p)), some (B4, .rat (q)), some (B8, .rat (p + q)), some (B12, .rat (p - q)), some (B16, .rat (p * q)), some (w519.heap.size, .rat (p / q))] := Mem.push (M7.out.below hb) (.rat (p / q)) hu
  rw [hV, hBk] at MM
  rw [hV]
  rw [hBk]
  have M8 : Hid (Mem w V20 [some (B1, .ref (p)), some (B2, .ref (q)), some (B3, .rat (p)), some (B4, .rat (q)), some (B8, .rat (p + q)), some (B12, .rat (p - q)), some (B16, .rat (p * q)), some (B20, .rat (p / q))]) := hidD (MM)
  clear M7
  clear MM hV hBk
  clear n17 e17a e17b e17c e17d i17 r17 j17 n18 e18a e18b e18c e18d i18 r18 j18 hu hb
  obtain ⟨a21, l21, c21, s21, b21, k21, d21, t21, n21, r21, i21, j21⟩ := M8.out.ref (i := 0) rfl
  have e21a := n21.c0
  have e21b := n21.c1
  have e21c := n21.c2
  have e21d := n21.c3
  obtain ⟨a22, l22, c22, s22, b22, k22, d22, t22, n22, r22, i22, j22⟩ := M8.out.ref (i := 1) rfl
  have e22a := n22.c0
  have e22b := n22.c1
  have e22c := n22.c2
  have e22d := n22.c3
  obtain ⟨s23, a23, l23, c23, t23, b23, k23, d23, n23, r23, i23, j23⟩ := M8.out.rat (i := 2) rfl
  have e23a := n23.c0
  have e23b := n23.c1
  have e23c := n23.c2
  have e23d := n23.c3
  obtain ⟨s24, a24, l24, c24, t24, b24, k24, d24, n24, r24, i24, j24⟩ := M8.out.rat (i := 3) rfl
  have e24a := n24.c0
  have e24b := n24.c1
  have e24c := n24.c2
  have e24d := n24.c3
  obtain ⟨s25, a25, l25, c25, t25, b25, k25, d25, n25, r25, i25, j25⟩ := M8.out.rat (i := 4) rfl
  have e25a := n25.c0
  have e25b := n25.c1
  have e25c := n25.c2
  have e25d := n25.c3
  obtain ⟨s26, a26, l26, c26, t26, b26, k26, d26, n26, r26, i26, j26⟩ := M8.out.rat (i := 5) rfl
  have e26a := n26.c0
  have e26b := n26.c1
  have e26c := n26.c2
  have e26d := n26.c3
  obtain ⟨s27, a27, l27, c27, t27, b27, k27, d27, n27, r27, i27, j27⟩ := M8.out.rat (i := 6) rfl
  have e27a := n27.c0
  have e27b := n27.c1
  have e27c := n27.c2
  have e27d := n27.c3
  have HA0 := hidD (fun (V : World) (h : Below V20.heap.size V20 V) => qtext_c _ (p + q) V (r25.below h) HSA.out (tab_below HT.out (M8.out.2.2.trans (h.mono M8.out.2.2.size))))
  rw [HTA.out] at HA0
  have HA1 := hidD (fun (V : World) (h : Below V20.heap.size V20 V) => ssum_c _ _ p q V (r21.below h) (r22.below h) HP.out HQ.out)
  have HA2 := hidD (fun (V : World) (h : Below V20.heap.size V20 V) (va : Value) (ga : IsRef V va (p + q)) => stext_c va (p + q) V ga HSA.out)
  rw [HTA.out] at HA2
  have HA3 := hidD (fun (V : World) (h : Below V20.heap.size V20 V) => qtext_c _ (p - q) V (r26.below h) HSB.out (tab_below HT.out (M8.out.2.2.trans (h.mono M8.out.2.2.size))))
  rw [HTB.out] at HA3
  have HA4 := hidD (fun (V : World) (h : Below V20.heap.size V20 V) => sless_c _ _ p q V (r21.below h) (r22.below h) HP.out HQ.out)
  have HA5 := hidD (fun (V : World) (h : Below V20.heap.size V20 V) (vb : Value) (gb : IsRef V vb (p - q)) => stext_c vb (p - q) V gb HSB.out)
  rw [HTB.out] at HA5
  have HA6 := hidD (fun (V : World) (h : Below V20.heap.size V20 V) => qtext_c _ (p * q) V (r27.below h) HSC.out (tab_below HT.out (M8.out.2.2.trans (h.mono M8.out.2.2.size))))
  rw [HTC.out] at HA6
  have HA7 := hidD (fun (V : World) (h : Below V20.heap.size V20 V) => stimes_c _ _ p q V (r21.below h) (r22.below h) HP.out HQ.out)
  have HA8 := hidD (fun (V : World) (h : Below V20.heap.size V20 V) (vc : Value) (gc : IsRef V vc (p * q)) => stext_c vc (p * q) V gc HSC.out)
  rw [HTC.out] at HA8
  have HA9 := hidD (fun (V : World) (h : Below V20.heap.size V20 V) => qorder_c _ _ p q V (r23.below h) (r24.below h) HP.out HQ.out)
  rw [HCO.out] at HA9
  have HA10 := hidD (fun (V : World) (h : Below V20.heap.size V20 V) => sorder_c _ _ p q V (r21.below h) (r22.below h) HP.out HQ.out)
  rw [HCR.out] at HA10
  have HA11 := hidD (fun (V : World) (h : Below V20.heap.size V20 V) => ssign_c _ q V (r22.below h))
  rw [HSG.out] at HA11
  have hq : Below V20.heap.size V20 V20.drew := (Below.refl _ V20).drew
  go_region_held3 (fun w' => w'.cell? ⟨B1, 0, none⟩ = some (.slice a21 l21 c21) ∧ w'.cell? ⟨B1, 1, none⟩ = some (.bool s21) ∧ w'.cell? ⟨B1, 2, none⟩ = some (.slice b21 k21 d21) ∧ w'.cell? ⟨B1, 3, none⟩ = some (.bool t21) ∧ w'.cell? ⟨B2, 0, none⟩ = some (.slice a22 l22 c22) ∧ w'.cell? ⟨B2, 1, none⟩ = some (.bool s22) ∧ w'.cell? ⟨B2, 2, none⟩ = some (.slice b22 k22 d22) ∧ w'.cell? ⟨B2, 3, none⟩ = some (.bool t22) ∧ w'.cell? ⟨B3, 0, none⟩ = some (.bool s23) ∧ w'.cell? ⟨B3, 1, none⟩ = some (.slice a23 l23 c23) ∧ w'.cell? ⟨B3, 2, none⟩ = some (.bool t23) ∧ w'.cell? ⟨B3, 3, none⟩ = some (.slice b23 k23 d23) ∧ w'.cell? ⟨B4, 0, none⟩ = some (.bool s24) ∧ w'.cell? ⟨B4, 1, none⟩ = some (.slice a24 l24 c24) ∧ w'.cell? ⟨B4, 2, none⟩ = some (.bool t24) ∧ w'.cell? ⟨B4, 3, none⟩ = some (.slice b24 k24 d24) ∧ w'.cell? ⟨B8, 0, none⟩ = some (.bool s25) ∧ w'.cell? ⟨B8, 1, none⟩ = some (.slice a25 l25 c25) ∧ w'.cell? ⟨B8, 2, none⟩ = some (.bool t25) ∧ w'.cell? ⟨B8, 3, none⟩ = some (.slice b25 k25 d25) ∧ w'.cell? ⟨B12, 0, none⟩ = some (.bool s26) ∧ w'.cell? ⟨B12, 1, none⟩ = some (.slice a26 l26 c26) ∧ w'.cell? ⟨B12, 2, none⟩ = some (.bool t26) ∧ w'.cell? ⟨B12, 3, none⟩ = some (.slice b26 k26 d26) ∧ w'.cell? ⟨B16, 0, none⟩ = some (.bool s27) ∧ w'.cell? ⟨B16, 1, none⟩ = some (.slice a27 l27 c27) ∧ w'.cell? ⟨B16, 2, none⟩ = some (.bool t27) ∧ w'.cell? ⟨B16, 3, none⟩ = some (.slice b27 k27 d27)) (first | (with_reducible exact ⟨e21a, e21b, e21c, e21d, e22a, e22b, e22c, e22d, e23a, e23b, e23c, e23d, e24a, e24b, e24c, e24d, e25a, e25b, e25c, e25d, e26a, e26b, e26c, e26d, e27a, e27b, e27c, e27d⟩) | (go_keep; done) | (refine ⟨?_, ?_, ?_, ?_, ?_, ?_, ?_, ?_, ?_, ?_, ?_, ?_, ?_, ?_, ?_, ?_, ?_, ?_, ?_, ?_, ?_, ?_, ?_, ?_, ?_, ?_, ?_, ?_⟩ <;> ((repeat rw [cell_set_nb (by omega)]); first | assumption | (go_keep; done))))
    (first
      | (go_at_call 11; refine (HA0.out _ hq).mono ?_; clear HA0; rintro e x0 ⟨rfl, hb⟩; replace hq := Below.then hq hb; clear hb; clear e21a e21b e21c e21d; have e21a := (n21.below hq).c0; have e21b := (n21.below hq).c1; have e21c := (n21.below hq).c2; have e21d := (n21.below hq).c3; clear e22a e22b e22c e22d; have e22a := (n22.below hq).c0; have e22b := (n22.below hq).c1; have e22c := (n22.below hq).c2; have e22d := (n22.below hq).c3; clear e23a e23b e23c e23d; have e23a := (n23.below hq).c0; have e23b := (n23.below hq).c1; have e23c := (n23.below hq).c2; have e23d := (n23.below hq).c3; clear e24a e24b e24c e24d; have e24a := (n24.below hq).c0; have e24b := (n24.below hq).c1; have e24c := (n24.below hq).c2; have e24d := (n24.below hq).c3; clear e25a e25b e25c e25d; have e25a := (n25.below hq).c0; have e25b := (n25.below hq).c1; have e25c := (n25.below hq).c2; have e25d := (n25.below hq).c3; clear e26a e26b e26c e26d; have e26a := (n26.below hq).c0; have e26b := (n26.below hq).c1; have e26c := (n26.below hq).c2; have e26d := (n26.below hq).c3; clear e27a e27b e27c e27d; have e27a := (n27.below hq).c0; have e27b := (n27.below hq).c1; have e27c := (n27.below hq).c2; have e27d := (n27.below hq).c3)
      | (go_at_call 31; refine (HA1.out _ hq).mono ?_; clear HA1; rintro e x1 ⟨va, rfl, ga, hb⟩; replace hq := Below.then hq hb; clear hb; clear e21a e21b e21c e21d; have e21a := (n21.below hq).c0; have e21b := (n21.below hq).c1; have e21c := (n21.below hq).c2; have e21d := (n21.below hq).c3; clear e22a e22b e22c e22d; have e22a := (n22.below hq).c0; have e22b := (n22.below hq).c1; have e22c := (n22.below hq).c2; have e22d := (n22.below hq).c3; clear e23a e23b e23c e23d; have e23a := (n23.below hq).c0; have e23b := (n23.below hq).c1; have e23c := (n23.below hq).c2; have e23d := (n23.below hq).c3; clear e24a e24b e24c e24d; have e24a := (n24.below hq).c0; have e24b := (n24.below hq).c1; have e24c := (n24.below hq).c2; have e24d := (n24.below hq).c3; clear e25a e25b e25c e25d; have e25a := (n25.below hq).c0; have e25b := (n25.below hq).c1; have e25c := (n25.below hq).c2; have e25d := (n25.below hq).c3; clear e26a e26b e26c e26d; have e26a := (n26.below hq).c0; have e26b := (n26.below hq).c1; have e26c := (n26.below hq).c2; have e26d := (n26.below hq).c3; clear e27a e27b e27c e27d; have e27a := (n27.below hq).c0; have e27b := (n27.below hq).c1; have e27c := (n27.below hq).c2; have e27d := (n27.below hq).c3)
      | (go_at_call 12; refine (HA2.out _ hq _ ga).mono ?_; clear HA2; rintro e x2 ⟨rfl, hb⟩; replace ga := ga.below hb; replace hq := Below.then hq hb; clear hb; clear e21a e21b e21c e21d; have e21a := (n21.below hq).c0; have e21b := (n21.below hq).c1; have e21c := (n21.below hq).c2; have e21d := (n21.below hq).c3; clear e22a e22b e22c e22d; have e22a := (n22.below hq).c0; have e22b := (n22.below hq).c1; have e22c := (n22.below hq).c2; have e22d := (n22.below hq).c3; clear e23a e23b e23c e23d; have e23a := (n23.below hq).c0; have e23b := (n23.below hq).c1; have e23c := (n23.below hq).c2; have e23d := (n23.below hq).c3; clear e24a e24b e24c e24d; have e24a := (n24.below hq).c0; have e24b := (n24.below hq).c1; have e24c := (n24.below hq).c2; have e24d := (n24.below hq).c3; clear e25a e25b e25c e25d; have e25a := (n25.below hq).c0; have e25b := (n25.below hq).c1; have e25c := (n25.below hq).c2; have e25d := (n25.below hq).c3; clear e26a e26b e26c e26d; have e26a := (n26.below hq).c0; have e26b := (n26.below hq).c1; have e26c := (n26.below hq).c2; have e26d := (n26.below hq).c3; clear e27a e27b e27c e27d; have e27a := (n27.below hq).c0; have e27b := (n27.below hq).c1; have e27c := (n27.below hq).c2; have e27d := (n27.below hq).c3)
      | (go_at_call 11; refine (HA3.out _ hq).mono ?_; clear HA3; rintro e x3 ⟨rfl, hb⟩; replace ga := ga.below hb; replace hq := Below.then hq hb; clear hb; clear e21a e21b e21c e21d; have e21a := (n21.below hq).c0; have e21b := (n21.below hq).c1; have e21c := (n21.below hq).c2; have e21d := (n21.below hq).c3; clear e22a e22b e22c e22d; have e22a := (n22.below hq).c0; have e22b := (n22.below hq).c1; have e22c := (n22.below hq).c2; have e22d := (n22.below hq).c3; clear e23a e23b e23c e23d; have e23a := (n23.below hq).c0; have e23b := (n23.below hq).c1; have e23c := (n23.below hq).c2; have e23d := (n23.below hq).c3; clear e24a e24b e24c e24d; have e24a := (n24.below hq).c0; have e24b := (n24.below hq).c1; have e24c := (n24.below hq).c2; have e24d := (n24.below hq).c3; clear e25a e25b e25c e25d; have e25a := (n25.below hq).c0; have e25b := (n25.below hq).c1; have e25c := (n25.below hq).c2; have e25d := (n25.below hq).c3; clear e26a e26b e26c e26d; have e26a := (n26.below hq).c0; have e26b := (n26.below hq).c1; have e26c := (n26.below hq).c2; have e26d := (n26.below hq).c3; clear e27a e27b e27c e27d; have e27a := (n27.below hq).c0; have e27b := (n27.below hq).c1; have e27c := (n27.below hq).c2; have e27d := (n27.below hq).c3)
      | (go_at_call 32; refine (HA4.out _ hq).mono ?_; clear HA4; rintro e x4 ⟨vb, rfl, gb, hb⟩; replace ga := ga.below hb; replace hq := Below.then hq hb; clear hb; clear e21a e21b e21c e21d; have e21a := (n21.below hq).c0; have e21b := (n21.below hq).c1; have e21c := (n21.below hq).c2; have e21d := (n21.below hq).c3; clear e22a e22b e22c e22d; have e22a := (n22.below hq).c0; have e22b := (n22.below hq).c1; have e22c := (n22.below hq).c2; have e22d := (n22.below hq).c3; clear e23a e23b e23c e23d; have e23a := (n23.below hq).c0; have e23b := (n23.below hq).c1; have e23c := (n23.below hq).c2; have e23d := (n23.below hq).c3; clear e24a e24b e24c e24d; have e24a := (n24.below hq).c0; have e24b := (n24.below hq).c1; have e24c := (n24.below hq).c2; have e24d := (n24.below hq).c3; clear e25a e25b e25c e25d; have e25a := (n25.below hq).c0; have e25b := (n25.below hq).c1; have e25c := (n25.below hq).c2; have e25d := (n25.below hq).c3; clear e26a e26b e26c e26d; have e26a := (n26.below hq).c0; have e26b := (n26.below hq).c1; have e26c := (n26.below hq).c2; have e26d := (n26.below hq).c3; clear e27a e27b e27c e27d; have e27a := (n27.below hq).c0; have e27b := (n27.below hq).c1; have e27c := (n27.below hq).c2; have e27d := (n27.below hq).c3)
      | (go_at_call 12; refine (HA5.out _ hq _ gb).mono ?_; clear HA5; rintro e x5 ⟨rfl, hb⟩; replace ga := ga.below hb; replace gb := gb.below hb; replace hq := Below.then hq hb; clear hb; clear e21a e21b e21c e21d; have e21a := (n21.below hq).c0; have e21b := (n21.below hq).c1; have e21c := (n21.below hq).c2; have e21d := (n21.below hq).c3; clear e22a e22b e22c e22d; have e22a := (n22.below hq).c0; have e22b := (n22.below hq).c1; have e22c := (n22.below hq).c2; have e22d := (n22.below hq).c3; clear e23a e23b e23c e23d; have e23a := (n23.below hq).c0; have e23b := (n23.below hq).c1; have e23c := (n23.below hq).c2; have e23d := (n23.below hq).c3; clear e24a e24b e24c e24d; have e24a := (n24.below hq).c0; have e24b := (n24.below hq).c1; have e24c := (n24.below hq).c2; have e24d := (n24.below hq).c3; clear e25a e25b e25c e25d; have e25a := (n25.below hq).c0; have e25b := (n25.below hq).c1; have e25c := (n25.below hq).c2; have e25d := (n25.below hq).c3; clear e26a e26b e26c e26d; have e26a := (n26.below hq).c0; have e26b := (n26.below hq).c1; have e26c := (n26.below hq).c2; have e26d := (n26.below hq).c3; clear e27a e27b e27c e27d; have e27a := (n27.below hq).c0; have e27b := (n27.below hq).c1; have e27c := (n27.below hq).c2; have e27d := (n27.below hq).c3)
      | (go_at_call 11; refine (HA6.out _ hq).mono ?_; clear HA6; rintro e x6 ⟨rfl, hb⟩; replace ga := ga.below hb; replace gb := gb.below hb; replace hq := Below.then hq hb; clear hb; clear e21a e21b e21c e21d; have e21a := (n21.below hq).c0; have e21b := (n21.below hq).c1; have e21c := (n21.below hq).c2; have e21d := (n21.below hq).c3; clear e22a e22b e22c e22d; have e22a := (n22.below hq).c0; have e22b := (n22.below hq).c1; have e22c := (n22.below hq).c2; have e22d := (n22.below hq).c3; clear e23a e23b e23c e23d; have e23a := (n23.below hq).c0; have e23b := (n23.below hq).c1; have e23c := (n23.below hq).c2; have e23d := (n23.below hq).c3; clear e24a e24b e24c e24d; have e24a := (n24.below hq).c0; have e24b := (n24.below hq).c1; have e24c := (n24.below hq).c2; have e24d := (n24.below hq).c3; clear e25a e25b e25c e25d; have e25a := (n25.below hq).c0; have e25b := (n25.below hq).c1; have e25c := (n25.below hq).c2; have e25d := (n25.below hq).c3; clear e26a e26b e26c e26d; have e26a := (n26.below hq).c0; have e26b := (n26.below hq).c1; have e26c := (n26.below hq).c2; have e26d := (n26.below hq).c3; clear e27a e27b e27c e27d; have e27a := (n27.below hq).c0; have e27b := (n27.below hq).c1; have e27c := (n27.below hq).c2; have e27d := (n27.below hq).c3)
      | (go_at_call 33; refine (HA7.out _ hq).mono ?_; clear HA7; rintro e x7 ⟨vc, rfl, gc, hb⟩; replace ga := ga.below hb; replace gb := gb.below hb; replace hq := Below.then hq hb; clear hb; clear e21a e21b e21c e21d; have e21a := (n21.below hq).c0; have e21b := (n21.below hq).c1; have e21c := (n21.below hq).c2; have e21d := (n21.below hq).c3; clear e22a e22b e22c e22d; have e22a := (n22.below hq).c0; have e22b := (n22.below hq).c1; have e22c := (n22.below hq).c2; have e22d := (n22.below hq).c3; clear e23a e23b e23c e23d; have e23a := (n23.below hq).c0; have e23b := (n23.below hq).c1; have e23c := (n23.below hq).c2; have e23d := (n23.below hq).c3; clear e24a e24b e24c e24d; have e24a := (n24.below hq).c0; have e24b := (n24.below hq).c1; have e24c := (n24.below hq).c2; have e24d := (n24.below hq).c3; clear e25a e25b e25c e25d; have e25a := (n25.below hq).c0; have e25b := (n25.below hq).c1; have e25c := (n25.below hq).c2; have e25d := (n25.below hq).c3; clear e26a e26b e26c e26d; have e26a := (n26.below hq).c0; have e26b := (n26.below hq).c1; have e26c := (n26.below hq).c2; have e26d := (n26.below hq).c3; clear e27a e27b e27c e27d; have e27a := (n27.below hq).c0; have e27b := (n27.below hq).c1; have e27c := (n27.below hq).c2; have e27d := (n27.below hq).c3)
      | (go_at_call 12; refine (HA8.out _ hq _ gc).mono ?_; clear HA8; rintro e x8 ⟨rfl, hb⟩; replace ga := ga.below hb; replace gb := gb.below hb; replace gc := gc.below hb; replace hq := Below.then hq hb; clear hb; clear e21a e21b e21c e21d; have e21a := (n21.below hq).c0; have e21b := (n21.below hq).c1; have e21c := (n21.below hq).c2; have e21d := (n21.below hq).c3; clear e22a e22b e22c e22d; have e22a := (n22.below hq).c0; have e22b := (n22.below hq).c1; have e22c := (n22.below hq).c2; have e22d := (n22.below hq).c3; clear e23a e23b e23c e23d; have e23a := (n23.below hq).c0; have e23b := (n23.below hq).c1; have e23c := (n23.below hq).c2; have e23d := (n23.below hq).c3; clear e24a e24b e24c e24d; have e24a := (n24.below hq).c0; have e24b := (n24.below hq).c1; have e24c := (n24.below hq).c2; have e24d := (n24.below hq).c3; clear e25a e25b e25c e25d; have e25a := (n25.below hq).c0; have e25b := (n25.below hq).c1; have e25c := (n25.below hq).c2; have e25d := (n25.below hq).c3; clear e26a e26b e26c e26d; have e26a := (n26.below hq).c0; have e26b := (n26.below hq).c1; have e26c := (n26.below hq).c2; have e26d := (n26.below hq).c3; clear e27a e27b e27c e27d; have e27a := (n27.below hq).c0; have e27b := (n27.below hq).c1; have e27c := (n27.below hq).c2; have e27d := (n27.below hq).c3)
      | (go_at_call 34; refine (HA9.out _ hq).mono ?_; clear HA9; rintro e x9 ⟨rfl, hb⟩; replace ga := ga.below hb; replace gb := gb.below hb; replace gc := gc.below hb; replace hq := Below.then hq hb; clear hb; clear e21a e21b e21c e21d; have e21a := (n21.below hq).c0; have e21b := (n21.below hq).c1; have e21c := (n21.below hq).c2; have e21d := (n21.below hq).c3; clear e22a e22b e22c e22d; have e22a := (n22.below hq).c0; have e22b := (n22.below hq).c1; have e22c := (n22.below hq).c2; have e22d := (n22.below hq).c3; clear e23a e23b e23c e23d; have e23a := (n23.below hq).c0; have e23b := (n23.below hq).c1; have e23c := (n23.below hq).c2; have e23d := (n23.below hq).c3; clear e24a e24b e24c e24d; have e24a := (n24.below hq).c0; have e24b := (n24.below hq).c1; have e24c := (n24.below hq).c2; have e24d := (n24.below hq).c3; clear e25a e25b e25c e25d; have e25a := (n25.below hq).c0; have e25b := (n25.below hq).c1; have e25c := (n25.below hq).c2; have e25d := (n25.below hq).c3; clear e26a e26b e26c e26d; have e26a := (n26.below hq).c0; have e26b := (n26.below hq).c1; have e26c := (n26.below hq).c2; have e26d := (n26.below hq).c3; clear e27a e27b e27c e27d; have e27a := (n27.below hq).c0; have e27b := (n27.below hq).c1; have e27c := (n27.below hq).c2; have e27d := (n27.below hq).c3)
      | (go_at_call 35; refine (HA10.out _ hq).mono ?_; clear HA10; rintro e x10 ⟨rfl, hb⟩; replace ga := ga.below hb; replace gb := gb.below hb; replace gc := gc.below hb; replace hq := Below.then hq hb; clear hb; clear e21a e21b e21c e21d; have e21a := (n21.below hq).c0; have e21b := (n21.below hq).c1; have e21c := (n21.below hq).c2; have e21d := (n21.below hq).c3; clear e22a e22b e22c e22d; have e22a := (n22.below hq).c0; have e22b := (n22.below hq).c1; have e22c := (n22.below hq).c2; have e22d := (n22.below hq).c3; clear e23a e23b e23c e23d; have e23a := (n23.below hq).c0; have e23b := (n23.below hq).c1; have e23c := (n23.below hq).c2; have e23d := (n23.below hq).c3; clear e24a e24b e24c e24d; have e24a := (n24.below hq).c0; have e24b := (n24.below hq).c1; have e24c := (n24.below hq).c2; have e24d := (n24.below hq).c3; clear e25a e25b e25c e25d; have e25a := (n25.below hq).c0; have e25b := (n25.below hq).c1; have e25c := (n25.below hq).c2; have e25d := (n25.below hq).c3; clear e26a e26b e26c e26d; have e26a := (n26.below hq).c0; have e26b := (n26.below hq).c1; have e26c := (n26.below hq).c2; have e26d := (n26.below hq).c3; clear e27a e27b e27c e27d; have e27a := (n27.below hq).c0; have e27b := (n27.below hq).c1; have e27c := (n27.below hq).c2; have e27d := (n27.below hq).c3)
      | (go_at_call 36; refine (HA11.out _ hq).mono ?_; clear HA11; rintro e x11 ⟨rfl, hb⟩; replace ga := ga.below hb; replace gb := gb.below hb; replace gc := gc.below hb; replace hq := Below.then hq hb; clear hb; clear e21a e21b e21c e21d; have e21a := (n21.below hq).c0; have e21b := (n21.below hq).c1; have e21c := (n21.below hq).c2; have e21d := (n21.below hq).c3; clear e22a e22b e22c e22d; have e22a := (n22.below hq).c0; have e22b := (n22.below hq).c1; have e22c := (n22.below hq).c2; have e22d := (n22.below hq).c3; clear e23a e23b e23c e23d; have e23a := (n23.below hq).c0; have e23b := (n23.below hq).c1; have e23c := (n23.below hq).c2; have e23d := (n23.below hq).c3; clear e24a e24b e24c e24d; have e24a := (n24.below hq).c0; have e24b := (n24.below hq).c1; have e24c := (n24.below hq).c2; have e24d := (n24.below hq).c3; clear e25a e25b e25c e25d; have e25a := (n25.below hq).c0; have e25b := (n25.below hq).c1; have e25c := (n25.below hq).c2; have e25d := (n25.below hq).c3; clear e26a e26b e26c e26d; have e26a := (n26.below hq).c0; have e26b := (n26.below hq).c1; have e26c := (n26.below hq).c2; have e26d := (n26.below hq).c3; clear e27a e27b e27c e27d; have e27a := (n27.below hq).c0; have e27b := (n27.below hq).c1; have e27c := (n27.below hq).c2; have e27d := (n27.below hq).c3))
  clear ga gb gc
  replace n21 := n21.below hq
  replace i21 := i21.below hq
  replace r21 := r21.below hq
  replace j21 := j21.below hq
  replace n22 := n22.below hq
  replace i22 := i22.below hq
  replace r22 := r22.below hq
  replace j22 := j22.below hq
  replace n23 := n23.below hq
  replace i23 := i23.below hq
  replace r23 := r23.below hq
  replace j23 := j23.below hq
  replace n24 := n24.below hq
  replace i24 := i24.below hq
  replace r24 := r24.below hq
  replace j24 := j24.below hq
  replace n25 := n25.below hq
  replace i25 := i25.below hq
  replace r25 := r25.below hq
  replace j25 := j25.below hq
  replace n26 := n26.below hq
  replace i26 := i26.below hq
  replace r26 := r26.below hq
  replace j26 := j26.below hq
  replace n27 := n27.below hq
  replace i27 := i27.below hq
  replace r27 := r27.below hq
  replace j27 := j27.below hq
  have M9 : Hid (Mem w x11 [some (B1, .ref (p)), some (B2, .ref (q)), some (B3, .rat (p)), some (B4, .rat (q)), some (B8, .rat (p + q)), some (B12, .rat (p - q)), some (B16, .rat (p * q)), some (B20, .rat (p / q))]) := hidD (M8.out.below hq)
  clear M8
  clear hq
  cases bq with
  | false =>
    have HQ0 := hidD (show q = 0 from Decidable.byContradiction (fun h => by have h1 := HBQ.out; rw [decide_eq_true h] at h1; cases h1))
    have HD0 := hidD (show p / q = 0 by rw [HQ0.out, Rat.div_def, Rat.inv_zero, Rat.mul_zero])
    have HZS := hidD (show Sq (p / q) by rw [HD0.out]; exact Sq.of (k := 1) ⟨Sm.zero _, Sm.one _ (by omega)⟩ (by omega))
    go_upto_region 11 with fail
    have hmx : Tryz.prog.follows .mixedOrders = true := by kernel_rfl
    refine wp_region_tab hmx [[], [0], [1], [2, 1, 1], [1], [1], [4, 5, 3, 1], [6, 6, 1], [3, 7, 1], [1, 8]] (by kernel_rfl) (by decide)
      (fun D act V => ∃ (t78x t79x t80x t81x t82x t83x t84x t85x t86x t87x : Value), act = { tmps := #[Value.string s, Value.string t, undef, undef, Value.bool false, Value.pointer (some { block := B1, off := 0 }), Value.pointer (some { block := B2, off := 0 }), Value.pointer (some { block := B3, off := 0 }), Value.pointer (some { block := B4, off := 0 }), Value.pointer (some { block := B8, off := 0 }), Value.pointer (some { block := B12, off := 0 }), Value.pointer (some { block := B16, off := 0 }), Value.pointer (some { block := B20, off := 0 }), Value.bool false, Value.string s, Value.agg #[Value.slice a600 l600 c600, Value.bool s600, Value.slice b600 k600 d600, Value.bool t600], Value.string t, Value.agg #[Value.slice a601 l601 c601, Value.bool s601, Value.slice b601 k601 d601, Value.bool t601], Value.string s, Value.agg #[Value.bool s602, Value.slice a602 l602 c602, Value.bool t602, Value.slice b602 k602 d602], Value.string t, Value.agg #[Value.bool s603, Value.slice a603 l603 c603, Value.bool t603, Value.slice b603 k603 d603], Value.agg #[Value.bool s5, Value.slice a5 l5 c5, Value.bool t5, Value.slice b5 k5 d5], Value.agg #[Value.bool s6, Value.slice a6 l6 c6, Value.bool t6, Value.slice b6 k6 d6], Value.agg #[Value.bool s507, Value.slice a507 l507 c507, Value.bool t507, Value.slice b507 k507 d507], Value.agg #[Value.bool s9, Value.slice a9 l9 c9, Value.bool t9, Value.slice b9 k9 d9], Value.agg #[Value.bool s10, Value.slice a10 l10 c10, Value.bool t10, Value.slice b10 k10 d10], Value.agg #[Value.bool s511, Value.slice a511 l511 c511, Value.bool t511, Value.slice b511 k511 d511], Value.agg #[Value.bool s13, Value.slice a13 l13 c13, Value.bool t13, Value.slice b13 k13 d13], Value.agg #[Value.bool s14, Value.slice a14 l14 c14, Value.bool t14, Value.slice b14 k14 d14], Value.agg #[Value.bool s515, Value.slice a515 l515 c515, Value.bool t515, Value.slice b515 k515 d515], Value.tuple #[Value.agg #[Value.bool s519, Value.slice a519 l519 c519, Value.bool t519, Value.slice b519 k519 d519], Value.bool false], Value.agg #[Value.bool s17, Value.slice a17 l17 c17, Value.bool t17, Value.slice b17 k17 d17], Value.agg #[Value.bool s18, Value.slice a18 l18 c18, Value.bool t18, Value.slice b18 k18 d18], Value.tuple #[Value.agg #[Value.bool s519, Value.slice a519 l519 c519, Value.bool t519, Value.slice b519 k519 d519], Value.bool false], Value.agg #[Value.bool s519, Value.slice a519 l519 c519, Value.bool t519, Value.slice b519 k519 d519], Value.bool false, Value.agg #[Value.bool s25, Value.slice a25 l25 c25, Value.bool t25, Value.slice b25 k25 d25], Value.string TA, Value.agg #[Value.slice a21 l21 c21, Value.bool s21, Value.slice b21 k21 d21, Value.bool t21], Value.agg #[Value.slice a22 l22 c22, Value.bool s22, Value.slice b22 k22 d22, Value.bool t22], va, Value.string TA, Value.bool false, Value.bool false, Value.agg #[Value.bool s26, Value.slice a26 l26 c26, Value.bool t26, Value.slice b26 k26 d26], Value.string TB, Value.agg #[Value.slice a21 l21 c21, Value.bool s21, Value.slice b21 k21 d21, Value.bool t21], Value.agg #[Value.slice a22 l22 c22, Value.bool s22, Value.slice b22 k22 d22, Value.bool t22], vb, Value.string TB, Value.bool false, Value.bool false, Value.bool false, Value.agg #[Value.bool s27, Value.slice a27 l27 c27, Value.bool t27, Value.slice b27 k27 d27], Value.string TC, Value.agg #[Value.slice a21 l21 c21, Value.bool s21, Value.slice b21 k21 d21, Value.bool t21], Value.agg #[Value.slice a22 l22 c22, Value.bool s22, Value.slice b22 k22 d22, Value.bool t22], vc, Value.string TC, Value.bool false, Value.bool false, Value.bool false, Value.agg #[Value.bool s23, Value.slice a23 l23 c23, Value.bool t23, Value.slice b23 k23 d23], Value.agg #[Value.bool s24, Value.slice a24 l24 c24, Value.bool t24, Value.slice b24 k24 d24], Value.int IntKind.i64 co, Value.agg #[Value.slice a21 l21 c21, Value.bool s21, Value.slice b21 k21 d21, Value.bool t21], Value.agg #[Value.slice a22 l22 c22, Value.bool s22, Value.slice b22 k22 d22, Value.bool t22], Value.int IntKind.i64 co, Value.bool false, Value.bool false, Value.bool false, Value.bool false, Value.agg #[Value.slice a22 l22 c22, Value.bool s22, Value.slice b22 k22 d22, Value.bool t22], Value.int IntKind.i64 sg, Value.bool false, Value.bool false, Value.bool false, t78x, t79x, t80x, t81x, t82x, t83x, t84x, t85x, t86x, t87x, undef, undef, undef, undef, undef, undef, undef, undef, undef, undef, undef, undef, undef, undef, undef, undef, undef, undef, undef, undef, undef, undef, undef], defers := [] } ∧ Hid ((D 0 = true → t78x = Value.bool false) ∧ (D 1 = true → t79x = Value.bool false) ∧ (D 9 = true → t87x = .bool false)) ∧ Hid (Mem w V [some (B1, .ref (p)), some (B2, .ref (q)), some (B3, .rat (p)), some (B4, .rat (q)), some (B8, .rat (p + q)), some (B12, .rat (p - q)), some (B16, .rat (p * q)), some (B20, .rat (p / q))]))
      ⟨_, _, _, _, _, _, _, _, _, _, rfl, hidD ⟨by simp, by simp, by simp⟩, hidD (M9.out).drew⟩ ?step28 ?fin28
    case step28 =>
      rintro D act V i ds hcl hi hds hDi ⟨t78x, t79x, t80x, t81x, t82x, t83x, t84x, t85x, t86x, t87x, rfl, GG, MM⟩
      have hi6 : i < 10 := (List.getElem?_eq_some_iff.1 hi).1
      obtain rfl | rfl | rfl | rfl | rfl | rfl | rfl | rfl | rfl | rfl : i = 0 ∨ i = 1 ∨ i = 2 ∨ i = 3 ∨ i = 4 ∨ i = 5 ∨ i = 6 ∨ i = 7 ∨ i = 8 ∨ i = 9 := by omega
      all_goals
        simp only [List.getElem?_cons_zero, List.getElem?_cons_succ, Option.some.injEq] at hi
        subst hi
      · clear hds
        refine wpOp_go rfl rfl (fun K hK => ?_)
        go_simp
        exact hK _ _ ⟨_, _, _, _, _, _, _, _, _, _, rfl, hidD ⟨fun _ => rfl, GG.out.2.1, GG.out.2.2⟩, hidD (MM.out)⟩
      · obtain rfl := (GG.out.1 (hds 0 (by simp)))
        clear hds
        refine wpOp_go rfl rfl (fun K hK => ?_)
        go_simp
        exact hK _ _ ⟨_, _, _, _, _, _, _, _, _, _, rfl, hidD ⟨fun _ => rfl, fun _ => rfl, GG.out.2.2⟩, hidD (MM.out)⟩
      · obtain rfl := (GG.out.2.1 (hds 1 (by simp)))
        clear hds
        exact wpOp_no rfl rfl ⟨_, _, _, _, _, _, _, _, _, _, rfl, hidD ⟨GG.out.1, fun _ => rfl, GG.out.2.2⟩, hidD (MM.out)⟩
      · obtain rfl := (GG.out.2.1 (hds 1 (by simp)))
        clear hds
        exact wpOp_no rfl rfl ⟨_, _, _, _, _, _, _, _, _, _, rfl, hidD ⟨GG.out.1, fun _ => rfl, GG.out.2.2⟩, hidD (MM.out)⟩
      · obtain rfl := (GG.out.2.1 (hds 1 (by simp)))
        clear hds
        exact wpOp_no rfl rfl ⟨_, _, _, _, _, _, _, _, _, _, rfl, hidD ⟨GG.out.1, fun _ => rfl, GG.out.2.2⟩, hidD (MM.out)⟩
      · obtain rfl := (GG.out.2.1 (hds 1 (by simp)))
        clear hds
        exact wpOp_no rfl rfl ⟨_, _, _, _, _, _, _, _, _, _, rfl, hidD ⟨GG.out.1, fun _ => rfl, GG.out.2.2⟩, hidD (MM.out)⟩
      · obtain rfl := (GG.out.2.1 (hds 1 (by simp)))
        clear hds
        exact wpOp_no rfl rfl ⟨_, _, _, _, _, _, _, _, _, _, rfl, hidD ⟨GG.out.1, fun _ => rfl, GG.out.2.2⟩, hidD (MM.out)⟩
      · obtain rfl := (GG.out.2.1 (hds 1 (by simp)))
        clear hds
        exact wpOp_no rfl rfl ⟨_, _, _, _, _, _, _, _, _, _, rfl, hidD ⟨GG.out.1, fun _ => rfl, GG.out.2.2⟩, hidD (MM.out)⟩
      · obtain rfl := (GG.out.2.1 (hds 1 (by simp)))
        clear hds
        exact wpOp_no rfl rfl ⟨_, _, _, _, _, _, _, _, _, _, rfl, hidD ⟨GG.out.1, fun _ => rfl, GG.out.2.2⟩, hidD (MM.out)⟩
      · obtain rfl := (GG.out.2.1 (hds 1 (by simp)))
        clear hds
        refine wpOp_go rfl rfl (fun K hK => ?_)
        go_simp
        exact hK _ _ ⟨_, _, _, _, _, _, _, _, _, _, rfl, hidD ⟨GG.out.1, fun _ => rfl, fun _ => rfl⟩, hidD (MM.out)⟩
    rintro D act V29 hDD ⟨t78x, t79x, t80x, t81x, t82x, t83x, t84x, t85x, t86x, t87x, rfl, GG, MM⟩
    obtain rfl := GG.out.1 (hDD 0 (by decide))
    obtain rfl := GG.out.2.1 (hDD 1 (by decide))
    obtain rfl := GG.out.2.2 (hDD 9 (by decide))
    clear GG hDD M9
    have M10 : Hid (Mem w V29 [some (B1, .ref (p)), some (B2, .ref (q)), some (B3, .rat (p)), some (B4, .rat (q)), some (B8, .rat (p + q)), some (B12, .rat (p - q)), some (B16, .rat (p * q)), some (B20, .rat (p / q))]) := MM
    clear MM
    go_upto_region 13 with fail
    obtain ⟨a30, l30, c30, s30, b30, k30, d30, t30, n30, r30, i30, j30⟩ := M10.out.ref (i := 0) rfl
    have e30a := n30.c0
    have e30b := n30.c1
    have e30c := n30.c2
    have e30d := n30.c3
    obtain ⟨a31, l31, c31, s31, b31, k31, d31, t31, n31, r31, i31, j31⟩ := M10.out.ref (i := 1) rfl
    have e31a := n31.c0
    have e31b := n31.c1
    have e31c := n31.c2
    have e31d := n31.c3
    obtain ⟨s32, a32, l32, c32, t32, b32, k32, d32, n32, r32, i32, j32⟩ := M10.out.rat (i := 2) rfl
    have e32a := n32.c0
    have e32b := n32.c1
    have e32c := n32.c2
    have e32d := n32.c3
    obtain ⟨s33, a33, l33, c33, t33, b33, k33, d33, n33, r33, i33, j33⟩ := M10.out.rat (i := 3) rfl
    have e33a := n33.c0
    have e33b := n33.c1
    have e33c := n33.c2
    have e33d := n33.c3
    obtain ⟨s34, a34, l34, c34, t34, b34, k34, d34, n34, r34, i34, j34⟩ := M10.out.rat (i := 7) rfl
    have e34a := n34.c0
    have e34b := n34.c1
    have e34c := n34.c2
    have e34d := n34.c3
    have HA0 := hidD (fun (V : World) (h : Below V29.heap.size V29 V) => qtext_c _ (p / q) V (r34.below h) HZS.out (tab_below HT.out (M10.out.2.2.trans (h.mono M10.out.2.2.size))))
    rw [HD0.out, textQ_nil] at HA0
    have HA1 := hidD (fun (V : World) (h : Below V29.heap.size V29 V) => qtext_c _ (p) V (r32.below h) HP.out (tab_below HT.out (M10.out.2.2.trans (h.mono M10.out.2.2.size))))
    rw [HTP.out] at HA1
    have HA2 := hidD (fun (V : World) (h : Below V29.heap.size V29 V) => stext_c _ p V (r30.below h) HP.out)
    rw [HTP.out] at HA2
    have HA3 := hidD (fun (V : World) (h : Below V29.heap.size V29 V) => qtext_c _ (q) V (r33.below h) HQ.out (tab_below HT.out (M10.out.2.2.trans (h.mono M10.out.2.2.size))))
    rw [HTQ.out] at HA3
    have HA4 := hidD (fun (V : World) (h : Below V29.heap.size V29 V) => stext_c _ q V (r31.below h) HQ.out)
    rw [HTQ.out] at HA4
    have HA5 := hidD (fun (V : World) (h : Below V29.heap.size V29 V) => kalive_c V (tab_below HT.out (M10.out.2.2.trans (h.mono M10.out.2.2.size))))
    have hq : Below V29.heap.size V29 V29.drew := (Below.refl _ V29).drew
    go_region_held3 (fun w' => w'.cell? ⟨B1, 0, none⟩ = some (.slice a30 l30 c30) ∧ w'.cell? ⟨B1, 1, none⟩ = some (.bool s30) ∧ w'.cell? ⟨B1, 2, none⟩ = some (.slice b30 k30 d30) ∧ w'.cell? ⟨B1, 3, none⟩ = some (.bool t30) ∧ w'.cell? ⟨B2, 0, none⟩ = some (.slice a31 l31 c31) ∧ w'.cell? ⟨B2, 1, none⟩ = some (.bool s31) ∧ w'.cell? ⟨B2, 2, none⟩ = some (.slice b31 k31 d31) ∧ w'.cell? ⟨B2, 3, none⟩ = some (.bool t31) ∧ w'.cell? ⟨B3, 0, none⟩ = some (.bool s32) ∧ w'.cell? ⟨B3, 1, none⟩ = some (.slice a32 l32 c32) ∧ w'.cell? ⟨B3, 2, none⟩ = some (.bool t32) ∧ w'.cell? ⟨B3, 3, none⟩ = some (.slice b32 k32 d32) ∧ w'.cell? ⟨B4, 0, none⟩ = some (.bool s33) ∧ w'.cell? ⟨B4, 1, none⟩ = some (.slice a33 l33 c33) ∧ w'.cell? ⟨B4, 2, none⟩ = some (.bool t33) ∧ w'.cell? ⟨B4, 3, none⟩ = some (.slice b33 k33 d33) ∧ w'.cell? ⟨B20, 0, none⟩ = some (.bool s34) ∧ w'.cell? ⟨B20, 1, none⟩ = some (.slice a34 l34 c34) ∧ w'.cell? ⟨B20, 2, none⟩ = some (.bool t34) ∧ w'.cell? ⟨B20, 3, none⟩ = some (.slice b34 k34 d34)) (first | (with_reducible exact ⟨e30a, e30b, e30c, e30d, e31a, e31b, e31c, e31d, e32a, e32b, e32c, e32d, e33a, e33b, e33c, e33d, e34a, e34b, e34c, e34d⟩) | (go_keep; done) | (refine ⟨?_, ?_, ?_, ?_, ?_, ?_, ?_, ?_, ?_, ?_, ?_, ?_, ?_, ?_, ?_, ?_, ?_, ?_, ?_, ?_⟩ <;> ((repeat rw [cell_set_nb (by omega)]); first | assumption | (go_keep; done))))
      (first
        | (go_at_call 11; refine (HA0.out _ hq).mono ?_; clear HA0; rintro e x0 ⟨rfl, hb⟩; replace hq := Below.then hq hb; clear hb; clear e30a e30b e30c e30d; have e30a := (n30.below hq).c0; have e30b := (n30.below hq).c1; have e30c := (n30.below hq).c2; have e30d := (n30.below hq).c3; clear e31a e31b e31c e31d; have e31a := (n31.below hq).c0; have e31b := (n31.below hq).c1; have e31c := (n31.below hq).c2; have e31d := (n31.below hq).c3; clear e32a e32b e32c e32d; have e32a := (n32.below hq).c0; have e32b := (n32.below hq).c1; have e32c := (n32.below hq).c2; have e32d := (n32.below hq).c3; clear e33a e33b e33c e33d; have e33a := (n33.below hq).c0; have e33b := (n33.below hq).c1; have e33c := (n33.below hq).c2; have e33d := (n33.below hq).c3; clear e34a e34b e34c e34d; have e34a := (n34.below hq).c0; have e34b := (n34.below hq).c1; have e34c := (n34.below hq).c2; have e34d := (n34.below hq).c3)
        | (go_at_call 11; refine (HA1.out _ hq).mono ?_; clear HA1; rintro e x1 ⟨rfl, hb⟩; replace hq := Below.then hq hb; clear hb; clear e30a e30b e30c e30d; have e30a := (n30.below hq).c0; have e30b := (n30.below hq).c1; have e30c := (n30.below hq).c2; have e30d := (n30.below hq).c3; clear e31a e31b e31c e31d; have e31a := (n31.below hq).c0; have e31b := (n31.below hq).c1; have e31c := (n31.below hq).c2; have e31d := (n31.below hq).c3; clear e32a e32b e32c e32d; have e32a := (n32.below hq).c0; have e32b := (n32.below hq).c1; have e32c := (n32.below hq).c2; have e32d := (n32.below hq).c3; clear e33a e33b e33c e33d; have e33a := (n33.below hq).c0; have e33b := (n33.below hq).c1; have e33c := (n33.below hq).c2; have e33d := (n33.below hq).c3; clear e34a e34b e34c e34d; have e34a := (n34.below hq).c0; have e34b := (n34.below hq).c1; have e34c := (n34.below hq).c2; have e34d := (n34.below hq).c3)
        | (go_at_call 12; refine (HA2.out _ hq).mono ?_; clear HA2; rintro e x2 ⟨rfl, hb⟩; replace hq := Below.then hq hb; clear hb; clear e30a e30b e30c e30d; have e30a := (n30.below hq).c0; have e30b := (n30.below hq).c1; have e30c := (n30.below hq).c2; have e30d := (n30.below hq).c3; clear e31a e31b e31c e31d; have e31a := (n31.below hq).c0; have e31b := (n31.below hq).c1; have e31c := (n31.below hq).c2; have e31d := (n31.below hq).c3; clear e32a e32b e32c e32d; have e32a := (n32.below hq).c0; have e32b := (n32.below hq).c1; have e32c := (n32.below hq).c2; have e32d := (n32.below hq).c3; clear e33a e33b e33c e33d; have e33a := (n33.below hq).c0; have e33b := (n33.below hq).c1; have e33c := (n33.below hq).c2; have e33d := (n33.below hq).c3; clear e34a e34b e34c e34d; have e34a := (n34.below hq).c0; have e34b := (n34.below hq).c1; have e34c := (n34.below hq).c2; have e34d := (n34.below hq).c3)
        | (go_at_call 11; refine (HA3.out _ hq).mono ?_; clear HA3; rintro e x3 ⟨rfl, hb⟩; replace hq := Below.then hq hb; clear hb; clear e30a e30b e30c e30d; have e30a := (n30.below hq).c0; have e30b := (n30.below hq).c1; have e30c := (n30.below hq).c2; have e30d := (n30.below hq).c3; clear e31a e31b e31c e31d; have e31a := (n31.below hq).c0; have e31b := (n31.below hq).c1; have e31c := (n31.below hq).c2; have e31d := (n31.below hq).c3; clear e32a e32b e32c e32d; have e32a := (n32.below hq).c0; have e32b := (n32.below hq).c1; have e32c := (n32.below hq).c2; have e32d := (n32.below hq).c3; clear e33a e33b e33c e33d; have e33a := (n33.below hq).c0; have e33b := (n33.below hq).c1; have e33c := (n33.below hq).c2; have e33d := (n33.below hq).c3; clear e34a e34b e34c e34d; have e34a := (n34.below hq).c0; have e34b := (n34.below hq).c1; have e34c := (n34.below hq).c2; have e34d := (n34.below hq).c3)
        | (go_at_call 12; refine (HA4.out _ hq).mono ?_; clear HA4; rintro e x4 ⟨rfl, hb⟩; replace hq := Below.then hq hb; clear hb; clear e30a e30b e30c e30d; have e30a := (n30.below hq).c0; have e30b := (n30.below hq).c1; have e30c := (n30.below hq).c2; have e30d := (n30.below hq).c3; clear e31a e31b e31c e31d; have e31a := (n31.below hq).c0; have e31b := (n31.below hq).c1; have e31c := (n31.below hq).c2; have e31d := (n31.below hq).c3; clear e32a e32b e32c e32d; have e32a := (n32.below hq).c0; have e32b := (n32.below hq).c1; have e32c := (n32.below hq).c2; have e32d := (n32.below hq).c3; clear e33a e33b e33c e33d; have e33a := (n33.below hq).c0; have e33b := (n33.below hq).c1; have e33c := (n33.below hq).c2; have e33d := (n33.below hq).c3; clear e34a e34b e34c e34d; have e34a := (n34.below hq).c0; have e34b := (n34.below hq).c1; have e34c := (n34.below hq).c2; have e34d := (n34.below hq).c3)
        | (go_at_call 19; refine (HA5.out _ hq).mono ?_; clear HA5; rintro e x5 ⟨rfl, hb⟩; replace hq := Below.then hq hb; clear hb; clear e30a e30b e30c e30d; have e30a := (n30.below hq).c0; have e30b := (n30.below hq).c1; have e30c := (n30.below hq).c2; have e30d := (n30.below hq).c3; clear e31a e31b e31c e31d; have e31a := (n31.below hq).c0; have e31b := (n31.below hq).c1; have e31c := (n31.below hq).c2; have e31d := (n31.below hq).c3; clear e32a e32b e32c e32d; have e32a := (n32.below hq).c0; have e32b := (n32.below hq).c1; have e32c := (n32.below hq).c2; have e32d := (n32.below hq).c3; clear e33a e33b e33c e33d; have e33a := (n33.below hq).c0; have e33b := (n33.below hq).c1; have e33c := (n33.below hq).c2; have e33d := (n33.below hq).c3; clear e34a e34b e34c e34d; have e34a := (n34.below hq).c0; have e34b := (n34.below hq).c1; have e34c := (n34.below hq).c2; have e34d := (n34.below hq).c3))
    all_goals go_wp2_with fail
    go_ret
    exact ⟨rfl, M10.out.2.2.trans (hq.mono M10.out.2.2.size)⟩
  | true =>
    have HQ0 := hidD (show q ≠ 0 from of_decide_eq_true HBQ.out)
    have HZS := hidD (HSD.out HQ0.out)
    go_upto_region 11 with fail
    obtain ⟨s35, a35, l35, c35, t35, b35, k35, d35, n35, r35, i35, j35⟩ := M9.out.rat (i := 7) rfl
    have e35a := n35.c0
    have e35b := n35.c1
    have e35c := n35.c2
    have e35d := n35.c3
    have HA0 := hidD (fun (V : World) (h : Below x11.heap.size x11 V) => qtext_c _ (p / q) V (r35.below h) HZS.out (tab_below HT.out (M9.out.2.2.trans (h.mono M9.out.2.2.size))))
    rw [HTD.out] at HA0
    have HA1 := hidD (fun (V : World) (h : Below x11.heap.size x11 V) => sover_c _ _ p q V (r21.below h) (r22.below h) HP.out HQ.out HQ0.out)
    have HA2 := hidD (fun (V : World) (h : Below x11.heap.size x11 V) (vd : Value) (gd : IsRef V vd (p / q)) => stext_c vd (p / q) V gd HZS.out)
    rw [HTD.out] at HA2
    have hq : Below x11.heap.size x11 x11.drew := (Below.refl _ x11).drew
    go_region_held3 (fun w' => w'.cell? ⟨B1, 0, none⟩ = some (.slice a21 l21 c21) ∧ w'.cell? ⟨B1, 1, none⟩ = some (.bool s21) ∧ w'.cell? ⟨B1, 2, none⟩ = some (.slice b21 k21 d21) ∧ w'.cell? ⟨B1, 3, none⟩ = some (.bool t21) ∧ w'.cell? ⟨B2, 0, none⟩ = some (.slice a22 l22 c22) ∧ w'.cell? ⟨B2, 1, none⟩ = some (.bool s22) ∧ w'.cell? ⟨B2, 2, none⟩ = some (.slice b22 k22 d22) ∧ w'.cell? ⟨B2, 3, none⟩ = some (.bool t22) ∧ w'.cell? ⟨B20, 0, none⟩ = some (.bool s35) ∧ w'.cell? ⟨B20, 1, none⟩ = some (.slice a35 l35 c35) ∧ w'.cell? ⟨B20, 2, none⟩ = some (.bool t35) ∧ w'.cell? ⟨B20, 3, none⟩ = some (.slice b35 k35 d35)) (first | (with_reducible exact ⟨e21a, e21b, e21c, e21d, e22a, e22b, e22c, e22d, e35a, e35b, e35c, e35d⟩) | (go_keep; done) | (refine ⟨?_, ?_, ?_, ?_, ?_, ?_, ?_, ?_, ?_, ?_, ?_, ?_⟩ <;> ((repeat rw [cell_set_nb (by omega)]); first | assumption | (go_keep; done))))
      (first
        | (go_at_call 11; refine (HA0.out _ hq).mono ?_; clear HA0; rintro e x0 ⟨rfl, hb⟩; replace hq := Below.then hq hb; clear hb; clear e21a e21b e21c e21d; have e21a := (n21.below hq).c0; have e21b := (n21.below hq).c1; have e21c := (n21.below hq).c2; have e21d := (n21.below hq).c3; clear e22a e22b e22c e22d; have e22a := (n22.below hq).c0; have e22b := (n22.below hq).c1; have e22c := (n22.below hq).c2; have e22d := (n22.below hq).c3; clear e35a e35b e35c e35d; have e35a := (n35.below hq).c0; have e35b := (n35.below hq).c1; have e35c := (n35.below hq).c2; have e35d := (n35.below hq).c3)
        | (go_at_call 37; refine (HA1.out _ hq).mono ?_; clear HA1; rintro e x1 ⟨vd, rfl, gd, hb⟩; replace hq := Below.then hq hb; clear hb; clear e21a e21b e21c e21d; have e21a := (n21.below hq).c0; have e21b := (n21.below hq).c1; have e21c := (n21.below hq).c2; have e21d := (n21.below hq).c3; clear e22a e22b e22c e22d; have e22a := (n22.below hq).c0; have e22b := (n22.below hq).c1; have e22c := (n22.below hq).c2; have e22d := (n22.below hq).c3; clear e35a e35b e35c e35d; have e35a := (n35.below hq).c0; have e35b := (n35.below hq).c1; have e35c := (n35.below hq).c2; have e35d := (n35.below hq).c3)
        | (go_at_call 12; refine (HA2.out _ hq _ gd).mono ?_; clear HA2; rintro e x2 ⟨rfl, hb⟩; replace gd := gd.below hb; replace hq := Below.then hq hb; clear hb; clear e21a e21b e21c e21d; have e21a := (n21.below hq).c0; have e21b := (n21.below hq).c1; have e21c := (n21.below hq).c2; have e21d := (n21.below hq).c3; clear e22a e22b e22c e22d; have e22a := (n22.below hq).c0; have e22b := (n22.below hq).c1; have e22c := (n22.below hq).c2; have e22d := (n22.below hq).c3; clear e35a e35b e35c e35d; have e35a := (n35.below hq).c0; have e35b := (n35.below hq).c1; have e35c := (n35.below hq).c2; have e35d := (n35.below hq).c3))
    clear gd
    replace n21 := n21.below hq
    replace i21 := i21.below hq
    replace r21 := r21.below hq
    replace j21 := j21.below hq
    replace n22 := n22.below hq
    replace i22 := i22.below hq
    replace r22 := r22.below hq
    replace j22 := j22.below hq
    replace n35 := n35.below hq
    replace i35 := i35.below hq
    replace r35 := r35.below hq
    replace j35 := j35.below hq
    have M10 : Hid (Mem w x2 [some (B1, .ref (p)), some (B2, .ref (q)), some (B3, .rat (p)), some (B4, .rat (q)), some (B8, .rat (p + q)), some (B12, .rat (p - q)), some (B16, .rat (p * q)), some (B20, .rat (p / q))]) := hidD (M9.out.below hq)
    clear M9
    clear hq
    go_upto_region 13 with fail
    have hmx : Tryz.prog.follows .mixedOrders = true := by kernel_rfl
    refine wp_region_tab hmx [[], [0], [1], [2, 1, 1], [3, 1], [1, 4], [5, 3], [6], [7, 6, 6], [6], [9, 8, 6], [8, 10, 6], [6, 11], [12, 10], [13], [14, 13, 13], [13], [16, 15, 13], [15, 17, 13], [13, 18], [19, 17], [20, 20], [20, 21], [22, 21, 0, 1, 2, 3, 4, 5, 6, 7, 8, 9, 10, 11, 12, 13, 14, 15, 16, 17, 18, 19, 20, 21, 22]] (by kernel_rfl) (by decide)
      (fun D act V => ∃ (t88x t89x t90x t91x t92x t93x t94x t95x t96x t97x t98x t99x t100x t101x t102x t103x t104x t105x t106x t107x t108x t109x t110x t4x : Value), act = { tmps := #[Value.string s, Value.string t, undef, undef, t4x, Value.pointer (some { block := B1, off := 0 }), Value.pointer (some { block := B2, off := 0 }), Value.pointer (some { block := B3, off := 0 }), Value.pointer (some { block := B4, off := 0 }), Value.pointer (some { block := B8, off := 0 }), Value.pointer (some { block := B12, off := 0 }), Value.pointer (some { block := B16, off := 0 }), Value.pointer (some { block := B20, off := 0 }), Value.bool true, Value.string s, Value.agg #[Value.slice a600 l600 c600, Value.bool s600, Value.slice b600 k600 d600, Value.bool t600], Value.string t, Value.agg #[Value.slice a601 l601 c601, Value.bool s601, Value.slice b601 k601 d601, Value.bool t601], Value.string s, Value.agg #[Value.bool s602, Value.slice a602 l602 c602, Value.bool t602, Value.slice b602 k602 d602], Value.string t, Value.agg #[Value.bool s603, Value.slice a603 l603 c603, Value.bool t603, Value.slice b603 k603 d603], Value.agg #[Value.bool s5, Value.slice a5 l5 c5, Value.bool t5, Value.slice b5 k5 d5], Value.agg #[Value.bool s6, Value.slice a6 l6 c6, Value.bool t6, Value.slice b6 k6 d6], Value.agg #[Value.bool s507, Value.slice a507 l507 c507, Value.bool t507, Value.slice b507 k507 d507], Value.agg #[Value.bool s9, Value.slice a9 l9 c9, Value.bool t9, Value.slice b9 k9 d9], Value.agg #[Value.bool s10, Value.slice a10 l10 c10, Value.bool t10, Value.slice b10 k10 d10], Value.agg #[Value.bool s511, Value.slice a511 l511 c511, Value.bool t511, Value.slice b511 k511 d511], Value.agg #[Value.bool s13, Value.slice a13 l13 c13, Value.bool t13, Value.slice b13 k13 d13], Value.agg #[Value.bool s14, Value.slice a14 l14 c14, Value.bool t14, Value.slice b14 k14 d14], Value.agg #[Value.bool s515, Value.slice a515 l515 c515, Value.bool t515, Value.slice b515 k515 d515], Value.tuple #[Value.agg #[Value.bool s519, Value.slice a519 l519 c519, Value.bool t519, Value.slice b519 k519 d519], Value.bool true], Value.agg #[Value.bool s17, Value.slice a17 l17 c17, Value.bool t17, Value.slice b17 k17 d17], Value.agg #[Value.bool s18, Value.slice a18 l18 c18, Value.bool t18, Value.slice b18 k18 d18], Value.tuple #[Value.agg #[Value.bool s519, Value.slice a519 l519 c519, Value.bool t519, Value.slice b519 k519 d519], Value.bool true], Value.agg #[Value.bool s519, Value.slice a519 l519 c519, Value.bool t519, Value.slice b519 k519 d519], Value.bool true, Value.agg #[Value.bool s25, Value.slice a25 l25 c25, Value.bool t25, Value.slice b25 k25 d25], Value.string TA, Value.agg #[Value.slice a21 l21 c21, Value.bool s21, Value.slice b21 k21 d21, Value.bool t21], Value.agg #[Value.slice a22 l22 c22, Value.bool s22, Value.slice b22 k22 d22, Value.bool t22], va, Value.string TA, Value.bool false, Value.bool false, Value.agg #[Value.bool s26, Value.slice a26 l26 c26, Value.bool t26, Value.slice b26 k26 d26], Value.string TB, Value.agg #[Value.slice a21 l21 c21, Value.bool s21, Value.slice b21 k21 d21, Value.bool t21], Value.agg #[Value.slice a22 l22 c22, Value.bool s22, Value.slice b22 k22 d22, Value.bool t22], vb, Value.string TB, Value.bool false, Value.bool false, Value.bool false, Value.agg #[Value.bool s27, Value.slice a27 l27 c27, Value.bool t27, Value.slice b27 k27 d27], Value.string TC, Value.agg #[Value.slice a21 l21 c21, Value.bool s21, Value.slice b21 k21 d21, Value.bool t21], Value.agg #[Value.slice a22 l22 c22, Value.bool s22, Value.slice b22 k22 d22, Value.bool t22], vc, Value.string TC, Value.bool false, Value.bool false, Value.bool false, Value.agg #[Value.bool s23, Value.slice a23 l23 c23, Value.bool t23, Value.slice b23 k23 d23], Value.agg #[Value.bool s24, Value.slice a24 l24 c24, Value.bool t24, Value.slice b24 k24 d24], Value.int IntKind.i64 co, Value.agg #[Value.slice a21 l21 c21, Value.bool s21, Value.slice b21 k21 d21, Value.bool t21], Value.agg #[Value.slice a22 l22 c22, Value.bool s22, Value.slice b22 k22 d22, Value.bool t22], Value.int IntKind.i64 co, Value.bool false, Value.bool false, Value.bool false, Value.bool true, Value.agg #[Value.slice a22 l22 c22, Value.bool s22, Value.slice b22 k22 d22, Value.bool t22], Value.int IntKind.i64 sg, Value.bool true, Value.bool false, Value.bool false, Value.bool true, Value.bool true, Value.agg #[Value.bool s35, Value.slice a35 l35 c35, Value.bool t35, Value.slice b35 k35 d35], Value.string TD, Value.agg #[Value.slice a21 l21 c21, Value.bool s21, Value.slice b21 k21 d21, Value.bool t21], Value.agg #[Value.slice a22 l22 c22, Value.bool s22, Value.slice b22 k22 d22, Value.bool t22], vd, Value.string TD, Value.bool false, Value.bool false, t88x, t89x, t90x, t91x, t92x, t93x, t94x, t95x, t96x, t97x, t98x, t99x, t100x, t101x, t102x, t103x, t104x, t105x, t106x, t107x, t108x, t109x, t110x], defers := [] } ∧ Hid ((D 0 = true → t88x = Value.bool true) ∧ (D 1 = true → t89x = Value.bool true) ∧ (D 5 = true → t93x = .bool true) ∧ (D 6 = true → t94x = .bool true) ∧ (D 7 = true → Has V t95x (.rat (p))) ∧ (D 8 = true → t96x = .string TP) ∧ (D 9 = true → Has V t97x (.ref (p))) ∧ (D 10 = true → t98x = .string TP) ∧ (D 11 = true → t99x = .bool true) ∧ (D 12 = true → t100x = .bool true) ∧ (D 13 = true → t101x = .bool true) ∧ (D 14 = true → Has V t102x (.rat (q))) ∧ (D 15 = true → t103x = .string TQ) ∧ (D 16 = true → Has V t104x (.ref (q))) ∧ (D 17 = true → t105x = .string TQ) ∧ (D 18 = true → t106x = .bool true) ∧ (D 19 = true → t107x = .bool true) ∧ (D 20 = true → t108x = .bool true) ∧ (D 21 = true → t109x = .bool true) ∧ (D 22 = true → t110x = .bool true) ∧ (D 23 = true → t4x = .bool true)) ∧ Hid (Mem w V [some (B1, .ref (p)), some (B2, .ref (q)), some (B3, .rat (p)), some (B4, .rat (q)), some (B8, .rat (p + q)), some (B12, .rat (p - q)), some (B16, .rat (p * q)), some (B20, .rat (p / q))]))
      ⟨_, _, _, _, _, _, _, _, _, _, _, _, _, _, _, _, _, _, _, _, _, _, _, _, rfl, hidD ⟨by simp, by simp, by simp, by simp, by simp, by simp, by simp, by simp, by simp, by simp, by simp, by simp, by simp, by simp, by simp, by simp, by simp, by simp, by simp, by simp, by simp⟩, hidD (M10.out).drew⟩ ?step36 ?fin36
    case step36 =>
      rintro D act V i ds hcl hi hds hDi ⟨t88x, t89x, t90x, t91x, t92x, t93x, t94x, t95x, t96x, t97x, t98x, t99x, t100x, t101x, t102x, t103x, t104x, t105x, t106x, t107x, t108x, t109x, t110x, t4x, rfl, GG, MM⟩
      have hi6 : i < 24 := (List.getElem?_eq_some_iff.1 hi).1
      obtain rfl | rfl | rfl | rfl | rfl | rfl | rfl | rfl | rfl | rfl | rfl | rfl | rfl | rfl | rfl | rfl | rfl | rfl | rfl | rfl | rfl | rfl | rfl | rfl : i = 0 ∨ i = 1 ∨ i = 2 ∨ i = 3 ∨ i = 4 ∨ i = 5 ∨ i = 6 ∨ i = 7 ∨ i = 8 ∨ i = 9 ∨ i = 10 ∨ i = 11 ∨ i = 12 ∨ i = 13 ∨ i = 14 ∨ i = 15 ∨ i = 16 ∨ i = 17 ∨ i = 18 ∨ i = 19 ∨ i = 20 ∨ i = 21 ∨ i = 22 ∨ i = 23 := by omega
      all_goals
        simp only [List.getElem?_cons_zero, List.getElem?_cons_succ, Option.some.injEq] at hi
        subst hi
      · clear hds
        refine wpOp_go rfl rfl (fun K hK => ?_)
        go_simp
        exact hK _ _ ⟨_, _, _, _, _, _, _, _, _, _, _, _, _, _, _, _, _, _, _, _, _, _, _, _, rfl, hidD ⟨fun _ => rfl, GG.out.2.1, GG.out.2.2.1, GG.out.2.2.2.1, GG.out.2.2.2.2.1, GG.out.2.2.2.2.2.1, GG.out.2.2.2.2.2.2.1, GG.out.2.2.2.2.2.2.2.1, GG.out.2.2.2.2.2.2.2.2.1, GG.out.2.2.2.2.2.2.2.2.2.1, GG.out.2.2.2.2.2.2.2.2.2.2.1, GG.out.2.2.2.2.2.2.2.2.2.2.2.1, GG.out.2.2.2.2.2.2.2.2.2.2.2.2.1, GG.out.2.2.2.2.2.2.2.2.2.2.2.2.2.1, GG.out.2.2.2.2.2.2.2.2.2.2.2.2.2.2.1, GG.out.2.2.2.2.2.2.2.2.2.2.2.2.2.2.2.1, GG.out.2.2.2.2.2.2.2.2.2.2.2.2.2.2.2.2.1, GG.out.2.2.2.2.2.2.2.2.2.2.2.2.2.2.2.2.2.1, GG.out.2.2.2.2.2.2.2.2.2.2.2.2.2.2.2.2.2.2.1, GG.out.2.2.2.2.2.2.2.2.2.2.2.2.2.2.2.2.2.2.2.1, GG.out.2.2.2.2.2.2.2.2.2.2.2.2.2.2.2.2.2.2.2.2⟩, hidD (MM.out)⟩
      · obtain rfl := (GG.out.1 (hds 0 (by simp)))
        clear hds
        refine wpOp_go rfl rfl (fun K hK => ?_)
        go_simp
        exact hK _ _ ⟨_, _, _, _, _, _, _, _, _, _, _, _, _, _, _, _, _, _, _, _, _, _, _, _, rfl, hidD ⟨fun _ => rfl, fun _ => rfl, GG.out.2.2.1, GG.out.2.2.2.1, GG.out.2.2.2.2.1, GG.out.2.2.2.2.2.1, GG.out.2.2.2.2.2.2.1, GG.out.2.2.2.2.2.2.2.1, GG.out.2.2.2.2.2.2.2.2.1, GG.out.2.2.2.2.2.2.2.2.2.1, GG.out.2.2.2.2.2.2.2.2.2.2.1, GG.out.2.2.2.2.2.2.2.2.2.2.2.1, GG.out.2.2.2.2.2.2.2.2.2.2.2.2.1, GG.out.2.2.2.2.2.2.2.2.2.2.2.2.2.1, GG.out.2.2.2.2.2.2.2.2.2.2.2.2.2.2.1, GG.out.2.2.2.2.2.2.2.2.2.2.2.2.2.2.2.1, GG.out.2.2.2.2.2.2.2.2.2.2.2.2.2.2.2.2.1, GG.out.2.2.2.2.2.2.2.2.2.2.2.2.2.2.2.2.2.1, GG.out.2.2.2.2.2.2.2.2.2.2.2.2.2.2.2.2.2.2.1, GG.out.2.2.2.2.2.2.2.2.2.2.2.2.2.2.2.2.2.2.2.1, GG.out.2.2.2.2.2.2.2.2.2.2.2.2.2.2.2.2.2.2.2.2⟩, hidD (MM.out)⟩
      · obtain rfl := (GG.out.2.1 (hds 1 (by simp)))
        clear hds
        exact wpOp_no rfl rfl ⟨_, _, _, _, _, _, _, _, _, _, _, _, _, _, _, _, _, _, _, _, _, _, _, _, rfl, hidD ⟨GG.out.1, fun _ => rfl, GG.out.2.2.1, GG.out.2.2.2.1, GG.out.2.2.2.2.1, GG.out.2.2.2.2.2.1, GG.out.2.2.2.2.2.2.1, GG.out.2.2.2.2.2.2.2.1, GG.out.2.2.2.2.2.2.2.2.1, GG.out.2.2.2.2.2.2.2.2.2.1, GG.out.2.2.2.2.2.2.2.2.2.2.1, GG.out.2.2.2.2.2.2.2.2.2.2.2.1, GG.out.2.2.2.2.2.2.2.2.2.2.2.2.1, GG.out.2.2.2.2.2.2.2.2.2.2.2.2.2.1, GG.out.2.2.2.2.2.2.2.2.2.2.2.2.2.2.1, GG.out.2.2.2.2.2.2.2.2.2.2.2.2.2.2.2.1, GG.out.2.2.2.2.2.2.2.2.2.2.2.2.2.2.2.2.1, GG.out.2.2.2.2.2.2.2.2.2.2.2.2.2.2.2.2.2.1, GG.out.2.2.2.2.2.2.2.2.2.2.2.2.2.2.2.2.2.2.1, GG.out.2.2.2.2.2.2.2.2.2.2.2.2.2.2.2.2.2.2.2.1, GG.out.2.2.2.2.2.2.2.2.2.2.2.2.2.2.2.2.2.2.2.2⟩, hidD (MM.out)⟩
      · obtain rfl := (GG.out.2.1 (hds 1 (by simp)))
        clear hds
        exact wpOp_no rfl rfl ⟨_, _, _, _, _, _, _, _, _, _, _, _, _, _, _, _, _, _, _, _, _, _, _, _, rfl, hidD ⟨GG.out.1, fun _ => rfl, GG.out.2.2.1, GG.out.2.2.2.1, GG.out.2.2.2.2.1, GG.out.2.2.2.2.2.1, GG.out.2.2.2.2.2.2.1, GG.out.2.2.2.2.2.2.2.1, GG.out.2.2.2.2.2.2.2.2.1, GG.out.2.2.2.2.2.2.2.2.2.1, GG.out.2.2.2.2.2.2.2.2.2.2.1, GG.out.2.2.2.2.2.2.2.2.2.2.2.1, GG.out.2.2.2.2.2.2.2.2.2.2.2.2.1, GG.out.2.2.2.2.2.2.2.2.2.2.2.2.2.1, GG.out.2.2.2.2.2.2.2.2.2.2.2.2.2.2.1, GG.out.2.2.2.2.2.2.2.2.2.2.2.2.2.2.2.1, GG.out.2.2.2.2.2.2.2.2.2.2.2.2.2.2.2.2.1, GG.out.2.2.2.2.2.2.2.2.2.2.2.2.2.2.2.2.2.1, GG.out.2.2.2.2.2.2.2.2.2.2.2.2.2.2.2.2.2.2.1, GG.out.2.2.2.2.2.2.2.2.2.2.2.2.2.2.2.2.2.2.2.1, GG.out.2.2.2.2.2.2.2.2.2.2.2.2.2.2.2.2.2.2.2.2⟩, hidD (MM.out)⟩
      · obtain rfl := (GG.out.2.1 (hds 1 (by simp)))
        clear hds
        exact wpOp_no rfl rfl ⟨_, _, _, _, _, _, _, _, _, _, _, _, _, _, _, _, _, _, _, _, _, _, _, _, rfl, hidD ⟨GG.out.1, fun _ => rfl, GG.out.2.2.1, GG.out.2.2.2.1, GG.out.2.2.2.2.1, GG.out.2.2.2.2.2.1, GG.out.2.2.2.2.2.2.1, GG.out.2.2.2.2.2.2.2.1, GG.out.2.2.2.2.2.2.2.2.1, GG.out.2.2.2.2.2.2.2.2.2.1, GG.out.2.2.2.2.2.2.2.2.2.2.1, GG.out.2.2.2.2.2.2.2.2.2.2.2.1, GG.out.2.2.2.2.2.2.2.2.2.2.2.2.1, GG.out.2.2.2.2.2.2.2.2.2.2.2.2.2.1, GG.out.2.2.2.2.2.2.2.2.2.2.2.2.2.2.1, GG.out.2.2.2.2.2.2.2.2.2.2.2.2.2.2.2.1, GG.out.2.2.2.2.2.2.2.2.2.2.2.2.2.2.2.2.1, GG.out.2.2.2.2.2.2.2.2.2.2.2.2.2.2.2.2.2.1, GG.out.2.2.2.2.2.2.2.2.2.2.2.2.2.2.2.2.2.2.1, GG.out.2.2.2.2.2.2.2.2.2.2.2.2.2.2.2.2.2.2.2.1, GG.out.2.2.2.2.2.2.2.2.2.2.2.2.2.2.2.2.2.2.2.2⟩, hidD (MM.out)⟩
      · obtain rfl := (GG.out.2.1 (hds 1 (by simp)))
        clear hds
        refine wpOp_go rfl rfl (fun K hK => ?_)
        go_simp
        exact hK _ _ ⟨_, _, _, _, _, _, _, _, _, _, _, _, _, _, _, _, _, _, _, _, _, _, _, _, rfl, hidD ⟨GG.out.1, fun _ => rfl, fun _ => rfl, GG.out.2.2.2.1, GG.out.2.2.2.2.1, GG.out.2.2.2.2.2.1, GG.out.2.2.2.2.2.2.1, GG.out.2.2.2.2.2.2.2.1, GG.out.2.2.2.2.2.2.2.2.1, GG.out.2.2.2.2.2.2.2.2.2.1, GG.out.2.2.2.2.2.2.2.2.2.2.1, GG.out.2.2.2.2.2.2.2.2.2.2.2.1, GG.out.2.2.2.2.2.2.2.2.2.2.2.2.1, GG.out.2.2.2.2.2.2.2.2.2.2.2.2.2.1, GG.out.2.2.2.2.2.2.2.2.2.2.2.2.2.2.1, GG.out.2.2.2.2.2.2.2.2.2.2.2.2.2.2.2.1, GG.out.2.2.2.2.2.2.2.2.2.2.2.2.2.2.2.2.1, GG.out.2.2.2.2.2.2.2.2.2.2.2.2.2.2.2.2.2.1, GG.out.2.2.2.2.2.2.2.2.2.2.2.2.2.2.2.2.2.2.1, GG.out.2.2.2.2.2.2.2.2.2.2.2.2.2.2.2.2.2.2.2.1, GG.out.2.2.2.2.2.2.2.2.2.2.2.2.2.2.2.2.2.2.2.2⟩, hidD (MM.out)⟩
      · obtain rfl := (GG.out.2.2.1 (hds 5 (by simp)))
        clear hds
        refine wpOp_go rfl rfl (fun K hK => ?_)
        go_simp
        exact hK _ _ ⟨_, _, _, _, _, _, _, _, _, _, _, _, _, _, _, _, _, _, _, _, _, _, _, _, rfl, hidD ⟨GG.out.1, GG.out.2.1, fun _ => rfl, fun _ => rfl, GG.out.2.2.2.2.1, GG.out.2.2.2.2.2.1, GG.out.2.2.2.2.2.2.1, GG.out.2.2.2.2.2.2.2.1, GG.out.2.2.2.2.2.2.2.2.1, GG.out.2.2.2.2.2.2.2.2.2.1, GG.out.2.2.2.2.2.2.2.2.2.2.1, GG.out.2.2.2.2.2.2.2.2.2.2.2.1, GG.out.2.2.2.2.2.2.2.2.2.2.2.2.1, GG.out.2.2.2.2.2.2.2.2.2.2.2.2.2.1, GG.out.2.2.2.2.2.2.2.2.2.2.2.2.2.2.1, GG.out.2.2.2.2.2.2.2.2.2.2.2.2.2.2.2.1, GG.out.2.2.2.2.2.2.2.2.2.2.2.2.2.2.2.2.1, GG.out.2.2.2.2.2.2.2.2.2.2.2.2.2.2.2.2.2.1, GG.out.2.2.2.2.2.2.2.2.2.2.2.2.2.2.2.2.2.2.1, GG.out.2.2.2.2.2.2.2.2.2.2.2.2.2.2.2.2.2.2.2.1, GG.out.2.2.2.2.2.2.2.2.2.2.2.2.2.2.2.2.2.2.2.2⟩, hidD (MM.out)⟩
      · obtain rfl := (GG.out.2.2.2.1 (hds 6 (by simp)))
        clear hds
        obtain ⟨s, a, l, c, t, b, k, d, n, r, i, j⟩ := MM.out.rat (i := 2) rfl
        have e0 := n.c0
        have e1 := n.c1
        have e2 := n.c2
        have e3 := n.c3
        refine wpOp_yes rfl rfl (fun K hK => ?_)
        go_simp
        exact hK _ _ ⟨_, _, _, _, _, _, _, _, _, _, _, _, _, _, _, _, _, _, _, _, _, _, _, _, rfl, hidD ⟨GG.out.1, GG.out.2.1, GG.out.2.2.1, fun _ => rfl, fun _ => r, GG.out.2.2.2.2.2.1, GG.out.2.2.2.2.2.2.1, GG.out.2.2.2.2.2.2.2.1, GG.out.2.2.2.2.2.2.2.2.1, GG.out.2.2.2.2.2.2.2.2.2.1, GG.out.2.2.2.2.2.2.2.2.2.2.1, GG.out.2.2.2.2.2.2.2.2.2.2.2.1, GG.out.2.2.2.2.2.2.2.2.2.2.2.2.1, GG.out.2.2.2.2.2.2.2.2.2.2.2.2.2.1, GG.out.2.2.2.2.2.2.2.2.2.2.2.2.2.2.1, GG.out.2.2.2.2.2.2.2.2.2.2.2.2.2.2.2.1, GG.out.2.2.2.2.2.2.2.2.2.2.2.2.2.2.2.2.1, GG.out.2.2.2.2.2.2.2.2.2.2.2.2.2.2.2.2.2.1, GG.out.2.2.2.2.2.2.2.2.2.2.2.2.2.2.2.2.2.2.1, GG.out.2.2.2.2.2.2.2.2.2.2.2.2.2.2.2.2.2.2.2.1, GG.out.2.2.2.2.2.2.2.2.2.2.2.2.2.2.2.2.2.2.2.2⟩, hidD (MM.out)⟩
      · obtain rfl := (GG.out.2.2.2.1 (hds 6 (by simp)))
        have h0 := (GG.out.2.2.2.2.1 (hds 7 (by simp)))
        have HC := hidD (qtext_c _ p V h0 HP.out (tab_below HT.out MM.out.2.2))
        rw [HTP.out] at HC
        clear hds h0
        refine wpOp_yes rfl rfl (fun K hK => ?_)
        go_simp
        go_wp2_with (go_at_call 11; refine HC.out.mono ?_; rintro e w5 ⟨rfl, hb5⟩)
        exact ⟨_, _, _, _, _, _, _, _, _, _, _, _, _, _, _, _, _, _, _, _, _, _, _, _, rfl, hidD ⟨GG.out.1, GG.out.2.1, GG.out.2.2.1, fun _ => rfl, fun h => (GG.out.2.2.2.2.1 h).below hb5, fun _ => rfl, fun h => (GG.out.2.2.2.2.2.2.1 h).below hb5, GG.out.2.2.2.2.2.2.2.1, GG.out.2.2.2.2.2.2.2.2.1, GG.out.2.2.2.2.2.2.2.2.2.1, GG.out.2.2.2.2.2.2.2.2.2.2.1, fun h => (GG.out.2.2.2.2.2.2.2.2.2.2.2.1 h).below hb5, GG.out.2.2.2.2.2.2.2.2.2.2.2.2.1, fun h => (GG.out.2.2.2.2.2.2.2.2.2.2.2.2.2.1 h).below hb5, GG.out.2.2.2.2.2.2.2.2.2.2.2.2.2.2.1, GG.out.2.2.2.2.2.2.2.2.2.2.2.2.2.2.2.1, GG.out.2.2.2.2.2.2.2.2.2.2.2.2.2.2.2.2.1, GG.out.2.2.2.2.2.2.2.2.2.2.2.2.2.2.2.2.2.1, GG.out.2.2.2.2.2.2.2.2.2.2.2.2.2.2.2.2.2.2.1, GG.out.2.2.2.2.2.2.2.2.2.2.2.2.2.2.2.2.2.2.2.1, GG.out.2.2.2.2.2.2.2.2.2.2.2.2.2.2.2.2.2.2.2.2⟩, hidD (MM.out.below hb5)⟩
      · obtain rfl := (GG.out.2.2.2.1 (hds 6 (by simp)))
        clear hds
        obtain ⟨a, l, c, s, b, k, d, t, n, r, i, j⟩ := MM.out.ref (i := 0) rfl
        have e0 := n.c0
        have e1 := n.c1
        have e2 := n.c2
        have e3 := n.c3
        refine wpOp_yes rfl rfl (fun K hK => ?_)
        go_simp
        exact hK _ _ ⟨_, _, _, _, _, _, _, _, _, _, _, _, _, _, _, _, _, _, _, _, _, _, _, _, rfl, hidD ⟨GG.out.1, GG.out.2.1, GG.out.2.2.1, fun _ => rfl, GG.out.2.2.2.2.1, GG.out.2.2.2.2.2.1, fun _ => r, GG.out.2.2.2.2.2.2.2.1, GG.out.2.2.2.2.2.2.2.2.1, GG.out.2.2.2.2.2.2.2.2.2.1, GG.out.2.2.2.2.2.2.2.2.2.2.1, GG.out.2.2.2.2.2.2.2.2.2.2.2.1, GG.out.2.2.2.2.2.2.2.2.2.2.2.2.1, GG.out.2.2.2.2.2.2.2.2.2.2.2.2.2.1, GG.out.2.2.2.2.2.2.2.2.2.2.2.2.2.2.1, GG.out.2.2.2.2.2.2.2.2.2.2.2.2.2.2.2.1, GG.out.2.2.2.2.2.2.2.2.2.2.2.2.2.2.2.2.1, GG.out.2.2.2.2.2.2.2.2.2.2.2.2.2.2.2.2.2.1, GG.out.2.2.2.2.2.2.2.2.2.2.2.2.2.2.2.2.2.2.1, GG.out.2.2.2.2.2.2.2.2.2.2.2.2.2.2.2.2.2.2.2.1, GG.out.2.2.2.2.2.2.2.2.2.2.2.2.2.2.2.2.2.2.2.2⟩, hidD (MM.out)⟩
      · obtain rfl := (GG.out.2.2.2.1 (hds 6 (by simp)))
        have h0 := (GG.out.2.2.2.2.2.2.1 (hds 9 (by simp)))
        have HC := hidD (stext_c _ p V h0 HP.out)
        rw [HTP.out] at HC
        clear hds h0
        refine wpOp_yes rfl rfl (fun K hK => ?_)
        go_simp
        go_wp2_with (go_at_call 12; refine HC.out.mono ?_; rintro e w5 ⟨rfl, hb5⟩)
        exact ⟨_, _, _, _, _, _, _, _, _, _, _, _, _, _, _, _, _, _, _, _, _, _, _, _, rfl, hidD ⟨GG.out.1, GG.out.2.1, GG.out.2.2.1, fun _ => rfl, fun h => (GG.out.2.2.2.2.1 h).below hb5, GG.out.2.2.2.2.2.1, fun h => (GG.out.2.2.2.2.2.2.1 h).below hb5, fun _ => rfl, GG.out.2.2.2.2.2.2.2.2.1, GG.out.2.2.2.2.2.2.2.2.2.1, GG.out.2.2.2.2.2.2.2.2.2.2.1, fun h => (GG.out.2.2.2.2.2.2.2.2.2.2.2.1 h).below hb5, GG.out.2.2.2.2.2.2.2.2.2.2.2.2.1, fun h => (GG.out.2.2.2.2.2.2.2.2.2.2.2.2.2.1 h).below hb5, GG.out.2.2.2.2.2.2.2.2.2.2.2.2.2.2.1, GG.out.2.2.2.2.2.2.2.2.2.2.2.2.2.2.2.1, GG.out.2.2.2.2.2.2.2.2.2.2.2.2.2.2.2.2.1, GG.out.2.2.2.2.2.2.2.2.2.2.2.2.2.2.2.2.2.1, GG.out.2.2.2.2.2.2.2.2.2.2.2.2.2.2.2.2.2.2.1, GG.out.2.2.2.2.2.2.2.2.2.2.2.2.2.2.2.2.2.2.2.1, GG.out.2.2.2.2.2.2.2.2.2.2.2.2.2.2.2.2.2.2.2.2⟩, hidD (MM.out.below hb5)⟩
      · obtain rfl := (GG.out.2.2.2.1 (hds 6 (by simp)))
        obtain rfl := (GG.out.2.2.2.2.2.1 (hds 8 (by simp)))
        obtain rfl := (GG.out.2.2.2.2.2.2.2.1 (hds 10 (by simp)))
        clear hds
        refine wpOp_yes rfl rfl (fun K hK => ?_)
        go_simp
        exact hK _ _ ⟨_, _, _, _, _, _, _, _, _, _, _, _, _, _, _, _, _, _, _, _, _, _, _, _, rfl, hidD ⟨GG.out.1, GG.out.2.1, GG.out.2.2.1, fun _ => rfl, GG.out.2.2.2.2.1, fun _ => rfl, GG.out.2.2.2.2.2.2.1, fun _ => rfl, fun _ => rfl, GG.out.2.2.2.2.2.2.2.2.2.1, GG.out.2.2.2.2.2.2.2.2.2.2.1, GG.out.2.2.2.2.2.2.2.2.2.2.2.1, GG.out.2.2.2.2.2.2.2.2.2.2.2.2.1, GG.out.2.2.2.2.2.2.2.2.2.2.2.2.2.1, GG.out.2.2.2.2.2.2.2.2.2.2.2.2.2.2.1, GG.out.2.2.2.2.2.2.2.2.2.2.2.2.2.2.2.1, GG.out.2.2.2.2.2.2.2.2.2.2.2.2.2.2.2.2.1, GG.out.2.2.2.2.2.2.2.2.2.2.2.2.2.2.2.2.2.1, GG.out.2.2.2.2.2.2.2.2.2.2.2.2.2.2.2.2.2.2.1, GG.out.2.2.2.2.2.2.2.2.2.2.2.2.2.2.2.2.2.2.2.1, GG.out.2.2.2.2.2.2.2.2.2.2.2.2.2.2.2.2.2.2.2.2⟩, hidD (MM.out)⟩
      · obtain rfl := (GG.out.2.2.2.1 (hds 6 (by simp)))
        obtain rfl := (GG.out.2.2.2.2.2.2.2.2.1 (hds 11 (by simp)))
        clear hds
        refine wpOp_go rfl rfl (fun K hK => ?_)
        go_simp
        exact hK _ _ ⟨_, _, _, _, _, _, _, _, _, _, _, _, _, _, _, _, _, _, _, _, _, _, _, _, rfl, hidD ⟨GG.out.1, GG.out.2.1, GG.out.2.2.1, fun _ => rfl, GG.out.2.2.2.2.1, GG.out.2.2.2.2.2.1, GG.out.2.2.2.2.2.2.1, GG.out.2.2.2.2.2.2.2.1, fun _ => rfl, fun _ => rfl, GG.out.2.2.2.2.2.2.2.2.2.2.1, GG.out.2.2.2.2.2.2.2.2.2.2.2.1, GG.out.2.2.2.2.2.2.2.2.2.2.2.2.1, GG.out.2.2.2.2.2.2.2.2.2.2.2.2.2.1, GG.out.2.2.2.2.2.2.2.2.2.2.2.2.2.2.1, GG.out.2.2.2.2.2.2.2.2.2.2.2.2.2.2.2.1, GG.out.2.2.2.2.2.2.2.2.2.2.2.2.2.2.2.2.1, GG.out.2.2.2.2.2.2.2.2.2.2.2.2.2.2.2.2.2.1, GG.out.2.2.2.2.2.2.2.2.2.2.2.2.2.2.2.2.2.2.1, GG.out.2.2.2.2.2.2.2.2.2.2.2.2.2.2.2.2.2.2.2.1, GG.out.2.2.2.2.2.2.2.2.2.2.2.2.2.2.2.2.2.2.2.2⟩, hidD (MM.out)⟩
      · obtain rfl := (GG.out.2.2.2.2.2.2.2.2.2.1 (hds 12 (by simp)))
        clear hds
        refine wpOp_go rfl rfl (fun K hK => ?_)
        go_simp
        exact hK _ _ ⟨_, _, _, _, _, _, _, _, _, _, _, _, _, _, _, _, _, _, _, _, _, _, _, _, rfl, hidD ⟨GG.out.1, GG.out.2.1, GG.out.2.2.1, GG.out.2.2.2.1, GG.out.2.2.2.2.1, GG.out.2.2.2.2.2.1, GG.out.2.2.2.2.2.2.1, GG.out.2.2.2.2.2.2.2.1, GG.out.2.2.2.2.2.2.2.2.1, fun _ => rfl, fun _ => rfl, GG.out.2.2.2.2.2.2.2.2.2.2.2.1, GG.out.2.2.2.2.2.2.2.2.2.2.2.2.1, GG.out.2.2.2.2.2.2.2.2.2.2.2.2.2.1, GG.out.2.2.2.2.2.2.2.2.2.2.2.2.2.2.1, GG.out.2.2.2.2.2.2.2.2.2.2.2.2.2.2.2.1, GG.out.2.2.2.2.2.2.2.2.2.2.2.2.2.2.2.2.1, GG.out.2.2.2.2.2.2.2.2.2.2.2.2.2.2.2.2.2.1, GG.out.2.2.2.2.2.2.2.2.2.2.2.2.2.2.2.2.2.2.1, GG.out.2.2.2.2.2.2.2.2.2.2.2.2.2.2.2.2.2.2.2.1, GG.out.2.2.2.2.2.2.2.2.2.2.2.2.2.2.2.2.2.2.2.2⟩, hidD (MM.out)⟩
      · obtain rfl := (GG.out.2.2.2.2.2.2.2.2.2.2.1 (hds 13 (by simp)))
        clear hds
        obtain ⟨s, a, l, c, t, b, k, d, n, r, i, j⟩ := MM.out.rat (i := 3) rfl
        have e0 := n.c0
        have e1 := n.c1
        have e2 := n.c2
        have e3 := n.c3
        refine wpOp_yes rfl rfl (fun K hK => ?_)
        go_simp
        exact hK _ _ ⟨_, _, _, _, _, _, _, _, _, _, _, _, _, _, _, _, _, _, _, _, _, _, _, _, rfl, hidD ⟨GG.out.1, GG.out.2.1, GG.out.2.2.1, GG.out.2.2.2.1, GG.out.2.2.2.2.1, GG.out.2.2.2.2.2.1, GG.out.2.2.2.2.2.2.1, GG.out.2.2.2.2.2.2.2.1, GG.out.2.2.2.2.2.2.2.2.1, GG.out.2.2.2.2.2.2.2.2.2.1, fun _ => rfl, fun _ => r, GG.out.2.2.2.2.2.2.2.2.2.2.2.2.1, GG.out.2.2.2.2.2.2.2.2.2.2.2.2.2.1, GG.out.2.2.2.2.2.2.2.2.2.2.2.2.2.2.1, GG.out.2.2.2.2.2.2.2.2.2.2.2.2.2.2.2.1, GG.out.2.2.2.2.2.2.2.2.2.2.2.2.2.2.2.2.1, GG.out.2.2.2.2.2.2.2.2.2.2.2.2.2.2.2.2.2.1, GG.out.2.2.2.2.2.2.2.2.2.2.2.2.2.2.2.2.2.2.1, GG.out.2.2.2.2.2.2.2.2.2.2.2.2.2.2.2.2.2.2.2.1, GG.out.2.2.2.2.2.2.2.2.2.2.2.2.2.2.2.2.2.2.2.2⟩, hidD (MM.out)⟩
      · obtain rfl := (GG.out.2.2.2.2.2.2.2.2.2.2.1 (hds 13 (by simp)))
        have h0 := (GG.out.2.2.2.2.2.2.2.2.2.2.2.1 (hds 14 (by simp)))
        have HC := hidD (qtext_c _ q V h0 HQ.out (tab_below HT.out MM.out.2.2))
        rw [HTQ.out] at HC
        clear hds h0
        refine wpOp_yes rfl rfl (fun K hK => ?_)
        go_simp
        go_wp2_with (go_at_call 11; refine HC.out.mono ?_; rintro e w5 ⟨rfl, hb5⟩)
        exact ⟨_, _, _, _, _, _, _, _, _, _, _, _, _, _, _, _, _, _, _, _, _, _, _, _, rfl, hidD ⟨GG.out.1, GG.out.2.1, GG.out.2.2.1, GG.out.2.2.2.1, fun h => (GG.out.2.2.2.2.1 h).below hb5, GG.out.2.2.2.2.2.1, fun h => (GG.out.2.2.2.2.2.2.1 h).below hb5, GG.out.2.2.2.2.2.2.2.1, GG.out.2.2.2.2.2.2.2.2.1, GG.out.2.2.2.2.2.2.2.2.2.1, fun _ => rfl, fun h => (GG.out.2.2.2.2.2.2.2.2.2.2.2.1 h).below hb5, fun _ => rfl, fun h => (GG.out.2.2.2.2.2.2.2.2.2.2.2.2.2.1 h).below hb5, GG.out.2.2.2.2.2.2.2.2.2.2.2.2.2.2.1, GG.out.2.2.2.2.2.2.2.2.2.2.2.2.2.2.2.1, GG.out.2.2.2.2.2.2.2.2.2.2.2.2.2.2.2.2.1, GG.out.2.2.2.2.2.2.2.2.2.2.2.2.2.2.2.2.2.1, GG.out.2.2.2.2.2.2.2.2.2.2.2.2.2.2.2.2.2.2.1, GG.out.2.2.2.2.2.2.2.2.2.2.2.2.2.2.2.2.2.2.2.1, GG.out.2.2.2.2.2.2.2.2.2.2.2.2.2.2.2.2.2.2.2.2⟩, hidD (MM.out.below hb5)⟩
      · obtain rfl := (GG.out.2.2.2.2.2.2.2.2.2.2.1 (hds 13 (by simp)))
        clear hds
        obtain ⟨a, l, c, s, b, k, d, t, n, r, i, j⟩ := MM.out.ref (i := 1) rfl
        have e0 := n.c0
        have e1 := n.c1
        have e2 := n.c2
        have e3 := n.c3
        refine wpOp_yes rfl rfl (fun K hK => ?_)
        go_simp
        exact hK _ _ ⟨_, _, _, _, _, _, _, _, _, _, _, _, _, _, _, _, _, _, _, _, _, _, _, _, rfl, hidD ⟨GG.out.1, GG.out.2.1, GG.out.2.2.1, GG.out.2.2.2.1, GG.out.2.2.2.2.1, GG.out.2.2.2.2.2.1, GG.out.2.2.2.2.2.2.1, GG.out.2.2.2.2.2.2.2.1, GG.out.2.2.2.2.2.2.2.2.1, GG.out.2.2.2.2.2.2.2.2.2.1, fun _ => rfl, GG.out.2.2.2.2.2.2.2.2.2.2.2.1, GG.out.2.2.2.2.2.2.2.2.2.2.2.2.1, fun _ => r, GG.out.2.2.2.2.2.2.2.2.2.2.2.2.2.2.1, GG.out.2.2.2.2.2.2.2.2.2.2.2.2.2.2.2.1, GG.out.2.2.2.2.2.2.2.2.2.2.2.2.2.2.2.2.1, GG.out.2.2.2.2.2.2.2.2.2.2.2.2.2.2.2.2.2.1, GG.out.2.2.2.2.2.2.2.2.2.2.2.2.2.2.2.2.2.2.1, GG.out.2.2.2.2.2.2.2.2.2.2.2.2.2.2.2.2.2.2.2.1, GG.out.2.2.2.2.2.2.2.2.2.2.2.2.2.2.2.2.2.2.2.2⟩, hidD (MM.out)⟩
      · obtain rfl := (GG.out.2.2.2.2.2.2.2.2.2.2.1 (hds 13 (by simp)))
        have h0 := (GG.out.2.2.2.2.2.2.2.2.2.2.2.2.2.1 (hds 16 (by simp)))
        have HC := hidD (stext_c _ q V h0 HQ.out)
        rw [HTQ.out] at HC
        clear hds h0
        refine wpOp_yes rfl rfl (fun K hK => ?_)
        go_simp
        go_wp2_with (go_at_call 12; refine HC.out.mono ?_; rintro e w5 ⟨rfl, hb5⟩)
        exact ⟨_, _, _, _, _, _, _, _, _, _, _, _, _, _, _, _, _, _, _, _, _, _, _, _, rfl, hidD ⟨GG.out.1, GG.out.2.1, GG.out.2.2.1, GG.out.2.2.2.1, fun h => (GG.out.2.2.2.2.1 h).below hb5, GG.out.2.2.2.2.2.1, fun h => (GG.out.2.2.2.2.2.2.1 h).below hb5, GG.out.2.2.2.2.2.2.2.1, GG.out.2.2.2.2.2.2.2.2.1, GG.out.2.2.2.2.2.2.2.2.2.1, fun _ => rfl, fun h => (GG.out.2.2.2.2.2.2.2.2.2.2.2.1 h).below hb5, GG.out.2.2.2.2.2.2.2.2.2.2.2.2.1, fun h => (GG.out.2.2.2.2.2.2.2.2.2.2.2.2.2.1 h).below hb5, fun _ => rfl, GG.out.2.2.2.2.2.2.2.2.2.2.2.2.2.2.2.1, GG.out.2.2.2.2.2.2.2.2.2.2.2.2.2.2.2.2.1, GG.out.2.2.2.2.2.2.2.2.2.2.2.2.2.2.2.2.2.1, GG.out.2.2.2.2.2.2.2.2.2.2.2.2.2.2.2.2.2.2.1, GG.out.2.2.2.2.2.2.2.2.2.2.2.2.2.2.2.2.2.2.2.1, GG.out.2.2.2.2.2.2.2.2.2.2.2.2.2.2.2.2.2.2.2.2⟩, hidD (MM.out.below hb5)⟩
      · obtain rfl := (GG.out.2.2.2.2.2.2.2.2.2.2.1 (hds 13 (by simp)))
        obtain rfl := (GG.out.2.2.2.2.2.2.2.2.2.2.2.2.1 (hds 15 (by simp)))
        obtain rfl := (GG.out.2.2.2.2.2.2.2.2.2.2.2.2.2.2.1 (hds 17 (by simp)))
        clear hds
        refine wpOp_yes rfl rfl (fun K hK => ?_)
        go_simp
        exact hK _ _ ⟨_, _, _, _, _, _, _, _, _, _, _, _, _, _, _, _, _, _, _, _, _, _, _, _, rfl, hidD ⟨GG.out.1, GG.out.2.1, GG.out.2.2.1, GG.out.2.2.2.1, GG.out.2.2.2.2.1, GG.out.2.2.2.2.2.1, GG.out.2.2.2.2.2.2.1, GG.out.2.2.2.2.2.2.2.1, GG.out.2.2.2.2.2.2.2.2.1, GG.out.2.2.2.2.2.2.2.2.2.1, fun _ => rfl, GG.out.2.2.2.2.2.2.2.2.2.2.2.1, fun _ => rfl, GG.out.2.2.2.2.2.2.2.2.2.2.2.2.2.1, fun _ => rfl, fun _ => rfl, GG.out.2.2.2.2.2.2.2.2.2.2.2.2.2.2.2.2.1, GG.out.2.2.2.2.2.2.2.2.2.2.2.2.2.2.2.2.2.1, GG.out.2.2.2.2.2.2.2.2.2.2.2.2.2.2.2.2.2.2.1, GG.out.2.2.2.2.2.2.2.2.2.2.2.2.2.2.2.2.2.2.2.1, GG.out.2.2.2.2.2.2.2.2.2.2.2.2.2.2.2.2.2.2.2.2⟩, hidD (MM.out)⟩
      · obtain rfl := (GG.out.2.2.2.2.2.2.2.2.2.2.1 (hds 13 (by simp)))
        obtain rfl := (GG.out.2.2.2.2.2.2.2.2.2.2.2.2.2.2.2.1 (hds 18 (by simp)))
        clear hds
        refine wpOp_go rfl rfl (fun K hK => ?_)
        go_simp
        exact hK _ _ ⟨_, _, _, _, _, _, _, _, _, _, _, _, _, _, _, _, _, _, _, _, _, _, _, _, rfl, hidD ⟨GG.out.1, GG.out.2.1, GG.out.2.2.1, GG.out.2.2.2.1, GG.out.2.2.2.2.1, GG.out.2.2.2.2.2.1, GG.out.2.2.2.2.2.2.1, GG.out.2.2.2.2.2.2.2.1, GG.out.2.2.2.2.2.2.2.2.1, GG.out.2.2.2.2.2.2.2.2.2.1, fun _ => rfl, GG.out.2.2.2.2.2.2.2.2.2.2.2.1, GG.out.2.2.2.2.2.2.2.2.2.2.2.2.1, GG.out.2.2.2.2.2.2.2.2.2.2.2.2.2.1, GG.out.2.2.2.2.2.2.2.2.2.2.2.2.2.2.1, fun _ => rfl, fun _ => rfl, GG.out.2.2.2.2.2.2.2.2.2.2.2.2.2.2.2.2.2.1, GG.out.2.2.2.2.2.2.2.2.2.2.2.2.2.2.2.2.2.2.1, GG.out.2.2.2.2.2.2.2.2.2.2.2.2.2.2.2.2.2.2.2.1, GG.out.2.2.2.2.2.2.2.2.2.2.2.2.2.2.2.2.2.2.2.2⟩, hidD (MM.out)⟩
      · obtain rfl := (GG.out.2.2.2.2.2.2.2.2.2.2.2.2.2.2.2.2.1 (hds 19 (by simp)))
        clear hds
        refine wpOp_go rfl rfl (fun K hK => ?_)
        go_simp
        exact hK _ _ ⟨_, _, _, _, _, _, _, _, _, _, _, _, _, _, _, _, _, _, _, _, _, _, _, _, rfl, hidD ⟨GG.out.1, GG.out.2.1, GG.out.2.2.1, GG.out.2.2.2.1, GG.out.2.2.2.2.1, GG.out.2.2.2.2.2.1, GG.out.2.2.2.2.2.2.1, GG.out.2.2.2.2.2.2.2.1, GG.out.2.2.2.2.2.2.2.2.1, GG.out.2.2.2.2.2.2.2.2.2.1, GG.out.2.2.2.2.2.2.2.2.2.2.1, GG.out.2.2.2.2.2.2.2.2.2.2.2.1, GG.out.2.2.2.2.2.2.2.2.2.2.2.2.1, GG.out.2.2.2.2.2.2.2.2.2.2.2.2.2.1, GG.out.2.2.2.2.2.2.2.2.2.2.2.2.2.2.1, GG.out.2.2.2.2.2.2.2.2.2.2.2.2.2.2.2.1, fun _ => rfl, fun _ => rfl, GG.out.2.2.2.2.2.2.2.2.2.2.2.2.2.2.2.2.2.2.1, GG.out.2.2.2.2.2.2.2.2.2.2.2.2.2.2.2.2.2.2.2.1, GG.out.2.2.2.2.2.2.2.2.2.2.2.2.2.2.2.2.2.2.2.2⟩, hidD (MM.out)⟩
      · obtain rfl := (GG.out.2.2.2.2.2.2.2.2.2.2.2.2.2.2.2.2.2.1 (hds 20 (by simp)))
        have HC := hidD (kalive_c V (tab_below HT.out MM.out.2.2))
        clear hds
        refine wpOp_yes rfl rfl (fun K hK => ?_)
        go_simp
        go_wp2_with (go_at_call 19; refine HC.out.mono ?_; rintro e w5 ⟨rfl, hb5⟩)
        exact ⟨_, _, _, _, _, _, _, _, _, _, _, _, _, _, _, _, _, _, _, _, _, _, _, _, rfl, hidD ⟨GG.out.1, GG.out.2.1, GG.out.2.2.1, GG.out.2.2.2.1, fun h => (GG.out.2.2.2.2.1 h).below hb5, GG.out.2.2.2.2.2.1, fun h => (GG.out.2.2.2.2.2.2.1 h).below hb5, GG.out.2.2.2.2.2.2.2.1, GG.out.2.2.2.2.2.2.2.2.1, GG.out.2.2.2.2.2.2.2.2.2.1, GG.out.2.2.2.2.2.2.2.2.2.2.1, fun h => (GG.out.2.2.2.2.2.2.2.2.2.2.2.1 h).below hb5, GG.out.2.2.2.2.2.2.2.2.2.2.2.2.1, fun h => (GG.out.2.2.2.2.2.2.2.2.2.2.2.2.2.1 h).below hb5, GG.out.2.2.2.2.2.2.2.2.2.2.2.2.2.2.1, GG.out.2.2.2.2.2.2.2.2.2.2.2.2.2.2.2.1, GG.out.2.2.2.2.2.2.2.2.2.2.2.2.2.2.2.2.1, fun _ => rfl, fun _ => rfl, GG.out.2.2.2.2.2.2.2.2.2.2.2.2.2.2.2.2.2.2.2.1, GG.out.2.2.2.2.2.2.2.2.2.2.2.2.2.2.2.2.2.2.2.2⟩, hidD (MM.out.below hb5)⟩
      · obtain rfl := (GG.out.2.2.2.2.2.2.2.2.2.2.2.2.2.2.2.2.2.1 (hds 20 (by simp)))
        obtain rfl := (GG.out.2.2.2.2.2.2.2.2.2.2.2.2.2.2.2.2.2.2.1 (hds 21 (by simp)))
        clear hds
        refine wpOp_go rfl rfl (fun K hK => ?_)
        go_simp
        exact hK _ _ ⟨_, _, _, _, _, _, _, _, _, _, _, _, _, _, _, _, _, _, _, _, _, _, _, _, rfl, hidD ⟨GG.out.1, GG.out.2.1, GG.out.2.2.1, GG.out.2.2.2.1, GG.out.2.2.2.2.1, GG.out.2.2.2.2.2.1, GG.out.2.2.2.2.2.2.1, GG.out.2.2.2.2.2.2.2.1, GG.out.2.2.2.2.2.2.2.2.1, GG.out.2.2.2.2.2.2.2.2.2.1, GG.out.2.2.2.2.2.2.2.2.2.2.1, GG.out.2.2.2.2.2.2.2.2.2.2.2.1, GG.out.2.2.2.2.2.2.2.2.2.2.2.2.1, GG.out.2.2.2.2.2.2.2.2.2.2.2.2.2.1, GG.out.2.2.2.2.2.2.2.2.2.2.2.2.2.2.1, GG.out.2.2.2.2.2.2.2.2.2.2.2.2.2.2.2.1, GG.out.2.2.2.2.2.2.2.2.2.2.2.2.2.2.2.2.1, fun _ => rfl, fun _ => rfl, fun _ => rfl, GG.out.2.2.2.2.2.2.2.2.2.2.2.2.2.2.2.2.2.2.2.2⟩, hidD (MM.out)⟩
      · obtain rfl := (GG.out.2.2.2.2.2.2.2.2.2.2.2.2.2.2.2.2.2.2.2.1 (hds 22 (by simp)))
        clear hds
        refine wpOp_go rfl rfl (fun K hK => ?_)
        go_simp
        exact hK _ _ ⟨_, _, _, _, _, _, _, _, _, _, _, _, _, _, _, _, _, _, _, _, _, _, _, _, rfl, hidD ⟨GG.out.1, GG.out.2.1, GG.out.2.2.1, GG.out.2.2.2.1, GG.out.2.2.2.2.1, GG.out.2.2.2.2.2.1, GG.out.2.2.2.2.2.2.1, GG.out.2.2.2.2.2.2.2.1, GG.out.2.2.2.2.2.2.2.2.1, GG.out.2.2.2.2.2.2.2.2.2.1, GG.out.2.2.2.2.2.2.2.2.2.2.1, GG.out.2.2.2.2.2.2.2.2.2.2.2.1, GG.out.2.2.2.2.2.2.2.2.2.2.2.2.1, GG.out.2.2.2.2.2.2.2.2.2.2.2.2.2.1, GG.out.2.2.2.2.2.2.2.2.2.2.2.2.2.2.1, GG.out.2.2.2.2.2.2.2.2.2.2.2.2.2.2.2.1, GG.out.2.2.2.2.2.2.2.2.2.2.2.2.2.2.2.2.1, GG.out.2.2.2.2.2.2.2.2.2.2.2.2.2.2.2.2.2.1, GG.out.2.2.2.2.2.2.2.2.2.2.2.2.2.2.2.2.2.2.1, fun _ => rfl, fun _ => rfl⟩, hidD (MM.out)⟩
    rintro D act V37 hDD ⟨t88x, t89x, t90x, t91x, t92x, t93x, t94x, t95x, t96x, t97x, t98x, t99x, t100x, t101x, t102x, t103x, t104x, t105x, t106x, t107x, t108x, t109x, t110x, t4x, rfl, GG, MM⟩
    obtain rfl := GG.out.1 (hDD 0 (by decide))
    obtain rfl := GG.out.2.1 (hDD 1 (by decide))
    obtain rfl := GG.out.2.2.1 (hDD 5 (by decide))
    obtain rfl := GG.out.2.2.2.1 (hDD 6 (by decide))
    obtain rfl := GG.out.2.2.2.2.2.1 (hDD 8 (by decide))
    obtain rfl := GG.out.2.2.2.2.2.2.2.1 (hDD 10 (by decide))
    obtain rfl := GG.out.2.2.2.2.2.2.2.2.1 (hDD 11 (by decide))
    obtain rfl := GG.out.2.2.2.2.2.2.2.2.2.1 (hDD 12 (by decide))
    obtain rfl := GG.out.2.2.2.2.2.2.2.2.2.2.1 (hDD 13 (by decide))
    obtain rfl := GG.out.2.2.2.2.2.2.2.2.2.2.2.2.1 (hDD 15 (by decide))
    obtain rfl := GG.out.2.2.2.2.2.2.2.2.2.2.2.2.2.2.1 (hDD 17 (by decide))
    obtain rfl := GG.out.2.2.2.2.2.2.2.2.2.2.2.2.2.2.2.1 (hDD 18 (by decide))
    obtain rfl := GG.out.2.2.2.2.2.2.2.2.2.2.2.2.2.2.2.2.1 (hDD 19 (by decide))
    obtain rfl := GG.out.2.2.2.2.2.2.2.2.2.2.2.2.2.2.2.2.2.1 (hDD 20 (by decide))
    obtain rfl := GG.out.2.2.2.2.2.2.2.2.2.2.2.2.2.2.2.2.2.2.1 (hDD 21 (by decide))
    obtain rfl := GG.out.2.2.2.2.2.2.2.2.2.2.2.2.2.2.2.2.2.2.2.1 (hDD 22 (by decide))
    obtain rfl := GG.out.2.2.2.2.2.2.2.2.2.2.2.2.2.2.2.2.2.2.2.2 (hDD 23 (by decide))
    clear GG hDD M10
    have M11 : Hid (Mem w V37 [some (B1, .ref (p)), some (B2, .ref (q)), some (B3, .rat (p)), some (B4, .rat (q)), some (B8, .rat (p + q)), some (B12, .rat (p - q)), some (B16, .rat (p * q)), some (B20, .rat (p / q))]) := MM
    clear MM
    go_wp2_with fail
    go_ret
    exact ⟨rfl, M11.out.2.2⟩
end Go.Proofs.YtcahodpphikgnaaGreatDoor
