import Derived.Test.YtcahodpphikgnaaGreatDoorK32
namespace Go.Proofs.YtcahodpphikgnaaGreatDoor
open Go.RowKit Go.Shelf

attribute [local go_sem] Oper.semAt_some

theorem law_sizes {p q r : Rat} (hp : SmQ 2000 p) (hq : SmQ 2000 q) (hr : SmQ 2000 r) :
    Sq (q + r) ∧ Sq (p * (q + r)) ∧ Sq (p * q) ∧ Sq (p * r) ∧ Sq (p * q + p * r) ∧ Sq (p / q) ∧ Sq (p / q * q) := by
  have h1 := hq.add hr
  have h2 := (hp.mono (by omega)).mul h1
  have h3 := hp.mul hq
  have h4 := hp.mul hr
  have h5 := h3.add h4
  have h6 : SmQ 4000 (p / q) := by
    by_cases h : q = 0
    · rw [h, Rat.div_def, Rat.inv_zero, Rat.mul_zero]; exact ⟨Sm.zero _, Sm.one _ (by omega)⟩
    · exact hp.over hq h
  have h7 := h6.mul (hq.mono (by omega))
  exact ⟨Sq.of h1 (by omega), Sq.of h2 (by omega), Sq.of h3 (by omega), Sq.of h4 (by omega), Sq.of h5 (by omega), Sq.of h6 (by omega), Sq.of h7 (by omega)⟩

theorem cmpQ_zero (q : Rat) : (cmpQ q 0 != 0) = decide (q ≠ 0) := by
  rw [Bool.eq_iff_iff, bne_iff_ne, decide_eq_true_eq]
  exact not_congr cmpQ_eq
theorem nought_sq : Sq 0 := Sq.of (k := 1) ⟨Sm.zero _, Sm.one _ (by omega)⟩ (by omega)
theorem decZ_one1 : decZ 1 = [49] := decZ_of (by decide) (by decide)

set_option maxRecDepth 100000 in
set_option maxHeartbeats 32000000 in
theorem ratioLaws_c (s t u : ByteArray) (n : Int) (w : World) (htab : Lib.TabIs Tryz.prog w "internal/strconv.uint64pow10" .u64 Lib.pow10Tab) :
    Calls Tryz.prog 6 #[.string s, .string t, .string u, .int .i64 n] w fun e w' => e = .returned (.bool true) ∧ Below w.heap.size w w' := by
  have HT := hidD htab
  have hmx : Tryz.prog.follows .mixedOrders = true := by kernel_rfl
  have P1 := hidD (fun (V : World) => given_c s V)
  have P2 := hidD (fun (V : World) => given_c t V)
  have P3 := hidD (fun (V : World) => given_c u V)
  have HSZ := hidD (law_sizes (valQ_sm (wlst s)) (valQ_sm (wlst t)) (valQ_sm (wlst u)))
  have HP := hidD (valQ_sq (wlst s))
  have HQ := hidD (valQ_sq (wlst t))
  have HR := hidD (valQ_sq (wlst u))
  obtain ⟨p, hp⟩ : ∃ x, valQ (wlst s) = x := ⟨_, rfl⟩
  obtain ⟨q, hq⟩ : ∃ x, valQ (wlst t) = x := ⟨_, rfl⟩
  obtain ⟨r, hr⟩ : ∃ x, valQ (wlst u) = x := ⟨_, rfl⟩
  rw [hp] at P1 HP
  rw [hq] at P2 HQ
  rw [hr] at P3 HR
  rw [hp, hq, hr] at HSZ
  have Z1 := hidD HSZ.out.1
  have Z2 := hidD HSZ.out.2.1
  have Z3 := hidD HSZ.out.2.2.1
  have Z4 := hidD HSZ.out.2.2.2.1
  have Z5 := hidD HSZ.out.2.2.2.2.1
  have Z6 := hidD HSZ.out.2.2.2.2.2.1
  have Z7 := hidD HSZ.out.2.2.2.2.2.2
  obtain ⟨bq, hbq⟩ : ∃ b, decide (q ≠ 0) = b := ⟨_, rfl⟩
  have HBQ := hidD hbq
  obtain ⟨cz, hcz⟩ : ∃ x, cmpQ q 0 = x := ⟨_, rfl⟩
  have hcb : (cz != 0) = bq := by rw [← hcz, cmpQ_zero, hbq]
  have hbb : (bq != bq) = false := by cases bq <;> rfl
  have HCZ := hidD hcz
  have HMA := hidD (Rat.mul_add p q r)
  have HC1 := hidD (show cmpQ (p * (q + r)) (p * q + p * r) = 0 from cmpQ_eq.2 (Rat.mul_add p q r))
  obtain ⟨TA, hTA⟩ : ∃ S : ByteArray, ⟨(textQ (p * (q + r))).toArray⟩ = S := ⟨_, rfl⟩
  have HTA := hidD hTA
  have HTB := hidD (show (⟨(textQ (p * q + p * r)).toArray⟩ : ByteArray) = TA by rw [← Rat.mul_add]; exact hTA)
  have HG1 := hidD (show ((Int.gcd p.num (p.den : Int) : Nat) : Int) = 1 by have := p.reduced; show ((Nat.gcd p.num.natAbs p.den : Nat) : Int) = 1; rw [this]; rfl)
  obtain ⟨c1, hc1⟩ : ∃ x, cmpQ p q = x := ⟨_, rfl⟩
  obtain ⟨c2, hc2⟩ : ∃ x, cmpQ q r = x := ⟨_, rfl⟩
  obtain ⟨c3, hc3⟩ : ∃ x, cmpQ p r = x := ⟨_, rfl⟩
  have HTR := hidD (show c1 ≤ 0 → c2 ≤ 0 → ¬ 0 < c3 by rw [← hc1, ← hc2, ← hc3]; exact cmpQ_trans)
  have HK1 := hidD hc1
  have HK2 := hidD hc2
  have HK3 := hidD hc3
  obtain ⟨k, hk⟩ : ∃ k : Nat, min (max n 0) 100 = (k : Int) := ⟨(min (max n 0) 100).toNat, by omega⟩
  have hk100 : k ≤ 100 := by omega
  have HN1 := hidD hk
  have HN2 := hidD (show max 0 (min n 100) = (k : Int) by omega)
  obtain ⟨tk, htk⟩ : ∃ T : Int, 10 ^ k = T := ⟨_, rfl⟩
  have HTK := hidD htk
  have HPW := hidD (fun (V : World) (u : Value) (hu : IsInt V u 10) => ipower_u u 10 k V hu (by omega) (by
    have h1 : (limbs B64 (10 : Int).natAbs).length ≤ 1 := limbs_length_le two_le_B64 (by unfold B64; decide)
    have h2 := Nat.mul_le_mul_right k h1
    omega))
  rw [htk] at HPW
  have HTP := hidD (show 0 < tk by rw [← htk]; exact ten_pos k)
  have HTM := hidD (show Sm 101 tk by rw [← htk]; exact (ten_sm1 k).mono (by omega))
  have HTS := hidD (Sok.of HTM.out (by omega))
  have hkn : decide (tk ≠ 0) = true := decide_eq_true (by have := HTP.out; omega)
  have HDG := hidD (fun (V : World) (v : Value) (hv : IsRat V v p) (ht : Lib.TabIs Tryz.prog V "internal/strconv.uint64pow10" .u64 Lib.pow10Tab) => qdigits_c v p n k V hv HP.out hk ht)
  have HDL := hidD (digits_low p tk HTP.out)
  have HDH := hidD (digits_high p tk HTP.out)
  rw [htk] at HDG
  have HZK := hidD (show Sok (p.num * tk / (p.den : Int)) by rw [← htk]; exact (digits_sok HP.out hk100).div)
  obtain ⟨z, hz⟩ : ∃ z, p.num * tk / (p.den : Int) = z := ⟨_, rfl⟩
  rw [hz] at HDG HDL HDH HZK
  have HFP := hidD (filter_points z k)
  obtain ⟨tl, htl⟩ : ∃ l, pointsL z k = l := ⟨_, rfl⟩
  rw [htl] at HDG HFP
  obtain ⟨DD, hDD⟩ : ∃ S : ByteArray, ⟨tl.toArray⟩ = S := ⟨_, rfl⟩
  rw [hDD] at HDG
  have hdl : DD.size = tl.length := by rw [← hDD]; show tl.toArray.size = _; rw [List.size_toArray]
  have HDD := hidD (show DD = ⟨tl.toArray⟩ from hDD.symm)
  have HDZ := hidD hdl
  have zDD : DD.size ≤ 2000000000 := by
    have h1 := decN_len z.natAbs
    have h2 := HZK.out.words
    have h3 := padL_len k (decN z.natAbs)
    have h4 : (dotL k (padL k (decN z.natAbs))).length ≤ (padL k (decN z.natAbs)).length + 1 := by
      unfold dotL
      split
      · rw [List.length_append, List.length_cons, List.length_take, List.length_drop]; omega
      · omega
    have h5 : tl.length ≤ (dotL k (padL k (decN z.natAbs))).length + 1 := by
      rw [← htl]; unfold pointsL; split
      · rw [List.length_cons]; exact Nat.le_refl _
      · omega
    have h6 : (padL k (decN z.natAbs)).length ≤ k + 1 + (decN z.natAbs).length := by rw [h3]; split <;> omega
    omega
  obtain ⟨d, hd⟩ : ∃ d, decN z.natAbs = d := ⟨_, rfl⟩
  have HD := hidD hd
  obtain ⟨PD, hPD⟩ : ∃ S : ByteArray, ⟨(padL k d).toArray⟩ = S := ⟨_, rfl⟩
  have HPD := hidD hPD
  obtain ⟨bz, hbz⟩ : ∃ b, decide (z < 0) = b := ⟨_, rfl⟩
  have HBZ := hidD (show bz = true ↔ z < 0 by rw [← hbz]; simp)
  obtain ⟨X0, hX0⟩ : ∃ S : ByteArray, ⟨(tl.filter (· != 46)).toArray⟩ = S := ⟨_, rfl⟩
  have HX0 := hidD hX0
  rw [hd] at HFP
  obtain ⟨ZT, hZT⟩ : ∃ S : ByteArray, ⟨(decZ z).toArray⟩ = S := ⟨_, rfl⟩
  have HZT := hidD hZT
  have HPR := hidD (fun (V : World) => iparse_u ZT (by rw [← hZT]; have h1 := decZ_len z; have h2 := HZK.out.words; show (decZ z).toArray.size ≤ _; rw [List.size_toArray]; omega) V)
  rw [show wlst ZT = decZ z by rw [← hZT, wlst_mk]] at HPR
  obtain ⟨mv, hmv⟩ : ∃ x, val0 (decZ z) = x := ⟨_, rfl⟩
  obtain ⟨ok, hok⟩ : ∃ b, good (decZ z) = b := ⟨_, rfl⟩
  rw [hmv, hok] at HPR
  have HMS := hidD (show Sm 2000 mv by
    rw [← hmv]; unfold val0
    split
    · rename_i h; exact Sm.good h
    · exact Sm.zero _)
  have HMV := hidD (show ok = true → mv = z by
    intro h
    rw [← hmv]; unfold val0
    rw [if_pos (by rw [hok, h])]
    have hl : (decZ z).length ≤ 2000 := by
      rw [h] at hok
      simp only [good, Bool.and_eq_true, decide_eq_true_eq] at hok
      exact hok.1.1.1
    exact (dec_good hl).2)
  have HML := hidD (show ok = false → 2000 < ZT.size by
    intro h
    have hl : ¬ (decZ z).length ≤ 2000 := fun h1 => by
      have := (dec_good h1).1
      rw [hok, h] at this
      cases this
    rw [← hZT]; show 2000 < (decZ z).toArray.size; rw [List.size_toArray]; omega)
  clear htab hp hq hr hbq hcz hTA hc1 hc2 hc3 HSZ hk htk hz htl hDD hdl hd hPD hbz hX0 hZT hmv hok
  have M0 : Hid (Mem w w []) := hidD (Mem.nil w)
  go_enter Tryz.func6, Tryz.ntmps6
  go_upto_region 2 with (go_at_call 26; refine (P1.out _).mono ?_; clear P1; rintro e w600 ⟨v, rfl, hu, hb⟩; obtain ⟨s600, a600, l600, c600, t600, b600, k600, d600, rfl⟩ := IsRat.form hu)
  obtain ⟨V1, hV⟩ : ∃ V, w600.alloc (.cells #[.bool s600, .slice a600 l600 c600, .bool t600, .slice b600 k600 d600] 27) = V := ⟨_, rfl⟩
  obtain ⟨B1, hBk⟩ : ∃ B, w600.heap.size = B := ⟨_, rfl⟩
  have MM : Mem w (w600.alloc (.cells #[.bool s600, .slice a600 l600 c600, .bool t600, .slice b600 k600 d600] 27)) [some (w600.heap.size, .rat (p))] := Mem.push (M0.out.below hb) (.rat (p)) hu
  rw [hV, hBk] at MM
  rw [hV]
  rw [hBk]
  have M1 : Hid (Mem w V1 [some (B1, .rat (p))]) := hidD (MM)
  clear M0
  clear MM hV hBk
  clear hu hb
  go_upto_region 3 with (go_at_call 26; refine (P2.out _).mono ?_; clear P2; rintro e w601 ⟨v, rfl, hu, hb⟩; obtain ⟨s601, a601, l601, c601, t601, b601, k601, d601, rfl⟩ := IsRat.form hu)
  obtain ⟨V2, hV⟩ : ∃ V, w601.alloc (.cells #[.bool s601, .slice a601 l601 c601, .bool t601, .slice b601 k601 d601] 27) = V := ⟨_, rfl⟩
  obtain ⟨B2, hBk⟩ : ∃ B, w601.heap.size = B := ⟨_, rfl⟩
  have MM : Mem w (w601.alloc (.cells #[.bool s601, .slice a601 l601 c601, .bool t601, .slice b601 k601 d601] 27)) [some (B1, .rat (p)), some (w601.heap.size, .rat (q))] := Mem.push (M1.out.below hb) (.rat (q)) hu
  rw [hV, hBk] at MM
  rw [hV]
  rw [hBk]
  have M2 : Hid (Mem w V2 [some (B1, .rat (p)), some (B2, .rat (q))]) := hidD (MM)
  clear M1
  clear MM hV hBk
  clear hu hb
  go_upto_region 4 with (go_at_call 26; refine (P3.out _).mono ?_; clear P3; rintro e w602 ⟨v, rfl, hu, hb⟩; obtain ⟨s602, a602, l602, c602, t602, b602, k602, d602, rfl⟩ := IsRat.form hu)
  obtain ⟨V3, hV⟩ : ∃ V, w602.alloc (.cells #[.bool s602, .slice a602 l602 c602, .bool t602, .slice b602 k602 d602] 27) = V := ⟨_, rfl⟩
  obtain ⟨B3, hBk⟩ : ∃ B, w602.heap.size = B := ⟨_, rfl⟩
  have MM : Mem w (w602.alloc (.cells #[.bool s602, .slice a602 l602 c602, .bool t602, .slice b602 k602 d602] 27)) [some (B1, .rat (p)), some (B2, .rat (q)), some (w602.heap.size, .rat (r))] := Mem.push (M2.out.below hb) (.rat (r)) hu
  rw [hV, hBk] at MM
  rw [hV]
  rw [hBk]
  have M3 : Hid (Mem w V3 [some (B1, .rat (p)), some (B2, .rat (q)), some (B3, .rat (r))]) := hidD (MM)
  clear M2
  clear MM hV hBk
  clear hu hb
  go_upto_region 5 with fail
  obtain ⟨V4, hV⟩ : ∃ V, V3.alloc (.cells #[.bool false, .slice none 0 0, .bool false, .slice none 0 0] 27) = V := ⟨_, rfl⟩
  obtain ⟨B4, hBk⟩ : ∃ B, V3.heap.size = B := ⟨_, rfl⟩
  have MM : Mem w (V3.alloc (.cells #[.bool false, .slice none 0 0, .bool false, .slice none 0 0] 27)) [some (B1, .rat (p)), some (B2, .rat (q)), some (B3, .rat (r)), some (V3.heap.size, .rat (0))] := Mem.push (M3.out) (.rat 0) (rat0 _)
  rw [hV, hBk] at MM
  rw [hV]
  rw [hBk]
  have M4 : Hid (Mem w V4 [some (B1, .rat (p)), some (B2, .rat (q)), some (B3, .rat (r)), some (B4, .rat (0))]) := hidD (MM)
  clear M3
  clear MM hV hBk
  obtain ⟨s5, a5, l5, c5, t5, b5, k5, d5, n5, r5, i5, j5⟩ := M4.out.rat (i := 1) rfl
  have e5a := n5.c0
  have e5b := n5.c1
  have e5c := n5.c2
  have e5d := n5.c3
  obtain ⟨s6, a6, l6, c6, t6, b6, k6, d6, n6, r6, i6, j6⟩ := M4.out.rat (i := 2) rfl
  have e6a := n6.c0
  have e6b := n6.c1
  have e6c := n6.c2
  have e6d := n6.c3
  have HC := hidD (qplus_c _ _ q r V4 r5 r6 HQ.out HR.out)
  go_upto_region 6 with (go_at_call 27; refine HC.out.mono ?_; clear HC; rintro e w507 ⟨v, rfl, hu, hb⟩; obtain ⟨s507, a507, l507, c507, t507, b507, k507, d507, rfl⟩ := IsRat.form hu)
  obtain ⟨V8, hV⟩ : ∃ V, w507.alloc (.cells #[.bool s507, .slice a507 l507 c507, .bool t507, .slice b507 k507 d507] 27) = V := ⟨_, rfl⟩
  obtain ⟨B8, hBk⟩ : ∃ B, w507.heap.size = B := ⟨_, rfl⟩
  have MM : Mem w (w507.alloc (.cells #[.bool s507, .slice a507 l507 c507, .bool t507, .slice b507 k507 d507] 27)) [some (B1, .rat (p)), some (B2, .rat (q)), some (B3, .rat (r)), some (B4, .rat (0)), some (w507.heap.size, .rat (q + r))] := Mem.push (M4.out.below hb) (.rat (q + r)) hu
  rw [hV, hBk] at MM
  rw [hV]
  rw [hBk]
  have M5 : Hid (Mem w V8 [some (B1, .rat (p)), some (B2, .rat (q)), some (B3, .rat (r)), some (B4, .rat (0)), some (B8, .rat (q + r))]) := hidD (MM)
  clear M4
  clear MM hV hBk
  clear n5 e5a e5b e5c e5d i5 r5 j5 n6 e6a e6b e6c e6d i6 r6 j6 hu hb
  obtain ⟨s9, a9, l9, c9, t9, b9, k9, d9, n9, r9, i9, j9⟩ := M5.out.rat (i := 0) rfl
  have e9a := n9.c0
  have e9b := n9.c1
  have e9c := n9.c2
  have e9d := n9.c3
  obtain ⟨s10, a10, l10, c10, t10, b10, k10, d10, n10, r10, i10, j10⟩ := M5.out.rat (i := 4) rfl
  have e10a := n10.c0
  have e10b := n10.c1
  have e10c := n10.c2
  have e10d := n10.c3
  have HC := hidD (qtimes_c _ _ p (q + r) V8 r9 r10 HP.out Z1.out)
  go_upto_region 7 with (go_at_call 29; refine HC.out.mono ?_; clear HC; rintro e w511 ⟨v, rfl, hu, hb⟩; obtain ⟨s511, a511, l511, c511, t511, b511, k511, d511, rfl⟩ := IsRat.form hu)
  obtain ⟨V12, hV⟩ : ∃ V, w511.alloc (.cells #[.bool s511, .slice a511 l511 c511, .bool t511, .slice b511 k511 d511] 27) = V := ⟨_, rfl⟩
  obtain ⟨B12, hBk⟩ : ∃ B, w511.heap.size = B := ⟨_, rfl⟩
  have MM : Mem w (w511.alloc (.cells #[.bool s511, .slice a511 l511 c511, .bool t511, .slice b511 k511 d511] 27)) [some (B1, .rat (p)), some (B2, .rat (q)), some (B3, .rat (r)), some (B4, .rat (0)), some (B8, .rat (q + r)), some (w511.heap.size, .rat (p * (q + r)))] := Mem.push (M5.out.below hb) (.rat (p * (q + r))) hu
  rw [hV, hBk] at MM
  rw [hV]
  rw [hBk]
  have M6 : Hid (Mem w V12 [some (B1, .rat (p)), some (B2, .rat (q)), some (B3, .rat (r)), some (B4, .rat (0)), some (B8, .rat (q + r)), some (B12, .rat (p * (q + r)))]) := hidD (MM)
  clear M5
  clear MM hV hBk
  clear n9 e9a e9b e9c e9d i9 r9 j9 n10 e10a e10b e10c e10d i10 r10 j10 hu hb
  obtain ⟨s13, a13, l13, c13, t13, b13, k13, d13, n13, r13, i13, j13⟩ := M6.out.rat (i := 0) rfl
  have e13a := n13.c0
  have e13b := n13.c1
  have e13c := n13.c2
  have e13d := n13.c3
  obtain ⟨s14, a14, l14, c14, t14, b14, k14, d14, n14, r14, i14, j14⟩ := M6.out.rat (i := 1) rfl
  have e14a := n14.c0
  have e14b := n14.c1
  have e14c := n14.c2
  have e14d := n14.c3
  have HC := hidD (qtimes_c _ _ p q V12 r13 r14 HP.out HQ.out)
  go_upto_region 8 with (go_at_call 29; refine HC.out.mono ?_; clear HC; rintro e w515 ⟨v, rfl, hu, hb⟩; obtain ⟨s515, a515, l515, c515, t515, b515, k515, d515, rfl⟩ := IsRat.form hu)
  obtain ⟨V16, hV⟩ : ∃ V, w515.alloc (.cells #[.bool s515, .slice a515 l515 c515, .bool t515, .slice b515 k515 d515] 27) = V := ⟨_, rfl⟩
  obtain ⟨B16, hBk⟩ : ∃ B, w515.heap.size = B := ⟨_, rfl⟩
  have MM : Mem w (w515.alloc (.cells #[.bool s515, .slice a515 l515 c515, .bool t515, .slice b515 k515 d515] 27)) [some (B1, .rat (p)), some (B2, .rat (q)), some (B3, .rat (r)), some (B4, .rat (0)), some (B8, .rat (q + r)), some (B12, .rat (p * (q + r))), some (w515.heap.size, .rat (p * q))] := Mem.push (M6.out.below hb) (.rat (p * q)) hu
  rw [hV, hBk] at MM
  rw [hV]
  rw [hBk]
  have M7 : Hid (Mem w V16 [some (B1, .rat (p)), some (B2, .rat (q)), some (B3, .rat (r)), some (B4, .rat (0)), some (B8, .rat (q + r)), some (B12, .rat (p * (q + r))), some (B16, .rat (p * q))]) := hidD (MM)
  clear M6
  clear MM hV hBk
  clear n13 e13a e13b e13c e13d i13 r13 j13 n14 e14a e14b e14c e14d i14 r14 j14 hu hb
  refine wp_region_tab hmx [[], [], [], [1, 2], [0, 3, 3], [4, 4, 0, 1, 2, 3, 4]] (by kernel_rfl) (by decide)
    (fun D act V => ∃ (t52x t53x t54x t55x t56x : Value) (y6 : Option (Nat × Dat)), act = { tmps := #[Value.string s, Value.string t, Value.string u, Value.int IntKind.i64 n, undef, undef, undef, undef, Value.bool false, Value.pointer (some { block := B1, off := 0 }), Value.pointer (some { block := B2, off := 0 }), Value.pointer (some { block := B3, off := 0 }), Value.pointer (some { block := B4, off := 0 }), Value.pointer (some { block := B8, off := 0 }), Value.pointer (some { block := B12, off := 0 }), Value.pointer (some { block := B16, off := 0 }), undef, undef, undef, undef, undef, undef, undef, undef, undef, undef, undef, undef, undef, undef, undef, undef, undef, undef, undef, undef, Value.string s, Value.agg #[Value.bool s600, Value.slice a600 l600 c600, Value.bool t600, Value.slice b600 k600 d600], Value.string t, Value.agg #[Value.bool s601, Value.slice a601 l601 c601, Value.bool t601, Value.slice b601 k601 d601], Value.string u, Value.agg #[Value.bool s602, Value.slice a602 l602 c602, Value.bool t602, Value.slice b602 k602 d602], Value.agg #[Value.bool false, Value.slice none 0 0, Value.bool false, Value.slice none 0 0], Value.agg #[Value.bool s5, Value.slice a5 l5 c5, Value.bool t5, Value.slice b5 k5 d5], Value.agg #[Value.bool s6, Value.slice a6 l6 c6, Value.bool t6, Value.slice b6 k6 d6], Value.agg #[Value.bool s507, Value.slice a507 l507 c507, Value.bool t507, Value.slice b507 k507 d507], Value.agg #[Value.bool s9, Value.slice a9 l9 c9, Value.bool t9, Value.slice b9 k9 d9], Value.agg #[Value.bool s10, Value.slice a10 l10 c10, Value.bool t10, Value.slice b10 k10 d10], Value.agg #[Value.bool s511, Value.slice a511 l511 c511, Value.bool t511, Value.slice b511 k511 d511], Value.agg #[Value.bool s13, Value.slice a13 l13 c13, Value.bool t13, Value.slice b13 k13 d13], Value.agg #[Value.bool s14, Value.slice a14 l14 c14, Value.bool t14, Value.slice b14 k14 d14], Value.agg #[Value.bool s515, Value.slice a515 l515 c515, Value.bool t515, Value.slice b515 k515 d515], t52x, t53x, t54x, t55x, t56x, undef, undef, undef, undef, undef, undef, undef, undef, undef, undef, undef, undef, undef, undef, undef, undef, undef, undef, undef, undef, undef, undef, undef, undef, undef, undef, undef, undef, undef, undef, undef, undef, undef, undef, undef, undef, undef, undef, undef, undef, undef, undef, undef, undef, undef, undef, undef, undef, undef, undef, undef, undef, undef, undef, undef, undef, undef, undef, undef, undef, undef, undef, undef, undef, undef, undef, undef, undef, undef, undef, undef, undef, undef, undef, undef, undef, undef, undef, undef, undef, undef, undef, undef, undef, undef, undef, undef, undef, undef, undef, undef, undef, undef, undef, undef, undef, undef, undef, undef, undef, undef, undef, undef, undef, undef, undef, undef, undef, undef, undef, undef, undef, undef, undef, undef, undef, undef, undef, undef, undef, undef, undef, undef, undef, undef, undef, undef, undef, undef, undef, undef, undef, undef, undef, undef, undef, undef, undef, undef, undef, undef, undef, undef, undef, undef, undef, undef, undef, undef, undef, undef, undef, undef, undef, undef, undef, undef, undef, undef, undef, undef, undef, undef, undef], defers := [] } ∧ Hid ((D 0 = true → Has V t52x (.rat (p * q))) ∧ (D 1 = true → Has V t53x (.rat (p))) ∧ (D 2 = true → Has V t54x (.rat (r))) ∧ (D 3 = true → Has V t55x (.rat (p * r))) ∧ (D 4 = true → Has V t56x (.rat (p * q + p * r))) ∧ ((D 5 = false → y6 = some (B16, .rat (p * q))) ∧ (D 5 = true → y6 = some (B16, .rat (p * q + p * r))))) ∧ Hid (Mem w V [some (B1, .rat (p)), some (B2, .rat (q)), some (B3, .rat (r)), some (B4, .rat (0)), some (B8, .rat (q + r)), some (B12, .rat (p * (q + r))), y6]))
    ⟨_, _, _, _, _, _, rfl, hidD ⟨by simp, by simp, by simp, by simp, by simp, ⟨fun _ => rfl, by simp⟩⟩, hidD (M7.out).drew⟩ ?step17 ?fin17
  case step17 =>
    rintro D act V i ds hcl hi hds hDi ⟨t52x, t53x, t54x, t55x, t56x, y6, rfl, GG, MM⟩
    have hi6 : i < 6 := (List.getElem?_eq_some_iff.1 hi).1
    obtain rfl | rfl | rfl | rfl | rfl | rfl : i = 0 ∨ i = 1 ∨ i = 2 ∨ i = 3 ∨ i = 4 ∨ i = 5 := by omega
    all_goals
      simp only [List.getElem?_cons_zero, List.getElem?_cons_succ, Option.some.injEq] at hi
      subst hi
    · have hf : D 5 = false := by
        cases h : D 5 with
        | false => rfl
        | true => rw [hcl 5 _ rfl h 0 (by simp)] at hDi; cases hDi
      obtain rfl := GG.out.2.2.2.2.2.1 hf
      clear hds
      obtain ⟨s, a, l, c, t, b, k, d, n, r, i, j⟩ := MM.out.rat (i := 6) rfl
      have e0 := n.c0
      have e1 := n.c1
      have e2 := n.c2
      have e3 := n.c3
      refine wpOp_go rfl rfl (fun K hK => ?_)
      go_simp
      exact hK _ _ ⟨_, _, _, _, _, _, rfl, hidD ⟨fun _ => r, GG.out.2.1, GG.out.2.2.1, GG.out.2.2.2.1, GG.out.2.2.2.2.1, ⟨fun _ => rfl, fun h => by simp [hf] at h⟩⟩, hidD (MM.out)⟩
    · clear hds
      obtain ⟨s, a, l, c, t, b, k, d, n, r, i, j⟩ := MM.out.rat (i := 0) rfl
      have e0 := n.c0
      have e1 := n.c1
      have e2 := n.c2
      have e3 := n.c3
      refine wpOp_go rfl rfl (fun K hK => ?_)
      go_simp
      exact hK _ _ ⟨_, _, _, _, _, _, rfl, hidD ⟨GG.out.1, fun _ => r, GG.out.2.2.1, GG.out.2.2.2.1, GG.out.2.2.2.2.1, GG.out.2.2.2.2.2⟩, hidD (MM.out)⟩
    · clear hds
      obtain ⟨s, a, l, c, t, b, k, d, n, r, i, j⟩ := MM.out.rat (i := 2) rfl
      have e0 := n.c0
      have e1 := n.c1
      have e2 := n.c2
      have e3 := n.c3
      refine wpOp_go rfl rfl (fun K hK => ?_)
      go_simp
      exact hK _ _ ⟨_, _, _, _, _, _, rfl, hidD ⟨GG.out.1, GG.out.2.1, fun _ => r, GG.out.2.2.2.1, GG.out.2.2.2.2.1, GG.out.2.2.2.2.2⟩, hidD (MM.out)⟩
    · have h0 := (GG.out.2.1 (hds 1 (by simp)))
      have h1 := (GG.out.2.2.1 (hds 2 (by simp)))
      have HC := hidD (qtimes_c _ _ p r V h0 h1 HP.out HR.out)
      clear hds h0 h1
      refine wpOp_go rfl rfl (fun K hK => ?_)
      go_simp
      go_wp2_with (go_at_call 29; refine HC.out.mono ?_; rintro e w5 ⟨v5, rfl, hv5, hb5⟩)
      exact ⟨_, _, _, _, _, _, rfl, hidD ⟨fun h => (GG.out.1 h).below hb5, fun h => (GG.out.2.1 h).below hb5, fun h => (GG.out.2.2.1 h).below hb5, fun _ => hv5, fun h => (GG.out.2.2.2.2.1 h).below hb5, GG.out.2.2.2.2.2⟩, hidD (MM.out.below hb5)⟩
    · have h0 := (GG.out.1 (hds 0 (by simp)))
      have h1 := (GG.out.2.2.2.1 (hds 3 (by simp)))
      have HC := hidD (qplus_c _ _ (p * q) (p * r) V h0 h1 Z3.out Z4.out)
      clear hds h0 h1
      refine wpOp_go rfl rfl (fun K hK => ?_)
      go_simp
      go_wp2_with (go_at_call 27; refine HC.out.mono ?_; rintro e w5 ⟨v5, rfl, hv5, hb5⟩)
      exact ⟨_, _, _, _, _, _, rfl, hidD ⟨fun h => (GG.out.1 h).below hb5, fun h => (GG.out.2.1 h).below hb5, fun h => (GG.out.2.2.1 h).below hb5, fun h => (GG.out.2.2.2.1 h).below hb5, fun _ => hv5, GG.out.2.2.2.2.2⟩, hidD (MM.out.below hb5)⟩
    · obtain rfl := GG.out.2.2.2.2.2.1 hDi
      have hv := (GG.out.2.2.2.2.1 (hds 4 (by simp)))
      obtain ⟨s1, a1, l1, c1, t1, b1, k1, d1, rfl⟩ := IsRat.form (show IsRat V _ _ from hv)
      obtain ⟨s, a, l, c, t, b, k, d, n, r, i, j⟩ := MM.out.rat (i := 6) rfl
      have e0 := n.c0
      have f0 := n.f0
      have e1 := n.c1
      have f1 := n.f1
      have e2 := n.c2
      have f2 := n.f2
      have e3 := n.c3
      have f3 := n.f3
      clear hds
      refine wpOp_go rfl rfl (fun K hK => ?_)
      go_simp
      exact hK _ _ ⟨_, _, _, _, _, _, rfl, hidD ⟨fun h => (GG.out.1 h).put4 n rfl rfl rfl rfl _ _ _ _, fun h => (GG.out.2.1 h).put4 n rfl rfl rfl rfl _ _ _ _, fun h => (GG.out.2.2.1 h).put4 n rfl rfl rfl rfl _ _ _ _, fun h => (GG.out.2.2.2.1 h).put4 n rfl rfl rfl rfl _ _ _ _, fun h => (GG.out.2.2.2.2.1 h).put4 n rfl rfl rfl rfl _ _ _ _, ⟨fun h => by simp at h, fun _ => rfl⟩⟩, hidD (MM.out.putRat (i := 6) rfl hv)⟩
  rintro D act V18 hDD ⟨t52x, t53x, t54x, t55x, t56x, y6, rfl, GG, MM⟩
  obtain rfl := GG.out.2.2.2.2.2.2 (hDD 5 (by decide))
  clear GG hDD M7
  have M8 : Hid (Mem w V18 [some (B1, .rat (p)), some (B2, .rat (q)), some (B3, .rat (r)), some (B4, .rat (0)), some (B8, .rat (q + r)), some (B12, .rat (p * (q + r))), some (B16, .rat (p * q + p * r))]) := MM
  clear MM
  go_upto_region 9 with fail
  obtain ⟨s19, a19, l19, c19, t19, b19, k19, d19, n19, r19, i19, j19⟩ := M8.out.rat (i := 5) rfl
  have e19a := n19.c0
  have e19b := n19.c1
  have e19c := n19.c2
  have e19d := n19.c3
  obtain ⟨s20, a20, l20, c20, t20, b20, k20, d20, n20, r20, i20, j20⟩ := M8.out.rat (i := 6) rfl
  have e20a := n20.c0
  have e20b := n20.c1
  have e20c := n20.c2
  have e20d := n20.c3
  have HA0 := hidD (fun (V : World) (h : Below V18.heap.size V18 V) => qorder_c _ _ (p * (q + r)) (p * q + p * r) V (r19.below h) (r20.below h) Z2.out Z5.out)
  rw [HC1.out] at HA0
  have HA1 := hidD (fun (V : World) (h : Below V18.heap.size V18 V) => qtext_c _ (p * (q + r)) V (r19.below h) Z2.out (tab_below HT.out (M8.out.2.2.trans (h.mono M8.out.2.2.size))))
  rw [HTA.out] at HA1
  have HA2 := hidD (fun (V : World) (h : Below V18.heap.size V18 V) => qtext_c _ (p * q + p * r) V (r20.below h) Z5.out (tab_below HT.out (M8.out.2.2.trans (h.mono M8.out.2.2.size))))
  rw [HTB.out] at HA2
  have hq : Below V18.heap.size V18 V18.drew := (Below.refl _ V18).drew
  go_region_held3 (fun w' => w'.cell? ⟨B12, 0, none⟩ = some (.bool s19) ∧ w'.cell? ⟨B12, 1, none⟩ = some (.slice a19 l19 c19) ∧ w'.cell? ⟨B12, 2, none⟩ = some (.bool t19) ∧ w'.cell? ⟨B12, 3, none⟩ = some (.slice b19 k19 d19) ∧ w'.cell? ⟨B16, 0, none⟩ = some (.bool s20) ∧ w'.cell? ⟨B16, 1, none⟩ = some (.slice a20 l20 c20) ∧ w'.cell? ⟨B16, 2, none⟩ = some (.bool t20) ∧ w'.cell? ⟨B16, 3, none⟩ = some (.slice b20 k20 d20)) (first | (with_reducible exact ⟨e19a, e19b, e19c, e19d, e20a, e20b, e20c, e20d⟩) | (go_keep; done) | (refine ⟨?_, ?_, ?_, ?_, ?_, ?_, ?_, ?_⟩ <;> ((repeat rw [cell_set_nb (by omega)]); first | assumption | (go_keep; done))))
    (first
      | (go_at_call 34; refine (HA0.out _ hq).mono ?_; clear HA0; rintro e x0 ⟨rfl, hb⟩; replace hq := Below.then hq hb; clear hb; clear e19a e19b e19c e19d; have e19a := (n19.below hq).c0; have e19b := (n19.below hq).c1; have e19c := (n19.below hq).c2; have e19d := (n19.below hq).c3; clear e20a e20b e20c e20d; have e20a := (n20.below hq).c0; have e20b := (n20.below hq).c1; have e20c := (n20.below hq).c2; have e20d := (n20.below hq).c3)
      | (go_at_call 11; refine (HA1.out _ hq).mono ?_; clear HA1; rintro e x1 ⟨rfl, hb⟩; replace hq := Below.then hq hb; clear hb; clear e19a e19b e19c e19d; have e19a := (n19.below hq).c0; have e19b := (n19.below hq).c1; have e19c := (n19.below hq).c2; have e19d := (n19.below hq).c3; clear e20a e20b e20c e20d; have e20a := (n20.below hq).c0; have e20b := (n20.below hq).c1; have e20c := (n20.below hq).c2; have e20d := (n20.below hq).c3)
      | (go_at_call 11; refine (HA2.out _ hq).mono ?_; clear HA2; rintro e x2 ⟨rfl, hb⟩; replace hq := Below.then hq hb; clear hb; clear e19a e19b e19c e19d; have e19a := (n19.below hq).c0; have e19b := (n19.below hq).c1; have e19c := (n19.below hq).c2; have e19d := (n19.below hq).c3; clear e20a e20b e20c e20d; have e20a := (n20.below hq).c0; have e20b := (n20.below hq).c1; have e20c := (n20.below hq).c2; have e20d := (n20.below hq).c3))
  replace n19 := n19.below hq
  replace i19 := i19.below hq
  replace r19 := r19.below hq
  replace j19 := j19.below hq
  replace n20 := n20.below hq
  replace i20 := i20.below hq
  replace r20 := r20.below hq
  replace j20 := j20.below hq
  have M9 : Hid (Mem w x2 [some (B1, .rat (p)), some (B2, .rat (q)), some (B3, .rat (r)), some (B4, .rat (0)), some (B8, .rat (q + r)), some (B12, .rat (p * (q + r))), some (B16, .rat (p * q + p * r))]) := hidD (M8.out.below hq)
  clear M8
  clear hq
  go_upto_region 11 with fail
  obtain ⟨s21, a21, l21, c21, t21, b21, k21, d21, n21, r21, i21, j21⟩ := M9.out.rat (i := 0) rfl
  have e21a := n21.c0
  have e21b := n21.c1
  have e21c := n21.c2
  have e21d := n21.c3
  obtain ⟨s22, a22, l22, c22, t22, b22, k22, d22, n22, r22, i22, j22⟩ := M9.out.rat (i := 1) rfl
  have e22a := n22.c0
  have e22b := n22.c1
  have e22c := n22.c2
  have e22d := n22.c3
  have HC := hidD (qover_c _ _ p q x2 r21 r22 HP.out HQ.out)
  rw [HBQ.out] at HC
  go_upto_region 12 with (go_at_call 30; refine HC.out.mono ?_; clear HC; rintro e w523 ⟨v, rfl, hu, hb⟩; obtain ⟨s523, a523, l523, c523, t523, b523, k523, d523, rfl⟩ := IsRat.form hu)
  obtain ⟨V24, hV⟩ : ∃ V, w523.alloc (.cells #[.bool s523, .slice a523 l523 c523, .bool t523, .slice b523 k523 d523] 27) = V := ⟨_, rfl⟩
  obtain ⟨B24, hBk⟩ : ∃ B, w523.heap.size = B := ⟨_, rfl⟩
  have MM : Mem w (w523.alloc (.cells #[.bool s523, .slice a523 l523 c523, .bool t523, .slice b523 k523 d523] 27)) [some (B1, .rat (p)), some (B2, .rat (q)), some (B3, .rat (r)), some (B4, .rat (0)), some (B8, .rat (q + r)), some (B12, .rat (p * (q + r))), some (B16, .rat (p * q + p * r)), some (w523.heap.size, .rat (p / q))] := Mem.push (M9.out.below hb) (.rat (p / q)) hu
  rw [hV, hBk] at MM
  rw [hV]
  rw [hBk]
  have M10 : Hid (Mem w V24 [some (B1, .rat (p)), some (B2, .rat (q)), some (B3, .rat (r)), some (B4, .rat (0)), some (B8, .rat (q + r)), some (B12, .rat (p * (q + r))), some (B16, .rat (p * q + p * r)), some (B24, .rat (p / q))]) := hidD (MM)
  clear M9
  clear MM hV hBk
  clear n21 e21a e21b e21c e21d i21 r21 j21 n22 e22a e22b e22c e22d i22 r22 j22 hu hb
  obtain ⟨s25, a25, l25, c25, t25, b25, k25, d25, n25, r25, i25, j25⟩ := M10.out.rat (i := 1) rfl
  have e25a := n25.c0
  have e25b := n25.c1
  have e25c := n25.c2
  have e25d := n25.c3
  obtain ⟨s26, a26, l26, c26, t26, b26, k26, d26, n26, r26, i26, j26⟩ := M10.out.rat (i := 3) rfl
  have e26a := n26.c0
  have e26b := n26.c1
  have e26c := n26.c2
  have e26d := n26.c3
  have HA0 := hidD (fun (V : World) (h : Below V24.heap.size V24 V) => qorder_c _ _ q 0 V (r25.below h) (r26.below h) HQ.out nought_sq)
  rw [HCZ.out] at HA0
  have hq : Below V24.heap.size V24 V24 := Below.refl _ _
  go_upto_region 14 with (first
      | (go_at_call 34; refine (HA0.out _ hq).mono ?_; clear HA0; rintro e x0 ⟨rfl, hb⟩; replace hq := Below.then hq hb; clear hb; clear e25a e25b e25c e25d; have e25a := (n25.below hq).c0; have e25b := (n25.below hq).c1; have e25c := (n25.below hq).c2; have e25d := (n25.below hq).c3; clear e26a e26b e26c e26d; have e26a := (n26.below hq).c0; have e26b := (n26.below hq).c1; have e26c := (n26.below hq).c2; have e26d := (n26.below hq).c3))
  replace n25 := n25.below hq
  replace i25 := i25.below hq
  replace r25 := r25.below hq
  replace j25 := j25.below hq
  replace n26 := n26.below hq
  replace i26 := i26.below hq
  replace r26 := r26.below hq
  replace j26 := j26.below hq
  have M11 : Hid (Mem w x0 [some (B1, .rat (p)), some (B2, .rat (q)), some (B3, .rat (r)), some (B4, .rat (0)), some (B8, .rat (q + r)), some (B12, .rat (p * (q + r))), some (B16, .rat (p * q + p * r)), some (B24, .rat (p / q))]) := hidD (M10.out.below hq)
  clear M10
  clear hq
  obtain ⟨s27, a27, l27, c27, t27, b27, k27, d27, n27, r27, i27, j27⟩ := M11.out.rat (i := 7) rfl
  have e27a := n27.c0
  have e27b := n27.c1
  have e27c := n27.c2
  have e27d := n27.c3
  have HC := hidD (qtimes_c _ _ (p / q) q x0 r27 r25 Z6.out HQ.out)
  go_upto_region 15 with (go_at_call 29; refine HC.out.mono ?_; clear HC; rintro e w528 ⟨v, rfl, hu, hb⟩; obtain ⟨s528, a528, l528, c528, t528, b528, k528, d528, rfl⟩ := IsRat.form hu)
  obtain ⟨V29, hV⟩ : ∃ V, w528.alloc (.cells #[.bool s528, .slice a528 l528 c528, .bool t528, .slice b528 k528 d528] 27) = V := ⟨_, rfl⟩
  obtain ⟨B29, hBk⟩ : ∃ B, w528.heap.size = B := ⟨_, rfl⟩
  have MM : Mem w (w528.alloc (.cells #[.bool s528, .slice a528 l528 c528, .bool t528, .slice b528 k528 d528] 27)) [some (B1, .rat (p)), some (B2, .rat (q)), some (B3, .rat (r)), some (B4, .rat (0)), some (B8, .rat (q + r)), some (B12, .rat (p * (q + r))), some (B16, .rat (p * q + p * r)), some (B24, .rat (p / q)), some (w528.heap.size, .rat (p / q * q))] := Mem.push (M11.out.below hb) (.rat (p / q * q)) hu
  rw [hV, hBk] at MM
  rw [hV]
  rw [hBk]
  have M12 : Hid (Mem w V29 [some (B1, .rat (p)), some (B2, .rat (q)), some (B3, .rat (r)), some (B4, .rat (0)), some (B8, .rat (q + r)), some (B12, .rat (p * (q + r))), some (B16, .rat (p * q + p * r)), some (B24, .rat (p / q)), some (B29, .rat (p / q * q))]) := hidD (MM)
  clear M11
  clear MM hV hBk
  clear n27 e27a e27b e27c e27d i27 r27 j27 n25 e25a e25b e25c e25d i25 r25 j25 hu hb
  go_cut [89] (fun cv w' => cv = .bool false ∧ Hid (Mem w w' [some (B1, .rat (p)), some (B2, .rat (q)), some (B3, .rat (r)), some (B4, .rat (0)), some (B8, .rat (q + r)), some (B12, .rat (p * (q + r))), some (B16, .rat (p * q + p * r)), some (B24, .rat (p / q)), some (B29, .rat (p / q * q))]))
  case first =>
    cases bq with
    | false =>
      go_wp2_with fail
      go_meet
      case rel => exact ⟨rfl, M12⟩
    | true =>
      obtain ⟨s30, a30, l30, c30, t30, b30, k30, d30, n30, r30, i30, j30⟩ := M12.out.rat (i := 8) rfl
      have e30a := n30.c0
      have e30b := n30.c1
      have e30c := n30.c2
      have e30d := n30.c3
      obtain ⟨s31, a31, l31, c31, t31, b31, k31, d31, n31, r31, i31, j31⟩ := M12.out.rat (i := 0) rfl
      have e31a := n31.c0
      have e31b := n31.c1
      have e31c := n31.c2
      have e31d := n31.c3
      have HQ0 := hidD (show q ≠ 0 from of_decide_eq_true HBQ.out)
      have HO := hidD (qorder_c _ _ (p / q * q) p V29 r30 r31 Z7.out HP.out)
      rw [show cmpQ (p / q * q) p = 0 from cmpQ_eq.2 (Rat.div_mul_cancel HQ0.out)] at HO
      go_wp2_with (go_at_call 34; refine HO.out.mono ?_; clear HO; rintro e w7 ⟨rfl, hb⟩)
      go_meet
      case rel => exact ⟨rfl, hidD (M12.out.below hb)⟩
  case rest =>
    as_aux_lemma =>
      obtain ⟨rfl, MM⟩ := hcut
      have M13 : Hid (Mem w wc [some (B1, .rat (p)), some (B2, .rat (q)), some (B3, .rat (r)), some (B4, .rat (0)), some (B8, .rat (q + r)), some (B12, .rat (p * (q + r))), some (B16, .rat (p * q + p * r)), some (B24, .rat (p / q)), some (B29, .rat (p / q * q))]) := MM
      clear M12 MM
      go_upto_region 17 with fail
      obtain ⟨s32, a32, l32, c32, t32, b32, k32, d32, n32, r32, i32, j32⟩ := M13.out.rat (i := 0) rfl
      have e32a := n32.c0
      have e32b := n32.c1
      have e32c := n32.c2
      have e32d := n32.c3
      have HC := hidD (num_c _ p wc r32)
      go_upto_region 18 with (go_at_call 9; refine HC.out.mono ?_; clear HC; rintro e w533 ⟨v, rfl, hu, hb⟩; obtain ⟨s533, a533, l533, c533, rfl⟩ := IsInt.form2 hu)
      obtain ⟨V34, hV⟩ : ∃ V, w533.alloc (.cells #[.bool s533, .slice a533 l533 c533] 25) = V := ⟨_, rfl⟩
      obtain ⟨B34, hBk⟩ : ∃ B, w533.heap.size = B := ⟨_, rfl⟩
      have MM : Mem w (w533.alloc (.cells #[.bool s533, .slice a533 l533 c533] 25)) [some (B1, .rat (p)), some (B2, .rat (q)), some (B3, .rat (r)), some (B4, .rat (0)), some (B8, .rat (q + r)), some (B12, .rat (p * (q + r))), some (B16, .rat (p * q + p * r)), some (B24, .rat (p / q)), some (B29, .rat (p / q * q)), some (w533.heap.size, .int (p.num))] := Mem.push (M13.out.below hb) (.int (p.num)) hu
      rw [hV, hBk] at MM
      rw [hV]
      rw [hBk]
      have M14 : Hid (Mem w V34 [some (B1, .rat (p)), some (B2, .rat (q)), some (B3, .rat (r)), some (B4, .rat (0)), some (B8, .rat (q + r)), some (B12, .rat (p * (q + r))), some (B16, .rat (p * q + p * r)), some (B24, .rat (p / q)), some (B29, .rat (p / q * q)), some (B34, .int (p.num))]) := hidD (MM)
      clear M13
      clear MM hV hBk
      clear n32 e32a e32b e32c e32d i32 r32 j32 hu hb
      refine wp_region_tab hmx [[], [], [1], [0, 2, 2], [3, 3, 0, 1, 2, 3]] (by kernel_rfl) (by decide)
        (fun D act V => ∃ (t92x t93x t94x t95x : Value) (y9 : Option (Nat × Dat)), act = { tmps := #[Value.string s, Value.string t, Value.string u, Value.int IntKind.i64 n, undef, undef, undef, undef, Value.bool false, Value.pointer (some { block := B1, off := 0 }), Value.pointer (some { block := B2, off := 0 }), Value.pointer (some { block := B3, off := 0 }), Value.pointer (some { block := B4, off := 0 }), Value.pointer (some { block := B8, off := 0 }), Value.pointer (some { block := B12, off := 0 }), Value.pointer (some { block := B16, off := 0 }), Value.pointer (some { block := B24, off := 0 }), Value.bool bq, Value.pointer (some { block := B29, off := 0 }), Value.pointer (some { block := B34, off := 0 }), undef, undef, undef, undef, undef, undef, undef, undef, undef, undef, undef, undef, undef, undef, undef, undef, u36, u37, u38, u39, u40, u41, u42, u43, u44, u45, u46, u47, u48, u49, u50, u51, u52, u53, u54, u55, u56, u57, u58, u59, u60, u61, u62, u63, u64, u65, u66, u67, u68, u69, u70, u71, u72, u73, u74, u75, u76, u77, u78, u79, u80, u81, u82, u83, u84, u85, u86, u87, u88, Value.bool false, Value.agg #[Value.bool s32, Value.slice a32 l32 c32, Value.bool t32, Value.slice b32 k32 d32], Value.agg #[Value.bool s533, Value.slice a533 l533 c533], t92x, t93x, t94x, t95x, u96, u97, u98, u99, u100, u101, u102, u103, u104, u105, u106, u107, u108, u109, u110, u111, u112, u113, u114, u115, u116, u117, u118, u119, u120, u121, u122, u123, u124, u125, u126, u127, u128, u129, u130, u131, u132, u133, u134, u135, u136, u137, u138, u139, u140, u141, u142, u143, u144, u145, u146, u147, u148, u149, u150, u151, u152, u153, u154, u155, u156, u157, u158, u159, u160, u161, u162, u163, u164, u165, u166, u167, u168, u169, u170, u171, u172, u173, u174, u175, u176, u177, u178, u179, u180, u181, u182, u183, u184, u185, u186, u187, u188, u189, u190, u191, u192, u193, u194, u195, u196, u197, u198, u199, u200, u201, u202, u203, u204, u205, u206, u207, u208, u209, u210, u211, u212, u213, u214, u215, u216, u217, u218, u219, u220], defers := [] } ∧ Hid ((D 0 = true → Has V t92x (.int (p.num))) ∧ (D 1 = true → Has V t93x (.rat (p))) ∧ (D 2 = true → Has V t94x (.int ((p.den : Int)))) ∧ (D 3 = true → Has V t95x (.int (1))) ∧ ((D 4 = false → y9 = some (B34, .int (p.num))) ∧ (D 4 = true → y9 = some (B34, .int (1))))) ∧ Hid (Mem w V [some (B1, .rat (p)), some (B2, .rat (q)), some (B3, .rat (r)), some (B4, .rat (0)), some (B8, .rat (q + r)), some (B12, .rat (p * (q + r))), some (B16, .rat (p * q + p * r)), some (B24, .rat (p / q)), some (B29, .rat (p / q * q)), y9]))
        ⟨_, _, _, _, _, rfl, hidD ⟨by simp, by simp, by simp, by simp, ⟨fun _ => rfl, by simp⟩⟩, hidD (M14.out).drew⟩ ?step35 ?fin35
      case step35 =>
        rintro D act V i ds hcl hi hds hDi ⟨t92x, t93x, t94x, t95x, y9, rfl, GG, MM⟩
        have hi6 : i < 5 := (List.getElem?_eq_some_iff.1 hi).1
        obtain rfl | rfl | rfl | rfl | rfl : i = 0 ∨ i = 1 ∨ i = 2 ∨ i = 3 ∨ i = 4 := by omega
        all_goals
          simp only [List.getElem?_cons_zero, List.getElem?_cons_succ, Option.some.injEq] at hi
          subst hi
        · have hf : D 4 = false := by
            cases h : D 4 with
            | false => rfl
            | true => rw [hcl 4 _ rfl h 0 (by simp)] at hDi; cases hDi
          obtain rfl := GG.out.2.2.2.2.1 hf
          clear hds
          obtain ⟨s, a, l, c, n, i⟩ := MM.out.int (i := 9) rfl
          have e0 := n.c0
          have e1 := n.c1
          refine wpOp_go rfl rfl (fun K hK => ?_)
          go_simp
          exact hK _ _ ⟨_, _, _, _, _, rfl, hidD ⟨fun _ => i, GG.out.2.1, GG.out.2.2.1, GG.out.2.2.2.1, ⟨fun _ => rfl, fun h => by simp [hf] at h⟩⟩, hidD (MM.out)⟩
        · clear hds
          obtain ⟨s, a, l, c, t, b, k, d, n, r, i, j⟩ := MM.out.rat (i := 0) rfl
          have e0 := n.c0
          have e1 := n.c1
          have e2 := n.c2
          have e3 := n.c3
          refine wpOp_go rfl rfl (fun K hK => ?_)
          go_simp
          exact hK _ _ ⟨_, _, _, _, _, rfl, hidD ⟨GG.out.1, fun _ => r, GG.out.2.2.1, GG.out.2.2.2.1, GG.out.2.2.2.2⟩, hidD (MM.out)⟩
        · have h0 := (GG.out.2.1 (hds 1 (by simp)))
          have HC := hidD (den_c _ p V h0)
          clear hds h0
          refine wpOp_go rfl rfl (fun K hK => ?_)
          go_simp
          go_wp2_with (go_at_call 10; refine HC.out.mono ?_; rintro e w5 ⟨v5, rfl, hv5, hb5⟩)
          exact ⟨_, _, _, _, _, rfl, hidD ⟨fun h => (GG.out.1 h).below hb5, fun h => (GG.out.2.1 h).below hb5, fun _ => hv5, fun h => (GG.out.2.2.2.1 h).below hb5, GG.out.2.2.2.2⟩, hidD (MM.out.below hb5)⟩
        · have h0 := (GG.out.1 (hds 0 (by simp)))
          have h1 := (GG.out.2.2.1 (hds 2 (by simp)))
          have HC := hidD (igcd_c _ _ p.num (p.den : Int) V h0 h1 (by have := HP.out.num.words; omega) (by have := HP.out.den.words; omega))
          rw [HG1.out] at HC
          clear hds h0 h1
          refine wpOp_go rfl rfl (fun K hK => ?_)
          go_simp
          go_wp2_with (go_at_call 38; refine HC.out.mono ?_; rintro e w5 ⟨v5, rfl, hv5, hb5⟩)
          exact ⟨_, _, _, _, _, rfl, hidD ⟨fun h => (GG.out.1 h).below hb5, fun h => (GG.out.2.1 h).below hb5, fun h => (GG.out.2.2.1 h).below hb5, fun _ => hv5, GG.out.2.2.2.2⟩, hidD (MM.out.below hb5)⟩
        · obtain rfl := GG.out.2.2.2.2.1 hDi
          have hv := (GG.out.2.2.2.1 (hds 3 (by simp)))
          obtain ⟨s1, a1, l1, c1, rfl⟩ := IsInt.form2 (show IsInt V _ _ from hv)
          obtain ⟨s, a, l, c, n, i⟩ := MM.out.int (i := 9) rfl
          have e0 := n.c0
          have f0 := n.f0
          have e1 := n.c1
          have f1 := n.f1
          clear hds
          refine wpOp_go rfl rfl (fun K hK => ?_)
          go_simp
          exact hK _ _ ⟨_, _, _, _, _, rfl, hidD ⟨fun h => (GG.out.1 h).set2 n rfl rfl _ _, fun h => (GG.out.2.1 h).set2 n rfl rfl _ _, fun h => (GG.out.2.2.1 h).set2 n rfl rfl _ _, fun h => (GG.out.2.2.2.1 h).set2 n rfl rfl _ _, ⟨fun h => by simp at h, fun _ => rfl⟩⟩, hidD (MM.out.putInt (i := 9) rfl hv)⟩
      rintro D act V36 hDD ⟨t92x, t93x, t94x, t95x, y9, rfl, GG, MM⟩
      obtain rfl := GG.out.2.2.2.2.2 (hDD 4 (by decide))
      clear GG hDD M14
      have M15 : Hid (Mem w V36 [some (B1, .rat (p)), some (B2, .rat (q)), some (B3, .rat (r)), some (B4, .rat (0)), some (B8, .rat (q + r)), some (B12, .rat (p * (q + r))), some (B16, .rat (p * q + p * r)), some (B24, .rat (p / q)), some (B29, .rat (p / q * q)), some (B34, .int (1))]) := MM
      clear MM
      go_upto_region 19 with fail
      go_upto_region 20 with fail
      obtain ⟨V37, hV⟩ : ∃ V, V36.alloc (.cells #[.bool false, .slice none 0 0] 25) = V := ⟨_, rfl⟩
      obtain ⟨B37, hBk⟩ : ∃ B, V36.heap.size = B := ⟨_, rfl⟩
      have MM : Mem w (V36.alloc (.cells #[.bool false, .slice none 0 0] 25)) [some (B1, .rat (p)), some (B2, .rat (q)), some (B3, .rat (r)), some (B4, .rat (0)), some (B8, .rat (q + r)), some (B12, .rat (p * (q + r))), some (B16, .rat (p * q + p * r)), some (B24, .rat (p / q)), some (B29, .rat (p / q * q)), some (B34, .int (1)), some (V36.heap.size, .int (0))] := Mem.push (M15.out) (.int 0) (int0 _)
      rw [hV, hBk] at MM
      rw [hV]
      rw [hBk]
      have M16 : Hid (Mem w V37 [some (B1, .rat (p)), some (B2, .rat (q)), some (B3, .rat (r)), some (B4, .rat (0)), some (B8, .rat (q + r)), some (B12, .rat (p * (q + r))), some (B16, .rat (p * q + p * r)), some (B24, .rat (p / q)), some (B29, .rat (p / q * q)), some (B34, .int (1)), some (B37, .int (0))]) := hidD (MM)
      clear M15
      clear MM hV hBk
      obtain ⟨s38, a38, l38, c38, t38, b38, k38, d38, n38, r38, i38, j38⟩ := M16.out.rat (i := 0) rfl
      have e38a := n38.c0
      have e38b := n38.c1
      have e38c := n38.c2
      have e38d := n38.c3
      have HC := hidD (den_c _ p V37 r38)
      go_upto_region 21 with (go_at_call 10; refine HC.out.mono ?_; clear HC; rintro e w539 ⟨v, rfl, hu, hb⟩; obtain ⟨s539, a539, l539, c539, rfl⟩ := IsInt.form2 hu)
      obtain ⟨V40, hV⟩ : ∃ V, w539.alloc (.cells #[.bool s539, .slice a539 l539 c539] 25) = V := ⟨_, rfl⟩
      obtain ⟨B40, hBk⟩ : ∃ B, w539.heap.size = B := ⟨_, rfl⟩
      have MM : Mem w (w539.alloc (.cells #[.bool s539, .slice a539 l539 c539] 25)) [some (B1, .rat (p)), some (B2, .rat (q)), some (B3, .rat (r)), some (B4, .rat (0)), some (B8, .rat (q + r)), some (B12, .rat (p * (q + r))), some (B16, .rat (p * q + p * r)), some (B24, .rat (p / q)), some (B29, .rat (p / q * q)), some (B34, .int (1)), some (B37, .int (0)), some (w539.heap.size, .int ((p.den : Int)))] := Mem.push (M16.out.below hb) (.int ((p.den : Int))) hu
      rw [hV, hBk] at MM
      rw [hV]
      rw [hBk]
      have M17 : Hid (Mem w V40 [some (B1, .rat (p)), some (B2, .rat (q)), some (B3, .rat (r)), some (B4, .rat (0)), some (B8, .rat (q + r)), some (B12, .rat (p * (q + r))), some (B16, .rat (p * q + p * r)), some (B24, .rat (p / q)), some (B29, .rat (p / q * q)), some (B34, .int (1)), some (B37, .int (0)), some (B40, .int ((p.den : Int)))]) := hidD (MM)
      clear M16
      clear MM hV hBk
      clear n38 e38a e38b e38c e38d i38 r38 j38 hu hb
      have HDP := hidD (show cmpI (p.den : Int) 0 = 1 by have := p.den_pos; unfold cmpI; rw [if_neg (by omega), if_pos (by omega)])
      obtain ⟨s41, a41, l41, c41, n41, i41⟩ := M17.out.int (i := 9) rfl
      have e41a := n41.c0
      have e41b := n41.c1
      obtain ⟨s42, a42, l42, c42, n42, i42⟩ := M17.out.int (i := 10) rfl
      have e42a := n42.c0
      have e42b := n42.c1
      obtain ⟨s43, a43, l43, c43, n43, i43⟩ := M17.out.int (i := 11) rfl
      have e43a := n43.c0
      have e43b := n43.c1
      have HA0 := hidD (fun (V : World) (h : Below V40.heap.size V40 V) => itext_c _ 1 V (i41.below h) (tab_below HT.out (M17.out.2.2.trans (h.mono M17.out.2.2.size))))
      rw [decZ_one1] at HA0
      have HA1 := hidD (fun (V : World) (h : Below V40.heap.size V40 V) => iorder_c _ _ (p.den : Int) 0 V (i43.below h) (i42.below h))
      rw [HDP.out] at HA1
      have hq : Below V40.heap.size V40 V40 := Below.refl _ _
      go_upto_region 23 with (first
          | (go_at_call 13; refine (HA0.out _ hq).mono ?_; clear HA0; rintro e x0 ⟨rfl, hb⟩; replace hq := Below.then hq hb; clear hb; clear e41a e41b; have e41a := (n41.below hq).c0; have e41b := (n41.below hq).c1; clear e42a e42b; have e42a := (n42.below hq).c0; have e42b := (n42.below hq).c1; clear e43a e43b; have e43a := (n43.below hq).c0; have e43b := (n43.below hq).c1)
          | (go_at_call 39; refine (HA1.out _ hq).mono ?_; clear HA1; rintro e x1 ⟨rfl, hb⟩; replace hq := Below.then hq hb; clear hb; clear e41a e41b; have e41a := (n41.below hq).c0; have e41b := (n41.below hq).c1; clear e42a e42b; have e42a := (n42.below hq).c0; have e42b := (n42.below hq).c1; clear e43a e43b; have e43a := (n43.below hq).c0; have e43b := (n43.below hq).c1))
      replace n41 := n41.below hq
      replace i41 := i41.below hq
      replace n42 := n42.below hq
      replace i42 := i42.below hq
      replace n43 := n43.below hq
      replace i43 := i43.below hq
      have M18 : Hid (Mem w x1 [some (B1, .rat (p)), some (B2, .rat (q)), some (B3, .rat (r)), some (B4, .rat (0)), some (B8, .rat (q + r)), some (B12, .rat (p * (q + r))), some (B16, .rat (p * q + p * r)), some (B24, .rat (p / q)), some (B29, .rat (p / q * q)), some (B34, .int (1)), some (B37, .int (0)), some (B40, .int ((p.den : Int)))]) := hidD (M17.out.below hq)
      clear M17
      clear hq
      go_cut [123] (fun cv w' => cv = .bool false ∧ Hid (Mem w w' [some (B1, .rat (p)), some (B2, .rat (q)), some (B3, .rat (r)), some (B4, .rat (0)), some (B8, .rat (q + r)), some (B12, .rat (p * (q + r))), some (B16, .rat (p * q + p * r)), some (B24, .rat (p / q)), some (B29, .rat (p / q * q)), some (B34, .int (1)), some (B37, .int (0)), some (B40, .int ((p.den : Int)))]))
      case first =>
        obtain ⟨s44, a44, l44, c44, t44, b44, k44, d44, n44, r44, i44, j44⟩ := M18.out.rat (i := 0) rfl
        have e44a := n44.c0
        have e44b := n44.c1
        have e44c := n44.c2
        have e44d := n44.c3
        obtain ⟨s45, a45, l45, c45, t45, b45, k45, d45, n45, r45, i45, j45⟩ := M18.out.rat (i := 1) rfl
        have e45a := n45.c0
        have e45b := n45.c1
        have e45c := n45.c2
        have e45d := n45.c3
        obtain ⟨s46, a46, l46, c46, t46, b46, k46, d46, n46, r46, i46, j46⟩ := M18.out.rat (i := 2) rfl
        have e46a := n46.c0
        have e46b := n46.c1
        have e46c := n46.c2
        have e46d := n46.c3
        have HO1 := hidD (fun (V : World) (h : Below x1.heap.size x1 V) => qorder_c _ _ p q V (r44.below h) (r45.below h) HP.out HQ.out)
        rw [HK1.out] at HO1
        have HO2 := hidD (fun (V : World) (h : Below x1.heap.size x1 V) => qorder_c _ _ q r V (r45.below h) (r46.below h) HQ.out HR.out)
        rw [HK2.out] at HO2
        have HO3 := hidD (fun (V : World) (h : Below x1.heap.size x1 V) => qorder_c _ _ p r V (r44.below h) (r46.below h) HP.out HR.out)
        rw [HK3.out] at HO3
        have hq : Below x1.heap.size x1 x1 := Below.refl _ _
        by_cases h1 : c1 ≤ 0
        · by_cases h2 : c2 ≤ 0
          · have h3 : ¬ (0 < c3) := by have := HTR.out h1 h2; omega
            clear HTR
            go_wp2_with (first
              | (go_at_call 34; refine (HO1.out _ hq).mono ?_; clear HO1; rintro e x1 ⟨rfl, hb⟩; replace hq := Below.then hq hb; clear hb; clear e44a e44b e44c e44d; have e44a := (n44.below hq).c0; have e44b := (n44.below hq).c1; have e44c := (n44.below hq).c2; have e44d := (n44.below hq).c3; clear e45a e45b e45c e45d; have e45a := (n45.below hq).c0; have e45b := (n45.below hq).c1; have e45c := (n45.below hq).c2; have e45d := (n45.below hq).c3; clear e46a e46b e46c e46d; have e46a := (n46.below hq).c0; have e46b := (n46.below hq).c1; have e46c := (n46.below hq).c2; have e46d := (n46.below hq).c3)
              | (go_at_call 34; refine (HO2.out _ hq).mono ?_; clear HO2; rintro e x2 ⟨rfl, hb⟩; replace hq := Below.then hq hb; clear hb; clear e44a e44b e44c e44d; have e44a := (n44.below hq).c0; have e44b := (n44.below hq).c1; have e44c := (n44.below hq).c2; have e44d := (n44.below hq).c3; clear e45a e45b e45c e45d; have e45a := (n45.below hq).c0; have e45b := (n45.below hq).c1; have e45c := (n45.below hq).c2; have e45d := (n45.below hq).c3; clear e46a e46b e46c e46d; have e46a := (n46.below hq).c0; have e46b := (n46.below hq).c1; have e46c := (n46.below hq).c2; have e46d := (n46.below hq).c3)
              | (go_at_call 34; refine (HO3.out _ hq).mono ?_; clear HO3; rintro e x3 ⟨rfl, hb⟩; replace hq := Below.then hq hb; clear hb; clear e44a e44b e44c e44d; have e44a := (n44.below hq).c0; have e44b := (n44.below hq).c1; have e44c := (n44.below hq).c2; have e44d := (n44.below hq).c3; clear e45a e45b e45c e45d; have e45a := (n45.below hq).c0; have e45b := (n45.below hq).c1; have e45c := (n45.below hq).c2; have e45d := (n45.below hq).c3; clear e46a e46b e46c e46d; have e46a := (n46.below hq).c0; have e46b := (n46.below hq).c1; have e46c := (n46.below hq).c2; have e46d := (n46.below hq).c3))
            go_meet
            case rel => exact ⟨by first | rfl | rw [decide_eq_false (by omega)], hidD (M18.out.below hq)⟩
          · clear HTR HO3
            go_wp2_with (first
              | (go_at_call 34; refine (HO1.out _ hq).mono ?_; clear HO1; rintro e x1 ⟨rfl, hb⟩; replace hq := Below.then hq hb; clear hb; clear e44a e44b e44c e44d; have e44a := (n44.below hq).c0; have e44b := (n44.below hq).c1; have e44c := (n44.below hq).c2; have e44d := (n44.below hq).c3; clear e45a e45b e45c e45d; have e45a := (n45.below hq).c0; have e45b := (n45.below hq).c1; have e45c := (n45.below hq).c2; have e45d := (n45.below hq).c3; clear e46a e46b e46c e46d; have e46a := (n46.below hq).c0; have e46b := (n46.below hq).c1; have e46c := (n46.below hq).c2; have e46d := (n46.below hq).c3)
              | (go_at_call 34; refine (HO2.out _ hq).mono ?_; clear HO2; rintro e x2 ⟨rfl, hb⟩; replace hq := Below.then hq hb; clear hb; clear e44a e44b e44c e44d; have e44a := (n44.below hq).c0; have e44b := (n44.below hq).c1; have e44c := (n44.below hq).c2; have e44d := (n44.below hq).c3; clear e45a e45b e45c e45d; have e45a := (n45.below hq).c0; have e45b := (n45.below hq).c1; have e45c := (n45.below hq).c2; have e45d := (n45.below hq).c3; clear e46a e46b e46c e46d; have e46a := (n46.below hq).c0; have e46b := (n46.below hq).c1; have e46c := (n46.below hq).c2; have e46d := (n46.below hq).c3))
            go_meet
            case rel => exact ⟨rfl, hidD (M18.out.below hq)⟩
        · clear HTR HO2 HO3
          go_wp2_with (first
            | (go_at_call 34; refine (HO1.out _ hq).mono ?_; clear HO1; rintro e x1 ⟨rfl, hb⟩; replace hq := Below.then hq hb; clear hb; clear e44a e44b e44c e44d; have e44a := (n44.below hq).c0; have e44b := (n44.below hq).c1; have e44c := (n44.below hq).c2; have e44d := (n44.below hq).c3; clear e45a e45b e45c e45d; have e45a := (n45.below hq).c0; have e45b := (n45.below hq).c1; have e45c := (n45.below hq).c2; have e45d := (n45.below hq).c3; clear e46a e46b e46c e46d; have e46a := (n46.below hq).c0; have e46b := (n46.below hq).c1; have e46c := (n46.below hq).c2; have e46d := (n46.below hq).c3))
          go_meet
          case rel => exact ⟨rfl, hidD (M18.out.below hq)⟩
      case rest =>
        as_aux_lemma =>
          obtain ⟨rfl, MM⟩ := hcut
          have M19 : Hid (Mem w wc [some (B1, .rat (p)), some (B2, .rat (q)), some (B3, .rat (r)), some (B4, .rat (0)), some (B8, .rat (q + r)), some (B12, .rat (p * (q + r))), some (B16, .rat (p * q + p * r)), some (B24, .rat (p / q)), some (B29, .rat (p / q * q)), some (B34, .int (1)), some (B37, .int (0)), some (B40, .int ((p.den : Int)))]) := MM
          clear M18 MM
          clear HTR
          go_upto_region 26 with fail
          rw [HN2.out]
          obtain ⟨s47, a47, l47, c47, t47, b47, k47, d47, n47, r47, i47, j47⟩ := M19.out.rat (i := 0) rfl
          have e47a := n47.c0
          have e47b := n47.c1
          have e47c := n47.c2
          have e47d := n47.c3
          have HC := hidD (HDG.out wc _ r47 (tab_below HT.out M19.out.2.2))
          clear HDG
          go_wp2_with (go_at_call 16; refine HC.out.mono ?_; clear HC; rintro e w40 ⟨rfl, hb⟩)
          have M20 : Hid (Mem w w40 [some (B1, .rat (p)), some (B2, .rat (q)), some (B3, .rat (r)), some (B4, .rat (0)), some (B8, .rat (q + r)), some (B12, .rat (p * (q + r))), some (B16, .rat (p * q + p * r)), some (B24, .rat (p / q)), some (B29, .rat (p / q * q)), some (B34, .int (1)), some (B37, .int (0)), some (B40, .int ((p.den : Int)))]) := hidD (M19.out.below hb)
          clear M19
          clear n47 e47a e47b e47c e47d i47 r47 j47 hb
          go_loop [24, 25] (fun pv iv => ∃ (S : ByteArray) (i : Nat), pv = .string S ∧ iv = .int .i64 i ∧ i ≤ DD.size ∧ S.size ≤ i ∧ Hid (S = ⟨((tl.take i).filter (· != 46)).toArray⟩)) (fun _ iv => DD.size - (intOf iv).toNat)
          case atStart => exact ⟨⟨#[]⟩, 0, rfl, rfl, Nat.zero_le _, Nat.le_refl _, hidD rfl⟩
          case round =>
            obtain ⟨S, i, rfl, rfl, hi, hSi, HS⟩ := hrel
            rcases Nat.lt_or_ge i DD.size with hlt | hge
            · have hd1 : decide ((i : Int) < (DD.size : Int)) = true := decide_eq_true (by omega)
              have hd2 : (i : Int) < (DD.size : Int) := by omega
              have hwr : IntKind.i64.wrap ((i : Int) + 1) = (i : Int) + 1 := by rw [IntKind.wrap_i64]; omega
              have i0 : (0 : Int) ≤ (i : Int) := by omega
              have i1 : (i : Int) ≤ (i : Int) + 1 := by omega
              have i2 : (i : Int) + 1 ≤ (DD.size : Int) := by omega
              have i3 : (0 : Int) ≤ (i : Int) + 1 := by omega
              obtain ⟨E, hE⟩ : ∃ E, DD.extract i (i + 1) = E := ⟨_, rfl⟩
              have zE : E.size = 1 := by rw [← hE, ByteArray.size_extract]; omega
              have HTK2 := hidD (filter_step HDD.out hlt hE)
              have yE : ¬ 9223372036854775807 < S.size + E.size := by omega
              clear zE
              by_cases h46 : DD[i] = 46
              · have b1 : ((DD[i].toNat : Int) == 46) = true := by rw [h46]; rfl
                have b2 : ((DD[i].toNat : Int) != 46) = false := by rw [h46]; rfl
                have HST := hidD (HTK2.out.1 h46)
                clear h46 HTK2
                go_wp2_with fail
                go_round
                case rel => exact ⟨S, i + 1, rfl, by first | rfl | simp, by omega, by omega, hidD (by rw [HST.out]; exact HS.out)⟩
                case measure => simp [intOf]; omega
              · have b0 : ¬ (DD[i].toNat : Int) = 46 := fun h => h46 (UInt8.toNat_inj.1 (by show DD[i].toNat = 46; omega))
                have b1 : ((DD[i].toNat : Int) == 46) = false := by rw [beq_eq_false_iff_ne]; exact b0
                have b2 : ((DD[i].toNat : Int) != 46) = true := by rw [bne_iff_ne]; exact b0
                clear b0
                have HST := hidD (HTK2.out.2 h46)
                clear h46 HTK2
                have HEZ := hidD (show E.size = 1 by rw [← hE, ByteArray.size_extract]; omega)
                go_wp2_with fail
                go_round
                case rel => exact ⟨S ++ E, i + 1, rfl, by first | rfl | simp, by omega, by rw [ByteArray.size_append, HEZ.out]; omega, hidD (by rw [HST.out, ← HS.out])⟩
                case measure => simp [intOf]; omega
            · have hik : i = DD.size := by omega
              have HSX := hidD (show S = X0 by rw [HS.out, ← HX0.out, List.take_of_length_le (by rw [hik, HDZ.out]; exact Nat.le_refl _)])
              have hd1 : decide ((i : Int) < (DD.size : Int)) = false := decide_eq_false (by omega)
              have hd2 : ¬ (i : Int) < (DD.size : Int) := by omega
              have hSX := HSX.out
              subst hSX
              clear hik HS hSi HSX
              go_upto_region 34 with fail
              go_cut [154] (fun cv w' => cv = .bool bz ∧ w' = w40)
              case first =>
                cases bz with
                | true =>
                  obtain ⟨hS0, h45, _⟩ := sign_cut (l := padL k d) (S := S) (by rw [← HX0.out, HFP.out, if_pos (HBZ.out.1 rfl)])
                  have h0 : (0 : Int) < (S.size : Int) := by omega
                  go_wp2_with fail
                  go_meet
                  case rel => exact ⟨rfl, rfl⟩
                | false =>
                  obtain ⟨hS0, h45⟩ := sign_none (k := k) (n := z.natAbs) (S := S) (by rw [HD.out, ← HX0.out, HFP.out, if_neg (fun h => by have := HBZ.out.2 h; cases this)])
                  have h0 : (0 : Int) < (S.size : Int) := by omega
                  go_wp2_with fail
                  go_meet
                  case rel => exact ⟨rfl, rfl⟩
              case rest =>
                as_aux_lemma =>
                  obtain ⟨rfl, rfl⟩ := hcut
                  go_upto_if 154 with fail
                  go_cut [24, 26] (fun pv mv w' => pv = .string PD ∧ mv = .bool bz ∧ w' = wc)
                  case first =>
                    cases bz with
                    | true =>
                      obtain ⟨hS0, _, hEx⟩ := sign_cut (l := padL k d) (S := S) (by rw [← HX0.out, HFP.out, if_pos (HBZ.out.1 rfl)])
                      rw [HPD.out] at hEx
                      have h1 : (1 : Int) ≤ (S.size : Int) := by omega
                      go_wp2_with fail
                      go_meet
                      case rel => exact ⟨by first | rfl | rw [hEx], rfl, rfl⟩
                    | false =>
                      have HSP := hidD (show S = PD by rw [← HX0.out, HFP.out, if_neg (fun h => by have := HBZ.out.2 h; cases this), HPD.out])
                      go_wp2_with fail
                      go_meet
                      case rel => exact ⟨by rw [HSP.out], rfl, rfl⟩
                  case rest =>
                    as_aux_lemma =>
                      obtain ⟨rfl, rfl, rfl⟩ := hcut
                      skip
                      go_wp2_with fail
                      go_loop [24] (fun v => ∃ (S : ByteArray) (j : Nat), v = .string S ∧ S.size = j + d.length ∧ Hid (S = ⟨(List.replicate j 48 ++ d).toArray⟩)) (fun v => (txtV v).size)
                      case atStart => exact ⟨PD, k + 1 - d.length, rfl, by rw [← HPD.out]; show (padL k d).toArray.size = _; rw [List.size_toArray]; unfold padL; rw [List.length_append, List.length_replicate], hidD HPD.out.symm⟩
                      case round =>
                        obtain ⟨S2, j, rfl, hS2, HS2⟩ := hrel
                        have HSZ2 := hidD hS2
                        cases j with
                        | succ j =>
                          obtain ⟨hA0, hA1, hA2⟩ := zero_cut (n := z.natAbs) (j := j) (S := S2) (by rw [HS2.out, HD.out])
                          have hdn : 0 < d.length := by rw [← HD.out]; exact decN_pos_len _
                          have h1 : (1 : Int) < (S2.size : Int) := by omega
                          have h1b : (1 : Int) ≤ (S2.size : Int) := by omega
                          rw [HD.out] at hA2
                          clear hS2
                          obtain ⟨S3, hS3⟩ : ∃ S : ByteArray, ⟨(List.replicate j 48 ++ d).toArray⟩ = S := ⟨_, rfl⟩
                          rw [hS3] at hA2
                          have HS3 := hidD hS3
                          have HZ3 := hidD (show S3.size = j + d.length by rw [← hS3]; show (List.replicate j 48 ++ d).toArray.size = _; rw [List.size_toArray, List.length_append, List.length_replicate])
                          clear hS3
                          go_wp2_with fail
                          go_round
                          case rel => exact ⟨S3, j, rfl, HZ3.out, hidD HS3.out.symm⟩
                          case measure => show S3.size < S2.size; have h1 := HZ3.out; have h2 := HSZ2.out; omega
                        | zero =>
                          clear hS2
                          go_upto_region 37 with fail
                          go_cut [164] from 157 to 164 (fun cv w' => cv = .bool false ∧ w' = wc)
                          case first =>
                            by_cases h1 : 1 < S2.size
                            · obtain ⟨hA0, hA1⟩ := zero_end (n := z.natAbs) (S := S2) (by rw [HS2.out, HD.out]) h1
                              have h2 : (1 : Int) < (S2.size : Int) := by omega
                              go_wp2_with fail
                              go_meet
                              case rel => exact ⟨rfl, rfl⟩
                            · have h2 : ¬ (1 : Int) < (S2.size : Int) := by omega
                              go_wp2_with fail
                              go_meet
                              case rel => exact ⟨rfl, rfl⟩
                          case rest =>
                            as_aux_lemma =>
                              obtain ⟨rfl, rfl⟩ := hcut
                              go_upto_if 167 with fail
                              go_cut [24] (fun pv w' => pv = .string ZT ∧ w' = wc)
                              case first =>
                                have zS2 : S2.size ≤ 2000000000 := by have h1 := HSZ2.out; have h2 := decN_len z.natAbs; have h3 := HZK.out.words; rw [HD.out] at h2; omega
                                cases bz with
                                | true =>
                                  have HZF := hidD (show (⟨#[45]⟩ : ByteArray) ++ S2 = ZT by rw [HS2.out, ← HZT.out]; unfold decZ; rw [if_pos (HBZ.out.1 rfl), HD.out]; exact ba_cons _ _)
                                  go_wp2_with fail
                                  go_meet
                                  case rel => exact ⟨by rw [HZF.out], rfl⟩
                                | false =>
                                  have HZF := hidD (show S2 = ZT by rw [HS2.out, ← HZT.out]; unfold decZ; rw [if_neg (fun h => by have := HBZ.out.2 h; cases this), HD.out]; rfl)
                                  go_wp2_with fail
                                  go_meet
                                  case rel => exact ⟨by rw [HZF.out], rfl⟩
                              case rest =>
                                as_aux_lemma =>
                                  obtain ⟨rfl, rfl⟩ := hcut
                                  have M21 : Hid (Mem w wc [some (B1, .rat (p)), some (B2, .rat (q)), some (B3, .rat (r)), some (B4, .rat (0)), some (B8, .rat (q + r)), some (B12, .rat (p * (q + r))), some (B16, .rat (p * q + p * r)), some (B24, .rat (p / q)), some (B29, .rat (p / q * q)), some (B34, .int (1)), some (B37, .int (0)), some (B40, .int ((p.den : Int)))]) := M20
                                  clear M20
                                  go_upto_region 42 with (go_at_call 21; refine (HPR.out _).mono ?_; clear HPR; rintro e w50 ⟨v, rfl, hu, hb⟩; obtain ⟨s700, a700, l700, c700, rfl⟩ := IsInt.form2 hu)
                                  obtain ⟨V48, hV⟩ : ∃ V, w50.alloc (.cells #[.bool s700, .slice a700 l700 c700] 25) = V := ⟨_, rfl⟩
                                  obtain ⟨B48, hBk⟩ : ∃ B, w50.heap.size = B := ⟨_, rfl⟩
                                  have MM : Mem w (w50.alloc (.cells #[.bool s700, .slice a700 l700 c700] 25)) [some (B1, .rat (p)), some (B2, .rat (q)), some (B3, .rat (r)), some (B4, .rat (0)), some (B8, .rat (q + r)), some (B12, .rat (p * (q + r))), some (B16, .rat (p * q + p * r)), some (B24, .rat (p / q)), some (B29, .rat (p / q * q)), some (B34, .int (1)), some (B37, .int (0)), some (B40, .int ((p.den : Int))), some (w50.heap.size, .int (mv))] := Mem.push (M21.out.below hb) (.int (mv)) hu
                                  rw [hV, hBk] at MM
                                  rw [hV]
                                  rw [hBk]
                                  have M22 : Hid (Mem w V48 [some (B1, .rat (p)), some (B2, .rat (q)), some (B3, .rat (r)), some (B4, .rat (0)), some (B8, .rat (q + r)), some (B12, .rat (p * (q + r))), some (B16, .rat (p * q + p * r)), some (B24, .rat (p / q)), some (B29, .rat (p / q * q)), some (B34, .int (1)), some (B37, .int (0)), some (B40, .int ((p.den : Int))), some (B48, .int (mv))]) := hidD (MM)
                                  clear M21
                                  clear MM hV hBk
                                  clear hu hb
                                  go_upto_region 43 with (go_at_call 40; refine (iof_c 10 (by omega) (by omega) _).mono ?_; rintro e w51 ⟨v, rfl, hu, hb⟩; obtain ⟨s701, a701, l701, c701, rfl⟩ := IsInt.form2 hu)
                                  obtain ⟨V49, hV⟩ : ∃ V, w51.alloc (.cells #[.bool s701, .slice a701 l701 c701] 25) = V := ⟨_, rfl⟩
                                  obtain ⟨B49, hBk⟩ : ∃ B, w51.heap.size = B := ⟨_, rfl⟩
                                  have MM : Mem w (w51.alloc (.cells #[.bool s701, .slice a701 l701 c701] 25)) [some (B1, .rat (p)), some (B2, .rat (q)), some (B3, .rat (r)), some (B4, .rat (0)), some (B8, .rat (q + r)), some (B12, .rat (p * (q + r))), some (B16, .rat (p * q + p * r)), some (B24, .rat (p / q)), some (B29, .rat (p / q * q)), some (B34, .int (1)), some (B37, .int (0)), some (B40, .int ((p.den : Int))), some (B48, .int (mv)), some (w51.heap.size, .int (10))] := Mem.push (M22.out.below hb) (.int (10)) hu
                                  rw [hV, hBk] at MM
                                  rw [hV]
                                  rw [hBk]
                                  have M23 : Hid (Mem w V49 [some (B1, .rat (p)), some (B2, .rat (q)), some (B3, .rat (r)), some (B4, .rat (0)), some (B8, .rat (q + r)), some (B12, .rat (p * (q + r))), some (B16, .rat (p * q + p * r)), some (B24, .rat (p / q)), some (B29, .rat (p / q * q)), some (B34, .int (1)), some (B37, .int (0)), some (B40, .int ((p.den : Int))), some (B48, .int (mv)), some (B49, .int (10))]) := hidD (MM)
                                  clear M22
                                  clear MM hV hBk
                                  clear hu hb
                                  obtain ⟨s50, a50, l50, c50, n50, i50⟩ := M23.out.int (i := 13) rfl
                                  have e50a := n50.c0
                                  have e50b := n50.c1
                                  have HC := hidD (HPW.out V49 _ i50)
                                  go_upto_region 44 with (go_at_call 41; refine HC.out.mono ?_; clear HC; rintro e w551 ⟨v, rfl, hu, hb⟩; obtain ⟨s551, a551, l551, c551, rfl⟩ := IsInt.form2 hu)
                                  obtain ⟨V52, hV⟩ : ∃ V, w551.alloc (.cells #[.bool s551, .slice a551 l551 c551] 25) = V := ⟨_, rfl⟩
                                  obtain ⟨B52, hBk⟩ : ∃ B, w551.heap.size = B := ⟨_, rfl⟩
                                  have MM : Mem w (w551.alloc (.cells #[.bool s551, .slice a551 l551 c551] 25)) [some (B1, .rat (p)), some (B2, .rat (q)), some (B3, .rat (r)), some (B4, .rat (0)), some (B8, .rat (q + r)), some (B12, .rat (p * (q + r))), some (B16, .rat (p * q + p * r)), some (B24, .rat (p / q)), some (B29, .rat (p / q * q)), some (B34, .int (1)), some (B37, .int (0)), some (B40, .int ((p.den : Int))), some (B48, .int (mv)), some (B49, .int (10)), some (w551.heap.size, .int (tk))] := Mem.push (M23.out.below hb) (.int (tk)) hu
                                  rw [hV, hBk] at MM
                                  rw [hV]
                                  rw [hBk]
                                  have M24 : Hid (Mem w V52 [some (B1, .rat (p)), some (B2, .rat (q)), some (B3, .rat (r)), some (B4, .rat (0)), some (B8, .rat (q + r)), some (B12, .rat (p * (q + r))), some (B16, .rat (p * q + p * r)), some (B24, .rat (p / q)), some (B29, .rat (p / q * q)), some (B34, .int (1)), some (B37, .int (0)), some (B40, .int ((p.den : Int))), some (B48, .int (mv)), some (B49, .int (10)), some (B52, .int (tk))]) := hidD (MM)
                                  clear M23
                                  clear MM hV hBk
                                  clear n50 e50a e50b i50 hu hb
                                  have HMK := hidD (Sok.of HMS.out (by omega))
                                  obtain ⟨s53, a53, l53, c53, n53, i53⟩ := M24.out.int (i := 12) rfl
                                  have e53a := n53.c0
                                  have e53b := n53.c1
                                  obtain ⟨s54, a54, l54, c54, n54, i54⟩ := M24.out.int (i := 14) rfl
                                  have e54a := n54.c0
                                  have e54b := n54.c1
                                  have HC := hidD (rof_c _ _ mv tk V52 i53 i54 HMK.out HTS.out)
                                  rw [hkn] at HC
                                  go_upto_region 45 with (go_at_call 22; refine HC.out.mono ?_; clear HC; rintro e w555 ⟨v, rfl, hu, hb⟩; obtain ⟨s555, a555, l555, c555, t555, b555, k555, d555, rfl⟩ := IsRat.form hu)
                                  obtain ⟨V56, hV⟩ : ∃ V, w555.alloc (.cells #[.bool s555, .slice a555 l555 c555, .bool t555, .slice b555 k555 d555] 27) = V := ⟨_, rfl⟩
                                  obtain ⟨B56, hBk⟩ : ∃ B, w555.heap.size = B := ⟨_, rfl⟩
                                  have MM : Mem w (w555.alloc (.cells #[.bool s555, .slice a555 l555 c555, .bool t555, .slice b555 k555 d555] 27)) [some (B1, .rat (p)), some (B2, .rat (q)), some (B3, .rat (r)), some (B4, .rat (0)), some (B8, .rat (q + r)), some (B12, .rat (p * (q + r))), some (B16, .rat (p * q + p * r)), some (B24, .rat (p / q)), some (B29, .rat (p / q * q)), some (B34, .int (1)), some (B37, .int (0)), some (B40, .int ((p.den : Int))), some (B48, .int (mv)), some (B49, .int (10)), some (B52, .int (tk)), some (w555.heap.size, .rat (Rat.divInt mv tk))] := Mem.push (M24.out.below hb) (.rat (Rat.divInt mv tk)) hu
                                  rw [hV, hBk] at MM
                                  rw [hV]
                                  rw [hBk]
                                  have M25 : Hid (Mem w V56 [some (B1, .rat (p)), some (B2, .rat (q)), some (B3, .rat (r)), some (B4, .rat (0)), some (B8, .rat (q + r)), some (B12, .rat (p * (q + r))), some (B16, .rat (p * q + p * r)), some (B24, .rat (p / q)), some (B29, .rat (p / q * q)), some (B34, .int (1)), some (B37, .int (0)), some (B40, .int ((p.den : Int))), some (B48, .int (mv)), some (B49, .int (10)), some (B52, .int (tk)), some (B56, .rat (Rat.divInt mv tk))]) := hidD (MM)
                                  clear M24
                                  clear MM hV hBk
                                  clear n53 e53a e53b i53 n54 e54a e54b i54 hu hb
                                  have HM1 := hidD (show Sok (mv + 1) from Sok.of (HMS.out.add (Sm.one 2000 (by omega))) (by omega))
                                  refine wp_region_tab hmx [[], [], [0, 1, 1], [], [2, 3, 2], [4], [5], [5], [], [8, 6, 4, 0, 1, 2, 3, 4, 5, 6, 8], [7, 9, 0, 1, 2, 3, 4, 5, 6, 7, 8, 9]] (by kernel_rfl) (by decide)
                                    (fun D act V => ∃ (t189x t190x t191x t192x t193x t188x t194x t195x t34x t35x : Value) (x8 : Option (Nat × Dat)), act = { tmps := #[Value.string s, Value.string t, Value.string u, Value.int IntKind.i64 n, undef, undef, undef, undef, Value.bool false, Value.pointer (some { block := B1, off := 0 }), Value.pointer (some { block := B2, off := 0 }), Value.pointer (some { block := B3, off := 0 }), Value.pointer (some { block := B4, off := 0 }), Value.pointer (some { block := B8, off := 0 }), Value.pointer (some { block := B12, off := 0 }), Value.pointer (some { block := B16, off := 0 }), Value.pointer (some { block := B24, off := 0 }), Value.bool bq, Value.pointer (some { block := B29, off := 0 }), Value.pointer (some { block := B34, off := 0 }), Value.pointer (some { block := B37, off := 0 }), Value.pointer (some { block := B40, off := 0 }), Value.int IntKind.i64 ↑k, Value.string DD, Value.string ZT, Value.int IntKind.i64 ↑i, Value.bool bz, Value.pointer (some { block := B48, off := 0 }), Value.bool ok, Value.pointer (some { block := B49, off := 0 }), Value.pointer (some { block := B52, off := 0 }), Value.bool true, Value.pointer (some { block := B56, off := 0 }), Value.bool true, t34x, t35x, u36, u37, u38, u39, u40, u41, u42, u43, u44, u45, u46, u47, u48, u49, u50, u51, u52, u53, u54, u55, u56, u57, u58, u59, u60, u61, u62, u63, u64, u65, u66, u67, u68, u69, u70, u71, u72, u73, u74, u75, u76, u77, u78, u79, u80, u81, u82, u83, u84, u85, u86, u87, u88, u89, u90, u91, u92, u93, u94, u95, u96, u97, u98, u99, u100, u101, u102, u103, u104, u105, u106, u107, u108, u109, u110, u111, u112, u113, u114, u115, u116, u117, u118, u119, u120, u121, u122, u123, u124, u125, u126, u127, u128, u129, u130, u131, u132, u133, u134, u135, u136, u137, u138, u139, u140, u141, u142, u143, u144, u145, u146, u147, u148, u149, u150, u151, u152, u153, u154, u155, u156, u157, u158, u159, u160, u161, u162, u163, u164, u165, u166, u167, u168, u169, Value.tuple #[Value.agg #[Value.bool s700, Value.slice a700 l700 c700], Value.bool ok], Value.string ZT, Value.tuple #[Value.agg #[Value.bool s700, Value.slice a700 l700 c700], Value.bool ok], Value.agg #[Value.bool s700, Value.slice a700 l700 c700], Value.bool ok, Value.agg #[Value.bool s701, Value.slice a701 l701 c701], Value.tuple #[Value.agg #[Value.bool s551, Value.slice a551 l551 c551], Value.bool true], Value.agg #[Value.bool s50, Value.slice a50 l50 c50], Value.int IntKind.i64 ↑k, Value.tuple #[Value.agg #[Value.bool s551, Value.slice a551 l551 c551], Value.bool true], Value.agg #[Value.bool s551, Value.slice a551 l551 c551], Value.bool true, Value.tuple #[Value.agg #[Value.bool s555, Value.slice a555 l555 c555, Value.bool t555, Value.slice b555 k555 d555], Value.bool true], Value.agg #[Value.bool s53, Value.slice a53 l53 c53], Value.agg #[Value.bool s54, Value.slice a54 l54 c54], Value.tuple #[Value.agg #[Value.bool s555, Value.slice a555 l555 c555, Value.bool t555, Value.slice b555 k555 d555], Value.bool true], Value.agg #[Value.bool s555, Value.slice a555 l555 c555, Value.bool t555, Value.slice b555 k555 d555], Value.bool true, t188x, t189x, t190x, t191x, t192x, t193x, t194x, t195x, u196, u197, u198, u199, u200, u201, u202, u203, u204, u205, u206, u207, u208, u209, u210, u211, u212, u213, u214, u215, u216, u217, u218, u219, u220], defers := [] } ∧ Hid ((D 0 = true → Has V t189x (.int (mv))) ∧ (D 1 = true → Has V t190x (.int (1))) ∧ (D 2 = true → Has V t191x (.int (mv + 1))) ∧ (D 3 = true → Has V t192x (.int (tk))) ∧ (D 4 = true → Tup1 V t193x (.rat (Rat.divInt (mv + 1) tk))) ∧ (D 5 = true → Tup1 V t188x (.rat (Rat.divInt (mv + 1) tk))) ∧ (D 6 = true → Has V t194x (.rat (Rat.divInt (mv + 1) tk))) ∧ (D 7 = true → t195x = .bool true) ∧ ((D 8 = false → x8 = none) ∧ (D 8 = true → D 9 = false → ∃ B : Nat, t34x = .pointer (some ⟨B, 0, none⟩) ∧ x8 = some (B, .rat 0)) ∧ (D 9 = true → ∃ B : Nat, t34x = .pointer (some ⟨B, 0, none⟩) ∧ x8 = some (B, .rat (Rat.divInt (mv + 1) tk)))) ∧ (D 10 = true → t35x = .bool true)) ∧ Hid (Mem w V [some (B1, .rat (p)), some (B2, .rat (q)), some (B3, .rat (r)), some (B4, .rat (0)), some (B8, .rat (q + r)), some (B12, .rat (p * (q + r))), some (B16, .rat (p * q + p * r)), some (B24, .rat (p / q)), some (B29, .rat (p / q * q)), some (B34, .int (1)), some (B37, .int (0)), some (B40, .int ((p.den : Int))), some (B48, .int (mv)), some (B49, .int (10)), some (B52, .int (tk)), some (B56, .rat (Rat.divInt mv tk)), x8]))
                                    ⟨_, _, _, _, _, _, _, _, _, _, none, rfl, hidD ⟨by simp, by simp, by simp, by simp, by simp, by simp, by simp, by simp, by simp, by simp⟩, hidD ((M25.out).none).drew⟩ ?step57 ?fin57
                                  case step57 =>
                                    rintro D act V i ds hcl hi hds hDi ⟨t189x, t190x, t191x, t192x, t193x, t188x, t194x, t195x, t34x, t35x, x8, rfl, GG, MM⟩
                                    have hi6 : i < 11 := (List.getElem?_eq_some_iff.1 hi).1
                                    obtain rfl | rfl | rfl | rfl | rfl | rfl | rfl | rfl | rfl | rfl | rfl : i = 0 ∨ i = 1 ∨ i = 2 ∨ i = 3 ∨ i = 4 ∨ i = 5 ∨ i = 6 ∨ i = 7 ∨ i = 8 ∨ i = 9 ∨ i = 10 := by omega
                                    all_goals
                                      simp only [List.getElem?_cons_zero, List.getElem?_cons_succ, Option.some.injEq] at hi
                                      subst hi
                                    · clear hds
                                      obtain ⟨s, a, l, c, n, i⟩ := MM.out.int (i := 12) rfl
                                      have e0 := n.c0
                                      have e1 := n.c1
                                      refine wpOp_go rfl rfl (fun K hK => ?_)
                                      go_simp
                                      exact hK _ _ ⟨_, _, _, _, _, _, _, _, _, _, _, rfl, hidD ⟨fun _ => i, GG.out.2.1, GG.out.2.2.1, GG.out.2.2.2.1, GG.out.2.2.2.2.1, GG.out.2.2.2.2.2.1, GG.out.2.2.2.2.2.2.1, GG.out.2.2.2.2.2.2.2.1, GG.out.2.2.2.2.2.2.2.2.1, GG.out.2.2.2.2.2.2.2.2.2⟩, hidD (MM.out)⟩
                                    · have HC := hidD (iof_c 1 (by omega) (by omega) V)
                                      clear hds
                                      refine wpOp_go rfl rfl (fun K hK => ?_)
                                      go_simp
                                      go_wp2_with (go_at_call 40; refine HC.out.mono ?_; rintro e w5 ⟨v5, rfl, hv5, hb5⟩)
                                      exact ⟨_, _, _, _, _, _, _, _, _, _, _, rfl, hidD ⟨fun h => (GG.out.1 h).below hb5, fun _ => hv5, fun h => (GG.out.2.2.1 h).below hb5, fun h => (GG.out.2.2.2.1 h).below hb5, fun h => (GG.out.2.2.2.2.1 h).below hb5, fun h => (GG.out.2.2.2.2.2.1 h).below hb5, fun h => (GG.out.2.2.2.2.2.2.1 h).below hb5, GG.out.2.2.2.2.2.2.2.1, GG.out.2.2.2.2.2.2.2.2.1, GG.out.2.2.2.2.2.2.2.2.2⟩, hidD (MM.out.below hb5)⟩
                                    · have h0 := (GG.out.1 (hds 0 (by simp)))
                                      have h1 := (GG.out.2.1 (hds 1 (by simp)))
                                      have HC := hidD (iplus_c _ _ mv 1 V h0 h1 (by have := HMK.out.words; omega) (by have := Sok.one.words; omega))
                                      clear hds h0 h1
                                      refine wpOp_go rfl rfl (fun K hK => ?_)
                                      go_simp
                                      go_wp2_with (go_at_call 42; refine HC.out.mono ?_; rintro e w5 ⟨v5, rfl, hv5, hb5⟩)
                                      exact ⟨_, _, _, _, _, _, _, _, _, _, _, rfl, hidD ⟨fun h => (GG.out.1 h).below hb5, fun h => (GG.out.2.1 h).below hb5, fun _ => hv5, fun h => (GG.out.2.2.2.1 h).below hb5, fun h => (GG.out.2.2.2.2.1 h).below hb5, fun h => (GG.out.2.2.2.2.2.1 h).below hb5, fun h => (GG.out.2.2.2.2.2.2.1 h).below hb5, GG.out.2.2.2.2.2.2.2.1, GG.out.2.2.2.2.2.2.2.2.1, GG.out.2.2.2.2.2.2.2.2.2⟩, hidD (MM.out.below hb5)⟩
                                    · clear hds
                                      obtain ⟨s, a, l, c, n, i⟩ := MM.out.int (i := 14) rfl
                                      have e0 := n.c0
                                      have e1 := n.c1
                                      refine wpOp_go rfl rfl (fun K hK => ?_)
                                      go_simp
                                      exact hK _ _ ⟨_, _, _, _, _, _, _, _, _, _, _, rfl, hidD ⟨GG.out.1, GG.out.2.1, GG.out.2.2.1, fun _ => i, GG.out.2.2.2.2.1, GG.out.2.2.2.2.2.1, GG.out.2.2.2.2.2.2.1, GG.out.2.2.2.2.2.2.2.1, GG.out.2.2.2.2.2.2.2.2.1, GG.out.2.2.2.2.2.2.2.2.2⟩, hidD (MM.out)⟩
                                    · have h0 := (GG.out.2.2.1 (hds 2 (by simp)))
                                      have h1 := (GG.out.2.2.2.1 (hds 3 (by simp)))
                                      have HC := hidD (rof_c _ _ (mv + 1) tk V h0 h1 HM1.out HTS.out)
                                      rw [hkn] at HC
                                      clear hds h0 h1
                                      refine wpOp_go rfl rfl (fun K hK => ?_)
                                      go_simp
                                      go_wp2_with (go_at_call 22; refine HC.out.mono ?_; rintro e w5 ⟨v5, rfl, hv5, hb5⟩)
                                      exact ⟨_, _, _, _, _, _, _, _, _, _, _, rfl, hidD ⟨fun h => (GG.out.1 h).below hb5, fun h => (GG.out.2.1 h).below hb5, fun h => (GG.out.2.2.1 h).below hb5, fun h => (GG.out.2.2.2.1 h).below hb5, fun _ => ⟨v5, rfl, hv5⟩, fun h => (GG.out.2.2.2.2.2.1 h).below hb5, fun h => (GG.out.2.2.2.2.2.2.1 h).below hb5, GG.out.2.2.2.2.2.2.2.1, GG.out.2.2.2.2.2.2.2.2.1, GG.out.2.2.2.2.2.2.2.2.2⟩, hidD (MM.out.below hb5)⟩
                                    · have h0 := (GG.out.2.2.2.2.1 (hds 4 (by simp)))
                                      clear hds
                                      refine wpOp_go rfl rfl (fun K hK => ?_)
                                      go_simp
                                      exact hK _ _ ⟨_, _, _, _, _, _, _, _, _, _, _, rfl, hidD ⟨GG.out.1, GG.out.2.1, GG.out.2.2.1, GG.out.2.2.2.1, GG.out.2.2.2.2.1, fun _ => h0, GG.out.2.2.2.2.2.2.1, GG.out.2.2.2.2.2.2.2.1, GG.out.2.2.2.2.2.2.2.2.1, GG.out.2.2.2.2.2.2.2.2.2⟩, hidD (MM.out)⟩
                                    · obtain ⟨y1, rfl, h1⟩ := (GG.out.2.2.2.2.2.1 (hds 5 (by simp)))
                                      clear hds
                                      refine wpOp_go rfl rfl (fun K hK => ?_)
                                      go_simp
                                      exact hK _ _ ⟨_, _, _, _, _, _, _, _, _, _, _, rfl, hidD ⟨GG.out.1, GG.out.2.1, GG.out.2.2.1, GG.out.2.2.2.1, GG.out.2.2.2.2.1, GG.out.2.2.2.2.2.1, fun _ => h1, GG.out.2.2.2.2.2.2.2.1, GG.out.2.2.2.2.2.2.2.2.1, GG.out.2.2.2.2.2.2.2.2.2⟩, hidD (MM.out)⟩
                                    · obtain ⟨y1, rfl, h1⟩ := (GG.out.2.2.2.2.2.1 (hds 5 (by simp)))
                                      clear hds
                                      refine wpOp_go rfl rfl (fun K hK => ?_)
                                      go_simp
                                      exact hK _ _ ⟨_, _, _, _, _, _, _, _, _, _, _, rfl, hidD ⟨GG.out.1, GG.out.2.1, GG.out.2.2.1, GG.out.2.2.2.1, GG.out.2.2.2.2.1, GG.out.2.2.2.2.2.1, GG.out.2.2.2.2.2.2.1, fun _ => rfl, GG.out.2.2.2.2.2.2.2.2.1, GG.out.2.2.2.2.2.2.2.2.2⟩, hidD (MM.out)⟩
                                    · have hf : D 9 = false := by
                                        cases h : D 9 with
                                        | false => rfl
                                        | true => rw [hcl 9 _ rfl h 8 (by simp)] at hDi; cases hDi
                                      obtain rfl := GG.out.2.2.2.2.2.2.2.2.1.1 hDi
                                      clear hds
                                      refine wpOp_go rfl rfl (fun K hK => ?_)
                                      go_simp
                                      exact hK _ _ ⟨_, _, _, _, _, _, _, _, _, _, _, rfl, hidD ⟨fun h => (GG.out.1 h).alloc _, fun h => (GG.out.2.1 h).alloc _, fun h => (GG.out.2.2.1 h).alloc _, fun h => (GG.out.2.2.2.1 h).alloc _, fun h => (GG.out.2.2.2.2.1 h).alloc _, fun h => (GG.out.2.2.2.2.2.1 h).alloc _, fun h => (GG.out.2.2.2.2.2.2.1 h).alloc _, GG.out.2.2.2.2.2.2.2.1, ⟨fun h => by simp at h, fun _ _ => ⟨_, rfl, rfl⟩, fun h => by simp [hf] at h⟩, GG.out.2.2.2.2.2.2.2.2.2⟩, hidD (MM.out.fill (i := 16) rfl (.rat 0) (rat0 _))⟩
                                    · obtain ⟨B, rfl, rfl⟩ := GG.out.2.2.2.2.2.2.2.2.1.2.1 (hds 8 (by simp)) hDi
                                      have hds0 := hds 8 (by simp)
                                      have hv := (GG.out.2.2.2.2.2.2.1 (hds 6 (by simp)))
                                      obtain ⟨s1, a1, l1, c1, t1, b1, k1, d1, rfl⟩ := IsRat.form (show IsRat V _ _ from hv)
                                      obtain ⟨s, a, l, c, t, b, k, d, n, r, i, j⟩ := MM.out.rat (i := 16) rfl
                                      have e0 := n.c0
                                      have f0 := n.f0
                                      have e1 := n.c1
                                      have f1 := n.f1
                                      have e2 := n.c2
                                      have f2 := n.f2
                                      have e3 := n.c3
                                      have f3 := n.f3
                                      clear hds
                                      refine wpOp_go rfl rfl (fun K hK => ?_)
                                      go_simp
                                      exact hK _ _ ⟨_, _, _, _, _, _, _, _, _, _, _, rfl, hidD ⟨fun h => (GG.out.1 h).put4 n rfl rfl rfl rfl _ _ _ _, fun h => (GG.out.2.1 h).put4 n rfl rfl rfl rfl _ _ _ _, fun h => (GG.out.2.2.1 h).put4 n rfl rfl rfl rfl _ _ _ _, fun h => (GG.out.2.2.2.1 h).put4 n rfl rfl rfl rfl _ _ _ _, fun h => (GG.out.2.2.2.2.1 h).put4 n rfl rfl rfl rfl _ _ _ _, fun h => (GG.out.2.2.2.2.2.1 h).put4 n rfl rfl rfl rfl _ _ _ _, fun h => (GG.out.2.2.2.2.2.2.1 h).put4 n rfl rfl rfl rfl _ _ _ _, GG.out.2.2.2.2.2.2.2.1, ⟨fun h => by simp [hds0] at h, fun _ h => by simp at h, fun _ => ⟨B, rfl, rfl⟩⟩, GG.out.2.2.2.2.2.2.2.2.2⟩, hidD (MM.out.putRat (i := 16) rfl hv)⟩
                                    · obtain rfl := (GG.out.2.2.2.2.2.2.2.1 (hds 7 (by simp)))
                                      clear hds
                                      refine wpOp_go rfl rfl (fun K hK => ?_)
                                      go_simp
                                      exact hK _ _ ⟨_, _, _, _, _, _, _, _, _, _, _, rfl, hidD ⟨GG.out.1, GG.out.2.1, GG.out.2.2.1, GG.out.2.2.2.1, GG.out.2.2.2.2.1, GG.out.2.2.2.2.2.1, GG.out.2.2.2.2.2.2.1, fun _ => rfl, GG.out.2.2.2.2.2.2.2.2.1, fun _ => rfl⟩, hidD (MM.out)⟩
                                  rintro D act V58 hDD ⟨t189x, t190x, t191x, t192x, t193x, t188x, t194x, t195x, t34x, t35x, x8, rfl, GG, MM⟩
                                  obtain ⟨B59, rfl, rfl⟩ := GG.out.2.2.2.2.2.2.2.2.1.2.2 (hDD 9 (by decide))
                                  obtain rfl := GG.out.2.2.2.2.2.2.2.1 (hDD 7 (by decide))
                                  obtain rfl := GG.out.2.2.2.2.2.2.2.2.2 (hDD 10 (by decide))
                                  clear GG hDD M25
                                  have M26 : Hid (Mem w V58 [some (B1, .rat (p)), some (B2, .rat (q)), some (B3, .rat (r)), some (B4, .rat (0)), some (B8, .rat (q + r)), some (B12, .rat (p * (q + r))), some (B16, .rat (p * q + p * r)), some (B24, .rat (p / q)), some (B29, .rat (p / q * q)), some (B34, .int (1)), some (B37, .int (0)), some (B40, .int ((p.den : Int))), some (B48, .int (mv)), some (B49, .int (10)), some (B52, .int (tk)), some (B56, .rat (Rat.divInt mv tk)), some (B59, .rat (Rat.divInt (mv + 1) tk))]) := MM
                                  clear MM
                                  go_upto_region 46 with fail
                                  have HL1 := hidD (show Sq (Rat.divInt mv tk) from Sq.of (SmQ.divInt (by have := HTP.out; omega) HMS.out (HTM.out.mono (by omega))) (by omega))
                                  have HL2 := hidD (show Sq (Rat.divInt (mv + 1) tk) from Sq.of (SmQ.divInt (by have := HTP.out; omega) (HMS.out.add (Sm.one 2000 (by omega))) (HTM.out.mono (by omega))) (by omega))
                                  obtain ⟨cl, hcl⟩ : ∃ x, cmpQ (Rat.divInt mv tk) p = x := ⟨_, rfl⟩
                                  obtain ⟨ch, hch⟩ : ∃ x, cmpQ p (Rat.divInt (mv + 1) tk) = x := ⟨_, rfl⟩
                                  have HCL := hidD hcl
                                  have HCH := hidD hch
                                  clear hcl hch
                                  cases ok with
                                  | false =>
                                    have hz20 : (2000 : Int) < (ZT.size : Int) := by have := HML.out (by first | rfl | trivial); omega
                                    obtain ⟨s60, a60, l60, c60, t60, b60, k60, d60, n60, r60, i60, j60⟩ := M26.out.rat (i := 0) rfl
                                    have e60a := n60.c0
                                    have e60b := n60.c1
                                    have e60c := n60.c2
                                    have e60d := n60.c3
                                    have HA0 := hidD (fun (V : World) (h : Below V58.heap.size V58 V) => kalive_c V (tab_below HT.out (M26.out.2.2.trans (h.mono M26.out.2.2.size))))
                                    have hq : Below V58.heap.size V58 V58 := Below.refl _ _
                                    go_wp2_with (first
                                        | (go_at_call 19; refine (HA0.out _ hq).mono ?_; clear HA0; rintro e x0 ⟨rfl, hb⟩; replace hq := Below.then hq hb; clear hb; clear e60a e60b e60c e60d; have e60a := (n60.below hq).c0; have e60b := (n60.below hq).c1; have e60c := (n60.below hq).c2; have e60d := (n60.below hq).c3))
                                    go_ret
                                    exact ⟨rfl, M26.out.2.2.trans (hq.mono M26.out.2.2.size)⟩
                                  | true =>
                                    have hz := HMV.out (by first | rfl | trivial)
                                    have c1a : cl ≤ 0 := by rw [← HCL.out, hz]; exact HDL.out
                                    have c2a : ch < 0 := by rw [← HCH.out, hz]; exact HDH.out
                                    clear hz
                                    obtain ⟨s61, a61, l61, c61, t61, b61, k61, d61, n61, r61, i61, j61⟩ := M26.out.rat (i := 0) rfl
                                    have e61a := n61.c0
                                    have e61b := n61.c1
                                    have e61c := n61.c2
                                    have e61d := n61.c3
                                    obtain ⟨s62, a62, l62, c62, t62, b62, k62, d62, n62, r62, i62, j62⟩ := M26.out.rat (i := 15) rfl
                                    have e62a := n62.c0
                                    have e62b := n62.c1
                                    have e62c := n62.c2
                                    have e62d := n62.c3
                                    obtain ⟨s63, a63, l63, c63, t63, b63, k63, d63, n63, r63, i63, j63⟩ := M26.out.rat (i := 16) rfl
                                    have e63a := n63.c0
                                    have e63b := n63.c1
                                    have e63c := n63.c2
                                    have e63d := n63.c3
                                    have HA0 := hidD (fun (V : World) (h : Below V58.heap.size V58 V) => qorder_c _ _ (Rat.divInt mv tk) p V (r62.below h) (r61.below h) HL1.out HP.out)
                                    rw [HCL.out] at HA0
                                    have HA1 := hidD (fun (V : World) (h : Below V58.heap.size V58 V) => qorder_c _ _ p (Rat.divInt (mv + 1) tk) V (r61.below h) (r63.below h) HP.out HL2.out)
                                    rw [HCH.out] at HA1
                                    have HA2 := hidD (fun (V : World) (h : Below V58.heap.size V58 V) => kalive_c V (tab_below HT.out (M26.out.2.2.trans (h.mono M26.out.2.2.size))))
                                    have hq : Below V58.heap.size V58 V58 := Below.refl _ _
                                    go_wp2_with (first
                                        | (go_at_call 34; refine (HA0.out _ hq).mono ?_; clear HA0; rintro e x0 ⟨rfl, hb⟩; replace hq := Below.then hq hb; clear hb; clear e61a e61b e61c e61d; have e61a := (n61.below hq).c0; have e61b := (n61.below hq).c1; have e61c := (n61.below hq).c2; have e61d := (n61.below hq).c3; clear e62a e62b e62c e62d; have e62a := (n62.below hq).c0; have e62b := (n62.below hq).c1; have e62c := (n62.below hq).c2; have e62d := (n62.below hq).c3; clear e63a e63b e63c e63d; have e63a := (n63.below hq).c0; have e63b := (n63.below hq).c1; have e63c := (n63.below hq).c2; have e63d := (n63.below hq).c3)
                                        | (go_at_call 34; refine (HA1.out _ hq).mono ?_; clear HA1; rintro e x1 ⟨rfl, hb⟩; replace hq := Below.then hq hb; clear hb; clear e61a e61b e61c e61d; have e61a := (n61.below hq).c0; have e61b := (n61.below hq).c1; have e61c := (n61.below hq).c2; have e61d := (n61.below hq).c3; clear e62a e62b e62c e62d; have e62a := (n62.below hq).c0; have e62b := (n62.below hq).c1; have e62c := (n62.below hq).c2; have e62d := (n62.below hq).c3; clear e63a e63b e63c e63d; have e63a := (n63.below hq).c0; have e63b := (n63.below hq).c1; have e63c := (n63.below hq).c2; have e63d := (n63.below hq).c3)
                                        | (go_at_call 19; refine (HA2.out _ hq).mono ?_; clear HA2; rintro e x2 ⟨rfl, hb⟩; replace hq := Below.then hq hb; clear hb; clear e61a e61b e61c e61d; have e61a := (n61.below hq).c0; have e61b := (n61.below hq).c1; have e61c := (n61.below hq).c2; have e61d := (n61.below hq).c3; clear e62a e62b e62c e62d; have e62a := (n62.below hq).c0; have e62b := (n62.below hq).c1; have e62c := (n62.below hq).c2; have e62d := (n62.below hq).c3; clear e63a e63b e63c e63d; have e63a := (n63.below hq).c0; have e63b := (n63.below hq).c1; have e63c := (n63.below hq).c2; have e63d := (n63.below hq).c3))
                                    go_ret
                                    exact ⟨rfl, M26.out.2.2.trans (hq.mono M26.out.2.2.size)⟩
end Go.Proofs.YtcahodpphikgnaaGreatDoor
