import Derived.Test.YtjmmnpfedhkjbaaDoorK07
import Derived.Test.YtjmmnpfedhkjbaaDoorK01
import Derived.Laws.BitsAllLaws
import Derived.Deep.DeepCutAuto
import Derived.Deep.CutBlock
namespace Go.Proofs.YtjmmnpfedhkjbaaDoor
open Go.RowKit Go.Shelf


theorem div_wrap {U d : Nat} (h : U / d ≤ 4294967297) : IntKind.u64.wrap ((U : Int) / (d : Int)) = ((U / d : Nat) : Int) := by
  rw [← Int.natCast_ediv, Mul64.wrapN _ (by omega)]

theorem rest_wrap {U p r : Nat} (h : p + r = U) (hU : U < 18446744073709551616) : IntKind.u64.wrap ((U : Int) - IntKind.u64.wrap ((p : Nat) : Int)) = (r : Int) := by
  rw [Mul64.wrapN _ (by omega), IntKind.wrap_u64]
  omega

theorem sub1_wrap {q : Nat} (h : 1 ≤ q) (hq : q < 18446744073709551616) : IntKind.u64.wrap ((q : Int) - 1) = ((q - 1 : Nat) : Int) := by
  rw [IntKind.wrap_u64]; omega

theorem add_wrap {r d : Nat} (h : r + d < 18446744073709551616) : IntKind.u64.wrap ((r : Int) + d) = ((r + d : Nat) : Int) := by
  rw [IntKind.wrap_u64]; omega

theorem half_wrap {U u p v : Nat} (h : p + v = U * 4294967296 + u) (hv : v < 18446744073709551616) : IntKind.u64.wrap (IntKind.u64.wrap (IntKind.u64.wrap ((U : Int) * 4294967296) + u) - IntKind.u64.wrap ((p : Nat) : Int)) = (v : Int) := by
  simp only [IntKind.wrap_u64]
  omega

set_option maxRecDepth 100000 in
set_option maxHeartbeats 4000000 in
theorem div64_w (hi lo y s Y d1 d0 U L u1 u0 : Nat) (hhi : hi < y) (hlo : lo < 18446744073709551616) (hy : y < 18446744073709551616) (w : World) (h0 : hi ≠ 0) (HS : Hid (IntKind.u64.wrap (64 - (Lib.bitLen y : Int)) = (s : Int))) (hs : s ≤ 63)
    (HY : Hid (IntKind.u64.wrap ((y : Int) * 2 ^ s) = (Y : Int))) (H1 : Hid ((Y : Int) / 4294967296 = (d1 : Int))) (H0 : Hid (bits .and .u64 (Y : Int) 4294967295 = (d0 : Int)))
    (HU : Hid (bits .or .u64 (IntKind.u64.wrap ((hi : Int) * 2 ^ s)) ((lo : Int) / 2 ^ (64 - s)) = (U : Int))) (HL : Hid (IntKind.u64.wrap ((lo : Int) * 2 ^ s) = (L : Int))) (HL1 : Hid ((L : Int) / 4294967296 = (u1 : Int))) (HL0 : Hid (bits .and .u64 (L : Int) 4294967295 = (u0 : Int)))
    (hd1 : 2147483648 ≤ d1) (hd1' : d1 < 4294967296) (hd0 : d0 < 4294967296) (hu1 : u1 < 4294967296) (hu0 : u0 < 4294967296) (hU : U < d1 * 4294967296 + d0) (HYd : Hid (Y = d1 * 4294967296 + d0)) (HYy : Hid (Y = y * 2 ^ s)) (HN : Hid ((U * 4294967296 + u1) * 4294967296 + u0 = (hi * B64 + lo) * 2 ^ s)) :
    Calls Tryd.prog 63 #[.int .u64 (hi : Nat), .int .u64 (lo : Nat), .int .u64 (y : Nat)] w fun e w' => e = .returned (.tuple #[.int .u64 (((hi * B64 + lo) / y : Nat) : Int), .int .u64 (((hi * B64 + lo) % y : Nat) : Int)]) ∧ w' = w := by
  have g1 : ((y : Int) == 0) = false := beq_eq_false_iff_ne.2 (by omega)
  have g2 : ((hi : Int) == 0) = false := beq_eq_false_iff_ne.2 (by omega)
  go_enter Tryd.func63, Tryd.ntmps63
  go_upto_region 8 with (first
    | (go_at_call 81; refine (Tryd.bits_LeadingZeros64 _ _ (by omega) (by omega)).mono ?_; rintro e w' ⟨rfl, rfl⟩))
  rw [HS.out]
  go_upto_region 9 with fail
  rw [HY.out]
  go_upto_region 10 with fail
  rw [H1.out]
  go_upto_region 11 with fail
  rw [H0.out]
  go_upto_region 15 with fail
  rw [HU.out, HL.out, HL1.out, HL0.out]
  have hG := guess_start hd1 hd1' hd0 hu1 hU
  have hdn : ((d1 : Int) == 0) = false := beq_eq_false_iff_ne.2 (by omega)
  have HD := Hid.out (p := Hid ((2147483648 ≤ d1 ∧ d1 < 4294967296) ∧ (d0 < 4294967296 ∧ u1 < 4294967296 ∧ u0 < 4294967296) ∧ U < d1 * 4294967296 + d0)) ⟨⟨hd1, hd1'⟩, ⟨hd0, hu1, hu0⟩, hU⟩
  have HG := Hid.out (p := Hid _) hG
  clear hG hd0 hu1 hu0 hU hy h0 HS HY H1 H0 HU HL HL1 HL0 g1 g2
  go_upto_block 0 with fail
  go_cut [15, 16] (fun qv _ w1 => qv = .int .u64 ((U * 4294967296 + u1) / (d1 * 4294967296 + d0) : Nat) ∧ w1 = w')
  case first =>
    go_wp2_with fail
    go_loop [15, 16] (fun qv rv => ∃ q r : Nat, qv = .int .u64 (q : Nat) ∧ rv = .int .u64 (r : Nat) ∧ Hid (GuessAt U u1 d1 d0 q r)) (fun qv _ => (intOf qv).toNat)
    case atStart =>
      clear hd1 hd1'
      obtain ⟨⟨hd1, hd1'⟩, ⟨hd0, hu1, hu0⟩, hU⟩ := HD.out
      have e1 := div_wrap (U := U) (d := d1) HG.out.2.2.1
      refine ⟨U / d1, U % d1, by rw [e1], ?_, HG⟩
      rw [e1, Mul64.mulN]
      have h1 := HG.out.1
      rw [rest_wrap h1 (by omega)]
    case round =>
      obtain ⟨q, r, rfl, rfl, HG⟩ := hrel
      clear hd1 hd1' hhi hs hdn
      have HT : Hid ((4294967296 ≤ q ∨ 4294967296 * r + u1 < q * d0) → 1 ≤ q ∧ (q - 1) * d1 + (r + d1) = U ∧ (U * 4294967296 + u1) / (d1 * 4294967296 + d0) ≤ q - 1 ∧ q - 1 ≤ 4294967296) := fun hc => guess_step HG.out HD.out.1.1 HD.out.2.1.2.1 HD.out.2.2 hc
      have HX : Hid (q * d0 ≤ 4294967296 * r + u1 → q = (U * 4294967296 + u1) / (d1 * 4294967296 + d0)) := fun hc => guess_exit HG.out (by have := HD.out.1.1; omega) hc
      by_cases hc : 4294967296 ≤ q
      · obtain ⟨t1, t2, t3, t4⟩ := HT.out (Or.inl hc)
        have hcI : decide ((4294967296 : Int) ≤ q) = true := decide_eq_true (by omega)
        have E1 := Hid.out (p := Hid (IntKind.u64.wrap ((q : Int) - 1) = ((q - 1 : Nat) : Int))) (sub1_wrap t1 (by have h9 : q ≤ 4294967297 := HG.out.2.2.1; omega))
        have E2 := Hid.out (p := Hid (IntKind.u64.wrap ((r : Int) + d1) = ((r + d1 : Nat) : Int))) (add_wrap (by have h1 := HG.out.2.2.2; have h2 := HD.out.1.2; omega))
        have TT := Hid.out (p := Hid ((q - 1) * d1 + (r + d1) = U ∧ (U * 4294967296 + u1) / (d1 * 4294967296 + d0) ≤ q - 1 ∧ q - 1 ≤ 4294967296)) ⟨t2, t3, t4⟩
        have HQ := hidD (show q - 1 < q by omega)
        clear hc t1 t2 t3 t4 HT HX
        go_upto_region 19 with fail
        rw [E1.out]
        go_upto_region 20 with fail
        rw [E2.out]
        generalize q - 1 = q' at *
        generalize r + d1 = r' at *
        by_cases hr : 4294967296 ≤ r'
        · have hrI : decide ((4294967296 : Int) ≤ r') = true := decide_eq_true (by omega)
          have e := guess_break TT.out.1 TT.out.2.1 TT.out.2.2 HD.out.2.1.1 (by have := HD.out.1.1; omega) hr
          have HE := Hid.out (p := Hid (q' = (U * 4294967296 + u1) / (d1 * 4294967296 + d0))) e
          clear hr e
          go_wp2
          go_meet
          case rel => exact ⟨by rw [← HE.out], rfl⟩
        · have hrI : decide ((4294967296 : Int) ≤ r') = false := decide_eq_false (by omega)
          have HR := hidD (show r' < 4294967296 by omega)
          clear hr
          go_wp2
          go_round
          case rel => exact ⟨q', r', rfl, rfl, TT.out.1, TT.out.2.1, by have h9 : q' ≤ 4294967296 := TT.out.2.2; omega, HR.out⟩
          case measure => (simp [intOf]; exact HQ.out)
      · have hcI : decide ((4294967296 : Int) ≤ q) = false := decide_eq_false (by omega)
        have hd0 := HD.out.2.1.1
        have hr4 := HG.out.2.2.2
        have hm : q * d0 < 18446744073709551616 := by
          have h1 := Nat.mul_le_mul (show q ≤ 4294967295 by omega) (show d0 ≤ 4294967295 by omega)
          omega
        have E3 : IntKind.u64.wrap ((q : Int) * d0) = ((q * d0 : Nat) : Int) := by rw [Mul64.mulN, Mul64.wrapN _ hm]
        have E4 : IntKind.u64.wrap (4294967296 * (r : Int)) = ((4294967296 * r : Nat) : Int) := by rw [IntKind.wrap_u64]; omega
        have E5 : IntKind.u64.wrap (((4294967296 * r : Nat) : Int) + u1) = ((4294967296 * r + u1 : Nat) : Int) := by rw [IntKind.wrap_u64]; have := HD.out.2.1.2.1; omega
        by_cases hc2 : 4294967296 * r + u1 < q * d0
        · obtain ⟨t1, t2, t3, t4⟩ := HT.out (Or.inr hc2)
          have hcJ : 4294967296 * r + u1 < q * d0 := hc2
          have E1 := Hid.out (p := Hid (IntKind.u64.wrap ((q : Int) - 1) = ((q - 1 : Nat) : Int))) (sub1_wrap t1 (by have h9 : q ≤ 4294967297 := HG.out.2.2.1; omega))
          have E2 := Hid.out (p := Hid (IntKind.u64.wrap ((r : Int) + d1) = ((r + d1 : Nat) : Int))) (add_wrap (by have h1 := HG.out.2.2.2; have h2 := HD.out.1.2; omega))
          have TT := Hid.out (p := Hid ((q - 1) * d1 + (r + d1) = U ∧ (U * 4294967296 + u1) / (d1 * 4294967296 + d0) ≤ q - 1 ∧ q - 1 ≤ 4294967296)) ⟨t2, t3, t4⟩
          have HQ := hidD (show q - 1 < q by omega)
          clear hc hc2 t1 t2 t3 t4 HT HX hm hd0 hr4
          generalize q * d0 = m at E3 hcJ
          generalize 4294967296 * r + u1 = t at E5 hcJ
          generalize 4294967296 * r = rr at E4 E5
          go_upto_region 19 with fail
          rw [E1.out]
          go_upto_region 20 with fail
          rw [E2.out]
          generalize q - 1 = q' at *
          generalize r + d1 = r' at *
          by_cases hr : 4294967296 ≤ r'
          · have hrI : decide ((4294967296 : Int) ≤ r') = true := decide_eq_true (by omega)
            have e := guess_break TT.out.1 TT.out.2.1 TT.out.2.2 HD.out.2.1.1 (by have := HD.out.1.1; omega) hr
            have HE := Hid.out (p := Hid (q' = (U * 4294967296 + u1) / (d1 * 4294967296 + d0))) e
            clear hr e
            go_wp2
            go_meet
            case rel => exact ⟨by rw [← HE.out], rfl⟩
          · have hrI : decide ((4294967296 : Int) ≤ r') = false := decide_eq_false (by omega)
            have HR := hidD (show r' < 4294967296 by omega)
            clear hr
            go_wp2
            go_round
            case rel => exact ⟨q', r', rfl, rfl, TT.out.1, TT.out.2.1, by have h9 : q' ≤ 4294967296 := TT.out.2.2; omega, HR.out⟩
            case measure => (simp [intOf]; exact HQ.out)
        · have HE := Hid.out (p := Hid (q = (U * 4294967296 + u1) / (d1 * 4294967296 + d0))) (HX.out (by omega))
          have hcJ : ¬ 4294967296 * r + u1 < q * d0 := hc2
          clear hc hc2 HT HX hm hd0 hr4
          generalize q * d0 = m at E3 hcJ
          generalize 4294967296 * r + u1 = t at E5 hcJ
          generalize 4294967296 * r = rr at E4 E5
          go_wp2
          go_meet
          case rel => exact ⟨by rw [← HE.out], rfl⟩
  case rest =>
    obtain ⟨rfl, rfl⟩ := hcut
    have HQ1 := hidD (rfl : (U * 4294967296 + u1) / (d1 * 4294967296 + d0) = (U * 4294967296 + u1) / (d1 * 4294967296 + d0))
    obtain ⟨V, hV⟩ : ∃ V, V = (U * 4294967296 + u1) % (d1 * 4294967296 + d0) := ⟨_, rfl⟩
    have HV0 := hidD hV
    have HVlt : Hid (V < d1 * 4294967296 + d0) := by
      show V < _
      rw [hV]; exact Nat.mod_lt _ (by omega)
    clear hV
    obtain ⟨Q1, hQ⟩ : ∃ Q1, Q1 = (U * 4294967296 + u1) / (d1 * 4294967296 + d0) := ⟨_, rfl⟩
    rw [← hQ]
    have HQ := hidD hQ
    have EV : Hid (IntKind.u64.wrap (IntKind.u64.wrap (IntKind.u64.wrap ((U : Int) * 4294967296) + u1) - IntKind.u64.wrap ((Q1 : Int) * Y)) = (V : Int)) := by
      show _ = _
      rw [Mul64.mulN]
      refine half_wrap ?_ (by have h1 := HVlt.out; have h2 := HD.out.1.2; have h3 := HD.out.2.1.1; omega)
      rw [hQ, HV0.out, HYd.out, Nat.mul_comm]
      exact Nat.div_add_mod _ _
    have HG2 := hidD (guess_start hd1 hd1' HD.out.2.1.1 HD.out.2.1.2.2 HVlt.out)
    have HDD := hidD (show 2147483648 ≤ d1 ∧ d1 < 4294967296 from ⟨hd1, hd1'⟩)
    clear hQ HQ1
    go_upto_region 22 with fail
    rw [EV.out]
    go_upto_block 2 with fail
    go_cut [18, 16] (fun qv _ w1 => qv = .int .u64 ((V * 4294967296 + u0) / (d1 * 4294967296 + d0) : Nat) ∧ w1 = wc)
    case first =>
      go_wp2_with fail
      go_loop [18, 16] (fun qv rv => ∃ q r : Nat, qv = .int .u64 (q : Nat) ∧ rv = .int .u64 (r : Nat) ∧ Hid (GuessAt V u0 d1 d0 q r)) (fun qv _ => (intOf qv).toNat)
      case atStart =>
        have e1 := div_wrap (U := V) (d := d1) HG2.out.2.2.1
        refine ⟨V / d1, V % d1, by rw [e1], ?_, HG2⟩
        rw [e1, Mul64.mulN]
        have h1 := HG2.out.1
        rw [rest_wrap h1 (by have h1 := HVlt.out; have h2 := HD.out.1.2; have h3 := HD.out.2.1.1; omega)]
      case round =>
        obtain ⟨q, r, rfl, rfl, HG⟩ := hrel
        clear hd1 hd1' hhi hs hdn
        have HT : Hid ((4294967296 ≤ q ∨ 4294967296 * r + u0 < q * d0) → 1 ≤ q ∧ (q - 1) * d1 + (r + d1) = V ∧ (V * 4294967296 + u0) / (d1 * 4294967296 + d0) ≤ q - 1 ∧ q - 1 ≤ 4294967296) := fun hc => guess_step HG.out HD.out.1.1 HD.out.2.1.2.2 HVlt.out hc
        have HX : Hid (q * d0 ≤ 4294967296 * r + u0 → q = (V * 4294967296 + u0) / (d1 * 4294967296 + d0)) := fun hc => guess_exit HG.out (by have := HD.out.1.1; omega) hc
        by_cases hc : 4294967296 ≤ q
        · obtain ⟨t1, t2, t3, t4⟩ := HT.out (Or.inl hc)
          have hcI : decide ((4294967296 : Int) ≤ q) = true := decide_eq_true (by omega)
          have E1 := Hid.out (p := Hid (IntKind.u64.wrap ((q : Int) - 1) = ((q - 1 : Nat) : Int))) (sub1_wrap t1 (by have h9 : q ≤ 4294967297 := HG.out.2.2.1; omega))
          have E2 := Hid.out (p := Hid (IntKind.u64.wrap ((r : Int) + d1) = ((r + d1 : Nat) : Int))) (add_wrap (by have h1 := HG.out.2.2.2; have h2 := HD.out.1.2; omega))
          have TT := Hid.out (p := Hid ((q - 1) * d1 + (r + d1) = V ∧ (V * 4294967296 + u0) / (d1 * 4294967296 + d0) ≤ q - 1 ∧ q - 1 ≤ 4294967296)) ⟨t2, t3, t4⟩
          have HQ := hidD (show q - 1 < q by omega)
          clear hc t1 t2 t3 t4 HT HX
          go_upto_region 26 with fail
          rw [E1.out]
          go_upto_region 27 with fail
          rw [E2.out]
          generalize q - 1 = q' at *
          generalize r + d1 = r' at *
          by_cases hr : 4294967296 ≤ r'
          · have hrI : decide ((4294967296 : Int) ≤ r') = true := decide_eq_true (by omega)
            have e := guess_break TT.out.1 TT.out.2.1 TT.out.2.2 HD.out.2.1.1 (by have := HD.out.1.1; omega) hr
            have HE := Hid.out (p := Hid (q' = (V * 4294967296 + u0) / (d1 * 4294967296 + d0))) e
            clear hr e
            go_wp2
            go_meet
            case rel => exact ⟨by rw [← HE.out], rfl⟩
          · have hrI : decide ((4294967296 : Int) ≤ r') = false := decide_eq_false (by omega)
            have HR := hidD (show r' < 4294967296 by omega)
            clear hr
            go_wp2
            go_round
            case rel => exact ⟨q', r', rfl, rfl, TT.out.1, TT.out.2.1, by have h9 : q' ≤ 4294967296 := TT.out.2.2; omega, HR.out⟩
            case measure => (simp [intOf]; exact HQ.out)
        · have hcI : decide ((4294967296 : Int) ≤ q) = false := decide_eq_false (by omega)
          have hd0 := HD.out.2.1.1
          have hr4 := HG.out.2.2.2
          have hm : q * d0 < 18446744073709551616 := by
            have h1 := Nat.mul_le_mul (show q ≤ 4294967295 by omega) (show d0 ≤ 4294967295 by omega)
            omega
          have E3 : IntKind.u64.wrap ((q : Int) * d0) = ((q * d0 : Nat) : Int) := by rw [Mul64.mulN, Mul64.wrapN _ hm]
          have E4 : IntKind.u64.wrap (4294967296 * (r : Int)) = ((4294967296 * r : Nat) : Int) := by rw [IntKind.wrap_u64]; omega
          have E5 : IntKind.u64.wrap (((4294967296 * r : Nat) : Int) + u0) = ((4294967296 * r + u0 : Nat) : Int) := by rw [IntKind.wrap_u64]; have := HD.out.2.1.2.2; omega
          by_cases hc2 : 4294967296 * r + u0 < q * d0
          · obtain ⟨t1, t2, t3, t4⟩ := HT.out (Or.inr hc2)
            have hcJ : 4294967296 * r + u0 < q * d0 := hc2
            have E1 := Hid.out (p := Hid (IntKind.u64.wrap ((q : Int) - 1) = ((q - 1 : Nat) : Int))) (sub1_wrap t1 (by have h9 : q ≤ 4294967297 := HG.out.2.2.1; omega))
            have E2 := Hid.out (p := Hid (IntKind.u64.wrap ((r : Int) + d1) = ((r + d1 : Nat) : Int))) (add_wrap (by have h1 := HG.out.2.2.2; have h2 := HD.out.1.2; omega))
            have TT := Hid.out (p := Hid ((q - 1) * d1 + (r + d1) = V ∧ (V * 4294967296 + u0) / (d1 * 4294967296 + d0) ≤ q - 1 ∧ q - 1 ≤ 4294967296)) ⟨t2, t3, t4⟩
            have HQ := hidD (show q - 1 < q by omega)
            clear hc hc2 t1 t2 t3 t4 HT HX hm hd0 hr4
            generalize q * d0 = m at E3 hcJ
            generalize 4294967296 * r + u0 = t at E5 hcJ
            generalize 4294967296 * r = rr at E4 E5
            go_upto_region 26 with fail
            rw [E1.out]
            go_upto_region 27 with fail
            rw [E2.out]
            generalize q - 1 = q' at *
            generalize r + d1 = r' at *
            by_cases hr : 4294967296 ≤ r'
            · have hrI : decide ((4294967296 : Int) ≤ r') = true := decide_eq_true (by omega)
              have e := guess_break TT.out.1 TT.out.2.1 TT.out.2.2 HD.out.2.1.1 (by have := HD.out.1.1; omega) hr
              have HE := Hid.out (p := Hid (q' = (V * 4294967296 + u0) / (d1 * 4294967296 + d0))) e
              clear hr e
              go_wp2
              go_meet
              case rel => exact ⟨by rw [← HE.out], rfl⟩
            · have hrI : decide ((4294967296 : Int) ≤ r') = false := decide_eq_false (by omega)
              have HR := hidD (show r' < 4294967296 by omega)
              clear hr
              go_wp2
              go_round
              case rel => exact ⟨q', r', rfl, rfl, TT.out.1, TT.out.2.1, by have h9 : q' ≤ 4294967296 := TT.out.2.2; omega, HR.out⟩
              case measure => (simp [intOf]; exact HQ.out)
          · have HE := Hid.out (p := Hid (q = (V * 4294967296 + u0) / (d1 * 4294967296 + d0))) (HX.out (by omega))
            have hcJ : ¬ 4294967296 * r + u0 < q * d0 := hc2
            clear hc hc2 HT HX hm hd0 hr4
            generalize q * d0 = m at E3 hcJ
            generalize 4294967296 * r + u0 = t at E5 hcJ
            generalize 4294967296 * r = rr at E4 E5
            go_wp2
            go_meet
            case rel => exact ⟨by rw [← HE.out], rfl⟩
    case rest =>
      obtain ⟨rfl, rfl⟩ := hcut
      obtain ⟨Q0, hQ0⟩ : ∃ Q0, Q0 = (V * 4294967296 + u0) / (d1 * 4294967296 + d0) := ⟨_, rfl⟩
      rw [← hQ0]
      have hdp : 0 < d1 * 4294967296 + d0 := by omega
      have hN := HN.out
      have hh := halves (t := U * 4294967296 + u1) (k := 4294967296) (un0 := u0) hdp
      rw [← HQ.out, ← HV0.out, ← hQ0, hN, ← HYd.out, HYy.out] at hh
      have hsd := shift_div (a := hi * B64 + lo) (y := y) (s := s)
      rw [hsd.1, hsd.2, ← HYy.out, HYd.out] at hh
      have hlt : (hi * B64 + lo) / y < 18446744073709551616 := by
        rw [Nat.div_lt_iff_lt_mul (by omega)]
        have h1 : (hi + 1) * B64 ≤ y * B64 := Nat.mul_le_mul_right _ hhi
        have h2 := hlo
        unfold B64 at h1 ⊢
        omega
      have E6 : IntKind.u64.wrap (IntKind.u64.wrap (IntKind.u64.wrap ((V : Int) * 4294967296) + u0) - IntKind.u64.wrap ((Q0 : Int) * Y)) = (((hi * B64 + lo) % y * 2 ^ s : Nat) : Int) := by
        rw [Mul64.mulN]
        refine half_wrap ?_ ?_
        · rw [← hh.2, hQ0, HYd.out, Nat.mul_comm]
          exact Nat.div_add_mod _ _
        · rw [← hh.2]
          have h1 := Nat.mod_lt (V * 4294967296 + u0) hdp
          have h3 := HD.out.2.1.1
          omega
      have E7 : IntKind.u64.wrap (IntKind.u64.wrap ((Q1 : Int) * 4294967296) + Q0) = (((hi * B64 + lo) / y : Nat) : Int) := by
        rw [← hh.1]
        rw [← hh.1] at hlt
        simp only [IntKind.wrap_u64]
        omega
      have E8 : ((((hi * B64 + lo) % y * 2 ^ s : Nat) : Int) / 2 ^ s) = (((hi * B64 + lo) % y : Nat) : Int) := by
        rw [show ((2 : Int) ^ s) = ((2 ^ s : Nat) : Int) from by simp, ← Int.natCast_ediv, Nat.mul_div_cancel _ (Nat.two_pow_pos s)]
      clear hh hsd hN hQ0 hdp hlt EV HG2 HDD hd1 hd1' hhi hlo hdn
      obtain ⟨A, hA⟩ : ∃ A, A = (hi * B64 + lo) / y := ⟨_, rfl⟩
      obtain ⟨Bm, hBm⟩ : ∃ Bm, Bm = (hi * B64 + lo) % y := ⟨_, rfl⟩
      rw [← hA] at E7
      rw [← hBm] at E6 E8
      have HA := hidD hA
      have HBm := hidD hBm
      clear hA hBm
      generalize Bm * 2 ^ s = C at E6 E8
      go_wp2
      go_ret2
      refine ⟨?_, rfl⟩
      show Ending.returned (.tuple #[.int .u64 (A : Nat), .int .u64 (Bm : Nat)]) = _
      rw [HA.out, HBm.out]

theorem or_add {a b s : Nat} (h : b < 2 ^ s) : (a * 2 ^ s) ||| b = a * 2 ^ s + b := by
  rw [Nat.mul_comm]
  exact (Nat.two_pow_add_eq_or_of_lt h a).symm

set_option maxHeartbeats 1000000 in
set_option maxRecDepth 100000 in
theorem div64_0 (lo y : Nat) (hlo : lo < 18446744073709551616) (h0 : 0 < y) (hy : y < 18446744073709551616) (w : World) :
    Calls Tryd.prog 63 #[.int .u64 0, .int .u64 (lo : Nat), .int .u64 (y : Nat)] w fun e w' => e = .returned (.tuple #[.int .u64 ((lo / y : Nat) : Int), .int .u64 ((lo % y : Nat) : Int)]) ∧ Below w.heap.size w w' := by
  have g1 : ((y : Int) == 0) = false := beq_eq_false_iff_ne.2 (by omega)
  have g3 : ¬ (y : Int) ≤ 0 := by omega
  clear h0
  go_enter Tryd.func63, Tryd.ntmps63
  go_wp2
  go_quiet (fail)
  go_wp2
  go_ret2
  refine ⟨?_, below_drewN (Below.refl _ _) _⟩
  show Ending.returned (.tuple #[.int .u64 (IntKind.u64.wrap ((lo : Int) / y)), .int .u64 ((lo : Int) % y)]) = _
  rw [← Int.natCast_ediv, Mul64.wrapN _ (Nat.lt_of_le_of_lt (Nat.div_le_self _ _) hlo), ← Int.natCast_emod]
end Go.Proofs.YtjmmnpfedhkjbaaDoor
