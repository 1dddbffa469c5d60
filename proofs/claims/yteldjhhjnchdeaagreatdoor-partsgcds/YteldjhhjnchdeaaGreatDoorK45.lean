import Derived.Test.YteldjhhjnchdeaaGreatDoorK44
namespace Go.Proofs.YteldjhhjnchdeaaGreatDoor.M3
open Go.RowKit Go.Shelf

attribute [local go_sem] Oper.semAt_some

theorem gcdA_step (p : List Rat) (n : Nat) : ((Int.gcd ((gcdA p n : Nat) : Int) (cf p n).num : Nat) : Int) = ((gcdA p (n + 1) : Nat) : Int) := rfl
theorem lcmA_step (p : List Rat) (n : Nat) : ((Nat.lcm (lcmA p n) (cf p n).den : Nat) : Int) = ((lcmA p (n + 1) : Nat) : Int) := rfl

set_option maxRecDepth 100000 in
set_option maxHeartbeats 8000000 in
theorem cleast_c (D : Int) (M : Nat) (v : Value) (ps : List Rat) (w : World) (h : IsPoly w v ps) (htp : trimQ ps = ps) (hD : D ≠ 0) (hsD : Sm M D) (hcd : CDL D M ps) (hM : M ≤ 1000000) :
    Calls Tryz.prog 56 #[v] w fun e w' => ∃ u, e = .returned u ∧ IsPoly w' u (lstQ ps) ∧ Below w.heap.size w w' := by
  have hmx : Tryz.prog.follows .mixedOrders = true := by kernel_rfl
  obtain ⟨pa, la, pc, rfl⟩ := h.form
  obtain ⟨hla, hca, hcma, hlma, _⟩ := h.row.forms
  have hsq : ∀ i, SmQ M (cf ps i) := fun i => (hcd i).smq hD hsD
  have HG := hidD (fun i => Sok.of (gcdA_sm (fun j => (hsq j).1) i) (by omega) : ∀ i, Sok ((gcdA ps i : Nat) : Int))
  have HL := hidD (fun i => Sok.of (lcmA_sm hD hsD hcd i) (by omega) : ∀ i, Sok ((lcmA ps i : Nat) : Int))
  have HPS := hidD (show Sqs ps from Sqs.of fun i => Sq.of (hsq i) hM)
  have HF := hidD (show ps ≠ [] → Sq ((lcmA ps ps.length : Rat) / (gcdA ps ps.length : Rat)) ∧ ∀ i, Sq (cf ps i * ((lcmA ps ps.length : Rat) / (gcdA ps ps.length : Rat))) from fun h0 => by
    have h1 := lst_ln htp h0 (hcd.ln hD)
    refine ⟨?_, fun i => ?_⟩
    · have h2 : ((lcmA ps ps.length : Rat) / (gcdA ps ps.length : Rat)) = Rat.divInt ((lcmA ps ps.length : Nat) : Int) ((gcdA ps ps.length : Nat) : Int) := by rw [Rat.divInt_eq_div, Rat.intCast_natCast, Rat.intCast_natCast]
      rw [h2]
      exact Sq.of (SmQ.divInt (Int.natCast_ne_zero.2 (gcdA_ne htp h0)) (lcmA_sm hD hsD hcd _) (gcdA_sm (fun j => (hsq j).1) _)) hM
    · obtain ⟨z, h3, h4⟩ := h1 i
      have h5 : cf ps i * ((lcmA ps ps.length : Rat) / (gcdA ps ps.length : Rat)) = (z : Rat) := by rw [← h4]; unfold lstQ; rw [cf_scQ]
      rw [h5]
      have h6 : 1 ≤ M := by
        by_cases h7 : 1 ≤ M
        · exact h7
        · exfalso
          obtain rfl : M = 0 := by omega
          unfold Sm at hsD
          have : D.natAbs ≠ 0 := Int.natAbs_ne_zero.2 hD
          simp at hsD
          omega
      exact Sq.of ((mul_cd (D := 1) (by decide) h3 (by rw [show ((1 : Int) : Rat) = 1 from rfl, Rat.mul_one])).smq (by decide) (Sm.one M h6)) hM)
  have HG0 := hidD (fun h0 => gcdA_ne htp h0 : ps ≠ [] → gcdA ps ps.length ≠ 0)
  have M0 := (((Mem.nil w).push (.cell 25 (.slice pa la pc)) (cs := #[.slice pa la pc]) ⟨rfl, rfl⟩).push (.cell 25 (.slice none 0 0)) (cs := #[.slice none 0 0]) ⟨rfl, rfl⟩).push (.int 0) (cs := #[.bool false, .slice none 0 0]) (int0 _)
  simp only [World.size_alloc] at M0
  obtain ⟨W0, hW0⟩ : ∃ V, ((w.alloc (.cells #[.slice pa la pc] 25)).alloc (.cells #[.slice none 0 0] 25)).alloc (.cells #[.bool false, .slice none 0 0] 63) = V := ⟨_, rfl⟩
  have HW0 := hidD hW0
  have M1 : Hid (Mem w W0 [some (w.heap.size, .cell 25 (.slice pa la pc)), some (w.heap.size + 1, .cell 25 (.slice none 0 0)), some (w.heap.size + 1 + 1, .int (((gcdA ps 0 : Nat) : Int)))]) := hidD (by rw [← hW0]; exact M0)
  obtain ⟨n, hn⟩ : ∃ n : Nat, ps.length = n := ⟨_, rfl⟩
  obtain ⟨e0, he0⟩ : ∃ e0 : Int, (n : Int) - 1 = e0 := ⟨_, rfl⟩
  have HDG := hidD (fun (V : World) (hB : Below w.heap.size w V) => yDegree_c (.agg #[.slice pa la pc]) ps V (h.below hB))
  rw [hn, he0] at HDG
  have hd1 : e0 + 1 = (n : Int) := by omega
  have hdw : IntKind.i64.wrap (n : Int) = (n : Int) := by rw [IntKind.wrap_i64]; omega
  have HP := hidD (fun (V : World) (hB : Below w.heap.size w V) => h.below hB)
  have HN := hidD (show ps.length = n from hn)
  have hnle : n ≤ 1099511627776 := by omega
  have HOF := hidD (fun (V : World) => iof_c 1 (by omega) (by omega) V)
  clear h hla hca hcma hn he0 M0 hW0 hlma htp hD hsD hcd hM hsq
  go_enter Tryz.func56, Tryz.ntmps56
  go_upto_region 2 with fail
  rw [HW0.out]
  clear HW0
  go_upto_region 3 with (go_at_call 95; refine (HOF.out _).mono ?_; clear HOF; rintro e w1 ⟨u1, rfl, hu1, hb1⟩; obtain ⟨s1, a1, l1, c1, rfl⟩ := IsInt.form2 hu1)
  obtain ⟨V1, hV⟩ : ∃ V, w1.alloc (.cells #[.bool s1, .slice a1 l1 c1] 63) = V := ⟨_, rfl⟩
  obtain ⟨B1, hBk⟩ : ∃ B, w1.heap.size = B := ⟨_, rfl⟩
  have MM : Mem w (w1.alloc (.cells #[.bool s1, .slice a1 l1 c1] 63)) [some (w.heap.size, .cell 25 (.slice pa la pc)), some (w.heap.size + 1, .cell 25 (.slice none 0 0)), some (w.heap.size + 1 + 1, .int (((gcdA ps 0 : Nat) : Int))), some (w1.heap.size, .int (((lcmA ps 0 : Nat) : Int)))] := Mem.push (M1.out.below hb1) (.int (((lcmA ps 0 : Nat) : Int))) hu1
  rw [hV, hBk] at MM
  rw [hV]
  rw [hBk]
  have M2 : Hid (Mem w V1 [some (w.heap.size, .cell 25 (.slice pa la pc)), some (w.heap.size + 1, .cell 25 (.slice none 0 0)), some (w.heap.size + 1 + 1, .int (((gcdA ps 0 : Nat) : Int))), some (B1, .int (((lcmA ps 0 : Nat) : Int)))]) := hidD (MM)
  clear M1
  clear MM hV hBk
  clear hu1 hb1
  have c0 := (M2.out.cell (i := 0) rfl).1.cell
  go_upto_region 4 with (go_at_call 20; refine (HDG.out _ M2.out.2.2).mono ?_; clear HDG; rintro e w2 ⟨rfl, hb2⟩)
  have ML : Hid (Mem w w2 [some (w.heap.size, .cell 25 (.slice pa la pc)), some (w.heap.size + 1, .cell 25 (.slice none 0 0)), some (w.heap.size + 1 + 1, .int (((gcdA ps 0 : Nat) : Int))), some (B1, .int (((lcmA ps 0 : Nat) : Int)))]) := hidD (M2.out.below hb2)
  clear c0 hb2 M2
  go_loopw [12] (fun iv wr => ∃ i : Nat, i ≤ n ∧ iv = .int .i64 (i : Int) ∧ Hid (Mem w wr [some (w.heap.size, .cell 25 (.slice pa la pc)), some (w.heap.size + 1, .cell 25 (.slice none 0 0)), some (w.heap.size + 1 + 1, .int (((gcdA ps i : Nat) : Int))), some (B1, .int (((lcmA ps i : Nat) : Int)))])) (fun iv _ => n - (intOf iv).toNat)
  case atStart => exact ⟨0, Nat.zero_le _, rfl, ML⟩
  case round =>
    obtain ⟨i, hi, rfl, M3⟩ := hrel
    clear ML
    by_cases hlt : i < n
    · have hlt2 : (i : Int) < (n : Int) := by omega
      go_upto_region 6 with fail
      refine wp_region_tab hmx [[], [], [], [1, 2], [3, 3], [0, 4, 4], [5, 5, 0, 1, 2, 3, 4, 5]] (by kernel_rfl) (by decide)
        (fun D act V => ∃ (t15x t16x t17x t18x t19x t20x : Value) (y2 : Option (Nat × Dat)), act = { tmps := #[Value.agg #[Value.slice pa la pc], Value.pointer (some { block := w.heap.size, off := 0 }), Value.pointer (some { block := w.heap.size + 1, off := 0 }), Value.pointer (some { block := w.heap.size + 1 + 1, off := 0 }), Value.pointer (some { block := B1, off := 0 }), Value.int IntKind.i64 ↑i, undef, undef, Value.agg #[Value.bool s1, Value.slice a1 l1 c1], Value.agg #[Value.slice pa la pc], Value.int IntKind.i64 e0, Value.int IntKind.i64 ↑n, Value.int IntKind.i64 ↑i, Value.bool true, Value.int IntKind.i64 ↑i, t15x, t16x, t17x, t18x, t19x, t20x, u21, u22, u23, u24, u25, u26, u27, undef, undef, undef, undef, undef, undef, undef, undef, undef, undef, undef, undef], defers := [] } ∧ Hid ((D 0 = true → Has V t15x (.int (((gcdA ps i : Nat) : Int)))) ∧ (D 1 = true → t16x = .agg #[.slice pa la pc]) ∧ (D 2 = true → t17x = Value.int IntKind.i64 ↑i) ∧ (D 3 = true → Has V t18x (.rat (cf ps i))) ∧ (D 4 = true → Has V t19x (.int ((cf ps i).num))) ∧ (D 5 = true → Has V t20x (.int (((gcdA ps (i + 1) : Nat) : Int)))) ∧ ((D 6 = false → y2 = some (w.heap.size + 1 + 1, .int (((gcdA ps i : Nat) : Int)))) ∧ (D 6 = true → y2 = some (w.heap.size + 1 + 1, .int (((gcdA ps (i + 1) : Nat) : Int)))))) ∧ Hid (Mem w V [some (w.heap.size, .cell 25 (.slice pa la pc)), some (w.heap.size + 1, .cell 25 (.slice none 0 0)), y2, some (B1, .int (((lcmA ps i : Nat) : Int)))]))
        ⟨_, _, _, _, _, _, _, rfl, hidD ⟨by simp, by simp, by simp, by simp, by simp, by simp, ⟨fun _ => rfl, by simp⟩⟩, hidD (M3.out).drew⟩ ?step2 ?fin2
      case step2 =>
        rintro D act V i ds hcl hi hds hDi ⟨t15x, t16x, t17x, t18x, t19x, t20x, y2, rfl, GG, MM⟩
        have hi6 : i < 7 := (List.getElem?_eq_some_iff.1 hi).1
        obtain rfl | rfl | rfl | rfl | rfl | rfl | rfl : i = 0 ∨ i = 1 ∨ i = 2 ∨ i = 3 ∨ i = 4 ∨ i = 5 ∨ i = 6 := by omega
        all_goals
          simp only [List.getElem?_cons_zero, List.getElem?_cons_succ, Option.some.injEq] at hi
          subst hi
        · have hf : D 6 = false := by
            cases h : D 6 with
            | false => rfl
            | true => rw [hcl 6 _ rfl h 0 (by simp)] at hDi; cases hDi
          obtain rfl := GG.out.2.2.2.2.2.2.1 hf
          clear hds
          obtain ⟨s, a, l, c, n, i⟩ := MM.out.int (i := 2) rfl
          have e0 := n.c0
          have e1 := n.c1
          refine wpOp_go rfl rfl (fun K hK => ?_)
          go_simp
          exact hK _ _ ⟨_, _, _, _, _, _, _, rfl, hidD ⟨fun _ => i, GG.out.2.1, GG.out.2.2.1, GG.out.2.2.2.1, GG.out.2.2.2.2.1, GG.out.2.2.2.2.2.1, ⟨fun _ => rfl, fun h => by simp [hf] at h⟩⟩, hidD (MM.out)⟩
        · have e0 := (MM.out.cell (i := 0) rfl).1.cell
          clear hds
          refine wpOp_go rfl rfl (fun K hK => ?_)
          go_simp
          exact hK _ _ ⟨_, _, _, _, _, _, _, rfl, hidD ⟨GG.out.1, fun _ => rfl, GG.out.2.2.1, GG.out.2.2.2.1, GG.out.2.2.2.2.1, GG.out.2.2.2.2.2.1, GG.out.2.2.2.2.2.2⟩, hidD (MM.out)⟩
        · clear hds
          refine wpOp_go rfl rfl (fun K hK => ?_)
          go_simp
          exact hK _ _ ⟨_, _, _, _, _, _, _, rfl, hidD ⟨GG.out.1, GG.out.2.1, fun _ => rfl, GG.out.2.2.2.1, GG.out.2.2.2.2.1, GG.out.2.2.2.2.2.1, GG.out.2.2.2.2.2.2⟩, hidD (MM.out)⟩
        · obtain rfl := (GG.out.2.1 (hds 1 (by simp)))
          obtain rfl := (GG.out.2.2.1 (hds 2 (by simp)))
          have HC := hidD (yCoef_c _ ps (i : Int) V (HP.out V MM.out.2.2))
          rw [cfI_nat] at HC
          clear hds
          refine wpOp_go rfl rfl (fun K hK => ?_)
          go_simp
          go_wp2_with (go_at_call 58; refine HC.out.mono ?_; rintro e w5 ⟨v5, rfl, hv5, hb5⟩)
          exact ⟨_, _, _, _, _, _, _, rfl, hidD ⟨fun h => (GG.out.1 h).below hb5, fun _ => rfl, fun _ => rfl, fun _ => hv5, fun h => (GG.out.2.2.2.2.1 h).below hb5, fun h => (GG.out.2.2.2.2.2.1 h).below hb5, GG.out.2.2.2.2.2.2⟩, hidD (MM.out.below hb5)⟩
        · have h0 := (GG.out.2.2.2.1 (hds 3 (by simp)))
          have HC := hidD (num_c _ (cf ps i) V h0)
          clear hds h0
          refine wpOp_go rfl rfl (fun K hK => ?_)
          go_simp
          go_wp2_with (go_at_call 96; refine HC.out.mono ?_; rintro e w5 ⟨v5, rfl, hv5, hb5⟩)
          exact ⟨_, _, _, _, _, _, _, rfl, hidD ⟨fun h => (GG.out.1 h).below hb5, GG.out.2.1, GG.out.2.2.1, fun h => (GG.out.2.2.2.1 h).below hb5, fun _ => hv5, fun h => (GG.out.2.2.2.2.2.1 h).below hb5, GG.out.2.2.2.2.2.2⟩, hidD (MM.out.below hb5)⟩
        · have h0 := (GG.out.1 (hds 0 (by simp)))
          have h1 := (GG.out.2.2.2.2.1 (hds 4 (by simp)))
          have HC := hidD (igcd_c _ _ ((gcdA ps i : Nat) : Int) (cf ps i).num V h0 h1 (by have := (HG.out i).words; omega) (by have := (HPS.out.at i).num.words; omega))
          rw [gcdA_step] at HC
          clear hds h0 h1
          refine wpOp_go rfl rfl (fun K hK => ?_)
          go_simp
          go_wp2_with (go_at_call 90; refine HC.out.mono ?_; rintro e w5 ⟨v5, rfl, hv5, hb5⟩)
          exact ⟨_, _, _, _, _, _, _, rfl, hidD ⟨fun h => (GG.out.1 h).below hb5, GG.out.2.1, GG.out.2.2.1, fun h => (GG.out.2.2.2.1 h).below hb5, fun h => (GG.out.2.2.2.2.1 h).below hb5, fun _ => hv5, GG.out.2.2.2.2.2.2⟩, hidD (MM.out.below hb5)⟩
        · obtain rfl := GG.out.2.2.2.2.2.2.1 hDi
          have hv := (GG.out.2.2.2.2.2.1 (hds 5 (by simp)))
          obtain ⟨s1, a1, l1, c1, rfl⟩ := IsInt.form2 (show IsInt V _ _ from hv)
          obtain ⟨s, a, l, c, n, i⟩ := MM.out.int (i := 2) rfl
          have e0 := n.c0
          have f0 := n.f0
          have e1 := n.c1
          have f1 := n.f1
          clear hds
          refine wpOp_go rfl rfl (fun K hK => ?_)
          go_simp
          exact hK _ _ ⟨_, _, _, _, _, _, _, rfl, hidD ⟨fun h => (GG.out.1 h).set2 n rfl rfl _ _, GG.out.2.1, GG.out.2.2.1, fun h => (GG.out.2.2.2.1 h).set2 n rfl rfl _ _, fun h => (GG.out.2.2.2.2.1 h).set2 n rfl rfl _ _, fun h => (GG.out.2.2.2.2.2.1 h).set2 n rfl rfl _ _, ⟨fun h => by simp at h, fun _ => rfl⟩⟩, hidD (MM.out.putInt (i := 2) rfl hv)⟩
      rintro D act V3 hDD ⟨t15x, t16x, t17x, t18x, t19x, t20x, y2, rfl, GG, MM⟩
      obtain rfl := GG.out.2.2.2.2.2.2.2 (hDD 6 (by decide))
      obtain rfl := GG.out.2.1 (hDD 1 (by decide))
      obtain rfl := GG.out.2.2.1 (hDD 2 (by decide))
      clear GG hDD M3
      have M4 : Hid (Mem w V3 [some (w.heap.size, .cell 25 (.slice pa la pc)), some (w.heap.size + 1, .cell 25 (.slice none 0 0)), some (w.heap.size + 1 + 1, .int (((gcdA ps (i + 1) : Nat) : Int))), some (B1, .int (((lcmA ps i : Nat) : Int)))]) := MM
      clear MM
      go_upto_region 7 with fail
      refine wp_region_tab hmx [[], [], [], [1, 2], [3, 3], [0, 4, 4], [5, 5, 0, 1, 2, 3, 4, 5]] (by kernel_rfl) (by decide)
        (fun D act V => ∃ (t21x t22x t23x t24x t25x t26x : Value) (y3 : Option (Nat × Dat)), act = { tmps := #[Value.agg #[Value.slice pa la pc], Value.pointer (some { block := w.heap.size, off := 0 }), Value.pointer (some { block := w.heap.size + 1, off := 0 }), Value.pointer (some { block := w.heap.size + 1 + 1, off := 0 }), Value.pointer (some { block := B1, off := 0 }), Value.int IntKind.i64 ↑i, undef, undef, Value.agg #[Value.bool s1, Value.slice a1 l1 c1], Value.agg #[Value.slice pa la pc], Value.int IntKind.i64 e0, Value.int IntKind.i64 ↑n, Value.int IntKind.i64 ↑i, Value.bool true, Value.int IntKind.i64 ↑i, t15x, Value.agg #[Value.slice pa la pc], Value.int IntKind.i64 ↑i, t18x, t19x, t20x, t21x, t22x, t23x, t24x, t25x, t26x, u27, undef, undef, undef, undef, undef, undef, undef, undef, undef, undef, undef, undef], defers := [] } ∧ Hid ((D 0 = true → Has V t21x (.int (((lcmA ps i : Nat) : Int)))) ∧ (D 1 = true → t22x = .agg #[.slice pa la pc]) ∧ (D 2 = true → t23x = Value.int IntKind.i64 ↑i) ∧ (D 3 = true → Has V t24x (.rat (cf ps i))) ∧ (D 4 = true → Has V t25x (.int (((cf ps i).den : Int)))) ∧ (D 5 = true → Has V t26x (.int (((lcmA ps (i + 1) : Nat) : Int)))) ∧ ((D 6 = false → y3 = some (B1, .int (((lcmA ps i : Nat) : Int)))) ∧ (D 6 = true → y3 = some (B1, .int (((lcmA ps (i + 1) : Nat) : Int)))))) ∧ Hid (Mem w V [some (w.heap.size, .cell 25 (.slice pa la pc)), some (w.heap.size + 1, .cell 25 (.slice none 0 0)), some (w.heap.size + 1 + 1, .int (((gcdA ps (i + 1) : Nat) : Int))), y3]))
        ⟨_, _, _, _, _, _, _, rfl, hidD ⟨by simp, by simp, by simp, by simp, by simp, by simp, ⟨fun _ => rfl, by simp⟩⟩, hidD (M4.out).drew⟩ ?step4 ?fin4
      case step4 =>
        rintro D act V i ds hcl hi hds hDi ⟨t21x, t22x, t23x, t24x, t25x, t26x, y3, rfl, GG, MM⟩
        have hi6 : i < 7 := (List.getElem?_eq_some_iff.1 hi).1
        obtain rfl | rfl | rfl | rfl | rfl | rfl | rfl : i = 0 ∨ i = 1 ∨ i = 2 ∨ i = 3 ∨ i = 4 ∨ i = 5 ∨ i = 6 := by omega
        all_goals
          simp only [List.getElem?_cons_zero, List.getElem?_cons_succ, Option.some.injEq] at hi
          subst hi
        · have hf : D 6 = false := by
            cases h : D 6 with
            | false => rfl
            | true => rw [hcl 6 _ rfl h 0 (by simp)] at hDi; cases hDi
          obtain rfl := GG.out.2.2.2.2.2.2.1 hf
          clear hds
          obtain ⟨s, a, l, c, n, i⟩ := MM.out.int (i := 3) rfl
          have e0 := n.c0
          have e1 := n.c1
          refine wpOp_go rfl rfl (fun K hK => ?_)
          go_simp
          exact hK _ _ ⟨_, _, _, _, _, _, _, rfl, hidD ⟨fun _ => i, GG.out.2.1, GG.out.2.2.1, GG.out.2.2.2.1, GG.out.2.2.2.2.1, GG.out.2.2.2.2.2.1, ⟨fun _ => rfl, fun h => by simp [hf] at h⟩⟩, hidD (MM.out)⟩
        · have e0 := (MM.out.cell (i := 0) rfl).1.cell
          clear hds
          refine wpOp_go rfl rfl (fun K hK => ?_)
          go_simp
          exact hK _ _ ⟨_, _, _, _, _, _, _, rfl, hidD ⟨GG.out.1, fun _ => rfl, GG.out.2.2.1, GG.out.2.2.2.1, GG.out.2.2.2.2.1, GG.out.2.2.2.2.2.1, GG.out.2.2.2.2.2.2⟩, hidD (MM.out)⟩
        · clear hds
          refine wpOp_go rfl rfl (fun K hK => ?_)
          go_simp
          exact hK _ _ ⟨_, _, _, _, _, _, _, rfl, hidD ⟨GG.out.1, GG.out.2.1, fun _ => rfl, GG.out.2.2.2.1, GG.out.2.2.2.2.1, GG.out.2.2.2.2.2.1, GG.out.2.2.2.2.2.2⟩, hidD (MM.out)⟩
        · obtain rfl := (GG.out.2.1 (hds 1 (by simp)))
          obtain rfl := (GG.out.2.2.1 (hds 2 (by simp)))
          have HC := hidD (yCoef_c _ ps (i : Int) V (HP.out V MM.out.2.2))
          rw [cfI_nat] at HC
          clear hds
          refine wpOp_go rfl rfl (fun K hK => ?_)
          go_simp
          go_wp2_with (go_at_call 58; refine HC.out.mono ?_; rintro e w5 ⟨v5, rfl, hv5, hb5⟩)
          exact ⟨_, _, _, _, _, _, _, rfl, hidD ⟨fun h => (GG.out.1 h).below hb5, fun _ => rfl, fun _ => rfl, fun _ => hv5, fun h => (GG.out.2.2.2.2.1 h).below hb5, fun h => (GG.out.2.2.2.2.2.1 h).below hb5, GG.out.2.2.2.2.2.2⟩, hidD (MM.out.below hb5)⟩
        · have h0 := (GG.out.2.2.2.1 (hds 3 (by simp)))
          have HC := hidD (den_c _ (cf ps i) V h0)
          clear hds h0
          refine wpOp_go rfl rfl (fun K hK => ?_)
          go_simp
          go_wp2_with (go_at_call 86; refine HC.out.mono ?_; rintro e w5 ⟨v5, rfl, hv5, hb5⟩)
          exact ⟨_, _, _, _, _, _, _, rfl, hidD ⟨fun h => (GG.out.1 h).below hb5, GG.out.2.1, GG.out.2.2.1, fun h => (GG.out.2.2.2.1 h).below hb5, fun _ => hv5, fun h => (GG.out.2.2.2.2.2.1 h).below hb5, GG.out.2.2.2.2.2.2⟩, hidD (MM.out.below hb5)⟩
        · have h0 := (GG.out.1 (hds 0 (by simp)))
          have h1 := (GG.out.2.2.2.2.1 (hds 4 (by simp)))
          have HC := hidD (cmultiple_c _ _ (lcmA ps i) (cf ps i).den V h0 h1 (lcmA_pos ps i) (HL.out i) (HPS.out.at i).den)
          rw [lcmA_step] at HC
          clear hds h0 h1
          refine wpOp_go rfl rfl (fun K hK => ?_)
          go_simp
          go_wp2_with (go_at_call 97; refine HC.out.mono ?_; rintro e w5 ⟨v5, rfl, hv5, hb5⟩)
          exact ⟨_, _, _, _, _, _, _, rfl, hidD ⟨fun h => (GG.out.1 h).below hb5, GG.out.2.1, GG.out.2.2.1, fun h => (GG.out.2.2.2.1 h).below hb5, fun h => (GG.out.2.2.2.2.1 h).below hb5, fun _ => hv5, GG.out.2.2.2.2.2.2⟩, hidD (MM.out.below hb5)⟩
        · obtain rfl := GG.out.2.2.2.2.2.2.1 hDi
          have hv := (GG.out.2.2.2.2.2.1 (hds 5 (by simp)))
          obtain ⟨s1, a1, l1, c1, rfl⟩ := IsInt.form2 (show IsInt V _ _ from hv)
          obtain ⟨s, a, l, c, n, i⟩ := MM.out.int (i := 3) rfl
          have e0 := n.c0
          have f0 := n.f0
          have e1 := n.c1
          have f1 := n.f1
          clear hds
          refine wpOp_go rfl rfl (fun K hK => ?_)
          go_simp
          exact hK _ _ ⟨_, _, _, _, _, _, _, rfl, hidD ⟨fun h => (GG.out.1 h).set2 n rfl rfl _ _, GG.out.2.1, GG.out.2.2.1, fun h => (GG.out.2.2.2.1 h).set2 n rfl rfl _ _, fun h => (GG.out.2.2.2.2.1 h).set2 n rfl rfl _ _, fun h => (GG.out.2.2.2.2.2.1 h).set2 n rfl rfl _ _, ⟨fun h => by simp at h, fun _ => rfl⟩⟩, hidD (MM.out.putInt (i := 3) rfl hv)⟩
      rintro D act V5 hDD ⟨t21x, t22x, t23x, t24x, t25x, t26x, y3, rfl, GG, MM⟩
      obtain rfl := GG.out.2.2.2.2.2.2.2 (hDD 6 (by decide))
      obtain rfl := GG.out.2.1 (hDD 1 (by decide))
      obtain rfl := GG.out.2.2.1 (hDD 2 (by decide))
      clear GG hDD M4
      have M5 : Hid (Mem w V5 [some (w.heap.size, .cell 25 (.slice pa la pc)), some (w.heap.size + 1, .cell 25 (.slice none 0 0)), some (w.heap.size + 1 + 1, .int (((gcdA ps (i + 1) : Nat) : Int))), some (B1, .int (((lcmA ps (i + 1) : Nat) : Int)))]) := MM
      clear MM
      go_wp2_with fail
      go_roundw
      case rel => exact ⟨i + 1, by omega, by go_num, M5⟩
      case measure => simp [intOf]; omega
    · obtain rfl : i = n := by omega
      obtain ⟨s6, a6, l6, c6, n6, i6⟩ := M3.out.int (i := 2) rfl
      have e6a := n6.c0
      have e6b := n6.c1
      obtain ⟨s7, a7, l7, c7, n7, i7⟩ := M3.out.int (i := 3) rfl
      have e7a := n7.c0
      have e7b := n7.c1
      have H1 := hidD (rof_c _ _ ((lcmA ps i : Nat) : Int) ((gcdA ps i : Nat) : Int) wr i7 i6 (HL.out i) (HG.out i))
      have hcR := (M3.out.cell (i := 1) rfl).1
      obtain ⟨r9, hr9⟩ : ∃ r, Rat.divInt ((lcmA ps i : Nat) : Int) ((gcdA ps i : Nat) : Int) = r := ⟨_, rfl⟩
      rw [hr9] at H1
      have HR9 := hidD hr9
      clear hr9
      by_cases h0 : ps = []
      · have HB := hidD (show decide (((gcdA ps i : Nat) : Int) ≠ 0) = false by rw [← HN.out, h0]; decide)
        rw [HB.out] at H1
        have HE := hidD (show lstQ ps = [] by rw [h0]; rfl)
        clear h0 HB
        go_wp2_with (go_at_call 84; refine H1.out.mono ?_; clear H1; rintro e w4 ⟨u4, rfl, hu4, hb4⟩; obtain ⟨s9, a9, l9, c9, t9, b9, k9, d9, rfl⟩ := IsRat.form hu4; have n5 := boxed_below (boxed_below hcR hb4) ((Below.refl _ w4).alloc (Nat.le_refl _) (.cells #[.bool s9, .slice a9 l9 c9, .bool t9, .slice b9 k9 d9] 65)); have x0 := n5.cell; have x1 := n5.frozen)
        rw [HE.out]
        exact bodyPost_ret (v := .agg #[.slice none 0 0]) (by simp [results, Tryz.results56, go_sem, x0]) rfl ⟨_, rfl, poly_zero _, ((M3.out.2.2.trans (hb4.mono M3.out.2.2.size)).alloc (by have := M3.out.2.2.size; have := hb4.size; omega) _).setCell (p := ⟨w.heap.size + 1, 0, none⟩) (by show w.heap.size ≤ w.heap.size + 1; omega) _⟩
      · have HB := hidD (show decide (((gcdA ps i : Nat) : Int) ≠ 0) = true by
          refine decide_eq_true ?_
          rw [← HN.out]
          exact Int.natCast_ne_zero.2 (HG0.out h0))
        rw [HB.out] at H1
        have HE := hidD (show r9 = (lcmA ps ps.length : Rat) / (gcdA ps ps.length : Rat) by rw [← HR9.out, Rat.divInt_eq_div, Rat.intCast_natCast, Rat.intCast_natCast, HN.out])
        have HT := hidD (show scQ r9 ps = lstQ ps by rw [HE.out]; rfl)
        have HS := hidD (show Sq r9 ∧ ∀ j, Sq (cf ps j * r9) by rw [HE.out]; exact HF.out h0)
        clear h0 HB
        have H2 := hidD (fun (V : World) (hB : Below w.heap.size w V) (x : Value) (hx : IsRat V x r9) => cscaled_c (.agg #[.slice pa la pc]) x ps r9 V (HP.out V hB) hx HPS.out HS.out.1 HS.out.2)
        rw [HT.out] at H2
        go_upto_region 12 with (go_at_call 84; refine H1.out.mono ?_; clear H1; rintro e w4 ⟨u4, rfl, hu4, hb4⟩; obtain ⟨s9, a9, l9, c9, t9, b9, k9, d9, rfl⟩ := IsRat.form hu4)
        clear e6a e6b e7a e7b
        obtain ⟨V8, hV⟩ : ∃ V, w4.alloc (.cells #[.bool s9, .slice a9 l9 c9, .bool t9, .slice b9 k9 d9] 65) = V := ⟨_, rfl⟩
        obtain ⟨B8, hBk⟩ : ∃ B, w4.heap.size = B := ⟨_, rfl⟩
        have MM : Mem w (w4.alloc (.cells #[.bool s9, .slice a9 l9 c9, .bool t9, .slice b9 k9 d9] 65)) [some (w.heap.size, .cell 25 (.slice pa la pc)), some (w.heap.size + 1, .cell 25 (.slice none 0 0)), some (w.heap.size + 1 + 1, .int (((gcdA ps i : Nat) : Int))), some (B1, .int (((lcmA ps i : Nat) : Int))), some (w4.heap.size, .rat (r9))] := Mem.push (M3.out.below hb4) (.rat (r9)) hu4
        rw [hV, hBk] at MM
        rw [hV]
        rw [hBk]
        have M4 : Hid (Mem w V8 [some (w.heap.size, .cell 25 (.slice pa la pc)), some (w.heap.size + 1, .cell 25 (.slice none 0 0)), some (w.heap.size + 1 + 1, .int (((gcdA ps i : Nat) : Int))), some (B1, .int (((lcmA ps i : Nat) : Int))), some (B8, .rat (r9))]) := hidD (MM)
        clear M3
        clear MM hV hBk
        obtain ⟨s9, a9, l9, c9, t9, b9, k9, d9, n9, r9, i9, j9⟩ := M4.out.rat (i := 4) rfl
        have e9a := n9.c0
        have e9b := n9.c1
        have e9c := n9.c2
        have e9d := n9.c3
        have c0 := (M4.out.cell (i := 0) rfl).1.cell
        have n1 := (M4.out.cell (i := 1) rfl).1
        have HQ := hidD M4.out.2.2
        go_wp2_with (go_at_call 98; refine (H2.out _ HQ.out _ r9).mono ?_; clear H2; rintro e w5 ⟨u5, rfl, hu5, hb5⟩; obtain ⟨a7, l7, c7, rfl⟩ := hu5.form; have n5 := boxed_below n1 hb5; have x0 := n5.cell; have x1 := n5.frozen; have HU5 := hidD (boxPoly n5 (x := .slice a7 l7 c7) hu5); have HB5 := hidD ((HQ.out.trans (hb5.mono HQ.out.size)).setCell (p := ⟨w.heap.size + 1, 0, none⟩) (by show w.heap.size ≤ w.heap.size + 1; omega) (.slice a7 l7 c7)); clear hu5 hb5 n5)
        exact bodyPost_ret (v := .agg #[.slice a7 l7 c7]) (by simp [results, Tryz.results56, go_sem, x0]) rfl ⟨_, rfl, HU5.out, HB5.out⟩
end Go.Proofs.YteldjhhjnchdeaaGreatDoor.M3
namespace Go.Proofs.YteldjhhjnchdeaaGreatDoor.M3
open Go.RowKit Go.Shelf

attribute [local go_sem] Oper.semAt_some

set_option maxRecDepth 100000 in
set_option maxHeartbeats 8000000 in
theorem cwidened_c (va vb : Value) (ps qs : List Rat) (w : World) (ha : IsPoly w va ps) (hb : IsPoly w vb qs) (hps : Sqs ps) (hqs : Sqs qs) (hq0 : qs ≠ []) (hpw : ∀ i, i ≤ ps.length + 1 - qs.length → Sq (absQ (cf qs (qs.length - 1)) ^ i)) (hsr : ∀ i, Sq (cf ps i * widF ps qs)) :
    Calls Tryz.prog 99 #[va, vb] w fun e w' => ∃ u, e = .returned u ∧ IsPoly w' u (widQ ps qs) ∧ Below w.heap.size w w' := by
  obtain ⟨m, hm⟩ : ∃ m : Nat, qs.length - 1 = m := ⟨_, rfl⟩
  have hql : 0 < qs.length := List.length_pos_iff.2 hq0
  have hlp : ps.length ≤ 1099511627776 := by
    obtain ⟨pa, la, pc, rfl⟩ := ha.form
    have := ha.row.forms
    omega
  have hlq : qs.length ≤ 1099511627776 := by
    obtain ⟨qa, lb, qc, rfl⟩ := hb.form
    have := hb.row.forms
    omega
  obtain ⟨L, hL⟩ : ∃ L : Rat, absQ (cf qs m) = L := ⟨_, rfl⟩
  obtain ⟨N, hN⟩ : ∃ N : Nat, ps.length + 1 - qs.length = N := ⟨_, rfl⟩
  obtain ⟨e1, he1⟩ : ∃ e : Int, (ps.length : Int) - 1 = e := ⟨_, rfl⟩
  have he2 : (qs.length : Int) - 1 = (m : Int) := by omega
  obtain ⟨e3, he3⟩ : ∃ e : Int, e1 - (m : Int) = e := ⟨_, rfl⟩
  obtain ⟨e4, he4⟩ : ∃ e : Int, e3 + 1 = e := ⟨_, rfl⟩
  have hw3 : IntKind.i64.wrap e3 = e3 := by rw [IntKind.wrap_i64]; omega
  have hw4 : IntKind.i64.wrap e4 = e4 := by rw [IntKind.wrap_i64]; omega
  have HN4 := hidD (show (∀ i : Nat, (i : Int) < e4 ↔ i < N) ∧ N ≤ 1099511627777 from ⟨fun i => by omega, by omega⟩)
  have HE2 := hidD he2
  have HE1 := hidD he1
  have HLL := hidD hL
  have HPW := hidD (show ∀ i, i ≤ N → Sq (L ^ i) from fun i hi => by rw [← hL, ← hm]; exact hpw i (by omega))
  have HT := hidD (show scQ (L ^ N) ps = widQ ps qs by unfold widQ widF; rw [hm, hL, hN])
  have HSR := hidD (show ∀ i, Sq (cf ps i * L ^ N) from fun i => by have := hsr i; unfold widF at this; rwa [hm, hL, hN] at this)
  have HPS := hidD hps
  have HQS := hidD hqs
  clear hpw hsr hps hqs hq0 hN hL hm hql hlp hlq he1 he2
  have hmx : Tryz.prog.follows .mixedOrders = true := by kernel_rfl
  obtain ⟨pa, la, pc, rfl⟩ := ha.form
  obtain ⟨qa, lb, qc, rfl⟩ := hb.form
  have M0 := (((Mem.nil w).push (.cell 25 (.slice pa la pc)) (cs := #[.slice pa la pc]) ⟨rfl, rfl⟩).push (.cell 25 (.slice qa lb qc)) (cs := #[.slice qa lb qc]) ⟨rfl, rfl⟩).push (.cell 25 (.slice none 0 0)) (cs := #[.slice none 0 0]) ⟨rfl, rfl⟩
  simp only [World.size_alloc] at M0
  obtain ⟨W0, hW0⟩ : ∃ V, ((w.alloc (.cells #[.slice pa la pc] 25)).alloc (.cells #[.slice qa lb qc] 25)).alloc (.cells #[.slice none 0 0] 25) = V := ⟨_, rfl⟩
  have HW0 := hidD hW0
  have HP := hidD (fun (V : World) (hB : Below w.heap.size w V) => ha.below hB)
  have HQ := hidD (fun (V : World) (hB : Below w.heap.size w V) => hb.below hB)
  have M1 : Hid (Mem w W0 [some (w.heap.size, .cell 25 (.slice pa la pc)), some (w.heap.size + 1, .cell 25 (.slice qa lb qc)), some (w.heap.size + 1 + 1, .cell 25 (.slice none 0 0))]) := hidD (by rw [← hW0]; exact M0)
  clear M0 hW0 ha hb
  go_enter Tryz.func99, Tryz.ntmps99
  go_upto_region 1 with fail
  rw [HW0.out]
  clear HW0
  refine wp_region_tab hmx [[], [], [1], [0, 2, 2], [3, 3], [], [5, 4, 4, 0, 1, 2, 3, 4, 5]] (by kernel_rfl) (by decide)
    (fun D act V => ∃ (t8x t9x t10x t11x t12x t5x : Value) (x5 : Option (Nat × Dat)), act = { tmps := #[Value.agg #[Value.slice pa la pc], Value.agg #[Value.slice qa lb qc], Value.pointer (some { block := w.heap.size, off := 0 }), Value.pointer (some { block := w.heap.size + 1, off := 0 }), Value.pointer (some { block := w.heap.size + 1 + 1, off := 0 }), t5x, undef, undef, t8x, t9x, t10x, t11x, t12x, undef, undef, undef, undef, undef, undef, undef, undef, undef, undef, undef, undef, undef, undef, undef, undef, undef, undef, undef, undef, undef], defers := [] } ∧ Hid ((D 0 = true → t8x = .agg #[.slice qa lb qc]) ∧ (D 1 = true → t9x = .agg #[.slice qa lb qc]) ∧ (D 2 = true → t10x = .int .i64 (m : Int)) ∧ (D 3 = true → Has V t11x (.rat (cf qs m))) ∧ (D 4 = true → Has V t12x (.rat (L))) ∧ ((D 5 = false → x5 = none) ∧ (D 5 = true → D 6 = false → ∃ B : Nat, t5x = .pointer (some ⟨B, 0, none⟩) ∧ x5 = some (B, .rat 0)) ∧ (D 6 = true → ∃ B : Nat, t5x = .pointer (some ⟨B, 0, none⟩) ∧ x5 = some (B, .rat (L))))) ∧ Hid (Mem w V [some (w.heap.size, .cell 25 (.slice pa la pc)), some (w.heap.size + 1, .cell 25 (.slice qa lb qc)), some (w.heap.size + 1 + 1, .cell 25 (.slice none 0 0)), x5]))
    ⟨_, _, _, _, _, _, none, rfl, hidD ⟨by simp, by simp, by simp, by simp, by simp, by simp⟩, hidD ((M1.out).none).drew⟩ ?step1 ?fin1
  case step1 =>
    rintro D act V i ds hcl hi hds hDi ⟨t8x, t9x, t10x, t11x, t12x, t5x, x5, rfl, GG, MM⟩
    have hi6 : i < 7 := (List.getElem?_eq_some_iff.1 hi).1
    obtain rfl | rfl | rfl | rfl | rfl | rfl | rfl : i = 0 ∨ i = 1 ∨ i = 2 ∨ i = 3 ∨ i = 4 ∨ i = 5 ∨ i = 6 := by omega
    all_goals
      simp only [List.getElem?_cons_zero, List.getElem?_cons_succ, Option.some.injEq] at hi
      subst hi
    · have e0 := (MM.out.cell (i := 1) rfl).1.cell
      clear hds
      refine wpOp_go rfl rfl (fun K hK => ?_)
      go_simp
      exact hK _ _ ⟨_, _, _, _, _, _, _, rfl, hidD ⟨fun _ => rfl, GG.out.2.1, GG.out.2.2.1, GG.out.2.2.2.1, GG.out.2.2.2.2.1, GG.out.2.2.2.2.2⟩, hidD (MM.out)⟩
    · have e0 := (MM.out.cell (i := 1) rfl).1.cell
      clear hds
      refine wpOp_go rfl rfl (fun K hK => ?_)
      go_simp
      exact hK _ _ ⟨_, _, _, _, _, _, _, rfl, hidD ⟨GG.out.1, fun _ => rfl, GG.out.2.2.1, GG.out.2.2.2.1, GG.out.2.2.2.2.1, GG.out.2.2.2.2.2⟩, hidD (MM.out)⟩
    · obtain rfl := (GG.out.2.1 (hds 1 (by simp)))
      have HC := hidD (yDegree_c _ qs V (HQ.out V MM.out.2.2))
      rw [HE2.out] at HC
      clear hds
      refine wpOp_go rfl rfl (fun K hK => ?_)
      go_simp
      go_wp2_with (go_at_call 20; refine HC.out.mono ?_; rintro e w5 ⟨rfl, hb5⟩)
      exact ⟨_, _, _, _, _, _, _, rfl, hidD ⟨GG.out.1, fun _ => rfl, fun _ => rfl, fun h => (GG.out.2.2.2.1 h).below hb5, fun h => (GG.out.2.2.2.2.1 h).below hb5, GG.out.2.2.2.2.2⟩, hidD (MM.out.below hb5)⟩
    · obtain rfl := (GG.out.1 (hds 0 (by simp)))
      obtain rfl := (GG.out.2.2.1 (hds 2 (by simp)))
      have HC := hidD (yCoef_c _ qs (m : Int) V (HQ.out V MM.out.2.2))
      rw [cfI_nat] at HC
      clear hds
      refine wpOp_go rfl rfl (fun K hK => ?_)
      go_simp
      go_wp2_with (go_at_call 58; refine HC.out.mono ?_; rintro e w5 ⟨v5, rfl, hv5, hb5⟩)
      exact ⟨_, _, _, _, _, _, _, rfl, hidD ⟨fun _ => rfl, GG.out.2.1, fun _ => rfl, fun _ => hv5, fun h => (GG.out.2.2.2.2.1 h).below hb5, GG.out.2.2.2.2.2⟩, hidD (MM.out.below hb5)⟩
    · have h0 := (GG.out.2.2.2.1 (hds 3 (by simp)))
      have HC := hidD (csize_c _ (cf qs m) V h0 (HQS.out.at m))
      rw [HLL.out] at HC
      clear hds h0
      refine wpOp_go rfl rfl (fun K hK => ?_)
      go_simp
      go_wp2_with (go_at_call 129; refine HC.out.mono ?_; rintro e w5 ⟨v5, rfl, hv5, hb5⟩)
      exact ⟨_, _, _, _, _, _, _, rfl, hidD ⟨GG.out.1, GG.out.2.1, GG.out.2.2.1, fun h => (GG.out.2.2.2.1 h).below hb5, fun _ => hv5, GG.out.2.2.2.2.2⟩, hidD (MM.out.below hb5)⟩
    · have hf : D 6 = false := by
        cases h : D 6 with
        | false => rfl
        | true => rw [hcl 6 _ rfl h 5 (by simp)] at hDi; cases hDi
      obtain rfl := GG.out.2.2.2.2.2.1 hDi
      clear hds
      refine wpOp_go rfl rfl (fun K hK => ?_)
      go_simp
      exact hK _ _ ⟨_, _, _, _, _, _, _, rfl, hidD ⟨GG.out.1, GG.out.2.1, GG.out.2.2.1, fun h => (GG.out.2.2.2.1 h).alloc _, fun h => (GG.out.2.2.2.2.1 h).alloc _, ⟨fun h => by simp at h, fun _ _ => ⟨_, rfl, rfl⟩, fun h => by simp [hf] at h⟩⟩, hidD (MM.out.fill (i := 3) rfl (.rat 0) (rat0 _))⟩
    · obtain ⟨B, rfl, rfl⟩ := GG.out.2.2.2.2.2.2.1 (hds 5 (by simp)) hDi
      have hds0 := hds 5 (by simp)
      have hv := (GG.out.2.2.2.2.1 (hds 4 (by simp)))
      obtain ⟨s1, a1, l1, c1, t1, b1, k1, d1, rfl⟩ := IsRat.form (show IsRat V _ _ from hv)
      obtain ⟨s, a, l, c, t, b, k, d, n, r, i, j⟩ := MM.out.rat (i := 3) rfl
      have e0 := n.c0
      have f0 := n.f0
      have e1 := n.c1
      have f1 := n.f1
      have e2 := n.c2
      have f2 := n.f2
      have e3 := n.c3
      have f3 := n.f3
      clear hds
      refine wpOp_go rfl rfl (fun K hK => ?_)
      go_simp
      exact hK _ _ ⟨_, _, _, _, _, _, _, rfl, hidD ⟨GG.out.1, GG.out.2.1, GG.out.2.2.1, fun h => (GG.out.2.2.2.1 h).put4 n rfl rfl rfl rfl _ _ _ _, fun h => (GG.out.2.2.2.2.1 h).put4 n rfl rfl rfl rfl _ _ _ _, ⟨fun h => by simp [hds0] at h, fun _ h => by simp at h, fun _ => ⟨B, rfl, rfl⟩⟩⟩, hidD (MM.out.putRat (i := 3) rfl hv)⟩
  rintro D act V2 hDD ⟨t8x, t9x, t10x, t11x, t12x, t5x, x5, rfl, GG, MM⟩
  obtain ⟨B3, rfl, rfl⟩ := GG.out.2.2.2.2.2.2.2 (hDD 6 (by decide))
  obtain rfl := GG.out.1 (hDD 0 (by decide))
  obtain rfl := GG.out.2.1 (hDD 1 (by decide))
  obtain rfl := GG.out.2.2.1 (hDD 2 (by decide))
  clear GG hDD M1
  have M2 : Hid (Mem w V2 [some (w.heap.size, .cell 25 (.slice pa la pc)), some (w.heap.size + 1, .cell 25 (.slice qa lb qc)), some (w.heap.size + 1 + 1, .cell 25 (.slice none 0 0)), some (B3, .rat (L))]) := MM
  clear MM
  have HA := hidD (fun (V : World) => iof_c 1 (by omega) (by omega) V)
  have HB := HA
  have HC := hidD (fun (V : World) (x y : Value) (hx : IsInt V x 1) (hy : IsInt V y 1) => rof_c x y 1 1 V hx hy Sok.one Sok.one)
  rw [show decide ((1 : Int) ≠ 0) = true from rfl, show Rat.divInt 1 1 = L ^ 0 by rw [Rat.pow_zero]; rfl] at HC
  go_upto_region 3 with (first
    | (go_at_call 95; refine (HA.out _).mono ?_; clear HA; rintro e w3 ⟨u3, rfl, hu3, hb3⟩)
    | (go_at_call 95; refine (HB.out _).mono ?_; clear HB; rintro e w4 ⟨u4, rfl, hu4, hb4⟩; have hu3 := hu3.below hb4)
    | (go_at_call 84; refine (HC.out _ _ _ hu3 hu4).mono ?_; clear HC; rintro e w5 ⟨u5, rfl, hu5, hb5⟩; obtain ⟨s9, a9, l9, c9, t9, b9, k9, d9, rfl⟩ := IsRat.form hu5))
  obtain ⟨V4, hV⟩ : ∃ V, w5.alloc (.cells #[.bool s9, .slice a9 l9 c9, .bool t9, .slice b9 k9 d9] 65) = V := ⟨_, rfl⟩
  obtain ⟨B4, hBk⟩ : ∃ B, w5.heap.size = B := ⟨_, rfl⟩
  have MM : Mem w (w5.alloc (.cells #[.bool s9, .slice a9 l9 c9, .bool t9, .slice b9 k9 d9] 65)) [some (w.heap.size, .cell 25 (.slice pa la pc)), some (w.heap.size + 1, .cell 25 (.slice qa lb qc)), some (w.heap.size + 1 + 1, .cell 25 (.slice none 0 0)), some (B3, .rat (L)), some (w5.heap.size, .rat (L ^ 0))] := Mem.push (((M2.out.below hb3).below hb4).below hb5) (.rat (L ^ 0)) hu5
  rw [hV, hBk] at MM
  rw [hV]
  rw [hBk]
  have M3 : Hid (Mem w V4 [some (w.heap.size, .cell 25 (.slice pa la pc)), some (w.heap.size + 1, .cell 25 (.slice qa lb qc)), some (w.heap.size + 1 + 1, .cell 25 (.slice none 0 0)), some (B3, .rat (L)), some (B4, .rat (L ^ 0))]) := hidD (MM)
  clear M2
  clear MM hV hBk
  clear hu3 hu4 hu5 hb3 hb4 hb5
  refine wp_region_tab hmx [[], [0], [], [2, 1], [1, 3], [4], []] (by kernel_rfl) (by decide)
    (fun D act V => ∃ (t19x t20x t21x t22x t23x t24x t25x : Value), act = { tmps := #[Value.agg #[Value.slice pa la pc], Value.agg #[Value.slice qa lb qc], Value.pointer (some { block := w.heap.size, off := 0 }), Value.pointer (some { block := w.heap.size + 1, off := 0 }), Value.pointer (some { block := w.heap.size + 1 + 1, off := 0 }), Value.pointer (some { block := B3, off := 0 }), Value.pointer (some { block := B4, off := 0 }), Value.bool true, Value.agg #[Value.slice qa lb qc], Value.agg #[Value.slice qa lb qc], Value.int IntKind.i64 ↑m, t11x, t12x, Value.tuple #[Value.agg #[Value.bool s9, Value.slice a9 l9 c9, Value.bool t9, Value.slice b9 k9 d9], Value.bool true], u3, u4, Value.tuple #[Value.agg #[Value.bool s9, Value.slice a9 l9 c9, Value.bool t9, Value.slice b9 k9 d9], Value.bool true], Value.agg #[Value.bool s9, Value.slice a9 l9 c9, Value.bool t9, Value.slice b9 k9 d9], Value.bool true, t19x, t20x, t21x, t22x, t23x, t24x, t25x, undef, undef, undef, undef, undef, undef, undef, undef], defers := [] } ∧ Hid ((D 0 = true → t19x = .agg #[.slice pa la pc]) ∧ (D 1 = true → t20x = .int .i64 e1) ∧ (D 2 = true → t21x = .agg #[.slice qa lb qc]) ∧ (D 3 = true → t22x = .int .i64 (m : Int)) ∧ (D 4 = true → t23x = .int .i64 e3) ∧ (D 5 = true → t24x = .int .i64 e4) ∧ (D 6 = true → t25x = .int .i64 0)) ∧ Hid (Mem w V [some (w.heap.size, .cell 25 (.slice pa la pc)), some (w.heap.size + 1, .cell 25 (.slice qa lb qc)), some (w.heap.size + 1 + 1, .cell 25 (.slice none 0 0)), some (B3, .rat (L)), some (B4, .rat (L ^ 0))]))
    ⟨_, _, _, _, _, _, _, rfl, hidD ⟨by simp, by simp, by simp, by simp, by simp, by simp, by simp⟩, hidD (M3.out).drew⟩ ?step5 ?fin5
  case step5 =>
    rintro D act V i ds hcl hi hds hDi ⟨t19x, t20x, t21x, t22x, t23x, t24x, t25x, rfl, GG, MM⟩
    have hi6 : i < 7 := (List.getElem?_eq_some_iff.1 hi).1
    obtain rfl | rfl | rfl | rfl | rfl | rfl | rfl : i = 0 ∨ i = 1 ∨ i = 2 ∨ i = 3 ∨ i = 4 ∨ i = 5 ∨ i = 6 := by omega
    all_goals
      simp only [List.getElem?_cons_zero, List.getElem?_cons_succ, Option.some.injEq] at hi
      subst hi
    · have e0 := (MM.out.cell (i := 0) rfl).1.cell
      clear hds
      refine wpOp_go rfl rfl (fun K hK => ?_)
      go_simp
      exact hK _ _ ⟨_, _, _, _, _, _, _, rfl, hidD ⟨fun _ => rfl, GG.out.2.1, GG.out.2.2.1, GG.out.2.2.2.1, GG.out.2.2.2.2.1, GG.out.2.2.2.2.2.1, GG.out.2.2.2.2.2.2⟩, hidD (MM.out)⟩
    · obtain rfl := (GG.out.1 (hds 0 (by simp)))
      have HC := hidD (yDegree_c _ ps V (HP.out V MM.out.2.2))
      rw [HE1.out] at HC
      clear hds
      refine wpOp_go rfl rfl (fun K hK => ?_)
      go_simp
      go_wp2_with (go_at_call 20; refine HC.out.mono ?_; rintro e w5 ⟨rfl, hb5⟩)
      exact ⟨_, _, _, _, _, _, _, rfl, hidD ⟨fun _ => rfl, fun _ => rfl, GG.out.2.2.1, GG.out.2.2.2.1, GG.out.2.2.2.2.1, GG.out.2.2.2.2.2.1, GG.out.2.2.2.2.2.2⟩, hidD (MM.out.below hb5)⟩
    · have e0 := (MM.out.cell (i := 1) rfl).1.cell
      clear hds
      refine wpOp_go rfl rfl (fun K hK => ?_)
      go_simp
      exact hK _ _ ⟨_, _, _, _, _, _, _, rfl, hidD ⟨GG.out.1, GG.out.2.1, fun _ => rfl, GG.out.2.2.2.1, GG.out.2.2.2.2.1, GG.out.2.2.2.2.2.1, GG.out.2.2.2.2.2.2⟩, hidD (MM.out)⟩
    · obtain rfl := (GG.out.2.2.1 (hds 2 (by simp)))
      have HC := hidD (yDegree_c _ qs V (HQ.out V MM.out.2.2))
      rw [HE2.out] at HC
      clear hds
      refine wpOp_go rfl rfl (fun K hK => ?_)
      go_simp
      go_wp2_with (go_at_call 20; refine HC.out.mono ?_; rintro e w5 ⟨rfl, hb5⟩)
      exact ⟨_, _, _, _, _, _, _, rfl, hidD ⟨GG.out.1, GG.out.2.1, fun _ => rfl, fun _ => rfl, GG.out.2.2.2.2.1, GG.out.2.2.2.2.2.1, GG.out.2.2.2.2.2.2⟩, hidD (MM.out.below hb5)⟩
    · obtain rfl := (GG.out.2.1 (hds 1 (by simp)))
      obtain rfl := (GG.out.2.2.2.1 (hds 3 (by simp)))
      clear hds
      refine wpOp_go rfl rfl (fun K hK => ?_)
      go_simp
      exact hK _ _ ⟨_, _, _, _, _, _, _, rfl, hidD ⟨GG.out.1, fun _ => rfl, GG.out.2.2.1, fun _ => rfl, fun _ => rfl, GG.out.2.2.2.2.2.1, GG.out.2.2.2.2.2.2⟩, hidD (MM.out)⟩
    · obtain rfl := (GG.out.2.2.2.2.1 (hds 4 (by simp)))
      clear hds
      refine wpOp_go rfl rfl (fun K hK => ?_)
      go_simp
      exact hK _ _ ⟨_, _, _, _, _, _, _, rfl, hidD ⟨GG.out.1, GG.out.2.1, GG.out.2.2.1, GG.out.2.2.2.1, fun _ => rfl, fun _ => rfl, GG.out.2.2.2.2.2.2⟩, hidD (MM.out)⟩
    · clear hds
      refine wpOp_go rfl rfl (fun K hK => ?_)
      go_simp
      exact hK _ _ ⟨_, _, _, _, _, _, _, rfl, hidD ⟨GG.out.1, GG.out.2.1, GG.out.2.2.1, GG.out.2.2.2.1, GG.out.2.2.2.2.1, GG.out.2.2.2.2.2.1, fun _ => rfl⟩, hidD (MM.out)⟩
  rintro D act V6 hDD ⟨t19x, t20x, t21x, t22x, t23x, t24x, t25x, rfl, GG, MM⟩
  obtain rfl := GG.out.1 (hDD 0 (by decide))
  obtain rfl := GG.out.2.1 (hDD 1 (by decide))
  obtain rfl := GG.out.2.2.1 (hDD 2 (by decide))
  obtain rfl := GG.out.2.2.2.1 (hDD 3 (by decide))
  obtain rfl := GG.out.2.2.2.2.1 (hDD 4 (by decide))
  obtain rfl := GG.out.2.2.2.2.2.1 (hDD 5 (by decide))
  obtain rfl := GG.out.2.2.2.2.2.2 (hDD 6 (by decide))
  clear GG hDD M3
  have M4 : Hid (Mem w V6 [some (w.heap.size, .cell 25 (.slice pa la pc)), some (w.heap.size + 1, .cell 25 (.slice qa lb qc)), some (w.heap.size + 1 + 1, .cell 25 (.slice none 0 0)), some (B3, .rat (L)), some (B4, .rat (L ^ 0))]) := MM
  clear MM
  go_wp2
  go_loopw [25] (fun iv wr => ∃ i : Nat, i ≤ N ∧ iv = .int .i64 (i : Int) ∧ Hid (Mem w wr [some (w.heap.size, .cell 25 (.slice pa la pc)), some (w.heap.size + 1, .cell 25 (.slice qa lb qc)), some (w.heap.size + 1 + 1, .cell 25 (.slice none 0 0)), some (B3, .rat (L)), some (B4, .rat (L ^ i))])) (fun iv _ => N - (intOf iv).toNat)
  case atStart => exact ⟨0, Nat.zero_le _, rfl, M4⟩
  case round =>
    clear M4
    obtain ⟨i, hi, rfl, M5⟩ := hrel
    by_cases hlt : i < N
    · have hlt2 : (i : Int) < e4 := (HN4.out.1 i).2 hlt
      have hNle : N ≤ 1099511627777 := HN4.out.2
      obtain ⟨s7, a7, l7, c7, t7, b7, k7, d7, n7, r7, i7, j7⟩ := M5.out.rat (i := 3) rfl
      have e7a := n7.c0
      have e7b := n7.c1
      have e7c := n7.c2
      have e7d := n7.c3
      obtain ⟨s8, a8, l8, c8, t8, b8, k8, d8, n8, r8, i8, j8⟩ := M5.out.rat (i := 4) rfl
      have e8a := n8.c0
      have e8b := n8.c1
      have e8c := n8.c2
      have e8d := n8.c3
      have f8a := n8.f0
      have f8b := n8.f1
      have f8c := n8.f2
      have f8d := n8.f3
      have H1 := hidD (qtimes_c _ _ (L ^ i) L wr r8 r7 (HPW.out i (by omega)) (by have := HPW.out 1 (by omega); rwa [Rat.pow_one] at this))
      rw [← Rat.pow_succ] at H1
      go_upto_region 6 with (go_at_call 52; refine H1.out.mono ?_; clear H1; rintro e w6 ⟨u6, rfl, hu6, hq⟩; obtain ⟨s8, a8, l8, c8, t8, b8, k8, d8, rfl⟩ := IsRat.form hu6; clear e8a e8b e8c e8d; have e8a := (n8.below hq).c0; have e8b := (n8.below hq).c1; have e8c := (n8.below hq).c2; have e8d := (n8.below hq).c3; clear f8a f8b f8c f8d; have f8a := (n8.below hq).f0; have f8b := (n8.below hq).f1; have f8c := (n8.below hq).f2; have f8d := (n8.below hq).f3)
      obtain ⟨V9, hV⟩ : ∃ V, (((w6.setCell ⟨B4, 0, none⟩ (.bool s8)).setCell ⟨B4, 1, none⟩ (.slice a8 l8 c8)).setCell ⟨B4, 2, none⟩ (.bool t8)).setCell ⟨B4, 3, none⟩ (.slice b8 k8 d8) = V := ⟨_, rfl⟩
      have MM : Mem w ((((w6.setCell ⟨B4, 0, none⟩ (.bool s8)).setCell ⟨B4, 1, none⟩ (.slice a8 l8 c8)).setCell ⟨B4, 2, none⟩ (.bool t8)).setCell ⟨B4, 3, none⟩ (.slice b8 k8 d8)) [some (w.heap.size, .cell 25 (.slice pa la pc)), some (w.heap.size + 1, .cell 25 (.slice qa lb qc)), some (w.heap.size + 1 + 1, .cell 25 (.slice none 0 0)), some (B3, .rat (L)), some (B4, .rat (L ^ (i + 1)))] := Mem.putRat (M5.out.below hq) (i := 4) rfl hu6
      rw [hV] at MM
      rw [hV]
      have M6 : Hid (Mem w V9 [some (w.heap.size, .cell 25 (.slice pa la pc)), some (w.heap.size + 1, .cell 25 (.slice qa lb qc)), some (w.heap.size + 1 + 1, .cell 25 (.slice none 0 0)), some (B3, .rat (L)), some (B4, .rat (L ^ (i + 1)))]) := hidD (MM)
      clear M5
      clear MM hV
      go_wp2_with fail
      go_roundw
      case rel => exact ⟨i + 1, by omega, by go_num, M6⟩
      case measure => simp [intOf]; omega
    · have hlt2 : ¬ (i : Int) < e4 := fun h => hlt ((HN4.out.1 i).1 h)
      obtain rfl : i = N := by omega
      obtain ⟨s10, a10, l10, c10, t10, b10, k10, d10, n10, r10, i10, j10⟩ := M5.out.rat (i := 4) rfl
      have e10a := n10.c0
      have e10b := n10.c1
      have e10c := n10.c2
      have e10d := n10.c3
      have c0 := (M5.out.cell (i := 0) rfl).1.cell
      have n1 := (M5.out.cell (i := 2) rfl).1
      have HQ9 := hidD M5.out.2.2
      have H2 := hidD (cscaled_c (.agg #[.slice pa la pc]) _ ps (L ^ i) wr (HP.out wr HQ9.out) r10 HPS.out (HPW.out i (Nat.le_refl _)) HSR.out)
      rw [HT.out] at H2
      go_wp2_with (go_at_call 98; refine H2.out.mono ?_; clear H2; rintro e w5 ⟨u5, rfl, hu5, hb5⟩; obtain ⟨a7, l7, c7, rfl⟩ := hu5.form; have n5 := boxed_below n1 hb5; have x0 := n5.cell; have x1 := n5.frozen; have HU5 := hidD (boxPoly n5 (x := .slice a7 l7 c7) hu5); have HB5 := hidD ((HQ9.out.trans (hb5.mono HQ9.out.size)).setCell (p := ⟨w.heap.size + 1 + 1, 0, none⟩) (by show w.heap.size ≤ w.heap.size + 1 + 1; omega) (.slice a7 l7 c7)); clear hu5 hb5 n5)
      exact bodyPost_ret (v := .agg #[.slice a7 l7 c7]) (by simp [results, Tryz.results99, go_sem, x0]) rfl ⟨_, rfl, HU5.out, HB5.out⟩

/-- The sizes of a step of the chain. -/
theorem left_sizes {A : Nat} {ps qs : List Rat} (wp : Whl A ps) (wq : Whl A qs) (tq : trimQ qs = qs) (q0 : qs ≠ []) (hA : 1 ≤ A) (hb : 4 * ((ps.length + 2) * (A + 1)) ≤ 1000000) :
    Sqs ps ∧ Sqs qs ∧ (∀ i, i ≤ ps.length + 1 - qs.length → Sq (absQ (cf qs (qs.length - 1)) ^ i)) ∧ (∀ i, Sq (cf ps i * widF ps qs)) ∧ Sqs (widQ ps qs) ∧ (∀ i, SmQ A (cf qs i)) ∧
    ∃ l : Int, Dvn 1 1 l ((ps.length + 2) * A + 1) A (widQ ps qs) qs := by
  have b1 : (ps.length + 2) * (A + 1) = (ps.length + 2) * A + (ps.length + 2) := by rw [Nat.mul_add, Nat.mul_one]
  have hql : 0 < qs.length := List.length_pos_iff.2 q0
  obtain ⟨l, hl1, hl2⟩ := wq (qs.length - 1)
  have hl0 : l ≠ 0 := fun e => by
    have := trim_last tq q0
    rw [hl2, e] at this
    exact this rfl
  have habs : absQ (cf qs (qs.length - 1)) = ((l.natAbs : Int) : Rat) := by
    rw [hl2]
    unfold absQ
    have h1 : ((l : Rat) < 0) ↔ l < 0 := by
      rw [show (0 : Rat) = ((0 : Int) : Rat) from rfl]
      exact Rat.intCast_lt_intCast
    split
    · rename_i h
      rw [h1] at h
      rw [← Rat.intCast_neg]
      congr 1
      omega
    · rename_i h
      rw [h1] at h
      congr 1
      omega
  have hpw : ∀ i : Nat, ∃ z : Int, Sm (i * A + 1) z ∧ absQ (cf qs (qs.length - 1)) ^ i = (z : Rat) := fun i => by
    refine ⟨(l.natAbs : Int) ^ i, ?_, ?_⟩
    · refine Sm.powZ ?_ i
      unfold Sm at hl1 ⊢
      rwa [Int.natAbs_natCast]
    · rw [habs, Rat.intCast_pow]
  have whS : ∀ (k : Nat) (z : Int), Sm k z → k ≤ 1000000 → 1 ≤ k → Sq (z : Rat) := fun k z hz hk h1 => Sq.of ((mul_cd (D := 1) (by decide) hz (by rw [show ((1 : Int) : Rat) = 1 from rfl, Rat.mul_one])).smq (by decide) (Sm.one k h1)) hk
  have hN : ps.length + 1 - qs.length ≤ ps.length := by omega
  have hAle : ∀ i : Nat, i ≤ ps.length → i * A ≤ (ps.length + 2) * A := fun i hi => Nat.mul_le_mul_right _ (by omega)
  have hwid : Whl ((ps.length + 2) * A + 1) (widQ ps qs) := fun i => by
    obtain ⟨z, h1, h2⟩ := wp i
    obtain ⟨y, h3, h4⟩ := hpw (ps.length + 1 - qs.length)
    refine ⟨z * y, (h1.mul h3).mono ?_, ?_⟩
    · have h5 : (ps.length + 1 - qs.length + 1) * A ≤ (ps.length + 2) * A := Nat.mul_le_mul_right _ (by omega)
      rw [Nat.add_mul, Nat.one_mul] at h5
      omega
    · unfold widQ widF
      rw [cf_scQ, h2, h4, Rat.intCast_mul]
  have hA9 : A ≤ (ps.length + 2) * A := by
    have : 1 * A ≤ (ps.length + 2) * A := Nat.mul_le_mul_right _ (by omega)
    omega
  refine ⟨Sqs.of fun i => Sq.of (wp.smq hA i) (by omega), Sqs.of fun i => Sq.of (wq.smq hA i) (by omega), fun i hi => ?_, fun i => ?_, Sqs.of fun i => Sq.of (hwid.smq (by omega) i) (by omega), wq.smq hA, l, ?_⟩
  · obtain ⟨z, h1, h2⟩ := hpw i
    rw [h2]
    exact whS _ z h1 (by have := hAle i (by omega); omega) (by omega)
  · obtain ⟨z, h1, h2⟩ := hwid i
    have h3 : cf ps i * widF ps qs = (z : Rat) := by rw [← h2]; unfold widQ; rw [cf_scQ]
    rw [h3]
    exact whS _ z h1 (by omega) (by omega)
  · refine ⟨by decide, Sm.one _ (by omega), hwid.cdl, by decide, Sm.one _ hA, wq.cdl, hl0, hl1, ?_⟩
    rw [hl2, Rat.divInt_eq_div, show ((1 : Int) : Rat) = 1 from rfl]
    grind
theorem wid_length {ps qs : List Rat} (tp : trimQ ps = ps) (tq : trimQ qs = qs) (q0 : qs ≠ []) : (widQ ps qs).length = ps.length := scQ_length (widF_ne tq q0) tp

set_option maxRecDepth 100000 in
set_option maxHeartbeats 8000000 in
theorem cleft_c (A : Nat) (va vb : Value) (ps qs : List Rat) (w : World) (ha : IsPoly w va ps) (hb : IsPoly w vb qs) (wp : Whl A ps) (wq : Whl A qs) (tp : trimQ ps = ps) (tq : trimQ qs = qs) (q0 : qs ≠ []) (hA : 1 ≤ A) (hbd : 4 * ((ps.length + 2) * (A + 1)) ≤ 1000000) (hr : Ln A (remQ ps qs)) :
    Calls Tryz.prog 57 #[va, vb] w fun e w' => ∃ u, e = .returned u ∧ IsPoly w' u (lftQ ps qs) ∧ Below w.heap.size w w' := by
  obtain ⟨s1, s2, s3, s4, s5, s6, l, hdv⟩ := left_sizes wp wq tq q0 hA hbd
  have b1 : (ps.length + 2) * (A + 1) = (ps.length + 2) * A + (ps.length + 2) := by rw [Nat.mul_add, Nat.mul_one]
  have hql : 0 < qs.length := List.length_pos_iff.2 q0
  obtain ⟨m, hm⟩ : ∃ m, (widQ ps qs).length - (qs.length - 1) = m := ⟨_, rfl⟩
  have hml : m ≤ ps.length := by rw [wid_length tp tq q0] at hm; omega
  have b2 : m * (A + 1) ≤ ps.length * (A + 1) := Nat.mul_le_mul_right _ hml
  have b3 : (ps.length + 2) * (A + 1) = ps.length * (A + 1) + 2 * (A + 1) := Nat.add_mul _ _ _
  have HSP := hidD (fun (V : World) (x y : Value) (hx : IsPoly V x (widQ ps qs)) (hy : IsPoly V y qs) => ySplit_n A x y (widQ ps qs) qs V hx hy s5 s6 (scQ_trim _ _) tq q0 (by
    rw [hm]
    exact hdv.sizes (by omega)))
  have hrc := (hdv.rem hm).1
  have hden := hdv.den m
  have HLS := hidD (fun (V : World) (x : Value) (hx : IsPoly V x (remQ (widQ ps qs) qs)) => cleast_c (1 * l ^ m) ((ps.length + 2) * A + 1 + m * (A + 1) + 1) x (remQ (widQ ps qs) qs) V hx (rem_trim _ _) hden.1 hden.2 (fun i => (hrc i).mono (by omega)) (by omega))
  have hwl := lft_whl tq q0 hr
  have hsl : Sqs (lstQ (remQ (widQ ps qs) qs)) := Sqs.of fun i => Sq.of (hwl.1.smq hA i) (by omega)
  have hsm : Sqs (subQ [] (lstQ (remQ (widQ ps qs) qs))) := Sqs.of fun i => Sq.of (hwl.2.smq hA i) (by omega)
  have HMN := hidD (fun (V : World) (y : Value) (hy : IsPoly V y (lstQ (remQ (widQ ps qs) qs))) => yMinus_c _ y [] (lstQ (remQ (widQ ps qs) qs)) V (poly_zero V) hy (Sqs.of fun i => by rw [cf_nil]; exact sq0) hsl hsm)
  have HWD := hidD (fun (V : World) (x y : Value) (hx : IsPoly V x ps) (hy : IsPoly V y qs) => cwidened_c x y ps qs V hx hy s1 s2 q0 s3 s4)
  clear s1 s2 s3 s4 s5 s6 hdv b1 hql hm hml b2 b3 hrc hden hwl hsl hsm wp wq tp tq q0 hA hbd hr
  have hmx : Tryz.prog.follows .mixedOrders = true := by kernel_rfl
  obtain ⟨pa, la, pc, rfl⟩ := ha.form
  obtain ⟨qa, lb, qc, rfl⟩ := hb.form
  have M0 := (((Mem.nil w).push (.cell 25 (.slice pa la pc)) (cs := #[.slice pa la pc]) ⟨rfl, rfl⟩).push (.cell 25 (.slice qa lb qc)) (cs := #[.slice qa lb qc]) ⟨rfl, rfl⟩).push (.cell 25 (.slice none 0 0)) (cs := #[.slice none 0 0]) ⟨rfl, rfl⟩
  simp only [World.size_alloc] at M0
  obtain ⟨W0, hW0⟩ : ∃ V, ((w.alloc (.cells #[.slice pa la pc] 25)).alloc (.cells #[.slice qa lb qc] 25)).alloc (.cells #[.slice none 0 0] 25) = V := ⟨_, rfl⟩
  have HW0 := hidD hW0
  have HP := hidD (fun (V : World) (hB : Below w.heap.size w V) => ha.below hB)
  have HQ := hidD (fun (V : World) (hB : Below w.heap.size w V) => hb.below hB)
  have M1 : Hid (Mem w W0 [some (w.heap.size, .cell 25 (.slice pa la pc)), some (w.heap.size + 1, .cell 25 (.slice qa lb qc)), some (w.heap.size + 1 + 1, .cell 25 (.slice none 0 0))]) := hidD (by rw [← hW0]; exact M0)
  clear M0 hW0 ha hb
  go_enter Tryz.func57, Tryz.ntmps57
  go_upto_region 1 with fail
  rw [HW0.out]
  clear HW0
  refine wp_region_tab hmx [[], [], [0, 1], [], [2, 3, 2], [4], [5], [5], [5], [], [], [9, 6, 4, 0, 1, 2, 3, 4, 5, 6, 9, 10], [10, 7, 11, 0, 1, 2, 3, 4, 5, 6, 7, 9, 10, 11], [8, 12, 0, 1, 2, 3, 4, 5, 6, 7, 8, 9, 10, 11, 12]] (by kernel_rfl) (by decide)
    (fun D act V => ∃ (t9x t10x t11x t12x t13x t8x t14x t15x t16x t5x t6x t7x : Value) (x9 x10 : Option (Nat × Dat)), act = { tmps := #[Value.agg #[Value.slice pa la pc], Value.agg #[Value.slice qa lb qc], Value.pointer (some { block := w.heap.size, off := 0 }), Value.pointer (some { block := w.heap.size + 1, off := 0 }), Value.pointer (some { block := w.heap.size + 1 + 1, off := 0 }), t5x, t6x, t7x, t8x, t9x, t10x, t11x, t12x, t13x, t14x, t15x, t16x, undef, undef, undef, undef], defers := [] } ∧ Hid ((D 0 = true → t9x = .agg #[.slice pa la pc]) ∧ (D 1 = true → t10x = .agg #[.slice qa lb qc]) ∧ (D 2 = true → Has V t11x (.poly (widQ ps qs))) ∧ (D 3 = true → t12x = .agg #[.slice qa lb qc]) ∧ (D 4 = true → Tup2 V t13x (.poly (quoQ (widQ ps qs) qs)) (.poly (remQ (widQ ps qs) qs))) ∧ (D 5 = true → Tup2 V t8x (.poly (quoQ (widQ ps qs) qs)) (.poly (remQ (widQ ps qs) qs))) ∧ (D 6 = true → Has V t14x (.poly (quoQ (widQ ps qs) qs))) ∧ (D 7 = true → Has V t15x (.poly (remQ (widQ ps qs) qs))) ∧ (D 8 = true → t16x = .bool true) ∧ ((D 9 = false → x9 = none) ∧ (D 9 = true → D 11 = false → ∃ B : Nat, t5x = .pointer (some ⟨B, 0, none⟩) ∧ x9 = some (B, .poly [])) ∧ (D 11 = true → ∃ B : Nat, t5x = .pointer (some ⟨B, 0, none⟩) ∧ x9 = some (B, .poly (quoQ (widQ ps qs) qs)))) ∧ ((D 10 = false → x10 = none) ∧ (D 10 = true → D 12 = false → ∃ B : Nat, t6x = .pointer (some ⟨B, 0, none⟩) ∧ x10 = some (B, .poly [])) ∧ (D 12 = true → ∃ B : Nat, t6x = .pointer (some ⟨B, 0, none⟩) ∧ x10 = some (B, .poly (remQ (widQ ps qs) qs)))) ∧ (D 13 = true → t7x = .bool true)) ∧ Hid (Mem w V [some (w.heap.size, .cell 25 (.slice pa la pc)), some (w.heap.size + 1, .cell 25 (.slice qa lb qc)), some (w.heap.size + 1 + 1, .cell 25 (.slice none 0 0)), x9, x10]))
    ⟨_, _, _, _, _, _, _, _, _, _, _, _, none, none, rfl, hidD ⟨by simp, by simp, by simp, by simp, by simp, by simp, by simp, by simp, by simp, by simp, by simp, by simp⟩, hidD (((M1.out).none).none).drew⟩ ?step1 ?fin1
  case step1 =>
    rintro D act V i ds hcl hi hds hDi ⟨t9x, t10x, t11x, t12x, t13x, t8x, t14x, t15x, t16x, t5x, t6x, t7x, x9, x10, rfl, GG, MM⟩
    have hi6 : i < 14 := (List.getElem?_eq_some_iff.1 hi).1
    obtain rfl | rfl | rfl | rfl | rfl | rfl | rfl | rfl | rfl | rfl | rfl | rfl | rfl | rfl : i = 0 ∨ i = 1 ∨ i = 2 ∨ i = 3 ∨ i = 4 ∨ i = 5 ∨ i = 6 ∨ i = 7 ∨ i = 8 ∨ i = 9 ∨ i = 10 ∨ i = 11 ∨ i = 12 ∨ i = 13 := by omega
    all_goals
      simp only [List.getElem?_cons_zero, List.getElem?_cons_succ, Option.some.injEq] at hi
      subst hi
    · have e0 := (MM.out.cell (i := 0) rfl).1.cell
      clear hds
      refine wpOp_go rfl rfl (fun K hK => ?_)
      go_simp
      exact hK _ _ ⟨_, _, _, _, _, _, _, _, _, _, _, _, _, _, rfl, hidD ⟨fun _ => rfl, GG.out.2.1, GG.out.2.2.1, GG.out.2.2.2.1, GG.out.2.2.2.2.1, GG.out.2.2.2.2.2.1, GG.out.2.2.2.2.2.2.1, GG.out.2.2.2.2.2.2.2.1, GG.out.2.2.2.2.2.2.2.2.1, GG.out.2.2.2.2.2.2.2.2.2.1, GG.out.2.2.2.2.2.2.2.2.2.2.1, GG.out.2.2.2.2.2.2.2.2.2.2.2⟩, hidD (MM.out)⟩
    · have e0 := (MM.out.cell (i := 1) rfl).1.cell
      clear hds
      refine wpOp_go rfl rfl (fun K hK => ?_)
      go_simp
      exact hK _ _ ⟨_, _, _, _, _, _, _, _, _, _, _, _, _, _, rfl, hidD ⟨GG.out.1, fun _ => rfl, GG.out.2.2.1, GG.out.2.2.2.1, GG.out.2.2.2.2.1, GG.out.2.2.2.2.2.1, GG.out.2.2.2.2.2.2.1, GG.out.2.2.2.2.2.2.2.1, GG.out.2.2.2.2.2.2.2.2.1, GG.out.2.2.2.2.2.2.2.2.2.1, GG.out.2.2.2.2.2.2.2.2.2.2.1, GG.out.2.2.2.2.2.2.2.2.2.2.2⟩, hidD (MM.out)⟩
    · obtain rfl := (GG.out.1 (hds 0 (by simp)))
      obtain rfl := (GG.out.2.1 (hds 1 (by simp)))
      have HC := hidD (HWD.out V _ _ (HP.out V MM.out.2.2) (HQ.out V MM.out.2.2))
      clear hds
      refine wpOp_go rfl rfl (fun K hK => ?_)
      go_simp
      go_wp2_with (go_at_call 99; refine HC.out.mono ?_; rintro e w5 ⟨v5, rfl, hv5, hb5⟩)
      exact ⟨_, _, _, _, _, _, _, _, _, _, _, _, _, _, rfl, hidD ⟨fun _ => rfl, fun _ => rfl, fun _ => hv5, GG.out.2.2.2.1, fun h => (GG.out.2.2.2.2.1 h).below hb5, fun h => (GG.out.2.2.2.2.2.1 h).below hb5, fun h => (GG.out.2.2.2.2.2.2.1 h).below hb5, fun h => (GG.out.2.2.2.2.2.2.2.1 h).below hb5, GG.out.2.2.2.2.2.2.2.2.1, GG.out.2.2.2.2.2.2.2.2.2.1, GG.out.2.2.2.2.2.2.2.2.2.2.1, GG.out.2.2.2.2.2.2.2.2.2.2.2⟩, hidD (MM.out.below hb5)⟩
    · have e0 := (MM.out.cell (i := 1) rfl).1.cell
      clear hds
      refine wpOp_go rfl rfl (fun K hK => ?_)
      go_simp
      exact hK _ _ ⟨_, _, _, _, _, _, _, _, _, _, _, _, _, _, rfl, hidD ⟨GG.out.1, GG.out.2.1, GG.out.2.2.1, fun _ => rfl, GG.out.2.2.2.2.1, GG.out.2.2.2.2.2.1, GG.out.2.2.2.2.2.2.1, GG.out.2.2.2.2.2.2.2.1, GG.out.2.2.2.2.2.2.2.2.1, GG.out.2.2.2.2.2.2.2.2.2.1, GG.out.2.2.2.2.2.2.2.2.2.2.1, GG.out.2.2.2.2.2.2.2.2.2.2.2⟩, hidD (MM.out)⟩
    · have h0 := (GG.out.2.2.1 (hds 2 (by simp)))
      obtain rfl := (GG.out.2.2.2.1 (hds 3 (by simp)))
      have HC := hidD (HSP.out V _ _ h0 (HQ.out V MM.out.2.2))
      clear hds h0
      refine wpOp_go rfl rfl (fun K hK => ?_)
      go_simp
      go_wp2_with (go_at_call 22; refine HC.out.mono ?_; rintro e w5 ⟨v5, v6, rfl, hv5, hv6, hb5⟩)
      exact ⟨_, _, _, _, _, _, _, _, _, _, _, _, _, _, rfl, hidD ⟨GG.out.1, GG.out.2.1, fun h => (GG.out.2.2.1 h).below hb5, fun _ => rfl, fun _ => ⟨v5, v6, rfl, hv5, hv6⟩, fun h => (GG.out.2.2.2.2.2.1 h).below hb5, fun h => (GG.out.2.2.2.2.2.2.1 h).below hb5, fun h => (GG.out.2.2.2.2.2.2.2.1 h).below hb5, GG.out.2.2.2.2.2.2.2.2.1, GG.out.2.2.2.2.2.2.2.2.2.1, GG.out.2.2.2.2.2.2.2.2.2.2.1, GG.out.2.2.2.2.2.2.2.2.2.2.2⟩, hidD (MM.out.below hb5)⟩
    · have h0 := (GG.out.2.2.2.2.1 (hds 4 (by simp)))
      clear hds
      refine wpOp_go rfl rfl (fun K hK => ?_)
      go_simp
      exact hK _ _ ⟨_, _, _, _, _, _, _, _, _, _, _, _, _, _, rfl, hidD ⟨GG.out.1, GG.out.2.1, GG.out.2.2.1, GG.out.2.2.2.1, GG.out.2.2.2.2.1, fun _ => h0, GG.out.2.2.2.2.2.2.1, GG.out.2.2.2.2.2.2.2.1, GG.out.2.2.2.2.2.2.2.2.1, GG.out.2.2.2.2.2.2.2.2.2.1, GG.out.2.2.2.2.2.2.2.2.2.2.1, GG.out.2.2.2.2.2.2.2.2.2.2.2⟩, hidD (MM.out)⟩
    · obtain ⟨y1, y2, rfl, h1, h2⟩ := (GG.out.2.2.2.2.2.1 (hds 5 (by simp)))
      clear hds
      refine wpOp_go rfl rfl (fun K hK => ?_)
      go_simp
      exact hK _ _ ⟨_, _, _, _, _, _, _, _, _, _, _, _, _, _, rfl, hidD ⟨GG.out.1, GG.out.2.1, GG.out.2.2.1, GG.out.2.2.2.1, GG.out.2.2.2.2.1, GG.out.2.2.2.2.2.1, fun _ => h1, GG.out.2.2.2.2.2.2.2.1, GG.out.2.2.2.2.2.2.2.2.1, GG.out.2.2.2.2.2.2.2.2.2.1, GG.out.2.2.2.2.2.2.2.2.2.2.1, GG.out.2.2.2.2.2.2.2.2.2.2.2⟩, hidD (MM.out)⟩
    · obtain ⟨y1, y2, rfl, h1, h2⟩ := (GG.out.2.2.2.2.2.1 (hds 5 (by simp)))
      clear hds
      refine wpOp_go rfl rfl (fun K hK => ?_)
      go_simp
      exact hK _ _ ⟨_, _, _, _, _, _, _, _, _, _, _, _, _, _, rfl, hidD ⟨GG.out.1, GG.out.2.1, GG.out.2.2.1, GG.out.2.2.2.1, GG.out.2.2.2.2.1, GG.out.2.2.2.2.2.1, GG.out.2.2.2.2.2.2.1, fun _ => h2, GG.out.2.2.2.2.2.2.2.2.1, GG.out.2.2.2.2.2.2.2.2.2.1, GG.out.2.2.2.2.2.2.2.2.2.2.1, GG.out.2.2.2.2.2.2.2.2.2.2.2⟩, hidD (MM.out)⟩
    · obtain ⟨y1, y2, rfl, h1, h2⟩ := (GG.out.2.2.2.2.2.1 (hds 5 (by simp)))
      clear hds
      refine wpOp_go rfl rfl (fun K hK => ?_)
      go_simp
      exact hK _ _ ⟨_, _, _, _, _, _, _, _, _, _, _, _, _, _, rfl, hidD ⟨GG.out.1, GG.out.2.1, GG.out.2.2.1, GG.out.2.2.2.1, GG.out.2.2.2.2.1, GG.out.2.2.2.2.2.1, GG.out.2.2.2.2.2.2.1, GG.out.2.2.2.2.2.2.2.1, fun _ => rfl, GG.out.2.2.2.2.2.2.2.2.2.1, GG.out.2.2.2.2.2.2.2.2.2.2.1, GG.out.2.2.2.2.2.2.2.2.2.2.2⟩, hidD (MM.out)⟩
    · have hf : D 11 = false := by
        cases h : D 11 with
        | false => rfl
        | true => rw [hcl 11 _ rfl h 9 (by simp)] at hDi; cases hDi
      obtain rfl := GG.out.2.2.2.2.2.2.2.2.2.1.1 hDi
      clear hds
      refine wpOp_go rfl rfl (fun K hK => ?_)
      go_simp
      exact hK _ _ ⟨_, _, _, _, _, _, _, _, _, _, _, _, _, _, rfl, hidD ⟨GG.out.1, GG.out.2.1, fun h => (GG.out.2.2.1 h).alloc _, GG.out.2.2.2.1, fun h => (GG.out.2.2.2.2.1 h).alloc _, fun h => (GG.out.2.2.2.2.2.1 h).alloc _, fun h => (GG.out.2.2.2.2.2.2.1 h).alloc _, fun h => (GG.out.2.2.2.2.2.2.2.1 h).alloc _, GG.out.2.2.2.2.2.2.2.2.1, ⟨fun h => by simp at h, fun _ _ => ⟨_, rfl, rfl⟩, fun h => by simp [hf] at h⟩, GG.out.2.2.2.2.2.2.2.2.2.2.1, GG.out.2.2.2.2.2.2.2.2.2.2.2⟩, hidD (MM.out.fill (i := 3) rfl (.poly []) (poly0 _))⟩
    · have hf : D 12 = false := by
        cases h : D 12 with
        | false => rfl
        | true => rw [hcl 12 _ rfl h 10 (by simp)] at hDi; cases hDi
      obtain rfl := GG.out.2.2.2.2.2.2.2.2.2.2.1.1 hDi
      clear hds
      refine wpOp_go rfl rfl (fun K hK => ?_)
      go_simp
      exact hK _ _ ⟨_, _, _, _, _, _, _, _, _, _, _, _, _, _, rfl, hidD ⟨GG.out.1, GG.out.2.1, fun h => (GG.out.2.2.1 h).alloc _, GG.out.2.2.2.1, fun h => (GG.out.2.2.2.2.1 h).alloc _, fun h => (GG.out.2.2.2.2.2.1 h).alloc _, fun h => (GG.out.2.2.2.2.2.2.1 h).alloc _, fun h => (GG.out.2.2.2.2.2.2.2.1 h).alloc _, GG.out.2.2.2.2.2.2.2.2.1, GG.out.2.2.2.2.2.2.2.2.2.1, ⟨fun h => by simp at h, fun _ _ => ⟨_, rfl, rfl⟩, fun h => by simp [hf] at h⟩, GG.out.2.2.2.2.2.2.2.2.2.2.2⟩, hidD (MM.out.fill (i := 4) rfl (.poly []) (poly0 _))⟩
    · obtain ⟨B, rfl, rfl⟩ := GG.out.2.2.2.2.2.2.2.2.2.1.2.1 (hds 9 (by simp)) hDi
      have hds0 := hds 9 (by simp)
      have hv := (GG.out.2.2.2.2.2.2.1 (hds 6 (by simp)))
      obtain ⟨a1, l1, c1, rfl⟩ := IsPoly.form (show IsPoly V _ _ from hv)
      obtain ⟨a, l, c, n, r⟩ := MM.out.poly2 (i := 3) rfl
      have e0 := n.cell
      have f0 := n.frozen
      clear hds
      refine wpOp_go rfl rfl (fun K hK => ?_)
      go_simp
      exact hK _ _ ⟨_, _, _, _, _, _, _, _, _, _, _, _, _, _, rfl, hidD ⟨GG.out.1, GG.out.2.1, fun h => (GG.out.2.2.1 h).set1 n rfl _, GG.out.2.2.2.1, fun h => (GG.out.2.2.2.2.1 h).set1 n rfl _, fun h => (GG.out.2.2.2.2.2.1 h).set1 n rfl _, fun h => (GG.out.2.2.2.2.2.2.1 h).set1 n rfl _, fun h => (GG.out.2.2.2.2.2.2.2.1 h).set1 n rfl _, GG.out.2.2.2.2.2.2.2.2.1, ⟨fun h => by simp [hds0] at h, fun _ h => by simp at h, fun _ => ⟨B, rfl, rfl⟩⟩, GG.out.2.2.2.2.2.2.2.2.2.2.1, GG.out.2.2.2.2.2.2.2.2.2.2.2⟩, hidD (MM.out.putPoly (i := 3) rfl hv)⟩
    · obtain ⟨B, rfl, rfl⟩ := GG.out.2.2.2.2.2.2.2.2.2.2.1.2.1 (hds 10 (by simp)) hDi
      have hds0 := hds 10 (by simp)
      have hv := (GG.out.2.2.2.2.2.2.2.1 (hds 7 (by simp)))
      obtain ⟨a1, l1, c1, rfl⟩ := IsPoly.form (show IsPoly V _ _ from hv)
      obtain ⟨a, l, c, n, r⟩ := MM.out.poly2 (i := 4) rfl
      have e0 := n.cell
      have f0 := n.frozen
      clear hds
      refine wpOp_go rfl rfl (fun K hK => ?_)
      go_simp
      exact hK _ _ ⟨_, _, _, _, _, _, _, _, _, _, _, _, _, _, rfl, hidD ⟨GG.out.1, GG.out.2.1, fun h => (GG.out.2.2.1 h).set1 n rfl _, GG.out.2.2.2.1, fun h => (GG.out.2.2.2.2.1 h).set1 n rfl _, fun h => (GG.out.2.2.2.2.2.1 h).set1 n rfl _, fun h => (GG.out.2.2.2.2.2.2.1 h).set1 n rfl _, fun h => (GG.out.2.2.2.2.2.2.2.1 h).set1 n rfl _, GG.out.2.2.2.2.2.2.2.2.1, GG.out.2.2.2.2.2.2.2.2.2.1, ⟨fun h => by simp [hds0] at h, fun _ h => by simp at h, fun _ => ⟨B, rfl, rfl⟩⟩, GG.out.2.2.2.2.2.2.2.2.2.2.2⟩, hidD (MM.out.putPoly (i := 4) rfl hv)⟩
    · obtain rfl := (GG.out.2.2.2.2.2.2.2.2.1 (hds 8 (by simp)))
      clear hds
      refine wpOp_go rfl rfl (fun K hK => ?_)
      go_simp
      exact hK _ _ ⟨_, _, _, _, _, _, _, _, _, _, _, _, _, _, rfl, hidD ⟨GG.out.1, GG.out.2.1, GG.out.2.2.1, GG.out.2.2.2.1, GG.out.2.2.2.2.1, GG.out.2.2.2.2.2.1, GG.out.2.2.2.2.2.2.1, GG.out.2.2.2.2.2.2.2.1, fun _ => rfl, GG.out.2.2.2.2.2.2.2.2.2.1, GG.out.2.2.2.2.2.2.2.2.2.2.1, fun _ => rfl⟩, hidD (MM.out)⟩
  rintro D act V2 hDD ⟨t9x, t10x, t11x, t12x, t13x, t8x, t14x, t15x, t16x, t5x, t6x, t7x, x9, x10, rfl, GG, MM⟩
  obtain ⟨B3, rfl, rfl⟩ := GG.out.2.2.2.2.2.2.2.2.2.1.2.2 (hDD 11 (by decide))
  obtain ⟨B4, rfl, rfl⟩ := GG.out.2.2.2.2.2.2.2.2.2.2.1.2.2 (hDD 12 (by decide))
  obtain rfl := GG.out.1 (hDD 0 (by decide))
  obtain rfl := GG.out.2.1 (hDD 1 (by decide))
  obtain rfl := GG.out.2.2.2.1 (hDD 3 (by decide))
  obtain rfl := GG.out.2.2.2.2.2.2.2.2.1 (hDD 8 (by decide))
  obtain rfl := GG.out.2.2.2.2.2.2.2.2.2.2.2 (hDD 13 (by decide))
  clear GG hDD M1
  have M2 : Hid (Mem w V2 [some (w.heap.size, .cell 25 (.slice pa la pc)), some (w.heap.size + 1, .cell 25 (.slice qa lb qc)), some (w.heap.size + 1 + 1, .cell 25 (.slice none 0 0)), some (B3, .poly (quoQ (widQ ps qs) qs)), some (B4, .poly (remQ (widQ ps qs) qs))]) := MM
  clear MM
  obtain ⟨a5, l5, c5, n5, r5⟩ := M2.out.poly2 (i := 4) rfl
  have e5a := n5.cell
  have n1 := (M2.out.cell (i := 2) rfl).1
  have HQ9 := hidD M2.out.2.2
  have H1 := hidD (HLS.out V2 _ r5)
  clear HLS
  go_wp2_with (first
    | (go_at_call 56; refine H1.out.mono ?_; clear H1; rintro e w4 ⟨u4, rfl, hu4, hb4⟩)
    | (go_at_call 48; refine (HMN.out _ _ hu4).mono ?_; clear HMN; rintro e w5 ⟨u5, rfl, hu5, _, hb6⟩; have hb5 := Below.then hb4 hb6; obtain ⟨a7, l7, c7, rfl⟩ := hu5.form; have n5 := boxed_below n1 hb5; have x0 := n5.cell; have x1 := n5.frozen; have HU5 := hidD (boxPoly n5 (x := .slice a7 l7 c7) hu5); have HB5 := hidD ((HQ9.out.trans (hb5.mono HQ9.out.size)).setCell (p := ⟨w.heap.size + 1 + 1, 0, none⟩) (by show w.heap.size ≤ w.heap.size + 1 + 1; omega) (.slice a7 l7 c7)); clear hu5 hb5 n5))
  exact bodyPost_ret (v := .agg #[.slice a7 l7 c7]) (by simp [results, Tryz.results57, go_sem, x0]) rfl ⟨_, rfl, HU5.out, HB5.out⟩
end Go.Proofs.YteldjhhjnchdeaaGreatDoor.M3
namespace Go.Proofs.YteldjhhjnchdeaaGreatDoor.M3
open Go.RowKit Go.Shelf

attribute [local go_sem] Oper.semAt_some

/-- A fraction and true; the fraction stands as long as b is not set. -/
def TupS (b : Bool) (V : World) (t : Value) (c : Rat) : Prop := ∃ u, t = .tuple #[u, .bool true] ∧ (b = false → IsRat V u c)
theorem TupS.of {b : Bool} {V : World} {t : Value} {c : Rat} (h : TupQ V t c) : TupS b V t c := by
  obtain ⟨u, e, h⟩ := h
  exact ⟨u, e, fun _ => h⟩
theorem TupS.below {b : Bool} {V V' : World} {t : Value} {c : Rat} (h : TupS b V t c) (hb : Below V.heap.size V V') : TupS b V' t c := by
  obtain ⟨u, e, h⟩ := h
  exact ⟨u, e, fun e => (h e).below hb⟩
theorem TupS.any {b b2 : Bool} {V V' : World} {t : Value} {c : Rat} (h : TupS b V t c) (hb : b2 = true) : TupS b2 V' t c := by
  obtain ⟨u, e, h⟩ := h
  exact ⟨u, e, fun e => by rw [hb] at e; cases e⟩

set_option maxRecDepth 100000 in
set_option maxHeartbeats 8000000 in
theorem gmonic_c (v : Value) (ps : List Rat) (w : World) (h : IsPoly w v ps) (hps : Sqs ps) (htp : trimQ ps = ps) (hsr : ∀ i, Sq (cf ps i / cf ps (ps.length - 1))) :
    Calls Tryz.prog 26 #[v] w fun e w' => ∃ u, e = .returned u ∧ IsPoly w' u (monQ ps) ∧ Below w.heap.size w w' := by
  have hmx : Tryz.prog.follows .mixedOrders = true := by kernel_rfl
  obtain ⟨pa, la, pc, rfl⟩ := h.form
  obtain ⟨hla, hca, hcma, hlma, _⟩ := h.row.forms
  have M0 := (((Mem.nil w).push (.cell 25 (.slice pa la pc)) (cs := #[.slice pa la pc]) ⟨rfl, rfl⟩).push (.cell 25 (.slice none 0 0)) (cs := #[.slice none 0 0]) ⟨rfl, rfl⟩)
  simp only [World.size_alloc] at M0
  obtain ⟨V0, hV0⟩ : ∃ V, (w.alloc (.cells #[.slice pa la pc] 25)).alloc (.cells #[.slice none 0 0] 25) = V := ⟨_, rfl⟩
  have M1 : Mem w V0 [some (w.heap.size, .cell 25 (.slice pa la pc)), some (w.heap.size + 1, .cell 25 (.slice none 0 0))] := by rw [← hV0]; exact M0
  have HM1 := hidD M1
  obtain ⟨n, hn⟩ : ∃ n : Nat, ps.length = n := ⟨_, rfl⟩
  obtain ⟨e0, he0⟩ : ∃ e0 : Int, (n : Int) - 1 = e0 := ⟨_, rfl⟩
  have HDG := hidD (yDegree_c (.agg #[.slice pa la pc]) ps V0 (h.below M1.2.2))
  rw [hn, he0] at HDG
  have hd1 : e0 + 1 = (n : Int) := by omega
  have hdw : IntKind.i64.wrap (n : Int) = (n : Int) := by rw [IntKind.wrap_i64]; omega
  have hmk : ∀ W : World, (Instr.makeSlice 22 (.int .i64 (n : Int)) (.int .i64 (n : Int))).run Tryz.prog W = .ok (.slice (some ⟨W.heap.size, 0, none⟩) n n) (W.alloc (.cells (zeroQ n) 65)) := fun W => make_rats0 n (by omega) W
  have HP := hidD (fun (V : World) (hB : Below w.heap.size w V) => h.below hB)
  have HPS := hidD hps
  have HSR := hidD hsr
  have HN := hidD (show ps.length = n from hn)
  have hnle : n ≤ 1099511627776 := by omega
  have HV0 := hidD hV0
  have HTP := hidD htp
  clear h hps hsr hla hca hcma hn he0 M0 M1 hV0 hlma htp
  go_enter Tryz.func26, Tryz.ntmps26
  go_upto_region 1 with fail
  rw [HV0.out]
  have c0 := (HM1.out.cell (i := 0) rfl).1.cell
  go_upto_region 2 with (go_at_call 20; refine HDG.out.mono ?_; clear HDG; rintro e w1 ⟨rfl, hb1⟩)
  have hM2 : Mem w (w1.alloc (.cells (zeroQ n) 65)) [some (w.heap.size, .cell 25 (.slice pa la pc)), some (w.heap.size + 1, .cell 25 (.slice none 0 0)), some (w1.heap.size, .rats (List.replicate n 0))] := (HM1.out.below hb1).push (.rats (List.replicate n 0)) (has_zeros _ n)
  obtain ⟨V1, hV1⟩ : ∃ V, w1.alloc (.cells (zeroQ n) 65) = V := ⟨_, rfl⟩
  obtain ⟨gS, hgS⟩ : ∃ g, w1.heap.size = g := ⟨_, rfl⟩
  rw [hV1, hgS] at hM2
  rw [hV1, hgS]
  have HM2 := hidD hM2
  clear hM2 hV1 hgS hb1 c0 HM1 HV0 hmk
  go_wp2
  go_loopw [11] (fun iv wr => ∃ (i : Nat) (S : List Rat), i ≤ n ∧ iv = .int .i64 (i : Int) ∧ Hid (FnAt (fun j => cf ps j / cf ps (ps.length - 1)) n i S) ∧ Hid (Mem w wr [some (w.heap.size, .cell 25 (.slice pa la pc)), some (w.heap.size + 1, .cell 25 (.slice none 0 0)), some (gS, .rats S)])) (fun iv _ => n - (intOf iv).toNat)
  case atStart => exact ⟨0, _, Nat.zero_le _, rfl, hidD ⟨List.length_replicate, fun j => by rw [cf_replicate, if_neg (by omega)]⟩, HM2⟩
  case round =>
    obtain ⟨i, S, hi, rfl, HS, HM⟩ := hrel
    clear HM2
    by_cases hlt : i < n
    · have hlt2 : (i : Int) < (n : Int) := by omega
      have HIL := hidD (show i < S.length by rw [HS.out.1]; exact hlt)
      have HLT := hidD (show i < ps.length by rw [HN.out]; exact hlt)
      go_wp2_with fail
      have ST0 := HM.out.drew
      obtain ⟨m, hm⟩ : ∃ m : Nat, ps.length - 1 = m := ⟨_, rfl⟩
      have HD1 := hidD (show (ps.length : Int) - 1 = (m : Int) by have := HLT.out; omega)
      have HM9 := hidD hm
      have HDN := hidD (show decide (cf ps m ≠ 0) = true by rw [← hm]; exact decide_eq_true (trim_last HTP.out (fun e => by have := HLT.out; rw [e] at this; simp at this)))
      clear hm
      refine wp_region_tab hmx [[], [], [], [], [2, 3], [], [], [6, 4], [5, 7, 7], [4, 8, 8], [9], [10], [10], [0, 1, 0, 1, 2, 3, 4, 5, 6, 7, 8, 9, 10, 11], [13, 11, 9, 0, 1, 2, 3, 4, 5, 6, 7, 8, 9, 10, 11]] (by kernel_rfl) (by decide)
        (fun D act V => ∃ (t15x t16x t17x t18x t19x t20x t21x t22x t23x t24x t14x t25x t26x t27x : Value), act = { tmps := #[Value.agg #[Value.slice pa la pc], Value.pointer (some { block := w.heap.size, off := 0 }), Value.pointer (some { block := w.heap.size + 1, off := 0 }), Value.slice (some { block := gS, off := 0 }) n n, Value.int IntKind.i64 ↑i, Value.agg #[Value.slice pa la pc], Value.int IntKind.i64 e0, Value.int IntKind.i64 ↑n, Value.slice (some { block := gS, off := 0 }) n n, Value.slice (some { block := gS, off := 0 }) n n, Value.int IntKind.i64 ↑n, Value.int IntKind.i64 ↑i, Value.bool true, Value.int IntKind.i64 ↑i, t14x, t15x, t16x, t17x, t18x, t19x, t20x, t21x, t22x, t23x, t24x, t25x, t26x, t27x, u28, undef, undef], defers := [] } ∧ Hid ((D 0 = true → t15x = .slice (some ⟨gS, 0, none⟩) n n) ∧ (D 1 = true → t16x = .int .i64 (i : Int)) ∧ (D 2 = true → t17x = .agg #[.slice pa la pc]) ∧ (D 3 = true → t18x = .int .i64 (i : Int)) ∧ (D 4 = true → D 14 = false → IsRat V t19x (cf ps i)) ∧ (D 5 = true → t20x = .agg #[.slice pa la pc]) ∧ (D 6 = true → t21x = .agg #[.slice pa la pc]) ∧ (D 7 = true → t22x = .int .i64 (m : Int)) ∧ (D 8 = true → D 14 = false → IsRat V t23x (cf ps m)) ∧ (D 9 = true → D 14 = false → TupQ V t24x (cf ps i / cf ps m)) ∧ (D 10 = true → TupS (D 14) V t14x (cf ps i / cf ps m)) ∧ (D 11 = true → D 14 = false → IsRat V t25x (cf ps i / cf ps m)) ∧ (D 12 = true → t26x = .bool true) ∧ (D 13 = true → t27x = .pointer (some ⟨gS, i * 4, none⟩))) ∧ Hid ((D 14 = false → Mem w V [some (w.heap.size, .cell 25 (.slice pa la pc)), some (w.heap.size + 1, .cell 25 (.slice none 0 0)), some (gS, .rats (S))]) ∧ (D 14 = true → Mem w V [some (w.heap.size, .cell 25 (.slice pa la pc)), some (w.heap.size + 1, .cell 25 (.slice none 0 0)), some (gS, .rats (S.set i (cf ps i / cf ps m)))])))
        ⟨_, _, _, _, _, _, _, _, _, _, _, _, _, _, rfl, hidD ⟨by simp, by simp, by simp, by simp, by simp, by simp, by simp, by simp, by simp, by simp, by simp, by simp, by simp, by simp⟩, hidD ⟨fun _ => ST0, by simp⟩⟩ ?step1 ?fin1
      case step1 =>
        rintro D act V i ds hcl hi hds hDi ⟨t15x, t16x, t17x, t18x, t19x, t20x, t21x, t22x, t23x, t24x, t14x, t25x, t26x, t27x, rfl, GG, SS0⟩
        have hi6 : i < 15 := (List.getElem?_eq_some_iff.1 hi).1
        obtain rfl | rfl | rfl | rfl | rfl | rfl | rfl | rfl | rfl | rfl | rfl | rfl | rfl | rfl | rfl : i = 0 ∨ i = 1 ∨ i = 2 ∨ i = 3 ∨ i = 4 ∨ i = 5 ∨ i = 6 ∨ i = 7 ∨ i = 8 ∨ i = 9 ∨ i = 10 ∨ i = 11 ∨ i = 12 ∨ i = 13 ∨ i = 14 := by omega
        all_goals
          simp only [List.getElem?_cons_zero, List.getElem?_cons_succ, Option.some.injEq] at hi
          subst hi
        · have hf0 : D 14 = false := by
            cases h : D 14 with
            | false => rfl
            | true => rw [(hcl 14 _ rfl h 0 (by simp))] at hDi; cases hDi
          have hS0 := SS0.out.1 hf0
          clear hds
          refine wpOp_go rfl rfl (fun K hK => ?_)
          go_simp
          exact hK _ _ ⟨_, _, _, _, _, _, _, _, _, _, _, _, _, _, rfl, hidD ⟨fun _ => rfl, GG.out.2.1, GG.out.2.2.1, GG.out.2.2.2.1, fun h h2 => (GG.out.2.2.2.2.1 h (by simpa using h2)), GG.out.2.2.2.2.2.1, GG.out.2.2.2.2.2.2.1, GG.out.2.2.2.2.2.2.2.1, fun h h2 => (GG.out.2.2.2.2.2.2.2.2.1 h (by simpa using h2)), fun h h2 => (GG.out.2.2.2.2.2.2.2.2.2.1 h (by simpa using h2)), GG.out.2.2.2.2.2.2.2.2.2.2.1, fun h h2 => (GG.out.2.2.2.2.2.2.2.2.2.2.2.1 h (by simpa using h2)), GG.out.2.2.2.2.2.2.2.2.2.2.2.2.1, GG.out.2.2.2.2.2.2.2.2.2.2.2.2.2⟩, hidD ⟨fun h => (SS0.out.1 (by simpa using h)), fun h => (SS0.out.2 (by simpa using h))⟩⟩
        · have hf0 : D 14 = false := by
            cases h : D 14 with
            | false => rfl
            | true => rw [(hcl 14 _ rfl h 1 (by simp))] at hDi; cases hDi
          have hS0 := SS0.out.1 hf0
          clear hds
          refine wpOp_go rfl rfl (fun K hK => ?_)
          go_simp
          exact hK _ _ ⟨_, _, _, _, _, _, _, _, _, _, _, _, _, _, rfl, hidD ⟨GG.out.1, fun _ => rfl, GG.out.2.2.1, GG.out.2.2.2.1, fun h h2 => (GG.out.2.2.2.2.1 h (by simpa using h2)), GG.out.2.2.2.2.2.1, GG.out.2.2.2.2.2.2.1, GG.out.2.2.2.2.2.2.2.1, fun h h2 => (GG.out.2.2.2.2.2.2.2.2.1 h (by simpa using h2)), fun h h2 => (GG.out.2.2.2.2.2.2.2.2.2.1 h (by simpa using h2)), GG.out.2.2.2.2.2.2.2.2.2.2.1, fun h h2 => (GG.out.2.2.2.2.2.2.2.2.2.2.2.1 h (by simpa using h2)), GG.out.2.2.2.2.2.2.2.2.2.2.2.2.1, GG.out.2.2.2.2.2.2.2.2.2.2.2.2.2⟩, hidD ⟨fun h => (SS0.out.1 (by simpa using h)), fun h => (SS0.out.2 (by simpa using h))⟩⟩
        · have hf0 : D 14 = false := by
            cases h : D 14 with
            | false => rfl
            | true => rw [(hcl 14 _ rfl h 2 (by simp))] at hDi; cases hDi
          have hS0 := SS0.out.1 hf0
          have e0 := (hS0.cell (i := 0) rfl).1.cell
          clear hds
          refine wpOp_go rfl rfl (fun K hK => ?_)
          go_simp
          exact hK _ _ ⟨_, _, _, _, _, _, _, _, _, _, _, _, _, _, rfl, hidD ⟨GG.out.1, GG.out.2.1, fun _ => rfl, GG.out.2.2.2.1, fun h h2 => (GG.out.2.2.2.2.1 h (by simpa using h2)), GG.out.2.2.2.2.2.1, GG.out.2.2.2.2.2.2.1, GG.out.2.2.2.2.2.2.2.1, fun h h2 => (GG.out.2.2.2.2.2.2.2.2.1 h (by simpa using h2)), fun h h2 => (GG.out.2.2.2.2.2.2.2.2.2.1 h (by simpa using h2)), GG.out.2.2.2.2.2.2.2.2.2.2.1, fun h h2 => (GG.out.2.2.2.2.2.2.2.2.2.2.2.1 h (by simpa using h2)), GG.out.2.2.2.2.2.2.2.2.2.2.2.2.1, GG.out.2.2.2.2.2.2.2.2.2.2.2.2.2⟩, hidD ⟨fun h => (SS0.out.1 (by simpa using h)), fun h => (SS0.out.2 (by simpa using h))⟩⟩
        · have hf0 : D 14 = false := by
            cases h : D 14 with
            | false => rfl
            | true => rw [(hcl 14 _ rfl h 3 (by simp))] at hDi; cases hDi
          have hS0 := SS0.out.1 hf0
          clear hds
          refine wpOp_go rfl rfl (fun K hK => ?_)
          go_simp
          exact hK _ _ ⟨_, _, _, _, _, _, _, _, _, _, _, _, _, _, rfl, hidD ⟨GG.out.1, GG.out.2.1, GG.out.2.2.1, fun _ => rfl, fun h h2 => (GG.out.2.2.2.2.1 h (by simpa using h2)), GG.out.2.2.2.2.2.1, GG.out.2.2.2.2.2.2.1, GG.out.2.2.2.2.2.2.2.1, fun h h2 => (GG.out.2.2.2.2.2.2.2.2.1 h (by simpa using h2)), fun h h2 => (GG.out.2.2.2.2.2.2.2.2.2.1 h (by simpa using h2)), GG.out.2.2.2.2.2.2.2.2.2.2.1, fun h h2 => (GG.out.2.2.2.2.2.2.2.2.2.2.2.1 h (by simpa using h2)), GG.out.2.2.2.2.2.2.2.2.2.2.2.2.1, GG.out.2.2.2.2.2.2.2.2.2.2.2.2.2⟩, hidD ⟨fun h => (SS0.out.1 (by simpa using h)), fun h => (SS0.out.2 (by simpa using h))⟩⟩
        · have hf0 : D 14 = false := by
            cases h : D 14 with
            | false => rfl
            | true => rw [(hcl 14 _ rfl h 4 (by simp))] at hDi; cases hDi
          have hS0 := SS0.out.1 hf0
          obtain rfl := GG.out.2.2.1 (hds 2 (by simp))
          obtain rfl := GG.out.2.2.2.1 (hds 3 (by simp))
          clear hds
          have HC := hidD (yCoef_c _ ps (i : Int) V (HP.out V hS0.2.2))
          rw [cfI_nat] at HC
          refine wpOp_go rfl rfl (fun K hK => ?_)
          go_simp
          go_wp2_with (go_at_call 58; refine HC.out.mono ?_; rintro e w5 ⟨v5, rfl, hv5, hb5⟩)
          exact ⟨_, _, _, _, _, _, _, _, _, _, _, _, _, _, rfl, hidD ⟨GG.out.1, GG.out.2.1, fun _ => rfl, fun _ => rfl, fun _ _ => hv5, GG.out.2.2.2.2.2.1, GG.out.2.2.2.2.2.2.1, GG.out.2.2.2.2.2.2.2.1, fun h h2 => (GG.out.2.2.2.2.2.2.2.2.1 h (by simpa using h2)).below hb5, fun h h2 => (GG.out.2.2.2.2.2.2.2.2.2.1 h (by simpa using h2)).below hb5, fun h => (GG.out.2.2.2.2.2.2.2.2.2.2.1 h).below hb5, fun h h2 => (GG.out.2.2.2.2.2.2.2.2.2.2.2.1 h (by simpa using h2)).below hb5, GG.out.2.2.2.2.2.2.2.2.2.2.2.2.1, GG.out.2.2.2.2.2.2.2.2.2.2.2.2.2⟩, hidD ⟨fun h => (SS0.out.1 (by simpa using h)).below hb5, fun h => (SS0.out.2 (by simpa using h)).below hb5⟩⟩
        · have hf0 : D 14 = false := by
            cases h : D 14 with
            | false => rfl
            | true => rw [(hcl 14 _ rfl h 5 (by simp))] at hDi; cases hDi
          have hS0 := SS0.out.1 hf0
          have e0 := (hS0.cell (i := 0) rfl).1.cell
          clear hds
          refine wpOp_go rfl rfl (fun K hK => ?_)
          go_simp
          exact hK _ _ ⟨_, _, _, _, _, _, _, _, _, _, _, _, _, _, rfl, hidD ⟨GG.out.1, GG.out.2.1, GG.out.2.2.1, GG.out.2.2.2.1, fun h h2 => (GG.out.2.2.2.2.1 h (by simpa using h2)), fun _ => rfl, GG.out.2.2.2.2.2.2.1, GG.out.2.2.2.2.2.2.2.1, fun h h2 => (GG.out.2.2.2.2.2.2.2.2.1 h (by simpa using h2)), fun h h2 => (GG.out.2.2.2.2.2.2.2.2.2.1 h (by simpa using h2)), GG.out.2.2.2.2.2.2.2.2.2.2.1, fun h h2 => (GG.out.2.2.2.2.2.2.2.2.2.2.2.1 h (by simpa using h2)), GG.out.2.2.2.2.2.2.2.2.2.2.2.2.1, GG.out.2.2.2.2.2.2.2.2.2.2.2.2.2⟩, hidD ⟨fun h => (SS0.out.1 (by simpa using h)), fun h => (SS0.out.2 (by simpa using h))⟩⟩
        · have hf0 : D 14 = false := by
            cases h : D 14 with
            | false => rfl
            | true => rw [(hcl 14 _ rfl h 6 (by simp))] at hDi; cases hDi
          have hS0 := SS0.out.1 hf0
          have e0 := (hS0.cell (i := 0) rfl).1.cell
          clear hds
          refine wpOp_go rfl rfl (fun K hK => ?_)
          go_simp
          exact hK _ _ ⟨_, _, _, _, _, _, _, _, _, _, _, _, _, _, rfl, hidD ⟨GG.out.1, GG.out.2.1, GG.out.2.2.1, GG.out.2.2.2.1, fun h h2 => (GG.out.2.2.2.2.1 h (by simpa using h2)), GG.out.2.2.2.2.2.1, fun _ => rfl, GG.out.2.2.2.2.2.2.2.1, fun h h2 => (GG.out.2.2.2.2.2.2.2.2.1 h (by simpa using h2)), fun h h2 => (GG.out.2.2.2.2.2.2.2.2.2.1 h (by simpa using h2)), GG.out.2.2.2.2.2.2.2.2.2.2.1, fun h h2 => (GG.out.2.2.2.2.2.2.2.2.2.2.2.1 h (by simpa using h2)), GG.out.2.2.2.2.2.2.2.2.2.2.2.2.1, GG.out.2.2.2.2.2.2.2.2.2.2.2.2.2⟩, hidD ⟨fun h => (SS0.out.1 (by simpa using h)), fun h => (SS0.out.2 (by simpa using h))⟩⟩
        · have hf0 : D 14 = false := by
            cases h : D 14 with
            | false => rfl
            | true => rw [(hcl 14 _ rfl h 7 (by simp))] at hDi; cases hDi
          have hS0 := SS0.out.1 hf0
          obtain rfl := GG.out.2.2.2.2.2.2.1 (hds 6 (by simp))
          clear hds
          have HC := hidD (yDegree_c _ ps V (HP.out V hS0.2.2))
          rw [HD1.out] at HC
          refine wpOp_go rfl rfl (fun K hK => ?_)
          go_simp
          go_wp2_with (go_at_call 20; refine HC.out.mono ?_; rintro e w5 ⟨rfl, hb5⟩)
          exact ⟨_, _, _, _, _, _, _, _, _, _, _, _, _, _, rfl, hidD ⟨GG.out.1, GG.out.2.1, GG.out.2.2.1, GG.out.2.2.2.1, fun h h2 => (GG.out.2.2.2.2.1 h (by simpa using h2)).below hb5, GG.out.2.2.2.2.2.1, fun _ => rfl, fun _ => rfl, fun h h2 => (GG.out.2.2.2.2.2.2.2.2.1 h (by simpa using h2)).below hb5, fun h h2 => (GG.out.2.2.2.2.2.2.2.2.2.1 h (by simpa using h2)).below hb5, fun h => (GG.out.2.2.2.2.2.2.2.2.2.2.1 h).below hb5, fun h h2 => (GG.out.2.2.2.2.2.2.2.2.2.2.2.1 h (by simpa using h2)).below hb5, GG.out.2.2.2.2.2.2.2.2.2.2.2.2.1, GG.out.2.2.2.2.2.2.2.2.2.2.2.2.2⟩, hidD ⟨fun h => (SS0.out.1 (by simpa using h)).below hb5, fun h => (SS0.out.2 (by simpa using h)).below hb5⟩⟩
        · have hf0 : D 14 = false := by
            cases h : D 14 with
            | false => rfl
            | true => rw [(hcl 14 _ rfl h 8 (by simp))] at hDi; cases hDi
          have hS0 := SS0.out.1 hf0
          obtain rfl := GG.out.2.2.2.2.2.1 (hds 5 (by simp))
          obtain rfl := GG.out.2.2.2.2.2.2.2.1 (hds 7 (by simp))
          clear hds
          have HC := hidD (yCoef_c _ ps (m : Int) V (HP.out V hS0.2.2))
          rw [cfI_nat] at HC
          refine wpOp_go rfl rfl (fun K hK => ?_)
          go_simp
          go_wp2_with (go_at_call 58; refine HC.out.mono ?_; rintro e w5 ⟨v5, rfl, hv5, hb5⟩)
          exact ⟨_, _, _, _, _, _, _, _, _, _, _, _, _, _, rfl, hidD ⟨GG.out.1, GG.out.2.1, GG.out.2.2.1, GG.out.2.2.2.1, fun h h2 => (GG.out.2.2.2.2.1 h (by simpa using h2)).below hb5, fun _ => rfl, GG.out.2.2.2.2.2.2.1, fun _ => rfl, fun _ _ => hv5, fun h h2 => (GG.out.2.2.2.2.2.2.2.2.2.1 h (by simpa using h2)).below hb5, fun h => (GG.out.2.2.2.2.2.2.2.2.2.2.1 h).below hb5, fun h h2 => (GG.out.2.2.2.2.2.2.2.2.2.2.2.1 h (by simpa using h2)).below hb5, GG.out.2.2.2.2.2.2.2.2.2.2.2.2.1, GG.out.2.2.2.2.2.2.2.2.2.2.2.2.2⟩, hidD ⟨fun h => (SS0.out.1 (by simpa using h)).below hb5, fun h => (SS0.out.2 (by simpa using h)).below hb5⟩⟩
        · have hf0 : D 14 = false := by
            cases h : D 14 with
            | false => rfl
            | true => rw [(hcl 14 _ rfl h 9 (by simp))] at hDi; cases hDi
          have hS0 := SS0.out.1 hf0
          have h0 := GG.out.2.2.2.2.1 (hds 4 (by simp)) hf0
          have h1 := GG.out.2.2.2.2.2.2.2.2.1 (hds 8 (by simp)) hf0
          clear hds
          have HC := hidD (qover_c _ _ (cf ps i) (cf ps m) V h0 h1 (HPS.out.at i) (HPS.out.at m))
          rw [HDN.out] at HC
          clear h0 h1
          refine wpOp_go rfl rfl (fun K hK => ?_)
          go_simp
          go_wp2_with (go_at_call 50; refine HC.out.mono ?_; rintro e w5 ⟨v5, rfl, hv5, hb5⟩)
          exact ⟨_, _, _, _, _, _, _, _, _, _, _, _, _, _, rfl, hidD ⟨GG.out.1, GG.out.2.1, GG.out.2.2.1, GG.out.2.2.2.1, fun h h2 => (GG.out.2.2.2.2.1 h (by simpa using h2)).below hb5, GG.out.2.2.2.2.2.1, GG.out.2.2.2.2.2.2.1, GG.out.2.2.2.2.2.2.2.1, fun h h2 => (GG.out.2.2.2.2.2.2.2.2.1 h (by simpa using h2)).below hb5, fun _ _ => ⟨v5, rfl, hv5⟩, fun h => (GG.out.2.2.2.2.2.2.2.2.2.2.1 h).below hb5, fun h h2 => (GG.out.2.2.2.2.2.2.2.2.2.2.2.1 h (by simpa using h2)).below hb5, GG.out.2.2.2.2.2.2.2.2.2.2.2.2.1, GG.out.2.2.2.2.2.2.2.2.2.2.2.2.2⟩, hidD ⟨fun h => (SS0.out.1 (by simpa using h)).below hb5, fun h => (SS0.out.2 (by simpa using h)).below hb5⟩⟩
        · have hf0 : D 14 = false := by
            cases h : D 14 with
            | false => rfl
            | true => rw [(hcl 14 _ rfl h 10 (by simp))] at hDi; cases hDi
          have hS0 := SS0.out.1 hf0
          have h0 := GG.out.2.2.2.2.2.2.2.2.2.1 (hds 9 (by simp)) hf0
          clear hds
          refine wpOp_go rfl rfl (fun K hK => ?_)
          go_simp
          exact hK _ _ ⟨_, _, _, _, _, _, _, _, _, _, _, _, _, _, rfl, hidD ⟨GG.out.1, GG.out.2.1, GG.out.2.2.1, GG.out.2.2.2.1, fun h h2 => (GG.out.2.2.2.2.1 h (by simpa using h2)), GG.out.2.2.2.2.2.1, GG.out.2.2.2.2.2.2.1, GG.out.2.2.2.2.2.2.2.1, fun h h2 => (GG.out.2.2.2.2.2.2.2.2.1 h (by simpa using h2)), fun h h2 => (GG.out.2.2.2.2.2.2.2.2.2.1 h (by simpa using h2)), fun _ => TupS.of h0, fun h h2 => (GG.out.2.2.2.2.2.2.2.2.2.2.2.1 h (by simpa using h2)), GG.out.2.2.2.2.2.2.2.2.2.2.2.2.1, GG.out.2.2.2.2.2.2.2.2.2.2.2.2.2⟩, hidD ⟨fun h => (SS0.out.1 (by simpa using h)), fun h => (SS0.out.2 (by simpa using h))⟩⟩
        · have hf0 : D 14 = false := by
            cases h : D 14 with
            | false => rfl
            | true => rw [(hcl 14 _ rfl h 11 (by simp))] at hDi; cases hDi
          have hS0 := SS0.out.1 hf0
          have h0 := GG.out.2.2.2.2.2.2.2.2.2.2.1 (hds 10 (by simp))
          obtain ⟨v7, rfl, h7⟩ := h0
          clear hds
          refine wpOp_go rfl rfl (fun K hK => ?_)
          go_simp
          exact hK _ _ ⟨_, _, _, _, _, _, _, _, _, _, _, _, _, _, rfl, hidD ⟨GG.out.1, GG.out.2.1, GG.out.2.2.1, GG.out.2.2.2.1, fun h h2 => (GG.out.2.2.2.2.1 h (by simpa using h2)), GG.out.2.2.2.2.2.1, GG.out.2.2.2.2.2.2.1, GG.out.2.2.2.2.2.2.2.1, fun h h2 => (GG.out.2.2.2.2.2.2.2.2.1 h (by simpa using h2)), fun h h2 => (GG.out.2.2.2.2.2.2.2.2.2.1 h (by simpa using h2)), GG.out.2.2.2.2.2.2.2.2.2.2.1, fun _ _ => h7 hf0, GG.out.2.2.2.2.2.2.2.2.2.2.2.2.1, GG.out.2.2.2.2.2.2.2.2.2.2.2.2.2⟩, hidD ⟨fun h => (SS0.out.1 (by simpa using h)), fun h => (SS0.out.2 (by simpa using h))⟩⟩
        · have h0 := GG.out.2.2.2.2.2.2.2.2.2.2.1 (hds 10 (by simp))
          obtain ⟨v7, rfl, h7⟩ := h0
          clear hds
          refine wpOp_go rfl rfl (fun K hK => ?_)
          go_simp
          exact hK _ _ ⟨_, _, _, _, _, _, _, _, _, _, _, _, _, _, rfl, hidD ⟨GG.out.1, GG.out.2.1, GG.out.2.2.1, GG.out.2.2.2.1, fun h h2 => (GG.out.2.2.2.2.1 h (by simpa using h2)), GG.out.2.2.2.2.2.1, GG.out.2.2.2.2.2.2.1, GG.out.2.2.2.2.2.2.2.1, fun h h2 => (GG.out.2.2.2.2.2.2.2.2.1 h (by simpa using h2)), fun h h2 => (GG.out.2.2.2.2.2.2.2.2.2.1 h (by simpa using h2)), GG.out.2.2.2.2.2.2.2.2.2.2.1, fun h h2 => (GG.out.2.2.2.2.2.2.2.2.2.2.2.1 h (by simpa using h2)), fun _ => rfl, GG.out.2.2.2.2.2.2.2.2.2.2.2.2.2⟩, hidD ⟨fun h => (SS0.out.1 (by simpa using h)), fun h => (SS0.out.2 (by simpa using h))⟩⟩
        · have hf0 : D 14 = false := by
            cases h : D 14 with
            | false => rfl
            | true => rw [(hcl 14 _ rfl h 13 (by simp))] at hDi; cases hDi
          have hS0 := SS0.out.1 hf0
          obtain rfl := GG.out.1 (hds 0 (by simp))
          obtain rfl := GG.out.2.1 (hds 1 (by simp))
          clear hds
          refine wpOp_go rfl rfl (fun K hK => ?_)
          go_simp
          exact hK _ _ ⟨_, _, _, _, _, _, _, _, _, _, _, _, _, _, rfl, hidD ⟨fun _ => rfl, fun _ => rfl, GG.out.2.2.1, GG.out.2.2.2.1, fun h h2 => (GG.out.2.2.2.2.1 h (by simpa using h2)), GG.out.2.2.2.2.2.1, GG.out.2.2.2.2.2.2.1, GG.out.2.2.2.2.2.2.2.1, fun h h2 => (GG.out.2.2.2.2.2.2.2.2.1 h (by simpa using h2)), fun h h2 => (GG.out.2.2.2.2.2.2.2.2.2.1 h (by simpa using h2)), GG.out.2.2.2.2.2.2.2.2.2.2.1, fun h h2 => (GG.out.2.2.2.2.2.2.2.2.2.2.2.1 h (by simpa using h2)), GG.out.2.2.2.2.2.2.2.2.2.2.2.2.1, fun _ => rfl⟩, hidD ⟨fun h => (SS0.out.1 (by simpa using h)), fun h => (SS0.out.2 (by simpa using h))⟩⟩
        · have hS0 := SS0.out.1 hDi
          have h0 := GG.out.2.2.2.2.2.2.2.2.2.2.2.1 (hds 11 (by simp)) hDi
          obtain rfl := GG.out.2.2.2.2.2.2.2.2.2.2.2.2.2 (hds 13 (by simp))
          have hE := hS0.rats (i := 2) rfl
          obtain ⟨xa, xb, xc, xd, e0, e1, e2, e3, _⟩ := hE.at HIL.out
          have f0 := hE.frozen (i * 4)
          have f1 := hE.frozen (i * 4 + 1)
          have f2 := hE.frozen (i * 4 + 2)
          have f3 := hE.frozen (i * 4 + 3)
          obtain ⟨s9, a9, l9, c9, t9, b9, k9, d9, rfl⟩ := IsRat.form h0
          clear hds
          refine wpOp_go rfl rfl (fun K hK => ?_)
          go_simp
          exact hK _ _ ⟨_, _, _, _, _, _, _, _, _, _, _, _, _, _, rfl, hidD ⟨GG.out.1, GG.out.2.1, GG.out.2.2.1, GG.out.2.2.2.1, fun _ h => by simp at h, GG.out.2.2.2.2.2.1, GG.out.2.2.2.2.2.2.1, GG.out.2.2.2.2.2.2.2.1, fun _ h => by simp at h, fun _ h => by simp at h, fun h => TupS.any (GG.out.2.2.2.2.2.2.2.2.2.2.1 h) (by simp), fun _ h => by simp at h, GG.out.2.2.2.2.2.2.2.2.2.2.2.2.1, fun _ => rfl⟩, hidD ⟨fun h => by simp at h, fun _ => hS0.putRats (i := 2) rfl HIL.out h0⟩⟩
      case fin1 =>
        rintro D act V hDD ⟨t15x, t16x, t17x, t18x, t19x, t20x, t21x, t22x, t23x, t24x, t14x, t25x, t26x, t27x, rfl, GG, SS0⟩
        have HO := hidD (SS0.out.2 (hDD 14 (by decide)))
        clear GG SS0 hDD
        rw [← HM9.out] at HO
        go_wp2_with fail
        go_roundw
        case rel => exact ⟨i + 1, _, by omega, by go_num, hidD (HS.out.next hlt), HO⟩
        case measure => simp [intOf]; omega
    · obtain rfl : i = n := by omega
      have hE := HM.out.rats (i := 2) rfl
      have hrow := hE.row (n := i) (cap := i) (by rw [HS.out.1]; exact Nat.le_refl _) (Nat.le_refl _) (by omega) hnle
      rw [List.take_of_length_le (by rw [HS.out.1]; exact Nat.le_refl _)] at hrow
      have HMD := hidD (yOf_c _ S wr hrow (Sqs.of fun j => by
        rw [HS.out.2 j]
        split
        · exact HSR.out j
        · exact sq0))
      rw [HS.out.done (T := monQ ps) (scQ_trim _ _) (fun j hj => by unfold monQ; rw [cf_scQ, Rat.div_def, Rat.one_mul, ← Rat.div_def]) (fun j hj => by unfold monQ; rw [cf_scQ, cf_ge (by rw [HN.out]; exact hj), Rat.zero_mul])] at HMD
      clear hE hrow
      go_wp2_with (go_at_call 59; refine HMD.out.mono ?_; clear HMD; rintro e w5 ⟨u5, rfl, hu5, _, hb5⟩; obtain ⟨a7, l7, c7, rfl⟩ := hu5.form; have n5 := boxed_below (HM.out.cell (i := 1) rfl).1 hb5; have x0 := n5.cell; have x1 := n5.frozen; have HU5 := hidD (boxP n5 (.slice a7 l7 c7) hu5.row); have HB5 := hidD ((HM.out.2.2.trans (hb5.mono HM.out.2.2.size)).setCell (p := ⟨w.heap.size + 1, 0, none⟩) (by show w.heap.size ≤ w.heap.size + 1; omega) (.slice a7 l7 c7)); clear hu5 hb5 n5)
      exact bodyPost_ret (v := .agg #[.slice a7 l7 c7]) (by simp [results, Tryz.results26, go_sem, x0]) rfl ⟨_, rfl, ⟨_, rfl, HU5.out⟩, HB5.out⟩
end Go.Proofs.YteldjhhjnchdeaaGreatDoor.M3
namespace Go.Proofs.YteldjhhjnchdeaaGreatDoor

/-! The chain of remainders as a list. -/
def chnF : Nat → List Rat → List Rat → List (List Rat)
  | 0, a, _ => [a]
  | n + 1, a, b => if b = [] then [a] else a :: chnF n b (lftQ a b)
theorem chnF_more : ∀ (n m : Nat) (a b : List Rat), trimQ b = b → b.length ≤ n → b.length ≤ m → chnF n a b = chnF m a b := by
  intro n
  induction n with
  | zero =>
    intro m a b _ h _
    have hb : b = [] := nil_of_len (by omega)
    subst hb
    cases m with
    | zero => rfl
    | succ m => simp [chnF]
  | succ n ih =>
    intro m a b tb h h2
    by_cases h0 : b = []
    · subst h0
      cases m with
      | zero => simp [chnF]
      | succ m => simp [chnF]
    · have hl : 0 < b.length := List.length_pos_iff.2 h0
      cases m with
      | zero => omega
      | succ m =>
        have h3 := lft_shorter (a := a) tb h0
        simp only [chnF, if_neg h0]
        rw [ih m b (lftQ a b) (lft_trim _ _) (by omega) (by omega)]
/-- From a and b on. -/
def chnL (a b : List Rat) : List (List Rat) := chnF b.length a b
theorem chnL_nil (a : List Rat) : chnL a [] = [a] := rfl
theorem chnL_step {a b : List Rat} (tb : trimQ b = b) (h0 : b ≠ []) : chnL a b = a :: chnL b (lftQ a b) := by
  have h3 := lft_shorter (a := a) tb h0
  have hl : 0 < b.length := List.length_pos_iff.2 h0
  unfold chnL
  obtain ⟨n, hn⟩ : ∃ n, b.length = n + 1 := ⟨b.length - 1, by omega⟩
  rw [hn, chnF, if_neg h0]
  congr 1
  exact chnF_more _ _ _ _ (lft_trim _ _) (by omega) (Nat.le_refl _)
/-- Of p and q. -/
def chnQ (p q : List Rat) : List (List Rat) := chnL (lstQ p) (lstQ q)
end Go.Proofs.YteldjhhjnchdeaaGreatDoor
namespace Go.Proofs.YteldjhhjnchdeaaGreatDoor
open Go.RowKit Go.Shelf
theorem IsPoly.setB {V : World} {v : Value} {ps : List Rat} (h : IsPoly V v ps) {B : Nat} {a : Option Addr} {l c : Nat} (b : Boxed V B 25 (.slice a l c)) {u : Value} : IsPoly (V.setCell ⟨B, 0, none⟩ u) v ps := M3.boxPoly b h
end Go.Proofs.YteldjhhjnchdeaaGreatDoor
namespace Go.Proofs.YteldjhhjnchdeaaGreatDoor.M3
open Go.RowKit Go.Shelf

attribute [local go_sem] Oper.semAt_some

/-- A box of a polynomial. -/
def BxP (V : World) (B : Nat) (a : Option Addr) (l c : Nat) : Prop := Boxed V B 25 (.slice a l c)
section
variable {V V' : World} {B B' : Nat} {a a' : Option Addr} {l c l' c' : Nat}
theorem BxP.cell (h : BxP V B a l c) : V.cell? ⟨B, 0, none⟩ = some (.slice a l c) := Boxed.cell h
theorem BxP.frozen (h : BxP V B a l c) : V.frozen? ⟨B, 0, none⟩ = false := Boxed.frozen h
theorem BxP.below (h : BxP V B a l c) (hb : Below V.heap.size V V') : BxP V' B a l c := boxed_below h hb
theorem BxP.far (h : BxP V B a l c) (hne : B ≠ B') {u : Value} : BxP (V.setCell ⟨B', 0, none⟩ u) B a l c := Bx.far (cs := #[.slice a l c]) h (p := ⟨B', 0, none⟩) hne u
theorem BxP.put (h : BxP V B a l c) : BxP (V.setCell ⟨B, 0, none⟩ (.slice a' l' c')) B a' l' c' := (show Boxed V B 25 (.slice a l c) from h).set _
end
/-- What a range's body keeps, with what it was handed so far. -/
def GB (G : List (List Rat) → World → Prop) : Prop := ∀ H W W', G H W → Below W.heap.size W W' → G H W'
def GS (n0 : Nat) (G : List (List Rat) → World → Prop) : Prop := ∀ H W B a l c u, n0 ≤ B → BxP W B a l c → G H W → G H (W.setCell ⟨B, 0, none⟩ u)
def OfG (n0 : Nat) (G : List (List Rat) → World → Prop) (H : List (List Rat)) (V : World) (v4 v5 : Value) (p q : List Rat) : Prop := (GB G ∧ GS n0 G) ∧ G H V ∧ IsPoly V v4 p ∧ IsPoly V v5 q
section
variable {n0 : Nat} {G : List (List Rat) → World → Prop} {H : List (List Rat)} {V V' : World} {v4 v5 : Value} {p q : List Rat}
theorem OfG.below (h : OfG n0 G H V v4 v5 p q) (hb : Below V.heap.size V V') : OfG n0 G H V' v4 v5 p q := ⟨h.1, h.1.1 _ _ _ h.2.1 hb, h.2.2.1.below hb, h.2.2.2.below hb⟩
theorem OfG.put (h : OfG n0 G H V v4 v5 p q) {B : Nat} (hB : n0 ≤ B) {a : Option Addr} {l c : Nat} (b : BxP V B a l c) {u : Value} : OfG n0 G H (V.setCell ⟨B, 0, none⟩ u) v4 v5 p q := ⟨h.1, h.1.2 _ _ _ _ _ _ _ hB b h.2.1, h.2.2.1.setB b, h.2.2.2.setB b⟩
end
/-- The new one of the two. -/
def NxP (V : World) (B : Nat) (r : List Rat) : Prop := ∃ a l c, BxP V B a l c ∧ IsPoly V (.agg #[.slice a l c]) r
theorem NxP.below {V V' : World} {B : Nat} {r : List Rat} (h : NxP V B r) (hb : Below V.heap.size V V') : NxP V' B r := by
  obtain ⟨a, l, c, h1, h2⟩ := h
  exact ⟨a, l, c, h1.below hb, h2.below hb⟩
def lenAt (V : World) (B : Nat) : Nat := match V.cell? ⟨B, 0, none⟩ with | some (.slice _ l _) => l | _ => 0
theorem BxP.len {V : World} {B : Nat} {a : Option Addr} {l c : Nat} (h : BxP V B a l c) : lenAt V B = l := by
  unfold lenAt
  rw [h.cell]
theorem poly_len {V : World} {a : Option Addr} {l c : Nat} {ps : List Rat} (h : IsPoly V (.agg #[.slice a l c]) ps) : l = ps.length := h.row.forms.1
/-- What a round of a range over the chain must say. -/
def YldC (n0 n l : Nat) (G : List (List Rat) → World → Prop) : Prop := ∀ H W B4 B5 a4 l4 c4 a5 l5 c5 p q, n0 ≤ B4 → n0 ≤ B5 → B4 < W.heap.size → B5 < W.heap.size → G H W → BxP W B4 a4 l4 c4 → BxP W B5 a5 l5 c5 → IsPoly W (.agg #[.slice a4 l4 c4]) p → IsPoly W (.agg #[.slice a5 l5 c5]) q →
  YieldAt Fence.wide (n - 1) Tryz.prog l #[.agg #[.slice a4 l4 c4]] W fun e W' => e = .returned (.bool true) ∧ G (H ++ [p]) W' ∧ BxP W' B4 a4 l4 c4 ∧ BxP W' B5 a5 l5 c5 ∧ IsPoly W' (.agg #[.slice a4 l4 c4]) p ∧ IsPoly W' (.agg #[.slice a5 l5 c5]) q

/-- The sizes that a chain of p and q needs. -/
structure ChOk (K : Nat) (p q : List Rat) : Prop where
  tp : trimQ p = p
  tq : trimQ q = q
  cp : ∃ D : Int, D ≠ 0 ∧ Sm K D ∧ CDL D K p
  cq : ∃ D : Int, D ≠ 0 ∧ Sm K D ∧ CDL D K q
  le : 4 * ((max p.length q.length + 2) * (ChA K p q + 1)) ≤ 1000000
  ln : max p.length q.length ≤ 1000
theorem ChOk.lp {K : Nat} {p q : List Rat} (h : ChOk K p q) : Ln K p := by obtain ⟨D, h1, _, h2⟩ := h.cp; exact h2.ln h1
theorem ChOk.lq {K : Nat} {p q : List Rat} (h : ChOk K p q) : Ln K q := by obtain ⟨D, h1, _, h2⟩ := h.cq; exact h2.ln h1
theorem ChOk.bd {K : Nat} {p q : List Rat} (h : ChOk K p q) : ChA K p q ≤ 1000000 ∧ K ≤ 1000000 ∧ p.length + q.length ≤ 1000000 ∧ 1 ≤ ChA K p q := by
  have h1 := h.le
  have h2 := ChA_ge K p q
  have h3 : 1 * (ChA K p q + 1) ≤ (max p.length q.length + 2) * (ChA K p q + 1) := Nat.mul_le_mul_right _ (by omega)
  have h4 : (max p.length q.length + 2) * 1 ≤ (max p.length q.length + 2) * (ChA K p q + 1) := Nat.mul_le_mul_left _ (by omega)
  omega

set_option maxRecDepth 100000 in
set_option maxHeartbeats 16000000 in
theorem cOf1_seq (K n : Nat) (hn : 1 ≤ n) (Bp Bq : Nat) (pa qa : Option Addr) (pl pc ql qc : Nat) (p q : List Rat) (hok : ChOk K p q) (l n0 : Nat) (G : List (List Rat) → World → Prop) (w : World) (hn0 : n0 ≤ w.heap.size) (hbp : BxP w Bp pa pl pc) (hbq : BxP w Bq qa ql qc) (ip : IsPoly w (.agg #[.slice pa pl pc]) p) (iq : IsPoly w (.agg #[.slice qa ql qc]) q)
    (hGb : GB G) (hGs : GS n0 G) (hY : YldC n0 n l G) (h0 : G [] w) :
    CallsIn Fence.wide n Tryz.prog 55 (#[.func (.yield l) #[] #[]] ++ #[.pointer (some ⟨Bp, 0, none⟩), .pointer (some ⟨Bq, 0, none⟩)]) w fun e W' => (∃ v, e = .returned v) ∧ ∃ H a, G (H ++ [a]) W' ∧ chnQ p q = H ++ [a] ∧ Chn p q (ChA K p q) a [] := by
  have hmx : Tryz.prog.follows .mixedOrders = true := by kernel_rfl
  have HX1 := hidD (fun (V : World) (hB : Below w.heap.size w V) => (hbp.below hB).cell)
  have HX2 := hidD (fun (V : World) (hB : Below w.heap.size w V) => (hbq.below hB).cell)
  have HL1 := hidD (fun (V : World) (hB : Below w.heap.size w V) => show Calls Tryz.prog 56 #[.agg #[.slice pa pl pc]] V fun e w' => ∃ u, e = .returned u ∧ IsPoly w' u (lstQ p) ∧ Below V.heap.size V w' by
    obtain ⟨D, h1, h2, h3⟩ := hok.cp
    exact cleast_c D K _ p V (ip.below hB) hok.tp h1 h2 h3 hok.bd.2.1)
  have HL2 := hidD (fun (V : World) (hB : Below w.heap.size w V) => show Calls Tryz.prog 56 #[.agg #[.slice qa ql qc]] V fun e w' => ∃ u, e = .returned u ∧ IsPoly w' u (lstQ q) ∧ Below V.heap.size V w' by
    obtain ⟨D, h1, h2, h3⟩ := hok.cq
    exact cleast_c D K _ q V (iq.below hB) hok.tq h1 h2 h3 hok.bd.2.1)
  have HG0 := hidD (fun (V : World) (hB : Below w.heap.size w V) => hGb [] w V h0 hB)
  have HST := hidD (Chn.start hok.tp hok.tq hok.lp hok.lq hok.bd.2.2.1)
  have HNX := hidD (fun (a b : List Rat) (h : Chn p q (ChA K p q) a b) (hb : b ≠ []) => Chn.next hok.tp hok.tq hok.lp hok.lq hok.bd.2.2.1 h hb)
  have HLF := hidD (fun (V : World) (x y : Value) (a b : List Rat) (hx : IsPoly V x a) (hy : IsPoly V y b) (h : Chn p q (ChA K p q) a b) (hb : b ≠ []) => cleft_c (ChA K p q) x y a b V hx hy h.wa h.wb h.ta h.tb hb hok.bd.2.2.2 (by
    have h1 := h.la
    have h2 : (a.length + 2) * (ChA K p q + 1) ≤ (max p.length q.length + 2) * (ChA K p q + 1) := Nat.mul_le_mul_right _ (by omega)
    have h3 := hok.le
    omega) (h.nx hb))
  have HGG := hidD (show GB G ∧ GS n0 G from ⟨hGb, hGs⟩)
  have HYY := hidD hY
  have HN0 := hidD hn0
  have M1 : Hid (Mem w w []) := hidD (Mem.nil w)
  clear hok hbp hbq ip iq hGb hGs hY h0 hn0
  refine callsIn_of_wp Tryz.func55 rfl trivial ?_ rfl
  simp only [Tryz.ntmps55, List.size_toArray, List.length_cons, List.length_nil, Nat.reduceAdd, Nat.reduceSub, Array.replicate_succ, Array.replicate_zero, List.push_toArray, List.append_toArray, List.nil_append, List.cons_append]
  gi_wp2_with fail
  refine wpIn_region_tab hmx [[], [0], [], [2, 1], [], [], [4, 1, 3, 0, 1, 4, 5], [5, 3, 6, 0, 1, 2, 3, 4, 5, 6]] (by kernel_rfl) (by decide)
    (fun D act V => ∃ (t6x t7x t8x t9x t4x t5x : Value) (x4 x5 : Option (Nat × Dat)), act = { tmps := #[Value.func (Fn.yield l) #[] #[], Value.pointer (some { block := Bp, off := 0 }), Value.pointer (some { block := Bq, off := 0 }), undef, t4x, t5x, t6x, t7x, t8x, t9x, undef, undef, undef, undef, undef, undef, undef, undef, undef, undef, undef, undef], defers := [] } ∧ Hid ((D 0 = true → t6x = .agg #[.slice pa pl pc]) ∧ (D 1 = true → Has V t7x (.poly (lstQ p))) ∧ (D 2 = true → t8x = .agg #[.slice qa ql qc]) ∧ (D 3 = true → Has V t9x (.poly (lstQ q))) ∧ ((D 4 = false → x4 = none) ∧ (D 4 = true → D 6 = false → ∃ B : Nat, t4x = .pointer (some ⟨B, 0, none⟩) ∧ x4 = some (B, .poly [])) ∧ (D 6 = true → ∃ B : Nat, t4x = .pointer (some ⟨B, 0, none⟩) ∧ x4 = some (B, .poly (lstQ p)))) ∧ ((D 5 = false → x5 = none) ∧ (D 5 = true → D 7 = false → ∃ B : Nat, t5x = .pointer (some ⟨B, 0, none⟩) ∧ x5 = some (B, .poly [])) ∧ (D 7 = true → ∃ B : Nat, t5x = .pointer (some ⟨B, 0, none⟩) ∧ x5 = some (B, .poly (lstQ q))))) ∧ Hid (Mem w V [x4, x5]))
    ⟨_, _, _, _, _, _, none, none, rfl, hidD ⟨by simp, by simp, by simp, by simp, by simp, by simp⟩, hidD (((M1.out).none).none).drew⟩ ?step1 ?fin1
  case step1 =>
    rintro D act V i ds hcl hi hds hDi ⟨t6x, t7x, t8x, t9x, t4x, t5x, x4, x5, rfl, GG, MM⟩
    have hi6 : i < 8 := (List.getElem?_eq_some_iff.1 hi).1
    obtain rfl | rfl | rfl | rfl | rfl | rfl | rfl | rfl : i = 0 ∨ i = 1 ∨ i = 2 ∨ i = 3 ∨ i = 4 ∨ i = 5 ∨ i = 6 ∨ i = 7 := by omega
    all_goals
      simp only [List.getElem?_cons_zero, List.getElem?_cons_succ, Option.some.injEq] at hi
      subst hi
    · have e0 := HX1.out V MM.out.2.2
      clear hds
      refine wpOpIn_step rfl (fun K hK => ?_)
      go_simp
      exact hK _ _ ⟨_, _, _, _, _, _, _, _, rfl, hidD ⟨fun _ => rfl, GG.out.2.1, GG.out.2.2.1, GG.out.2.2.2.1, GG.out.2.2.2.2.1, GG.out.2.2.2.2.2⟩, hidD (MM.out)⟩
    · obtain rfl := (GG.out.1 (hds 0 (by simp)))
      have HC := hidD (fun (n9 : Nat) => (callsIn_wide (n := n9)).2 (HL1.out V MM.out.2.2))
      clear hds
      refine wpOpIn_step rfl (fun K hK => ?_)
      go_simp
      gi_wp2_with (refine ⟨trivial, ?_⟩; gi_at_call 56; refine (HC.out _).mono ?_; rintro e w5 ⟨v5, rfl, hv5, hb5⟩)
      exact ⟨_, _, _, _, _, _, _, _, rfl, hidD ⟨fun _ => rfl, fun _ => hv5, GG.out.2.2.1, fun h => (GG.out.2.2.2.1 h).below hb5, GG.out.2.2.2.2.1, GG.out.2.2.2.2.2⟩, hidD (MM.out.below hb5)⟩
    · have e0 := HX2.out V MM.out.2.2
      clear hds
      refine wpOpIn_step rfl (fun K hK => ?_)
      go_simp
      exact hK _ _ ⟨_, _, _, _, _, _, _, _, rfl, hidD ⟨GG.out.1, GG.out.2.1, fun _ => rfl, GG.out.2.2.2.1, GG.out.2.2.2.2.1, GG.out.2.2.2.2.2⟩, hidD (MM.out)⟩
    · obtain rfl := (GG.out.2.2.1 (hds 2 (by simp)))
      have HC := hidD (fun (n9 : Nat) => (callsIn_wide (n := n9)).2 (HL2.out V MM.out.2.2))
      clear hds
      refine wpOpIn_step rfl (fun K hK => ?_)
      go_simp
      gi_wp2_with (refine ⟨trivial, ?_⟩; gi_at_call 56; refine (HC.out _).mono ?_; rintro e w5 ⟨v5, rfl, hv5, hb5⟩)
      exact ⟨_, _, _, _, _, _, _, _, rfl, hidD ⟨GG.out.1, fun h => (GG.out.2.1 h).below hb5, fun _ => rfl, fun _ => hv5, GG.out.2.2.2.2.1, GG.out.2.2.2.2.2⟩, hidD (MM.out.below hb5)⟩
    · have hf : D 6 = false := by
        cases h : D 6 with
        | false => rfl
        | true => rw [hcl 6 _ rfl h 4 (by simp)] at hDi; cases hDi
      obtain rfl := GG.out.2.2.2.2.1.1 hDi
      clear hds
      refine wpOpIn_step rfl (fun K hK => ?_)
      go_simp
      exact hK _ _ ⟨_, _, _, _, _, _, _, _, rfl, hidD ⟨GG.out.1, fun h => (GG.out.2.1 h).alloc _, GG.out.2.2.1, fun h => (GG.out.2.2.2.1 h).alloc _, ⟨fun h => by simp at h, fun _ _ => ⟨_, rfl, rfl⟩, fun h => by simp [hf] at h⟩, GG.out.2.2.2.2.2⟩, hidD (MM.out.fill (i := 0) rfl (.poly []) (poly0 _))⟩
    · have hf : D 7 = false := by
        cases h : D 7 with
        | false => rfl
        | true => rw [hcl 7 _ rfl h 5 (by simp)] at hDi; cases hDi
      obtain rfl := GG.out.2.2.2.2.2.1 hDi
      clear hds
      refine wpOpIn_step rfl (fun K hK => ?_)
      go_simp
      exact hK _ _ ⟨_, _, _, _, _, _, _, _, rfl, hidD ⟨GG.out.1, fun h => (GG.out.2.1 h).alloc _, GG.out.2.2.1, fun h => (GG.out.2.2.2.1 h).alloc _, GG.out.2.2.2.2.1, ⟨fun h => by simp at h, fun _ _ => ⟨_, rfl, rfl⟩, fun h => by simp [hf] at h⟩⟩, hidD (MM.out.fill (i := 1) rfl (.poly []) (poly0 _))⟩
    · obtain ⟨B, rfl, rfl⟩ := GG.out.2.2.2.2.1.2.1 (hds 4 (by simp)) hDi
      have hds0 := hds 4 (by simp)
      have hv := (GG.out.2.1 (hds 1 (by simp)))
      obtain ⟨a1, l1, c1, rfl⟩ := IsPoly.form (show IsPoly V _ _ from hv)
      obtain ⟨a, l, c, n, r⟩ := MM.out.poly2 (i := 0) rfl
      have e0 := n.cell
      have f0 := n.frozen
      clear hds
      refine wpOpIn_step rfl (fun K hK => ?_)
      go_simp
      exact hK _ _ ⟨_, _, _, _, _, _, _, _, rfl, hidD ⟨GG.out.1, fun h => (GG.out.2.1 h).set1 n rfl _, GG.out.2.2.1, fun h => (GG.out.2.2.2.1 h).set1 n rfl _, ⟨fun h => by simp [hds0] at h, fun _ h => by simp at h, fun _ => ⟨B, rfl, rfl⟩⟩, GG.out.2.2.2.2.2⟩, hidD (MM.out.putPoly (i := 0) rfl hv)⟩
    · obtain ⟨B, rfl, rfl⟩ := GG.out.2.2.2.2.2.2.1 (hds 5 (by simp)) hDi
      have hds0 := hds 5 (by simp)
      have hv := (GG.out.2.2.2.1 (hds 3 (by simp)))
      obtain ⟨a1, l1, c1, rfl⟩ := IsPoly.form (show IsPoly V _ _ from hv)
      obtain ⟨a, l, c, n, r⟩ := MM.out.poly2 (i := 1) rfl
      have e0 := n.cell
      have f0 := n.frozen
      clear hds
      refine wpOpIn_step rfl (fun K hK => ?_)
      go_simp
      exact hK _ _ ⟨_, _, _, _, _, _, _, _, rfl, hidD ⟨GG.out.1, fun h => (GG.out.2.1 h).set1 n rfl _, GG.out.2.2.1, fun h => (GG.out.2.2.2.1 h).set1 n rfl _, GG.out.2.2.2.2.1, ⟨fun h => by simp [hds0] at h, fun _ h => by simp at h, fun _ => ⟨B, rfl, rfl⟩⟩⟩, hidD (MM.out.putPoly (i := 1) rfl hv)⟩
  rintro D act V2 hDD ⟨t6x, t7x, t8x, t9x, t4x, t5x, x4, x5, rfl, GG, MM⟩
  obtain ⟨B3, rfl, rfl⟩ := GG.out.2.2.2.2.1.2.2 (hDD 6 (by decide))
  obtain ⟨B4, rfl, rfl⟩ := GG.out.2.2.2.2.2.2.2 (hDD 7 (by decide))
  obtain rfl := GG.out.1 (hDD 0 (by decide))
  obtain rfl := GG.out.2.2.1 (hDD 2 (by decide))
  clear GG hDD M1
  have M2 : Hid (Mem w V2 [some (B3, .poly (lstQ p)), some (B4, .poly (lstQ q))]) := MM
  clear MM
  obtain ⟨a5, l5, c5, n5, r5⟩ := M2.out.poly2 (i := 0) rfl
  obtain ⟨a6, l6, c6, n6, r6⟩ := M2.out.poly2 (i := 1) rfl
  have HNE := hidD (show B3 ≠ B4 ∧ n0 ≤ B3 ∧ n0 ≤ B4 from ⟨M2.out.ne 0 1 rfl rfl (by decide), Nat.le_trans HN0.out (M2.out.ge 0 rfl), Nat.le_trans HN0.out (M2.out.ge 1 rfl)⟩)
  have ST9 : Hid (OfG n0 G [] V2 (.agg #[.slice a5 l5 c5]) (.agg #[.slice a6 l6 c6]) (lstQ p) (lstQ q)) := hidD ⟨HGG.out, HG0.out V2 M2.out.2.2, r5, r6⟩
  have N4 : Hid (BxP V2 B3 a5 l5 c5) := hidD n5
  have N5 : Hid (BxP V2 B4 a6 l6 c6) := hidD n6
  clear n5 n6 r5 r6 M2 HL1 HL2 HG0 HX1 HX2
  gi_wp2
  gi_loopw [] (fun wr => ∃ (H : List (List Rat)) (a b : List Rat) (x4 x5 : Option Addr) (l4 c4 l5 c5 : Nat), Hid (OfG n0 G H wr (.agg #[.slice x4 l4 c4]) (.agg #[.slice x5 l5 c5]) a b) ∧ Hid (BxP wr B3 x4 l4 c4) ∧ Hid (BxP wr B4 x5 l5 c5) ∧ Hid (Chn p q (ChA K p q) a b) ∧ Hid (chnQ p q = H ++ chnL a b)) (fun wr => lenAt wr B4)
  case atStart => exact ⟨[], _, _, _, _, _, _, _, _, ST9, N4, N5, HST, hidD rfl⟩
  case round =>
    clear ST9 N4 N5 HST
    obtain ⟨H, a, b, x4, x5, l4, c4, l5, c5, HG, H4, H5, HC, HH⟩ := hrel
    obtain ⟨fn, tmps, assign, body, hy, hRd⟩ := HYY.out H wr B3 B4 x4 l4 c4 x5 l5 c5 a b HNE.out.2.1 HNE.out.2.2 (Bx.lt (cs := #[.slice x4 l4 c4]) H4.out) (Bx.lt (cs := #[.slice x5 l5 c5]) H5.out) HG.out.2.1 H4.out H5.out HG.out.2.2.1 HG.out.2.2.2
    have e4 := H4.out.cell
    gi_wp2
    refine hRd.mono ?_
    rintro e W3 ⟨rfl, hG3, h43, h53, ia3, ib3⟩
    have HG3 : Hid (OfG n0 G (H ++ [a]) W3 (.agg #[.slice x4 l4 c4]) (.agg #[.slice x5 l5 c5]) a b) := hidD ⟨HGG.out, hG3, ia3, ib3⟩
    have HLB := hidD (poly_len ib3)
    have HL5 := hidD (H5.out.len)
    have HDG := hidD (yDegree_c _ b W3 ib3)
    have e5 := h53.cell
    have H43 := hidD h43
    have H53 := hidD h53
    clear hy hRd e4 hG3 h43 h53 ia3 ib3 HG H4 H5
    by_cases hb0 : b = []
    · have HE := hidD (show chnQ p q = H ++ [a] by rw [HH.out, hb0]; rfl)
      have HCE := hidD (show Chn p q (ChA K p q) a [] by have := HC.out; rwa [hb0] at this)
      rw [hb0, show ((([] : List Rat).length : Int) - 1) = -1 from rfl] at HDG
      gi_wp2_with (refine ⟨trivial, ?_⟩; gi_at_call 20; refine ((callsIn_wide (n := _)).2 HDG.out).mono ?_; clear HDG; rintro e w4 ⟨rfl, hb4⟩)
      go_end0
      exact ⟨⟨_, rfl⟩, H, a, (HG3.out.below hb4).2.1, HE.out, HCE.out⟩
    · obtain ⟨m, hm⟩ : ∃ m : Nat, b.length - 1 = m := ⟨_, rfl⟩
      have hm2 : (b.length : Int) - 1 = (m : Int) := by have := List.length_pos_iff.2 hb0; omega
      rw [hm2] at HDG
      have HCN := hidD (HNX.out a b HC.out hb0)
      have HSH := hidD (lft_shorter (a := a) HC.out.tb hb0)
      have HHN := hidD (show chnQ p q = (H ++ [a]) ++ chnL b (lftQ a b) by rw [HH.out, chnL_step HC.out.tb hb0, List.append_assoc]; rfl)
      have HLF1 := hidD (fun (V : World) (x y : Value) (hx : IsPoly V x a) (hy : IsPoly V y b) => HLF.out V x y a b hx hy HC.out hb0)
      have hm0 : ¬ (m : Int) < 0 := by omega
      clear hm hm2 hb0
      gi_wp2_with (refine ⟨trivial, ?_⟩; gi_at_call 20; refine ((callsIn_wide (n := _)).2 HDG.out).mono ?_; clear HDG; rintro e w4 ⟨rfl, hb4⟩)
      have ST0 := (HG3.out.below hb4).below ((Below.refl _ w4).drew)
      have ST1 := (H43.out.below hb4).below ((Below.refl _ w4).drew)
      have ST2 := (H53.out.below hb4).below ((Below.refl _ w4).drew)
      refine wpIn_region_tab hmx [[], [], [], [1, 2], [0, 3, 0, 1], [3, 4, 0, 1, 2, 3, 4]] (by kernel_rfl) (by decide)
        (fun D act V => ∃ (t18x t19x t20x t21x : Value), act = { tmps := #[Value.func (Fn.yield l) #[] #[], Value.pointer (some { block := Bp, off := 0 }), Value.pointer (some { block := Bq, off := 0 }), undef, Value.pointer (some { block := B3, off := 0 }), Value.pointer (some { block := B4, off := 0 }), Value.agg #[Value.slice pa pl pc], t7x, Value.agg #[Value.slice qa ql qc], t9x, Value.func (Fn.yield l) #[] #[], Value.agg #[Value.slice x4 l4 c4], Value.bool true, Value.bool true, Value.agg #[Value.slice x5 l5 c5], Value.int IntKind.i64 ↑m, Value.bool true, Value.bool true, t18x, t19x, t20x, t21x], defers := [] } ∧ Hid ((D 0 = true → t18x = .agg #[.slice x5 l5 c5]) ∧ (D 1 = true → t19x = .agg #[.slice x4 l4 c4]) ∧ (D 2 = true → t20x = .agg #[.slice x5 l5 c5]) ∧ (D 3 = true → D 5 = false → IsPoly V t21x (lftQ a b))) ∧ Hid (OfG n0 G (H ++ [a]) V (.agg #[.slice x4 l4 c4]) (.agg #[.slice x5 l5 c5]) a b) ∧ Hid ((D 4 = false → BxP V B3 x4 l4 c4) ∧ (D 4 = true → BxP V B3 x5 l5 c5)) ∧ Hid ((D 5 = false → BxP V B4 x5 l5 c5) ∧ (D 5 = true → NxP V B4 (lftQ a b))))
        ⟨_, _, _, _, rfl, hidD ⟨by simp, by simp, by simp, by simp⟩, hidD ST0, hidD ⟨fun _ => ST1, by simp⟩, hidD ⟨fun _ => ST2, by simp⟩⟩ ?step7 ?fin7
      case step7 =>
        rintro D act V i ds hcl hi hds hDi ⟨t18x, t19x, t20x, t21x, rfl, GG, SS0, SS1, SS2⟩
        have hi6 : i < 6 := (List.getElem?_eq_some_iff.1 hi).1
        obtain rfl | rfl | rfl | rfl | rfl | rfl : i = 0 ∨ i = 1 ∨ i = 2 ∨ i = 3 ∨ i = 4 ∨ i = 5 := by omega
        all_goals
          simp only [List.getElem?_cons_zero, List.getElem?_cons_succ, Option.some.injEq] at hi
          subst hi
        · have hS0 := SS0.out
          have hf1 : D 4 = false := by
            cases h : D 4 with
            | false => rfl
            | true => rw [(hcl 4 _ rfl h 0 (by simp))] at hDi; cases hDi
          have hS1 := SS1.out.1 hf1
          have hf2 : D 5 = false := by
            cases h : D 5 with
            | false => rfl
            | true => rw [(hcl 5 _ rfl h 0 (by simp))] at hDi; cases hDi
          have hS2 := SS2.out.1 hf2
          have e0 := hS2.cell
          clear hds
          refine wpOpIn_step rfl (fun K hK => ?_)
          go_simp
          exact hK _ _ ⟨_, _, _, _, rfl, hidD ⟨fun _ => rfl, GG.out.2.1, GG.out.2.2.1, fun h h2 => (GG.out.2.2.2 h (by simpa using h2))⟩, hidD (SS0.out), hidD ⟨fun h => (SS1.out.1 (by simpa using h)), fun h => (SS1.out.2 (by simpa using h))⟩, hidD ⟨fun h => (SS2.out.1 (by simpa using h)), fun h => (SS2.out.2 (by simpa using h))⟩⟩
        · have hS0 := SS0.out
          have hf1 : D 4 = false := by
            cases h : D 4 with
            | false => rfl
            | true => rw [(hcl 4 _ rfl h 1 (by simp))] at hDi; cases hDi
          have hS1 := SS1.out.1 hf1
          have hf2 : D 5 = false := by
            cases h : D 5 with
            | false => rfl
            | true => rw [(hcl 5 _ rfl h 1 (by simp))] at hDi; cases hDi
          have hS2 := SS2.out.1 hf2
          have e0 := hS1.cell
          clear hds
          refine wpOpIn_step rfl (fun K hK => ?_)
          go_simp
          exact hK _ _ ⟨_, _, _, _, rfl, hidD ⟨GG.out.1, fun _ => rfl, GG.out.2.2.1, fun h h2 => (GG.out.2.2.2 h (by simpa using h2))⟩, hidD (SS0.out), hidD ⟨fun h => (SS1.out.1 (by simpa using h)), fun h => (SS1.out.2 (by simpa using h))⟩, hidD ⟨fun h => (SS2.out.1 (by simpa using h)), fun h => (SS2.out.2 (by simpa using h))⟩⟩
        · have hS0 := SS0.out
          have hf1 : D 4 = false := by
            cases h : D 4 with
            | false => rfl
            | true => rw [(hcl 3 _ rfl (hcl 4 _ rfl h 3 (by simp)) 2 (by simp))] at hDi; cases hDi
          have hS1 := SS1.out.1 hf1
          have hf2 : D 5 = false := by
            cases h : D 5 with
            | false => rfl
            | true => rw [(hcl 5 _ rfl h 2 (by simp))] at hDi; cases hDi
          have hS2 := SS2.out.1 hf2
          have e0 := hS2.cell
          clear hds
          refine wpOpIn_step rfl (fun K hK => ?_)
          go_simp
          exact hK _ _ ⟨_, _, _, _, rfl, hidD ⟨GG.out.1, GG.out.2.1, fun _ => rfl, fun h h2 => (GG.out.2.2.2 h (by simpa using h2))⟩, hidD (SS0.out), hidD ⟨fun h => (SS1.out.1 (by simpa using h)), fun h => (SS1.out.2 (by simpa using h))⟩, hidD ⟨fun h => (SS2.out.1 (by simpa using h)), fun h => (SS2.out.2 (by simpa using h))⟩⟩
        · have hS0 := SS0.out
          have hf1 : D 4 = false := by
            cases h : D 4 with
            | false => rfl
            | true => rw [(hcl 4 _ rfl h 3 (by simp))] at hDi; cases hDi
          have hS1 := SS1.out.1 hf1
          have hf2 : D 5 = false := by
            cases h : D 5 with
            | false => rfl
            | true => rw [(hcl 5 _ rfl h 3 (by simp))] at hDi; cases hDi
          have hS2 := SS2.out.1 hf2
          obtain rfl := GG.out.2.1 (hds 1 (by simp))
          obtain rfl := GG.out.2.2.1 (hds 2 (by simp))
          clear hds
          have HC := hidD (fun (n9 : Nat) => (callsIn_wide (n := n9)).2 (HLF1.out V _ _ hS0.2.2.1 hS0.2.2.2))
          refine wpOpIn_step rfl (fun K hK => ?_)
          go_simp
          gi_wp2_with (refine ⟨trivial, ?_⟩; gi_at_call 57; refine (HC.out _).mono ?_; rintro e w5 ⟨v5, rfl, hv5, hb5⟩)
          exact ⟨_, _, _, _, rfl, hidD ⟨GG.out.1, fun _ => rfl, fun _ => rfl, fun _ _ => hv5⟩, hidD (SS0.out.below hb5), hidD ⟨fun h => (SS1.out.1 (by simpa using h)).below hb5, fun h => (SS1.out.2 (by simpa using h)).below hb5⟩, hidD ⟨fun h => (SS2.out.1 (by simpa using h)).below hb5, fun h => (SS2.out.2 (by simpa using h)).below hb5⟩⟩
        · have hS0 := SS0.out
          have hS1 := SS1.out.1 hDi
          have hf2 : D 5 = false := by
            cases h : D 5 with
            | false => rfl
            | true => rw [(hcl 5 _ rfl h 4 (by simp))] at hDi; cases hDi
          have hS2 := SS2.out.1 hf2
          obtain rfl := GG.out.1 (hds 0 (by simp))
          have e0 := hS1.cell
          have f0 := hS1.frozen
          clear hds
          refine wpOpIn_step rfl (fun K hK => ?_)
          go_simp
          exact hK _ _ ⟨_, _, _, _, rfl, hidD ⟨fun _ => rfl, GG.out.2.1, GG.out.2.2.1, fun h h2 => (GG.out.2.2.2 h (by simpa using h2)).setB hS1⟩, hidD (SS0.out.put HNE.out.2.1 hS1), hidD ⟨fun h => by simp at h, fun _ => hS1.put⟩, hidD ⟨fun h => (SS2.out.1 (by simpa using h)).far (fun e => HNE.out.1 e.symm), fun h => by simp [hf2] at h⟩⟩
        · have hS0 := SS0.out
          have hS2 := SS2.out.1 hDi
          have h0 := GG.out.2.2.2 (hds 3 (by simp)) hDi
          have hds4 := hds 4 (by simp)
          have e0 := hS2.cell
          have f0 := hS2.frozen
          obtain ⟨x7, l7, c7, rfl⟩ := IsPoly.form h0
          clear hds
          refine wpOpIn_step rfl (fun K hK => ?_)
          go_simp
          exact hK _ _ ⟨_, _, _, _, rfl, hidD ⟨GG.out.1, GG.out.2.1, GG.out.2.2.1, fun _ h => by simp at h⟩, hidD (SS0.out.put HNE.out.2.2 hS2), hidD ⟨fun h => by simp [hds4] at h, fun h => (SS1.out.2 (by simpa using h)).far HNE.out.1⟩, hidD ⟨fun h => by simp at h, fun _ => ⟨x7, l7, c7, hS2.put, h0.setB hS2⟩⟩⟩
      case fin7 =>
        rintro D act V hDD ⟨t18x, t19x, t20x, t21x, rfl, GG, SS0, SS1, SS2⟩
        obtain ⟨x7, l7, c7, n7, i7⟩ := SS2.out.2 (hDD 5 (by decide))
        have n6 := SS1.out.2 (hDD 4 (by decide))
        have HG7 : Hid (OfG n0 G (H ++ [a]) V (.agg #[.slice x5 l5 c5]) (.agg #[.slice x7 l7 c7]) b (lftQ a b)) := hidD ⟨HGG.out, SS0.out.2.1, SS0.out.2.2.2, i7⟩
        have HLN := hidD (show lenAt V B4 < lenAt wr B4 by rw [n7.len, HL5.out, poly_len i7, HLB.out]; exact HSH.out)
        have N6 := hidD n6
        have N7 := hidD n7
        clear GG SS0 SS1 SS2 hDD n6 n7 i7
        gi_wp2
        go_roundw
        case rel => exact ⟨H ++ [a], b, lftQ a b, _, _, _, _, _, _, HG7, N6, N7, HCN, HHN⟩
        case measure => exact HLN.out
end Go.Proofs.YteldjhhjnchdeaaGreatDoor.M3
