import Derived.Test.YteldjhhjnchdeaaGreatDoorK26
import Derived.Test.YteldjhhjnchdeaaGreatDoorK24
import Derived.Test.YteldjhhjnchdeaaGreatDoorK03
import Derived.Test.YteldjhhjnchdeaaGreatDoorK15
import Derived.Deep.OwnRows
namespace Go.Proofs.YteldjhhjnchdeaaGreatDoor
open Go.RowKit Go.Shelf

attribute [local go_sem] Oper.semAt_some

theorem mul_parts (p q : Rat) (hp : Sq p) (hq : Sq q) (dn up x y : Int) (h1 : ((Int.gcd p.num (q.den : Int) : Nat) : Int) = dn) (h2 : ((Int.gcd q.num (p.den : Int) : Nat) : Int) = up) (h3 : p.num / dn = x) (h4 : q.num / up = y) :
    Sok dn ∧ dn ≠ 0 ∧ Sok up ∧ up ≠ 0 ∧ Sok x ∧ Sok y ∧ (p * q).num = x * y ∧ ((p * q).den : Int) = p.den / up * (q.den / dn) := by
  have hl := least_mul p q dn up h1.symm h2.symm
  have hdn : dn ≠ 0 := by rw [← h1]; have := gcd_posZ (x := p.num) (y := q.den) (by have := q.den_nz; omega); omega
  have hup : up ≠ 0 := by rw [← h2]; have := gcd_posZ (x := q.num) (y := p.den) (by have := p.den_nz; omega); omega
  refine ⟨by rw [← h1]; exact hp.num.gcd hq.den, hdn, by rw [← h2]; exact hq.num.gcd hp.den, hup, by rw [← h3]; exact hp.num.div, by rw [← h4]; exact hq.num.div, ?_, hl.2⟩
  rw [hl.1, h3, h4]

set_option maxRecDepth 100000 in
set_option maxHeartbeats 8000000 in
theorem qtimes_c (va vb : Value) (p q : Rat) (w : World) (ha : IsRat w va p) (hb : IsRat w vb q) (hsp : Sq p) (hsq : Sq q) :
    Calls Tryz.prog 52 #[va, vb] w fun e w' => ∃ u, e = .returned u ∧ IsRat w' u (p * q) ∧ Below w.heap.size w w' := by
  obtain ⟨s, a, l, c, t, b, k, d, rfl⟩ := IsRat.form ha
  obtain ⟨s', a', l', c', t', b', k', d', rfl⟩ := IsRat.form hb
  have M0 := mem_rats w s t s' t' a b a' b' l c k d l' c' k' d' p q ha hb
  obtain ⟨W0, hW0⟩ : ∃ W0, ((w.alloc (.cells #[.bool s, .slice a l c, .bool t, .slice b k d] 65)).alloc (.cells #[.bool s', .slice a' l' c', .bool t', .slice b' k' d'] 65)).alloc (.cells #[.bool false, .slice none 0 0, .bool false, .slice none 0 0] 65) = W0 := ⟨_, rfl⟩
  have HW0 := hidD hW0
  rw [hW0] at M0
  have M1 : Hid (Mem w W0 [some (w.heap.size, .rat (p)), some (w.heap.size + 1, .rat (q)), some (w.heap.size + 1 + 1, .rat (0))]) := hidD M0
  have hmx : Tryz.prog.follows .mixedOrders = true := by kernel_rfl
  have HP := hidD hsp
  have HQ := hidD hsq
  clear M0 ha hb hW0 hsp hsq
  go_enter Tryz.func52, Tryz.ntmps52
  go_upto_region 1 with fail
  rw [HW0.out]
  clear HW0
  obtain ⟨bb, hbb⟩ : ∃ bb : Bool, decide (p.den = 1 ∧ q.den = 1) = bb := ⟨_, rfl⟩
  have HBB := hidD hbb
  clear hbb
  go_cut [13] (fun c w' => c = .bool bb ∧ Hid (Mem w w' [some (w.heap.size, .rat (p)), some (w.heap.size + 1, .rat (q)), some (w.heap.size + 1 + 1, .rat (0))]))
  case first =>
    obtain ⟨s1, a1, l1, c1, t1, b1, k1, d1, n1, r1, i1, j1⟩ := M1.out.rat (i := 0) rfl
    have e1a := n1.c0
    have e1b := n1.c1
    have e1c := n1.c2
    have e1d := n1.c3
    obtain ⟨s2, a2, l2, c2, t2, b2, k2, d2, n2, r2, i2, j2⟩ := M1.out.rat (i := 1) rfl
    have e2a := n2.c0
    have e2b := n2.c1
    have e2c := n2.c2
    have e2d := n2.c3
    have H1 := hidD (isWhole_c _ p W0 r1)
    have H2 := hidD (fun (V : World) (h : Below W0.heap.size W0 V) => isWhole_c _ q V (r2.below h))
    by_cases h1 : p.den = 1
    · rw [decide_eq_true h1] at H1
      obtain ⟨b2, hb2⟩ : ∃ b2, decide (q.den = 1) = b2 := ⟨_, rfl⟩
      rw [hb2] at H2
      have HB2 := hidD (show b2 = bb by rw [← hb2, ← HBB.out]; exact decide_eq_decide.2 ⟨fun h => ⟨h1, h⟩, fun h => h.2⟩)
      clear hb2 h1
      go_wp2_with (first
        | (go_at_call 89; refine H1.out.mono ?_; clear H1; rintro e w1 ⟨rfl, hb1⟩; have e1a := (n1.below hb1).c0; have e1b := (n1.below hb1).c1; have e1c := (n1.below hb1).c2; have e1d := (n1.below hb1).c3; have e2a := (n2.below hb1).c0; have e2b := (n2.below hb1).c1; have e2c := (n2.below hb1).c2; have e2d := (n2.below hb1).c3)
        | (go_at_call 89; refine (H2.out _ hb1).mono ?_; clear H2; rintro e w2 ⟨rfl, hb2⟩))
      go_meet
      case rel => exact ⟨by rw [HB2.out], hidD ((M1.out.below hb1).below hb2)⟩
    · rw [decide_eq_false h1] at H1
      have HB2 := hidD (show bb = false by rw [← HBB.out]; exact decide_eq_false (fun h => h1 h.1))
      clear h1
      go_wp2_with (go_at_call 89; refine H1.out.mono ?_; clear H1; rintro e w1 ⟨rfl, hb1⟩)
      go_meet
      case rel => exact ⟨by rw [HB2.out], hidD (M1.out.below hb1)⟩
  obtain ⟨rfl, MM⟩ := hcut
  have M2 : Hid (Mem w wc [some (w.heap.size, .rat (p)), some (w.heap.size + 1, .rat (q)), some (w.heap.size + 1 + 1, .rat (0))]) := MM
  clear M1 MM
  cases bb with
  | true =>
    have hdd := of_decide_eq_true HBB.out
    have HW := hidD (whole_mul hdd.1 hdd.2)
    clear hdd HBB
    obtain ⟨s3, a3, l3, c3, t3, b3, k3, d3, n3, r3, i3, j3⟩ := M2.out.rat (i := 0) rfl
    have e3a := n3.c0
    have e3b := n3.c1
    have e3c := n3.c2
    have e3d := n3.c3
    obtain ⟨s4, a4, l4, c4, t4, b4, k4, d4, n4, r4, i4, j4⟩ := M2.out.rat (i := 1) rfl
    have e4a := n4.c0
    have e4b := n4.c1
    have e4c := n4.c2
    have e4d := n4.c3
    obtain ⟨s5, a5, l5, c5, t5, b5, k5, d5, n5, r5, i5, j5⟩ := M2.out.rat (i := 2) rfl
    have e5a := n5.c0
    have e5b := n5.c1
    have e5c := n5.c2
    have e5d := n5.c3
    have f5a := n5.f0
    have f5b := n5.f1
    have f5c := n5.f2
    have f5d := n5.f3
    go_wp2_with (go_at_call 85; refine (itimes_c _ _ p.num q.num _ i3 i4 (by have h1 := HP.out.num.words; have h2 := HQ.out.num.words; omega)).mono ?_; rintro e w1 ⟨u, rfl, hu, hq⟩; obtain ⟨s90, a90, l90, c90, rfl⟩ := IsInt.form2 hu; have e5a := (n5.below hq).c0; have e5b := (n5.below hq).c1; have e5c := (n5.below hq).c2; have e5d := (n5.below hq).c3; have f5a := (n5.below hq).f0; have f5b := (n5.below hq).f1; have f5c := (n5.below hq).f2; have f5d := (n5.below hq).f3)
    have hr : IsRat w1 (.agg #[.bool s90, .slice a90 l90 c90, .bool false, .slice none 0 0]) (p * q) := IsRat.mk (by rw [HW.out.1]; exact hu) (by rw [denZ_zero.2 HW.out.2]; exact int0 _)
    have hq2 := M2.out.2.2.trans (hq.mono M2.out.2.2.size)
    exact bodyPost_ret (v := .agg #[.bool s90, .slice a90 l90 c90, .bool false, .slice none 0 0]) (by simp [results, Tryz.results52, go_sem, e5a, e5b, e5c, e5d]) rfl ⟨_, rfl, hr.put4 (n5.below hq) rfl rfl rfl rfl _ _ _ _, below_put4 hq2 (by omega) _ _ _ _⟩
  | false =>
    clear HBB
    obtain ⟨dn, hdn⟩ : ∃ dn : Int, ((Int.gcd p.num (q.den : Int) : Nat) : Int) = dn := ⟨_, rfl⟩
    have HDN := hidD hdn
    clear hdn
    obtain ⟨up, hup⟩ : ∃ up : Int, ((Int.gcd q.num (p.den : Int) : Nat) : Int) = up := ⟨_, rfl⟩
    have HUP := hidD hup
    clear hup
    obtain ⟨x, hx⟩ : ∃ x : Int, p.num / dn = x := ⟨_, rfl⟩
    have HX := hidD hx
    clear hx
    obtain ⟨y, hy⟩ : ∃ y : Int, q.num / up = y := ⟨_, rfl⟩
    have HY := hidD hy
    clear hy
    obtain ⟨S1, S2, S3, S4, S5, S6, S7, S8⟩ := mul_parts p q HP.out HQ.out dn up x y HDN.out HUP.out HX.out HY.out
    have T1 := hidD S1
    have T2 := hidD S2
    have T3 := hidD S3
    have T4 := hidD S4
    have T5 := hidD S5
    have T6 := hidD S6
    have T7 := hidD S7
    have T8 := hidD S8
    clear S1 S2 S3 S4 S5 S6 S7 S8
    go_upto_region 3 with fail
    refine wp_region_tab hmx [[], [0], [], [2], [1, 3, 3], [], [5], [], [7, 4], [6, 8, 8], [], [], [10, 4, 9, 0, 1, 2, 3, 4, 10, 11], [11, 9, 12, 0, 1, 2, 3, 4, 5, 6, 7, 8, 9, 10, 11, 12]] (by kernel_rfl) (by decide)
      (fun D act V => ∃ (t20x t21x t22x t23x t24x t25x t26x t27x t28x t29x t5x t6x : Value) (x10 x11 : Option (Nat × Dat)), act = { tmps := #[Value.agg #[Value.bool s, Value.slice a l c, Value.bool t, Value.slice b k d], Value.agg #[Value.bool s', Value.slice a' l' c', Value.bool t', Value.slice b' k' d'], Value.pointer (some { block := w.heap.size, off := 0 }), Value.pointer (some { block := w.heap.size + 1, off := 0 }), Value.pointer (some { block := w.heap.size + 1 + 1, off := 0 }), t5x, t6x, undef, u8, u9, u10, u11, u12, Value.bool false, u14, u15, u16, u17, u18, u19, t20x, t21x, t22x, t23x, t24x, t25x, t26x, t27x, t28x, t29x, u30, u31, u32, u33, u34, u35, u36, u37, u38, u39, u40, u41, u42, u43, u44, u45, u46, u47, u48, u49], defers := [] } ∧ Hid ((D 0 = true → t20x = .pointer (some ⟨w.heap.size, 0, none⟩)) ∧ (D 1 = true → Has V t21x (.int (Rat.num (p)))) ∧ (D 2 = true → Has V t22x (.rat (q))) ∧ (D 3 = true → Has V t23x (.int ((q.den : Int)))) ∧ (D 4 = true → Has V t24x (.int (dn))) ∧ (D 5 = true → t25x = .pointer (some ⟨w.heap.size + 1, 0, none⟩)) ∧ (D 6 = true → Has V t26x (.int (Rat.num (q)))) ∧ (D 7 = true → Has V t27x (.rat (p))) ∧ (D 8 = true → Has V t28x (.int ((p.den : Int)))) ∧ (D 9 = true → Has V t29x (.int (up))) ∧ ((D 10 = false → x10 = none) ∧ (D 10 = true → D 12 = false → ∃ B : Nat, t5x = .pointer (some ⟨B, 0, none⟩) ∧ x10 = some (B, .int 0)) ∧ (D 12 = true → ∃ B : Nat, t5x = .pointer (some ⟨B, 0, none⟩) ∧ x10 = some (B, .int (dn)))) ∧ ((D 11 = false → x11 = none) ∧ (D 11 = true → D 13 = false → ∃ B : Nat, t6x = .pointer (some ⟨B, 0, none⟩) ∧ x11 = some (B, .int 0)) ∧ (D 13 = true → ∃ B : Nat, t6x = .pointer (some ⟨B, 0, none⟩) ∧ x11 = some (B, .int (up))))) ∧ Hid (Mem w V [some (w.heap.size, .rat (p)), some (w.heap.size + 1, .rat (q)), some (w.heap.size + 1 + 1, .rat (0)), x10, x11]))
      ⟨_, _, _, _, _, _, _, _, _, _, _, _, none, none, rfl, hidD ⟨by simp, by simp, by simp, by simp, by simp, by simp, by simp, by simp, by simp, by simp, by simp, by simp⟩, hidD (((M2.out).none).none).drew⟩ ?step6 ?fin6
    case step6 =>
      rintro D act V i ds hcl hi hds hDi ⟨t20x, t21x, t22x, t23x, t24x, t25x, t26x, t27x, t28x, t29x, t5x, t6x, x10, x11, rfl, GG, MM⟩
      have hi6 : i < 14 := (List.getElem?_eq_some_iff.1 hi).1
      obtain rfl | rfl | rfl | rfl | rfl | rfl | rfl | rfl | rfl | rfl | rfl | rfl | rfl | rfl : i = 0 ∨ i = 1 ∨ i = 2 ∨ i = 3 ∨ i = 4 ∨ i = 5 ∨ i = 6 ∨ i = 7 ∨ i = 8 ∨ i = 9 ∨ i = 10 ∨ i = 11 ∨ i = 12 ∨ i = 13 := by omega
      all_goals
        simp only [List.getElem?_cons_zero, List.getElem?_cons_succ, Option.some.injEq] at hi
        subst hi
      · clear hds
        refine wpOp_go rfl rfl (fun K hK => ?_)
        go_simp
        exact hK _ _ ⟨_, _, _, _, _, _, _, _, _, _, _, _, _, _, rfl, hidD ⟨fun _ => rfl, GG.out.2.1, GG.out.2.2.1, GG.out.2.2.2.1, GG.out.2.2.2.2.1, GG.out.2.2.2.2.2.1, GG.out.2.2.2.2.2.2.1, GG.out.2.2.2.2.2.2.2.1, GG.out.2.2.2.2.2.2.2.2.1, GG.out.2.2.2.2.2.2.2.2.2.1, GG.out.2.2.2.2.2.2.2.2.2.2.1, GG.out.2.2.2.2.2.2.2.2.2.2.2⟩, hidD (MM.out)⟩
      · obtain rfl := (GG.out.1 (hds 0 (by simp)))
        clear hds
        obtain ⟨s, a, l, c, t, b, k, d, n, r, i, j⟩ := MM.out.rat (i := 0) rfl
        have e0 := n.c0
        have e1 := n.c1
        have e2 := n.c2
        have e3 := n.c3
        refine wpOp_go rfl rfl (fun K hK => ?_)
        go_simp
        exact hK _ _ ⟨_, _, _, _, _, _, _, _, _, _, _, _, _, _, rfl, hidD ⟨fun _ => rfl, fun _ => i, GG.out.2.2.1, GG.out.2.2.2.1, GG.out.2.2.2.2.1, GG.out.2.2.2.2.2.1, GG.out.2.2.2.2.2.2.1, GG.out.2.2.2.2.2.2.2.1, GG.out.2.2.2.2.2.2.2.2.1, GG.out.2.2.2.2.2.2.2.2.2.1, GG.out.2.2.2.2.2.2.2.2.2.2.1, GG.out.2.2.2.2.2.2.2.2.2.2.2⟩, hidD (MM.out)⟩
      · clear hds
        obtain ⟨s, a, l, c, t, b, k, d, n, r, i, j⟩ := MM.out.rat (i := 1) rfl
        have e0 := n.c0
        have e1 := n.c1
        have e2 := n.c2
        have e3 := n.c3
        refine wpOp_go rfl rfl (fun K hK => ?_)
        go_simp
        exact hK _ _ ⟨_, _, _, _, _, _, _, _, _, _, _, _, _, _, rfl, hidD ⟨GG.out.1, GG.out.2.1, fun _ => r, GG.out.2.2.2.1, GG.out.2.2.2.2.1, GG.out.2.2.2.2.2.1, GG.out.2.2.2.2.2.2.1, GG.out.2.2.2.2.2.2.2.1, GG.out.2.2.2.2.2.2.2.2.1, GG.out.2.2.2.2.2.2.2.2.2.1, GG.out.2.2.2.2.2.2.2.2.2.2.1, GG.out.2.2.2.2.2.2.2.2.2.2.2⟩, hidD (MM.out)⟩
      · have h0 := (GG.out.2.2.1 (hds 2 (by simp)))
        have HC := hidD (den_c _ q V h0)
        clear hds h0
        refine wpOp_go rfl rfl (fun K hK => ?_)
        go_simp
        go_wp2_with (go_at_call 86; refine HC.out.mono ?_; rintro e w5 ⟨v5, rfl, hv5, hb5⟩)
        exact ⟨_, _, _, _, _, _, _, _, _, _, _, _, _, _, rfl, hidD ⟨GG.out.1, fun h => (GG.out.2.1 h).below hb5, fun h => (GG.out.2.2.1 h).below hb5, fun _ => hv5, fun h => (GG.out.2.2.2.2.1 h).below hb5, GG.out.2.2.2.2.2.1, fun h => (GG.out.2.2.2.2.2.2.1 h).below hb5, fun h => (GG.out.2.2.2.2.2.2.2.1 h).below hb5, fun h => (GG.out.2.2.2.2.2.2.2.2.1 h).below hb5, fun h => (GG.out.2.2.2.2.2.2.2.2.2.1 h).below hb5, GG.out.2.2.2.2.2.2.2.2.2.2.1, GG.out.2.2.2.2.2.2.2.2.2.2.2⟩, hidD (MM.out.below hb5)⟩
      · have h0 := (GG.out.2.1 (hds 1 (by simp)))
        have h1 := (GG.out.2.2.2.1 (hds 3 (by simp)))
        have HC := hidD ((by have h := igcd_c _ _ p.num (q.den : Int) V h0 h1 (by have := HP.out.num.words; omega) (by have := HQ.out.den.words; omega); rw [HDN.out] at h; exact h))
        clear hds h0 h1
        refine wpOp_go rfl rfl (fun K hK => ?_)
        go_simp
        go_wp2_with (go_at_call 90; refine HC.out.mono ?_; rintro e w5 ⟨v5, rfl, hv5, hb5⟩)
        exact ⟨_, _, _, _, _, _, _, _, _, _, _, _, _, _, rfl, hidD ⟨GG.out.1, fun h => (GG.out.2.1 h).below hb5, fun h => (GG.out.2.2.1 h).below hb5, fun h => (GG.out.2.2.2.1 h).below hb5, fun _ => hv5, GG.out.2.2.2.2.2.1, fun h => (GG.out.2.2.2.2.2.2.1 h).below hb5, fun h => (GG.out.2.2.2.2.2.2.2.1 h).below hb5, fun h => (GG.out.2.2.2.2.2.2.2.2.1 h).below hb5, fun h => (GG.out.2.2.2.2.2.2.2.2.2.1 h).below hb5, GG.out.2.2.2.2.2.2.2.2.2.2.1, GG.out.2.2.2.2.2.2.2.2.2.2.2⟩, hidD (MM.out.below hb5)⟩
      · clear hds
        refine wpOp_go rfl rfl (fun K hK => ?_)
        go_simp
        exact hK _ _ ⟨_, _, _, _, _, _, _, _, _, _, _, _, _, _, rfl, hidD ⟨GG.out.1, GG.out.2.1, GG.out.2.2.1, GG.out.2.2.2.1, GG.out.2.2.2.2.1, fun _ => rfl, GG.out.2.2.2.2.2.2.1, GG.out.2.2.2.2.2.2.2.1, GG.out.2.2.2.2.2.2.2.2.1, GG.out.2.2.2.2.2.2.2.2.2.1, GG.out.2.2.2.2.2.2.2.2.2.2.1, GG.out.2.2.2.2.2.2.2.2.2.2.2⟩, hidD (MM.out)⟩
      · obtain rfl := (GG.out.2.2.2.2.2.1 (hds 5 (by simp)))
        clear hds
        obtain ⟨s, a, l, c, t, b, k, d, n, r, i, j⟩ := MM.out.rat (i := 1) rfl
        have e0 := n.c0
        have e1 := n.c1
        have e2 := n.c2
        have e3 := n.c3
        refine wpOp_go rfl rfl (fun K hK => ?_)
        go_simp
        exact hK _ _ ⟨_, _, _, _, _, _, _, _, _, _, _, _, _, _, rfl, hidD ⟨GG.out.1, GG.out.2.1, GG.out.2.2.1, GG.out.2.2.2.1, GG.out.2.2.2.2.1, fun _ => rfl, fun _ => i, GG.out.2.2.2.2.2.2.2.1, GG.out.2.2.2.2.2.2.2.2.1, GG.out.2.2.2.2.2.2.2.2.2.1, GG.out.2.2.2.2.2.2.2.2.2.2.1, GG.out.2.2.2.2.2.2.2.2.2.2.2⟩, hidD (MM.out)⟩
      · clear hds
        obtain ⟨s, a, l, c, t, b, k, d, n, r, i, j⟩ := MM.out.rat (i := 0) rfl
        have e0 := n.c0
        have e1 := n.c1
        have e2 := n.c2
        have e3 := n.c3
        refine wpOp_go rfl rfl (fun K hK => ?_)
        go_simp
        exact hK _ _ ⟨_, _, _, _, _, _, _, _, _, _, _, _, _, _, rfl, hidD ⟨GG.out.1, GG.out.2.1, GG.out.2.2.1, GG.out.2.2.2.1, GG.out.2.2.2.2.1, GG.out.2.2.2.2.2.1, GG.out.2.2.2.2.2.2.1, fun _ => r, GG.out.2.2.2.2.2.2.2.2.1, GG.out.2.2.2.2.2.2.2.2.2.1, GG.out.2.2.2.2.2.2.2.2.2.2.1, GG.out.2.2.2.2.2.2.2.2.2.2.2⟩, hidD (MM.out)⟩
      · have h0 := (GG.out.2.2.2.2.2.2.2.1 (hds 7 (by simp)))
        have HC := hidD (den_c _ p V h0)
        clear hds h0
        refine wpOp_go rfl rfl (fun K hK => ?_)
        go_simp
        go_wp2_with (go_at_call 86; refine HC.out.mono ?_; rintro e w5 ⟨v5, rfl, hv5, hb5⟩)
        exact ⟨_, _, _, _, _, _, _, _, _, _, _, _, _, _, rfl, hidD ⟨GG.out.1, fun h => (GG.out.2.1 h).below hb5, fun h => (GG.out.2.2.1 h).below hb5, fun h => (GG.out.2.2.2.1 h).below hb5, fun h => (GG.out.2.2.2.2.1 h).below hb5, GG.out.2.2.2.2.2.1, fun h => (GG.out.2.2.2.2.2.2.1 h).below hb5, fun h => (GG.out.2.2.2.2.2.2.2.1 h).below hb5, fun _ => hv5, fun h => (GG.out.2.2.2.2.2.2.2.2.2.1 h).below hb5, GG.out.2.2.2.2.2.2.2.2.2.2.1, GG.out.2.2.2.2.2.2.2.2.2.2.2⟩, hidD (MM.out.below hb5)⟩
      · have h0 := (GG.out.2.2.2.2.2.2.1 (hds 6 (by simp)))
        have h1 := (GG.out.2.2.2.2.2.2.2.2.1 (hds 8 (by simp)))
        have HC := hidD ((by have h := igcd_c _ _ q.num (p.den : Int) V h0 h1 (by have := HQ.out.num.words; omega) (by have := HP.out.den.words; omega); rw [HUP.out] at h; exact h))
        clear hds h0 h1
        refine wpOp_go rfl rfl (fun K hK => ?_)
        go_simp
        go_wp2_with (go_at_call 90; refine HC.out.mono ?_; rintro e w5 ⟨v5, rfl, hv5, hb5⟩)
        exact ⟨_, _, _, _, _, _, _, _, _, _, _, _, _, _, rfl, hidD ⟨GG.out.1, fun h => (GG.out.2.1 h).below hb5, fun h => (GG.out.2.2.1 h).below hb5, fun h => (GG.out.2.2.2.1 h).below hb5, fun h => (GG.out.2.2.2.2.1 h).below hb5, GG.out.2.2.2.2.2.1, fun h => (GG.out.2.2.2.2.2.2.1 h).below hb5, fun h => (GG.out.2.2.2.2.2.2.2.1 h).below hb5, fun h => (GG.out.2.2.2.2.2.2.2.2.1 h).below hb5, fun _ => hv5, GG.out.2.2.2.2.2.2.2.2.2.2.1, GG.out.2.2.2.2.2.2.2.2.2.2.2⟩, hidD (MM.out.below hb5)⟩
      · have hf : D 12 = false := by
          cases h : D 12 with
          | false => rfl
          | true => rw [hcl 12 _ rfl h 10 (by simp)] at hDi; cases hDi
        obtain rfl := GG.out.2.2.2.2.2.2.2.2.2.2.1.1 hDi
        clear hds
        refine wpOp_go rfl rfl (fun K hK => ?_)
        go_simp
        exact hK _ _ ⟨_, _, _, _, _, _, _, _, _, _, _, _, _, _, rfl, hidD ⟨GG.out.1, fun h => (GG.out.2.1 h).alloc _, fun h => (GG.out.2.2.1 h).alloc _, fun h => (GG.out.2.2.2.1 h).alloc _, fun h => (GG.out.2.2.2.2.1 h).alloc _, GG.out.2.2.2.2.2.1, fun h => (GG.out.2.2.2.2.2.2.1 h).alloc _, fun h => (GG.out.2.2.2.2.2.2.2.1 h).alloc _, fun h => (GG.out.2.2.2.2.2.2.2.2.1 h).alloc _, fun h => (GG.out.2.2.2.2.2.2.2.2.2.1 h).alloc _, ⟨fun h => by simp at h, fun _ _ => ⟨_, rfl, rfl⟩, fun h => by simp [hf] at h⟩, GG.out.2.2.2.2.2.2.2.2.2.2.2⟩, hidD (MM.out.fill (i := 3) rfl (.int 0) (int0 _))⟩
      · have hf : D 13 = false := by
          cases h : D 13 with
          | false => rfl
          | true => rw [hcl 13 _ rfl h 11 (by simp)] at hDi; cases hDi
        obtain rfl := GG.out.2.2.2.2.2.2.2.2.2.2.2.1 hDi
        clear hds
        refine wpOp_go rfl rfl (fun K hK => ?_)
        go_simp
        exact hK _ _ ⟨_, _, _, _, _, _, _, _, _, _, _, _, _, _, rfl, hidD ⟨GG.out.1, fun h => (GG.out.2.1 h).alloc _, fun h => (GG.out.2.2.1 h).alloc _, fun h => (GG.out.2.2.2.1 h).alloc _, fun h => (GG.out.2.2.2.2.1 h).alloc _, GG.out.2.2.2.2.2.1, fun h => (GG.out.2.2.2.2.2.2.1 h).alloc _, fun h => (GG.out.2.2.2.2.2.2.2.1 h).alloc _, fun h => (GG.out.2.2.2.2.2.2.2.2.1 h).alloc _, fun h => (GG.out.2.2.2.2.2.2.2.2.2.1 h).alloc _, GG.out.2.2.2.2.2.2.2.2.2.2.1, ⟨fun h => by simp at h, fun _ _ => ⟨_, rfl, rfl⟩, fun h => by simp [hf] at h⟩⟩, hidD (MM.out.fill (i := 4) rfl (.int 0) (int0 _))⟩
      · obtain ⟨B, rfl, rfl⟩ := GG.out.2.2.2.2.2.2.2.2.2.2.1.2.1 (hds 10 (by simp)) hDi
        have hds0 := hds 10 (by simp)
        have hv := (GG.out.2.2.2.2.1 (hds 4 (by simp)))
        obtain ⟨s1, a1, l1, c1, rfl⟩ := IsInt.form2 (show IsInt V _ _ from hv)
        obtain ⟨s, a, l, c, n, i⟩ := MM.out.int (i := 3) rfl
        have e0 := n.c0
        have f0 := n.f0
        have e1 := n.c1
        have f1 := n.f1
        clear hds
        refine wpOp_go rfl rfl (fun K hK => ?_)
        go_simp
        exact hK _ _ ⟨_, _, _, _, _, _, _, _, _, _, _, _, _, _, rfl, hidD ⟨GG.out.1, fun h => (GG.out.2.1 h).set2 n rfl rfl _ _, fun h => (GG.out.2.2.1 h).set2 n rfl rfl _ _, fun h => (GG.out.2.2.2.1 h).set2 n rfl rfl _ _, fun h => (GG.out.2.2.2.2.1 h).set2 n rfl rfl _ _, GG.out.2.2.2.2.2.1, fun h => (GG.out.2.2.2.2.2.2.1 h).set2 n rfl rfl _ _, fun h => (GG.out.2.2.2.2.2.2.2.1 h).set2 n rfl rfl _ _, fun h => (GG.out.2.2.2.2.2.2.2.2.1 h).set2 n rfl rfl _ _, fun h => (GG.out.2.2.2.2.2.2.2.2.2.1 h).set2 n rfl rfl _ _, ⟨fun h => by simp [hds0] at h, fun _ h => by simp at h, fun _ => ⟨B, rfl, rfl⟩⟩, GG.out.2.2.2.2.2.2.2.2.2.2.2⟩, hidD (MM.out.putInt (i := 3) rfl hv)⟩
      · obtain ⟨B, rfl, rfl⟩ := GG.out.2.2.2.2.2.2.2.2.2.2.2.2.1 (hds 11 (by simp)) hDi
        have hds0 := hds 11 (by simp)
        have hv := (GG.out.2.2.2.2.2.2.2.2.2.1 (hds 9 (by simp)))
        obtain ⟨s1, a1, l1, c1, rfl⟩ := IsInt.form2 (show IsInt V _ _ from hv)
        obtain ⟨s, a, l, c, n, i⟩ := MM.out.int (i := 4) rfl
        have e0 := n.c0
        have f0 := n.f0
        have e1 := n.c1
        have f1 := n.f1
        clear hds
        refine wpOp_go rfl rfl (fun K hK => ?_)
        go_simp
        exact hK _ _ ⟨_, _, _, _, _, _, _, _, _, _, _, _, _, _, rfl, hidD ⟨GG.out.1, fun h => (GG.out.2.1 h).set2 n rfl rfl _ _, fun h => (GG.out.2.2.1 h).set2 n rfl rfl _ _, fun h => (GG.out.2.2.2.1 h).set2 n rfl rfl _ _, fun h => (GG.out.2.2.2.2.1 h).set2 n rfl rfl _ _, GG.out.2.2.2.2.2.1, fun h => (GG.out.2.2.2.2.2.2.1 h).set2 n rfl rfl _ _, fun h => (GG.out.2.2.2.2.2.2.2.1 h).set2 n rfl rfl _ _, fun h => (GG.out.2.2.2.2.2.2.2.2.1 h).set2 n rfl rfl _ _, fun h => (GG.out.2.2.2.2.2.2.2.2.2.1 h).set2 n rfl rfl _ _, GG.out.2.2.2.2.2.2.2.2.2.2.1, ⟨fun h => by simp [hds0] at h, fun _ h => by simp at h, fun _ => ⟨B, rfl, rfl⟩⟩⟩, hidD (MM.out.putInt (i := 4) rfl hv)⟩
    rintro D act V7 hDD ⟨t20x, t21x, t22x, t23x, t24x, t25x, t26x, t27x, t28x, t29x, t5x, t6x, x10, x11, rfl, GG, MM⟩
    obtain ⟨B8, rfl, rfl⟩ := GG.out.2.2.2.2.2.2.2.2.2.2.1.2.2 (hDD 12 (by decide))
    obtain ⟨B9, rfl, rfl⟩ := GG.out.2.2.2.2.2.2.2.2.2.2.2.2.2 (hDD 13 (by decide))
    clear GG hDD M2
    have M3 : Hid (Mem w V7 [some (w.heap.size, .rat (p)), some (w.heap.size + 1, .rat (q)), some (w.heap.size + 1 + 1, .rat (0)), some (B8, .int (dn)), some (B9, .int (up))]) := MM
    clear MM
    go_upto_region 4 with fail
    refine wp_region_tab hmx [[], [0], [], [1, 2], [], [4], [], [5, 6, 3], [3, 7, 7], [], [9, 8, 8, 0, 1, 2, 3, 4, 5, 6, 7, 8, 9]] (by kernel_rfl) (by decide)
      (fun D act V => ∃ (t30x t31x t32x t33x t34x t35x t36x t37x t38x t7x : Value) (x9 : Option (Nat × Dat)), act = { tmps := #[Value.agg #[Value.bool s, Value.slice a l c, Value.bool t, Value.slice b k d], Value.agg #[Value.bool s', Value.slice a' l' c', Value.bool t', Value.slice b' k' d'], Value.pointer (some { block := w.heap.size, off := 0 }), Value.pointer (some { block := w.heap.size + 1, off := 0 }), Value.pointer (some { block := w.heap.size + 1 + 1, off := 0 }), Value.pointer (some { block := B8, off := 0 }), Value.pointer (some { block := B9, off := 0 }), t7x, u8, u9, u10, u11, u12, Value.bool false, u14, u15, u16, u17, u18, u19, t20x, t21x, t22x, t23x, t24x, t25x, t26x, t27x, t28x, t29x, t30x, t31x, t32x, t33x, t34x, t35x, t36x, t37x, t38x, u39, u40, u41, u42, u43, u44, u45, u46, u47, u48, u49], defers := [] } ∧ Hid ((D 0 = true → t30x = .pointer (some ⟨w.heap.size, 0, none⟩)) ∧ (D 1 = true → Has V t31x (.int (Rat.num (p)))) ∧ (D 2 = true → Has V t32x (.int (dn))) ∧ (D 3 = true → Has V t33x (.int (x))) ∧ (D 4 = true → t34x = .pointer (some ⟨w.heap.size + 1, 0, none⟩)) ∧ (D 5 = true → Has V t35x (.int (Rat.num (q)))) ∧ (D 6 = true → Has V t36x (.int (up))) ∧ (D 7 = true → Has V t37x (.int (y))) ∧ (D 8 = true → Has V t38x (.int (x * y))) ∧ ((D 9 = false → x9 = none) ∧ (D 9 = true → D 10 = false → ∃ B : Nat, t7x = .pointer (some ⟨B, 0, none⟩) ∧ x9 = some (B, .int 0)) ∧ (D 10 = true → ∃ B : Nat, t7x = .pointer (some ⟨B, 0, none⟩) ∧ x9 = some (B, .int (x * y))))) ∧ Hid (Mem w V [some (w.heap.size, .rat (p)), some (w.heap.size + 1, .rat (q)), some (w.heap.size + 1 + 1, .rat (0)), some (B8, .int (dn)), some (B9, .int (up)), x9]))
      ⟨_, _, _, _, _, _, _, _, _, _, none, rfl, hidD ⟨by simp, by simp, by simp, by simp, by simp, by simp, by simp, by simp, by simp, by simp⟩, hidD ((M3.out).none).drew⟩ ?step10 ?fin10
    case step10 =>
      rintro D act V i ds hcl hi hds hDi ⟨t30x, t31x, t32x, t33x, t34x, t35x, t36x, t37x, t38x, t7x, x9, rfl, GG, MM⟩
      have hi6 : i < 11 := (List.getElem?_eq_some_iff.1 hi).1
      obtain rfl | rfl | rfl | rfl | rfl | rfl | rfl | rfl | rfl | rfl | rfl : i = 0 ∨ i = 1 ∨ i = 2 ∨ i = 3 ∨ i = 4 ∨ i = 5 ∨ i = 6 ∨ i = 7 ∨ i = 8 ∨ i = 9 ∨ i = 10 := by omega
      all_goals
        simp only [List.getElem?_cons_zero, List.getElem?_cons_succ, Option.some.injEq] at hi
        subst hi
      · clear hds
        refine wpOp_go rfl rfl (fun K hK => ?_)
        go_simp
        exact hK _ _ ⟨_, _, _, _, _, _, _, _, _, _, _, rfl, hidD ⟨fun _ => rfl, GG.out.2.1, GG.out.2.2.1, GG.out.2.2.2.1, GG.out.2.2.2.2.1, GG.out.2.2.2.2.2.1, GG.out.2.2.2.2.2.2.1, GG.out.2.2.2.2.2.2.2.1, GG.out.2.2.2.2.2.2.2.2.1, GG.out.2.2.2.2.2.2.2.2.2⟩, hidD (MM.out)⟩
      · obtain rfl := (GG.out.1 (hds 0 (by simp)))
        clear hds
        obtain ⟨s, a, l, c, t, b, k, d, n, r, i, j⟩ := MM.out.rat (i := 0) rfl
        have e0 := n.c0
        have e1 := n.c1
        have e2 := n.c2
        have e3 := n.c3
        refine wpOp_go rfl rfl (fun K hK => ?_)
        go_simp
        exact hK _ _ ⟨_, _, _, _, _, _, _, _, _, _, _, rfl, hidD ⟨fun _ => rfl, fun _ => i, GG.out.2.2.1, GG.out.2.2.2.1, GG.out.2.2.2.2.1, GG.out.2.2.2.2.2.1, GG.out.2.2.2.2.2.2.1, GG.out.2.2.2.2.2.2.2.1, GG.out.2.2.2.2.2.2.2.2.1, GG.out.2.2.2.2.2.2.2.2.2⟩, hidD (MM.out)⟩
      · clear hds
        obtain ⟨s, a, l, c, n, i⟩ := MM.out.int (i := 3) rfl
        have e0 := n.c0
        have e1 := n.c1
        refine wpOp_go rfl rfl (fun K hK => ?_)
        go_simp
        exact hK _ _ ⟨_, _, _, _, _, _, _, _, _, _, _, rfl, hidD ⟨GG.out.1, GG.out.2.1, fun _ => i, GG.out.2.2.2.1, GG.out.2.2.2.2.1, GG.out.2.2.2.2.2.1, GG.out.2.2.2.2.2.2.1, GG.out.2.2.2.2.2.2.2.1, GG.out.2.2.2.2.2.2.2.2.1, GG.out.2.2.2.2.2.2.2.2.2⟩, hidD (MM.out)⟩
      · have h0 := (GG.out.2.1 (hds 1 (by simp)))
        have h1 := (GG.out.2.2.1 (hds 2 (by simp)))
        have HC := hidD ((by have h := part_c _ _ p.num dn V h0 h1 T2.out HP.out.num T1.out; rw [HX.out] at h; exact h))
        clear hds h0 h1
        refine wpOp_go rfl rfl (fun K hK => ?_)
        go_simp
        go_wp2_with (go_at_call 91; refine HC.out.mono ?_; rintro e w5 ⟨v5, rfl, hv5, hb5⟩)
        exact ⟨_, _, _, _, _, _, _, _, _, _, _, rfl, hidD ⟨GG.out.1, fun h => (GG.out.2.1 h).below hb5, fun h => (GG.out.2.2.1 h).below hb5, fun _ => hv5, GG.out.2.2.2.2.1, fun h => (GG.out.2.2.2.2.2.1 h).below hb5, fun h => (GG.out.2.2.2.2.2.2.1 h).below hb5, fun h => (GG.out.2.2.2.2.2.2.2.1 h).below hb5, fun h => (GG.out.2.2.2.2.2.2.2.2.1 h).below hb5, GG.out.2.2.2.2.2.2.2.2.2⟩, hidD (MM.out.below hb5)⟩
      · clear hds
        refine wpOp_go rfl rfl (fun K hK => ?_)
        go_simp
        exact hK _ _ ⟨_, _, _, _, _, _, _, _, _, _, _, rfl, hidD ⟨GG.out.1, GG.out.2.1, GG.out.2.2.1, GG.out.2.2.2.1, fun _ => rfl, GG.out.2.2.2.2.2.1, GG.out.2.2.2.2.2.2.1, GG.out.2.2.2.2.2.2.2.1, GG.out.2.2.2.2.2.2.2.2.1, GG.out.2.2.2.2.2.2.2.2.2⟩, hidD (MM.out)⟩
      · obtain rfl := (GG.out.2.2.2.2.1 (hds 4 (by simp)))
        clear hds
        obtain ⟨s, a, l, c, t, b, k, d, n, r, i, j⟩ := MM.out.rat (i := 1) rfl
        have e0 := n.c0
        have e1 := n.c1
        have e2 := n.c2
        have e3 := n.c3
        refine wpOp_go rfl rfl (fun K hK => ?_)
        go_simp
        exact hK _ _ ⟨_, _, _, _, _, _, _, _, _, _, _, rfl, hidD ⟨GG.out.1, GG.out.2.1, GG.out.2.2.1, GG.out.2.2.2.1, fun _ => rfl, fun _ => i, GG.out.2.2.2.2.2.2.1, GG.out.2.2.2.2.2.2.2.1, GG.out.2.2.2.2.2.2.2.2.1, GG.out.2.2.2.2.2.2.2.2.2⟩, hidD (MM.out)⟩
      · clear hds
        obtain ⟨s, a, l, c, n, i⟩ := MM.out.int (i := 4) rfl
        have e0 := n.c0
        have e1 := n.c1
        refine wpOp_go rfl rfl (fun K hK => ?_)
        go_simp
        exact hK _ _ ⟨_, _, _, _, _, _, _, _, _, _, _, rfl, hidD ⟨GG.out.1, GG.out.2.1, GG.out.2.2.1, GG.out.2.2.2.1, GG.out.2.2.2.2.1, GG.out.2.2.2.2.2.1, fun _ => i, GG.out.2.2.2.2.2.2.2.1, GG.out.2.2.2.2.2.2.2.2.1, GG.out.2.2.2.2.2.2.2.2.2⟩, hidD (MM.out)⟩
      · have h0 := (GG.out.2.2.2.2.2.1 (hds 5 (by simp)))
        have h1 := (GG.out.2.2.2.2.2.2.1 (hds 6 (by simp)))
        have HC := hidD ((by have h := part_c _ _ q.num up V h0 h1 T4.out HQ.out.num T3.out; rw [HY.out] at h; exact h))
        clear hds h0 h1
        refine wpOp_go rfl rfl (fun K hK => ?_)
        go_simp
        go_wp2_with (go_at_call 91; refine HC.out.mono ?_; rintro e w5 ⟨v5, rfl, hv5, hb5⟩)
        exact ⟨_, _, _, _, _, _, _, _, _, _, _, rfl, hidD ⟨GG.out.1, fun h => (GG.out.2.1 h).below hb5, fun h => (GG.out.2.2.1 h).below hb5, fun h => (GG.out.2.2.2.1 h).below hb5, GG.out.2.2.2.2.1, fun h => (GG.out.2.2.2.2.2.1 h).below hb5, fun h => (GG.out.2.2.2.2.2.2.1 h).below hb5, fun _ => hv5, fun h => (GG.out.2.2.2.2.2.2.2.2.1 h).below hb5, GG.out.2.2.2.2.2.2.2.2.2⟩, hidD (MM.out.below hb5)⟩
      · have h0 := (GG.out.2.2.2.1 (hds 3 (by simp)))
        have h1 := (GG.out.2.2.2.2.2.2.2.1 (hds 7 (by simp)))
        have HC := hidD (itimes_c _ _ x y V h0 h1 (by have h1 := T5.out.words; have h2 := T6.out.words; omega))
        clear hds h0 h1
        refine wpOp_go rfl rfl (fun K hK => ?_)
        go_simp
        go_wp2_with (go_at_call 85; refine HC.out.mono ?_; rintro e w5 ⟨v5, rfl, hv5, hb5⟩)
        exact ⟨_, _, _, _, _, _, _, _, _, _, _, rfl, hidD ⟨GG.out.1, fun h => (GG.out.2.1 h).below hb5, fun h => (GG.out.2.2.1 h).below hb5, fun h => (GG.out.2.2.2.1 h).below hb5, GG.out.2.2.2.2.1, fun h => (GG.out.2.2.2.2.2.1 h).below hb5, fun h => (GG.out.2.2.2.2.2.2.1 h).below hb5, fun h => (GG.out.2.2.2.2.2.2.2.1 h).below hb5, fun _ => hv5, GG.out.2.2.2.2.2.2.2.2.2⟩, hidD (MM.out.below hb5)⟩
      · have hf : D 10 = false := by
          cases h : D 10 with
          | false => rfl
          | true => rw [hcl 10 _ rfl h 9 (by simp)] at hDi; cases hDi
        obtain rfl := GG.out.2.2.2.2.2.2.2.2.2.1 hDi
        clear hds
        refine wpOp_go rfl rfl (fun K hK => ?_)
        go_simp
        exact hK _ _ ⟨_, _, _, _, _, _, _, _, _, _, _, rfl, hidD ⟨GG.out.1, fun h => (GG.out.2.1 h).alloc _, fun h => (GG.out.2.2.1 h).alloc _, fun h => (GG.out.2.2.2.1 h).alloc _, GG.out.2.2.2.2.1, fun h => (GG.out.2.2.2.2.2.1 h).alloc _, fun h => (GG.out.2.2.2.2.2.2.1 h).alloc _, fun h => (GG.out.2.2.2.2.2.2.2.1 h).alloc _, fun h => (GG.out.2.2.2.2.2.2.2.2.1 h).alloc _, ⟨fun h => by simp at h, fun _ _ => ⟨_, rfl, rfl⟩, fun h => by simp [hf] at h⟩⟩, hidD (MM.out.fill (i := 5) rfl (.int 0) (int0 _))⟩
      · obtain ⟨B, rfl, rfl⟩ := GG.out.2.2.2.2.2.2.2.2.2.2.1 (hds 9 (by simp)) hDi
        have hds0 := hds 9 (by simp)
        have hv := (GG.out.2.2.2.2.2.2.2.2.1 (hds 8 (by simp)))
        obtain ⟨s1, a1, l1, c1, rfl⟩ := IsInt.form2 (show IsInt V _ _ from hv)
        obtain ⟨s, a, l, c, n, i⟩ := MM.out.int (i := 5) rfl
        have e0 := n.c0
        have f0 := n.f0
        have e1 := n.c1
        have f1 := n.f1
        clear hds
        refine wpOp_go rfl rfl (fun K hK => ?_)
        go_simp
        exact hK _ _ ⟨_, _, _, _, _, _, _, _, _, _, _, rfl, hidD ⟨GG.out.1, fun h => (GG.out.2.1 h).set2 n rfl rfl _ _, fun h => (GG.out.2.2.1 h).set2 n rfl rfl _ _, fun h => (GG.out.2.2.2.1 h).set2 n rfl rfl _ _, GG.out.2.2.2.2.1, fun h => (GG.out.2.2.2.2.2.1 h).set2 n rfl rfl _ _, fun h => (GG.out.2.2.2.2.2.2.1 h).set2 n rfl rfl _ _, fun h => (GG.out.2.2.2.2.2.2.2.1 h).set2 n rfl rfl _ _, fun h => (GG.out.2.2.2.2.2.2.2.2.1 h).set2 n rfl rfl _ _, ⟨fun h => by simp [hds0] at h, fun _ h => by simp at h, fun _ => ⟨B, rfl, rfl⟩⟩⟩, hidD (MM.out.putInt (i := 5) rfl hv)⟩
    rintro D act V11 hDD ⟨t30x, t31x, t32x, t33x, t34x, t35x, t36x, t37x, t38x, t7x, x9, rfl, GG, MM⟩
    obtain ⟨B12, rfl, rfl⟩ := GG.out.2.2.2.2.2.2.2.2.2.2.2 (hDD 10 (by decide))
    clear GG hDD M3
    have M4 : Hid (Mem w V11 [some (w.heap.size, .rat (p)), some (w.heap.size + 1, .rat (q)), some (w.heap.size + 1 + 1, .rat (0)), some (B8, .int (dn)), some (B9, .int (up)), some (B12, .int (x * y))]) := MM
    clear MM
    go_upto_region 5 with fail
    obtain ⟨s13, a13, l13, c13, n13, i13⟩ := M4.out.int (i := 5) rfl
    have e13a := n13.c0
    have e13b := n13.c1
    obtain ⟨s14, a14, l14, c14, t14, b14, k14, d14, n14, r14, i14, j14⟩ := M4.out.rat (i := 0) rfl
    have e14a := n14.c0
    have e14b := n14.c1
    have e14c := n14.c2
    have e14d := n14.c3
    obtain ⟨s15, a15, l15, c15, n15, i15⟩ := M4.out.int (i := 4) rfl
    have e15a := n15.c0
    have e15b := n15.c1
    obtain ⟨s16, a16, l16, c16, t16, b16, k16, d16, n16, r16, i16, j16⟩ := M4.out.rat (i := 1) rfl
    have e16a := n16.c0
    have e16b := n16.c1
    have e16c := n16.c2
    have e16d := n16.c3
    obtain ⟨s17, a17, l17, c17, n17, i17⟩ := M4.out.int (i := 3) rfl
    have e17a := n17.c0
    have e17b := n17.c1
    obtain ⟨s18, a18, l18, c18, t18, b18, k18, d18, n18, r18, i18, j18⟩ := M4.out.rat (i := 2) rfl
    have e18a := n18.c0
    have e18b := n18.c1
    have e18c := n18.c2
    have e18d := n18.c3
    have f18a := n18.f0
    have f18b := n18.f1
    have f18c := n18.f2
    have f18d := n18.f3
    have H2 := hidD (fun (V : World) (h : Below V11.heap.size V11 V) => den_c _ p V (r14.below h))
    have H4 := hidD (fun (V : World) (h : Below V11.heap.size V11 V) (v2 : Value) (g2 : IsInt V v2 ((p.den : Int))) => part_c _ _ (p.den : Int) up V g2 (i15.below h) T4.out HP.out.den T3.out)
    have H6 := hidD (fun (V : World) (h : Below V11.heap.size V11 V) => den_c _ q V (r16.below h))
    have H8 := hidD (fun (V : World) (h : Below V11.heap.size V11 V) (v6 : Value) (g6 : IsInt V v6 ((q.den : Int))) => part_c _ _ (q.den : Int) dn V g6 (i17.below h) T2.out HQ.out.den T1.out)
    have H9 := hidD (fun (V : World) (h : Below V11.heap.size V11 V) (v4 : Value) (g4 : IsInt V v4 ((p.den : Int) / up)) (v8 : Value) (g8 : IsInt V v8 ((q.den : Int) / dn)) => itimes_c _ _ ((p.den : Int) / up) ((q.den : Int) / dn) V g4 g8 (by have h1 := (Sok.div (y := up) HP.out.den).words; have h2 := (Sok.div (y := dn) HQ.out.den).words; omega))
    have H10 := hidD (fun (V : World) (h : Below V11.heap.size V11 V) (v9 : Value) (g9 : IsInt V v9 ((p.den : Int) / up * ((q.den : Int) / dn))) => least_c _ _ (p * q) V (by rw [T7.out]; exact (i13.below h)) (by rw [T8.out]; exact g9))
    have ne5 : B12 ≠ w.heap.size + 1 + 1 := M4.out.ne 5 2 rfl rfl (by decide)
    have ne0 : w.heap.size ≠ w.heap.size + 1 + 1 := M4.out.ne 0 2 rfl rfl (by decide)
    have ne4 : B9 ≠ w.heap.size + 1 + 1 := M4.out.ne 4 2 rfl rfl (by decide)
    have ne1 : w.heap.size + 1 ≠ w.heap.size + 1 + 1 := M4.out.ne 1 2 rfl rfl (by decide)
    have ne3 : B8 ≠ w.heap.size + 1 + 1 := M4.out.ne 3 2 rfl rfl (by decide)
    have hq : Below V11.heap.size V11 V11.drew := (Below.refl _ V11).drew
    go_region_held3 (fun w' => w'.cell? ⟨B12, 0, none⟩ = some (.bool s13) ∧ w'.cell? ⟨B12, 1, none⟩ = some (.slice a13 l13 c13) ∧ w'.cell? ⟨w.heap.size, 0, none⟩ = some (.bool s14) ∧ w'.cell? ⟨w.heap.size, 1, none⟩ = some (.slice a14 l14 c14) ∧ w'.cell? ⟨w.heap.size, 2, none⟩ = some (.bool t14) ∧ w'.cell? ⟨w.heap.size, 3, none⟩ = some (.slice b14 k14 d14) ∧ w'.cell? ⟨B9, 0, none⟩ = some (.bool s15) ∧ w'.cell? ⟨B9, 1, none⟩ = some (.slice a15 l15 c15) ∧ w'.cell? ⟨w.heap.size + 1, 0, none⟩ = some (.bool s16) ∧ w'.cell? ⟨w.heap.size + 1, 1, none⟩ = some (.slice a16 l16 c16) ∧ w'.cell? ⟨w.heap.size + 1, 2, none⟩ = some (.bool t16) ∧ w'.cell? ⟨w.heap.size + 1, 3, none⟩ = some (.slice b16 k16 d16) ∧ w'.cell? ⟨B8, 0, none⟩ = some (.bool s17) ∧ w'.cell? ⟨B8, 1, none⟩ = some (.slice a17 l17 c17)) (first | (with_reducible exact ⟨e13a, e13b, e14a, e14b, e14c, e14d, e15a, e15b, e16a, e16b, e16c, e16d, e17a, e17b⟩) | (go_keep; done) | (refine ⟨?_, ?_, ?_, ?_, ?_, ?_, ?_, ?_, ?_, ?_, ?_, ?_, ?_, ?_⟩ <;> ((repeat rw [cell_set_nb (by omega)]); first | assumption | (go_keep; done))))
      (first
        | (go_at_call 86; refine (H2.out _ hq ).mono ?_; clear H2; rintro e w2 ⟨v2, rfl, g2, hb2⟩; have hq := Below.then hq hb2; have e13a := (n13.below hq).c0; have e13b := (n13.below hq).c1; have e14a := (n14.below hq).c0; have e14b := (n14.below hq).c1; have e14c := (n14.below hq).c2; have e14d := (n14.below hq).c3; have e15a := (n15.below hq).c0; have e15b := (n15.below hq).c1; have e16a := (n16.below hq).c0; have e16b := (n16.below hq).c1; have e16c := (n16.below hq).c2; have e16d := (n16.below hq).c3; have e17a := (n17.below hq).c0; have e17b := (n17.below hq).c1; have e18a := (n18.below hq).c0; have e18b := (n18.below hq).c1; have e18c := (n18.below hq).c2; have e18d := (n18.below hq).c3; have f18a := (n18.below hq).f0; have f18b := (n18.below hq).f1; have f18c := (n18.below hq).f2; have f18d := (n18.below hq).f3)
        | (go_at_call 91; refine (H4.out _ hq _ g2).mono ?_; clear H4; rintro e w4 ⟨v4, rfl, g4, hb4⟩; have g2 := g2.below hb4; have hq := Below.then hq hb4; have e13a := (n13.below hq).c0; have e13b := (n13.below hq).c1; have e14a := (n14.below hq).c0; have e14b := (n14.below hq).c1; have e14c := (n14.below hq).c2; have e14d := (n14.below hq).c3; have e15a := (n15.below hq).c0; have e15b := (n15.below hq).c1; have e16a := (n16.below hq).c0; have e16b := (n16.below hq).c1; have e16c := (n16.below hq).c2; have e16d := (n16.below hq).c3; have e17a := (n17.below hq).c0; have e17b := (n17.below hq).c1; have e18a := (n18.below hq).c0; have e18b := (n18.below hq).c1; have e18c := (n18.below hq).c2; have e18d := (n18.below hq).c3; have f18a := (n18.below hq).f0; have f18b := (n18.below hq).f1; have f18c := (n18.below hq).f2; have f18d := (n18.below hq).f3)
        | (go_at_call 86; refine (H6.out _ hq ).mono ?_; clear H6; rintro e w6 ⟨v6, rfl, g6, hb6⟩; have g2 := g2.below hb6; have g4 := g4.below hb6; have hq := Below.then hq hb6; have e13a := (n13.below hq).c0; have e13b := (n13.below hq).c1; have e14a := (n14.below hq).c0; have e14b := (n14.below hq).c1; have e14c := (n14.below hq).c2; have e14d := (n14.below hq).c3; have e15a := (n15.below hq).c0; have e15b := (n15.below hq).c1; have e16a := (n16.below hq).c0; have e16b := (n16.below hq).c1; have e16c := (n16.below hq).c2; have e16d := (n16.below hq).c3; have e17a := (n17.below hq).c0; have e17b := (n17.below hq).c1; have e18a := (n18.below hq).c0; have e18b := (n18.below hq).c1; have e18c := (n18.below hq).c2; have e18d := (n18.below hq).c3; have f18a := (n18.below hq).f0; have f18b := (n18.below hq).f1; have f18c := (n18.below hq).f2; have f18d := (n18.below hq).f3)
        | (go_at_call 91; refine (H8.out _ hq _ g6).mono ?_; clear H8; rintro e w8 ⟨v8, rfl, g8, hb8⟩; have g2 := g2.below hb8; have g4 := g4.below hb8; have g6 := g6.below hb8; have hq := Below.then hq hb8; have e13a := (n13.below hq).c0; have e13b := (n13.below hq).c1; have e14a := (n14.below hq).c0; have e14b := (n14.below hq).c1; have e14c := (n14.below hq).c2; have e14d := (n14.below hq).c3; have e15a := (n15.below hq).c0; have e15b := (n15.below hq).c1; have e16a := (n16.below hq).c0; have e16b := (n16.below hq).c1; have e16c := (n16.below hq).c2; have e16d := (n16.below hq).c3; have e17a := (n17.below hq).c0; have e17b := (n17.below hq).c1; have e18a := (n18.below hq).c0; have e18b := (n18.below hq).c1; have e18c := (n18.below hq).c2; have e18d := (n18.below hq).c3; have f18a := (n18.below hq).f0; have f18b := (n18.below hq).f1; have f18c := (n18.below hq).f2; have f18d := (n18.below hq).f3)
        | (go_at_call 85; refine (H9.out _ hq _ g4 _ g8).mono ?_; clear H9; rintro e w9 ⟨v9, rfl, g9, hb9⟩; have g2 := g2.below hb9; have g4 := g4.below hb9; have g6 := g6.below hb9; have g8 := g8.below hb9; have hq := Below.then hq hb9; have e13a := (n13.below hq).c0; have e13b := (n13.below hq).c1; have e14a := (n14.below hq).c0; have e14b := (n14.below hq).c1; have e14c := (n14.below hq).c2; have e14d := (n14.below hq).c3; have e15a := (n15.below hq).c0; have e15b := (n15.below hq).c1; have e16a := (n16.below hq).c0; have e16b := (n16.below hq).c1; have e16c := (n16.below hq).c2; have e16d := (n16.below hq).c3; have e17a := (n17.below hq).c0; have e17b := (n17.below hq).c1; have e18a := (n18.below hq).c0; have e18b := (n18.below hq).c1; have e18c := (n18.below hq).c2; have e18d := (n18.below hq).c3; have f18a := (n18.below hq).f0; have f18b := (n18.below hq).f1; have f18c := (n18.below hq).f2; have f18d := (n18.below hq).f3)
        | (go_at_call 92; refine (H10.out _ hq _ g9).mono ?_; clear H10; rintro e w10 ⟨v10, rfl, g10, hb10⟩; obtain ⟨s91, a91, l91, c91, t91, b91, k91, d91, rfl⟩ := IsRat.form g10; have g2 := g2.below hb10; have g4 := g4.below hb10; have g6 := g6.below hb10; have g8 := g8.below hb10; have g9 := g9.below hb10; have hq := Below.then hq hb10; have e13a := (n13.below hq).c0; have e13b := (n13.below hq).c1; have e14a := (n14.below hq).c0; have e14b := (n14.below hq).c1; have e14c := (n14.below hq).c2; have e14d := (n14.below hq).c3; have e15a := (n15.below hq).c0; have e15b := (n15.below hq).c1; have e16a := (n16.below hq).c0; have e16b := (n16.below hq).c1; have e16c := (n16.below hq).c2; have e16d := (n16.below hq).c3; have e17a := (n17.below hq).c0; have e17b := (n17.below hq).c1; have e18a := (n18.below hq).c0; have e18b := (n18.below hq).c1; have e18c := (n18.below hq).c2; have e18d := (n18.below hq).c3; have f18a := (n18.below hq).f0; have f18b := (n18.below hq).f1; have f18c := (n18.below hq).f2; have f18d := (n18.below hq).f3))
    all_goals go_wp2_with fail
    have hq2 := M4.out.2.2.trans (hq.mono M4.out.2.2.size)
    have hge := M4.out.ge 2 rfl
    exact bodyPost_ret (v := .agg #[.bool s91, .slice a91 l91 c91, .bool t91, .slice b91 k91 d91]) (by simp [results, Tryz.results52, go_sem, e18a, e18b, e18c, e18d]) rfl ⟨_, rfl, g10.put4 (n18.below hq) rfl rfl rfl rfl _ _ _ _, below_put4 hq2 hge _ _ _ _⟩
end Go.Proofs.YteldjhhjnchdeaaGreatDoor
namespace Go.Proofs.YteldjhhjnchdeaaGreatDoor
open Go.RowKit Go.Shelf

attribute [local go_sem] Oper.semAt_some

set_option maxRecDepth 100000 in
set_option maxHeartbeats 4000000 in
theorem rof_c (va vb : Value) (x y : Int) (w : World) (ha : IsInt w va x) (hb : IsInt w vb y) (hsx : Sok x) (hsy : Sok y) :
    Calls Tryz.prog 84 #[va, vb] w fun e w' => ∃ u, e = .returned (.tuple #[u, .bool (decide (y ≠ 0))]) ∧ IsRat w' u (Rat.divInt x y) ∧ Below w.heap.size w w' := by
  have HX := hidD hsx
  have HY := hidD hsy
  clear hsx hsy
  obtain ⟨s, a, la, ca, rfl⟩ := IsInt.form2 ha
  obtain ⟨t, b, lb, cb, rfl⟩ := IsInt.form2 hb
  have M0 := mem_two w s t a b la ca lb cb _ _ ha hb
  obtain ⟨W0, hW0⟩ : ∃ W0, ((w.alloc (.cells #[.bool s, .slice a la ca] 63)).alloc (.cells #[.bool t, .slice b lb cb] 63)).alloc (.cells #[.bool false, .slice none 0 0, .bool false, .slice none 0 0] 65) = W0 := ⟨_, rfl⟩
  have HW0 := hidD hW0
  rw [hW0] at M0
  have M1 : Hid (Mem w W0 [some (w.heap.size, .int (x)), some (w.heap.size + 1, .int (y)), some (w.heap.size + 1 + 1, .rat (0))]) := hidD M0
  clear M0 ha hb hW0
  obtain ⟨s1, a1, l1, c1, n1, i1⟩ := M1.out.int (i := 0) rfl
  have e1a := n1.c0
  have e1b := n1.c1
  obtain ⟨s2, a2, l2, c2, n2, i2⟩ := M1.out.int (i := 1) rfl
  have e2a := n2.c0
  have e2b := n2.c1
  obtain ⟨s3, a3, l3, c3, t3, b3, k3, d3, n3, r3, i3, j3⟩ := M1.out.rat (i := 2) rfl
  have e3a := n3.c0
  have e3b := n3.c1
  have e3c := n3.c2
  have e3d := n3.c3
  have f3a := n3.f0
  have f3b := n3.f1
  have f3c := n3.f2
  have f3d := n3.f3
  have H1 := hidD (isZero_c _ y W0 i2)
  have H2 := hidD (fun (V : World) (h : Below W0.heap.size W0 V) (hy : y ≠ 0) => reduced_c _ _ x y V (i1.below h) (i2.below h) hy HX.out HY.out)
  by_cases hy : y = 0
  · rw [decide_eq_true hy] at H1
    have HD := hidD (decide_eq_false (p := y ≠ 0) (fun h => h hy))
    rw [HD.out]
    have HE := hidD (show Rat.divInt x y = 0 by rw [hy, Rat.divInt_zero])
    clear hy H2
    go_enter Tryz.func84, Tryz.ntmps84
    go_upto_region 1 with fail
    rw [HW0.out]
    go_wp2_with (go_at_call 117; refine H1.out.mono ?_; rintro e w1 ⟨rfl, hq⟩; have e3a := (n3.below hq).c0; have e3b := (n3.below hq).c1; have e3c := (n3.below hq).c2; have e3d := (n3.below hq).c3; have f3a := (n3.below hq).f0; have f3b := (n3.below hq).f1; have f3c := (n3.below hq).f2; have f3d := (n3.below hq).f3)
    have hr : IsRat w1 (.agg #[.bool false, .slice none 0 0, .bool false, .slice none 0 0]) (Rat.divInt x y) := by rw [HE.out]; exact rat0 _
    have hq2 := M1.out.2.2.trans (hq.mono M1.out.2.2.size)
    exact bodyPost_ret (v := .tuple #[.agg #[.bool false, .slice none 0 0, .bool false, .slice none 0 0], .bool false]) (by simp [results, Tryz.results84, go_sem, e3a, e3b, e3c, e3d]) rfl ⟨_, rfl, hr.put4 (n3.below hq) rfl rfl rfl rfl _ _ _ _, below_put4 hq2 (by omega) _ _ _ _⟩
  · rw [decide_eq_false hy] at H1
    have HD := hidD (decide_eq_true (p := y ≠ 0) hy)
    rw [HD.out]
    have H2 := hidD (fun V h => H2.out V h hy)
    clear hy
    go_enter Tryz.func84, Tryz.ntmps84
    go_upto_region 1 with fail
    rw [HW0.out]
    go_wp2_with (first
      | (go_at_call 117; refine H1.out.mono ?_; rintro e w1 ⟨rfl, hq⟩; have e1a := (n1.below hq).c0; have e1b := (n1.below hq).c1; have e2a := (n2.below hq).c0; have e2b := (n2.below hq).c1; have e3a := (n3.below hq).c0; have e3b := (n3.below hq).c1; have e3c := (n3.below hq).c2; have e3d := (n3.below hq).c3; have f3a := (n3.below hq).f0; have f3b := (n3.below hq).f1; have f3c := (n3.below hq).f2; have f3d := (n3.below hq).f3)
      | (go_at_call 118; refine (H2.out _ hq).mono ?_; clear H2; rintro e w2 ⟨u2, rfl, hu2, hb2⟩; obtain ⟨s91, a91, l91, c91, t91, b91, k91, d91, rfl⟩ := IsRat.form hu2; have hq := Below.then hq hb2; have e3a := (n3.below hq).c0; have e3b := (n3.below hq).c1; have e3c := (n3.below hq).c2; have e3d := (n3.below hq).c3; have f3a := (n3.below hq).f0; have f3b := (n3.below hq).f1; have f3c := (n3.below hq).f2; have f3d := (n3.below hq).f3))
    have hq2 := M1.out.2.2.trans (hq.mono M1.out.2.2.size)
    have hge := M1.out.ge 2 rfl
    exact bodyPost_ret (v := .tuple #[.agg #[.bool s91, .slice a91 l91 c91, .bool t91, .slice b91 k91 d91], .bool true]) (by simp [results, Tryz.results84, go_sem, e3a, e3b, e3c, e3d]) rfl ⟨_, rfl, hu2.put4 (n3.below hq) rfl rfl rfl rfl _ _ _ _, below_put4 hq2 hge _ _ _ _⟩

theorem over_bool (p q : Rat) : decide ((p.den : Int) * q.num ≠ 0) = decide (q ≠ 0) := by
  refine decide_eq_decide.2 (not_congr ⟨fun h => ?_, fun h => ?_⟩)
  · rcases Int.mul_eq_zero.1 h with h | h
    · have := p.den_nz; omega
    · exact Rat.num_eq_zero.1 h
  · rw [h]; exact Int.mul_zero _

set_option maxRecDepth 100000 in
set_option maxHeartbeats 4000000 in
theorem qover_c (va vb : Value) (p q : Rat) (w : World) (ha : IsRat w va p) (hb : IsRat w vb q) (hsp : Sq p) (hsq : Sq q) :
    Calls Tryz.prog 50 #[va, vb] w fun e w' => ∃ u, e = .returned (.tuple #[u, .bool (decide (q ≠ 0))]) ∧ IsRat w' u (p / q) ∧ Below w.heap.size w w' := by
  obtain ⟨bq, hbq⟩ : ∃ bq, decide (q ≠ 0) = bq := ⟨_, rfl⟩
  have HBQ := hidD ((over_bool p q).trans hbq)
  rw [hbq]
  clear hbq
  obtain ⟨s, a, l, c, t, b, k, d, rfl⟩ := IsRat.form ha
  obtain ⟨s', a', l', c', t', b', k', d', rfl⟩ := IsRat.form hb
  have M0 := mem_rats w s t s' t' a b a' b' l c k d l' c' k' d' p q ha hb
  obtain ⟨W0, hW0⟩ : ∃ W0, ((w.alloc (.cells #[.bool s, .slice a l c, .bool t, .slice b k d] 65)).alloc (.cells #[.bool s', .slice a' l' c', .bool t', .slice b' k' d'] 65)).alloc (.cells #[.bool false, .slice none 0 0, .bool false, .slice none 0 0] 65) = W0 := ⟨_, rfl⟩
  have HW0 := hidD hW0
  rw [hW0] at M0
  have M1 : Hid (Mem w W0 [some (w.heap.size, .rat (p)), some (w.heap.size + 1, .rat (q)), some (w.heap.size + 1 + 1, .rat (0))]) := hidD M0
  have hmx : Tryz.prog.follows .mixedOrders = true := by kernel_rfl
  have HP := hidD hsp
  have HQ := hidD hsq
  clear M0 ha hb hW0 hsp hsq
  go_enter Tryz.func50, Tryz.ntmps50
  go_upto_region 1 with fail
  rw [HW0.out]
  clear HW0
  obtain ⟨s1, a1, l1, c1, t1, b1, k1, d1, n1, r1, i1, j1⟩ := M1.out.rat (i := 0) rfl
  have e1a := n1.c0
  have e1b := n1.c1
  have e1c := n1.c2
  have e1d := n1.c3
  obtain ⟨s2, a2, l2, c2, t2, b2, k2, d2, n2, r2, i2, j2⟩ := M1.out.rat (i := 1) rfl
  have e2a := n2.c0
  have e2b := n2.c1
  have e2c := n2.c2
  have e2d := n2.c3
  obtain ⟨s3, a3, l3, c3, t3, b3, k3, d3, n3, r3, i3, j3⟩ := M1.out.rat (i := 2) rfl
  have e3a := n3.c0
  have e3b := n3.c1
  have e3c := n3.c2
  have e3d := n3.c3
  have f3a := n3.f0
  have f3b := n3.f1
  have f3c := n3.f2
  have f3d := n3.f3
  have H3 := hidD (fun (V : World) (h : Below W0.heap.size W0 V) => den_c _ q V (r2.below h))
  have H4 := hidD (fun (V : World) (h : Below W0.heap.size W0 V) (v3 : Value) (g3 : IsInt V v3 ((q.den : Int))) => itimes_c _ _ p.num (q.den : Int) V (i1.below h) g3 (by have h1 := HP.out.num.words; have h2 := HQ.out.den.words; omega))
  have H6 := hidD (fun (V : World) (h : Below W0.heap.size W0 V) => den_c _ p V (r1.below h))
  have H9 := hidD (fun (V : World) (h : Below W0.heap.size W0 V) (v6 : Value) (g6 : IsInt V v6 ((p.den : Int))) => itimes_c _ _ (p.den : Int) q.num V g6 (i2.below h) (by have h1 := HP.out.den.words; have h2 := HQ.out.num.words; omega))
  have H10 := hidD (fun (V : World) (h : Below W0.heap.size W0 V) (v4 : Value) (g4 : IsInt V v4 (p.num * (q.den : Int))) (v9 : Value) (g9 : IsInt V v9 ((p.den : Int) * q.num)) => (by have h := rof_c _ _ (p.num * (q.den : Int)) ((p.den : Int) * q.num) V g4 g9 (HP.out.cross HQ.out) (HP.out.cross2 HQ.out); rw [HBQ.out, over_eq] at h; exact h))
  have ne0 : w.heap.size ≠ w.heap.size + 1 + 1 := M1.out.ne 0 2 rfl rfl (by decide)
  have ne1 : w.heap.size + 1 ≠ w.heap.size + 1 + 1 := M1.out.ne 1 2 rfl rfl (by decide)
  have hq : Below W0.heap.size W0 W0.drew := (Below.refl _ W0).drew
  go_region_held3 (fun w' => w'.cell? ⟨w.heap.size, 0, none⟩ = some (.bool s1) ∧ w'.cell? ⟨w.heap.size, 1, none⟩ = some (.slice a1 l1 c1) ∧ w'.cell? ⟨w.heap.size, 2, none⟩ = some (.bool t1) ∧ w'.cell? ⟨w.heap.size, 3, none⟩ = some (.slice b1 k1 d1) ∧ w'.cell? ⟨w.heap.size + 1, 0, none⟩ = some (.bool s2) ∧ w'.cell? ⟨w.heap.size + 1, 1, none⟩ = some (.slice a2 l2 c2) ∧ w'.cell? ⟨w.heap.size + 1, 2, none⟩ = some (.bool t2) ∧ w'.cell? ⟨w.heap.size + 1, 3, none⟩ = some (.slice b2 k2 d2)) (first | (with_reducible exact ⟨e1a, e1b, e1c, e1d, e2a, e2b, e2c, e2d⟩) | (go_keep; done) | (refine ⟨?_, ?_, ?_, ?_, ?_, ?_, ?_, ?_⟩ <;> ((repeat rw [cell_set_nb (by omega)]); first | assumption | (go_keep; done))))
    (first
      | (go_at_call 86; refine (H3.out _ hq ).mono ?_; clear H3; rintro e w3 ⟨v3, rfl, g3, hb3⟩; have hq := Below.then hq hb3; have e1a := (n1.below hq).c0; have e1b := (n1.below hq).c1; have e1c := (n1.below hq).c2; have e1d := (n1.below hq).c3; have e2a := (n2.below hq).c0; have e2b := (n2.below hq).c1; have e2c := (n2.below hq).c2; have e2d := (n2.below hq).c3; have e3a := (n3.below hq).c0; have e3b := (n3.below hq).c1; have e3c := (n3.below hq).c2; have e3d := (n3.below hq).c3; have f3a := (n3.below hq).f0; have f3b := (n3.below hq).f1; have f3c := (n3.below hq).f2; have f3d := (n3.below hq).f3)
      | (go_at_call 85; refine (H4.out _ hq _ g3).mono ?_; clear H4; rintro e w4 ⟨v4, rfl, g4, hb4⟩; have g3 := g3.below hb4; have hq := Below.then hq hb4; have e1a := (n1.below hq).c0; have e1b := (n1.below hq).c1; have e1c := (n1.below hq).c2; have e1d := (n1.below hq).c3; have e2a := (n2.below hq).c0; have e2b := (n2.below hq).c1; have e2c := (n2.below hq).c2; have e2d := (n2.below hq).c3; have e3a := (n3.below hq).c0; have e3b := (n3.below hq).c1; have e3c := (n3.below hq).c2; have e3d := (n3.below hq).c3; have f3a := (n3.below hq).f0; have f3b := (n3.below hq).f1; have f3c := (n3.below hq).f2; have f3d := (n3.below hq).f3)
      | (go_at_call 86; refine (H6.out _ hq ).mono ?_; clear H6; rintro e w6 ⟨v6, rfl, g6, hb6⟩; have g3 := g3.below hb6; have g4 := g4.below hb6; have hq := Below.then hq hb6; have e1a := (n1.below hq).c0; have e1b := (n1.below hq).c1; have e1c := (n1.below hq).c2; have e1d := (n1.below hq).c3; have e2a := (n2.below hq).c0; have e2b := (n2.below hq).c1; have e2c := (n2.below hq).c2; have e2d := (n2.below hq).c3; have e3a := (n3.below hq).c0; have e3b := (n3.below hq).c1; have e3c := (n3.below hq).c2; have e3d := (n3.below hq).c3; have f3a := (n3.below hq).f0; have f3b := (n3.below hq).f1; have f3c := (n3.below hq).f2; have f3d := (n3.below hq).f3)
      | (go_at_call 85; refine (H9.out _ hq _ g6).mono ?_; clear H9; rintro e w9 ⟨v9, rfl, g9, hb9⟩; have g3 := g3.below hb9; have g4 := g4.below hb9; have g6 := g6.below hb9; have hq := Below.then hq hb9; have e1a := (n1.below hq).c0; have e1b := (n1.below hq).c1; have e1c := (n1.below hq).c2; have e1d := (n1.below hq).c3; have e2a := (n2.below hq).c0; have e2b := (n2.below hq).c1; have e2c := (n2.below hq).c2; have e2d := (n2.below hq).c3; have e3a := (n3.below hq).c0; have e3b := (n3.below hq).c1; have e3c := (n3.below hq).c2; have e3d := (n3.below hq).c3; have f3a := (n3.below hq).f0; have f3b := (n3.below hq).f1; have f3c := (n3.below hq).f2; have f3d := (n3.below hq).f3)
      | (go_at_call 84; refine (H10.out _ hq _ g4 _ g9).mono ?_; clear H10; rintro e w10 ⟨v10, rfl, g10, hb10⟩; obtain ⟨s91, a91, l91, c91, t91, b91, k91, d91, rfl⟩ := IsRat.form g10; have g3 := g3.below hb10; have g4 := g4.below hb10; have g6 := g6.below hb10; have g9 := g9.below hb10; have hq := Below.then hq hb10; have e1a := (n1.below hq).c0; have e1b := (n1.below hq).c1; have e1c := (n1.below hq).c2; have e1d := (n1.below hq).c3; have e2a := (n2.below hq).c0; have e2b := (n2.below hq).c1; have e2c := (n2.below hq).c2; have e2d := (n2.below hq).c3; have e3a := (n3.below hq).c0; have e3b := (n3.below hq).c1; have e3c := (n3.below hq).c2; have e3d := (n3.below hq).c3; have f3a := (n3.below hq).f0; have f3b := (n3.below hq).f1; have f3c := (n3.below hq).f2; have f3d := (n3.below hq).f3))
  all_goals go_wp2_with fail
  have hq2 := M1.out.2.2.trans (hq.mono M1.out.2.2.size)
  have hge := M1.out.ge 2 rfl
  exact bodyPost_ret (v := .tuple #[.agg #[.bool s91, .slice a91 l91 c91, .bool t91, .slice b91 k91 d91], .bool bq]) (by simp [results, Tryz.results50, go_sem, e3a, e3b, e3c, e3d]) rfl ⟨_, rfl, g10.put4 (n3.below hq) rfl rfl rfl rfl _ _ _ _, below_put4 hq2 hge _ _ _ _⟩

/-- Which of two fractions is the greater one. -/
def cmpQ (p q : Rat) : Int := cmpI (p.num * q.den) (q.num * p.den)

set_option maxRecDepth 100000 in
set_option maxHeartbeats 4000000 in
theorem qorder_c (va vb : Value) (p q : Rat) (w : World) (ha : IsRat w va p) (hb : IsRat w vb q) (hsp : Sq p) (hsq : Sq q) :
    Calls Tryz.prog 68 #[va, vb] w fun e w' => e = .returned (.int .i64 (cmpQ p q)) ∧ Below w.heap.size w w' := by
  obtain ⟨s, a, l, c, t, b, k, d, rfl⟩ := IsRat.form ha
  obtain ⟨s', a', l', c', t', b', k', d', rfl⟩ := IsRat.form hb
  have M0 := mem_rats2 w s t s' t' a b a' b' l c k d l' c' k' d' p q ha hb
  obtain ⟨W0, hW0⟩ : ∃ W0, (w.alloc (.cells #[.bool s, .slice a l c, .bool t, .slice b k d] 65)).alloc (.cells #[.bool s', .slice a' l' c', .bool t', .slice b' k' d'] 65) = W0 := ⟨_, rfl⟩
  have HW0 := hidD hW0
  rw [hW0] at M0
  have M1 : Hid (Mem w W0 [some (w.heap.size, .rat (p)), some (w.heap.size + 1, .rat (q))]) := hidD M0
  obtain ⟨n, hn⟩ : ∃ n, cmpQ p q = n := ⟨_, rfl⟩
  have HN := hidD hn
  rw [hn]
  have HP := hidD hsp
  have HQ := hidD hsq
  clear M0 ha hb hW0 hsp hsq hn
  go_enter Tryz.func68, Tryz.ntmps68
  go_upto_region 1 with fail
  rw [HW0.out]
  clear HW0
  obtain ⟨bb, hbb⟩ : ∃ bb : Bool, decide (p.den = 1 ∧ q.den = 1) = bb := ⟨_, rfl⟩
  have HBB := hidD hbb
  clear hbb
  go_cut [10] (fun c w' => c = .bool bb ∧ Hid (Mem w w' [some (w.heap.size, .rat (p)), some (w.heap.size + 1, .rat (q))]))
  case first =>
    obtain ⟨s1, a1, l1, c1, t1, b1, k1, d1, n1, r1, i1, j1⟩ := M1.out.rat (i := 0) rfl
    have e1a := n1.c0
    have e1b := n1.c1
    have e1c := n1.c2
    have e1d := n1.c3
    obtain ⟨s2, a2, l2, c2, t2, b2, k2, d2, n2, r2, i2, j2⟩ := M1.out.rat (i := 1) rfl
    have e2a := n2.c0
    have e2b := n2.c1
    have e2c := n2.c2
    have e2d := n2.c3
    have H1 := hidD (isWhole_c _ p W0 r1)
    have H2 := hidD (fun (V : World) (h : Below W0.heap.size W0 V) => isWhole_c _ q V (r2.below h))
    by_cases h1 : p.den = 1
    · rw [decide_eq_true h1] at H1
      obtain ⟨b2, hb2⟩ : ∃ b2, decide (q.den = 1) = b2 := ⟨_, rfl⟩
      rw [hb2] at H2
      have HB2 := hidD (show b2 = bb by rw [← hb2, ← HBB.out]; exact decide_eq_decide.2 ⟨fun h => ⟨h1, h⟩, fun h => h.2⟩)
      clear hb2 h1
      go_wp2_with (first
        | (go_at_call 89; refine H1.out.mono ?_; clear H1; rintro e w1 ⟨rfl, hb1⟩; have e1a := (n1.below hb1).c0; have e1b := (n1.below hb1).c1; have e1c := (n1.below hb1).c2; have e1d := (n1.below hb1).c3; have e2a := (n2.below hb1).c0; have e2b := (n2.below hb1).c1; have e2c := (n2.below hb1).c2; have e2d := (n2.below hb1).c3)
        | (go_at_call 89; refine (H2.out _ hb1).mono ?_; clear H2; rintro e w2 ⟨rfl, hb2⟩))
      go_meet
      case rel => exact ⟨by rw [HB2.out], hidD ((M1.out.below hb1).below hb2)⟩
    · rw [decide_eq_false h1] at H1
      have HB2 := hidD (show bb = false by rw [← HBB.out]; exact decide_eq_false (fun h => h1 h.1))
      clear h1
      go_wp2_with (go_at_call 89; refine H1.out.mono ?_; clear H1; rintro e w1 ⟨rfl, hb1⟩)
      go_meet
      case rel => exact ⟨by rw [HB2.out], hidD (M1.out.below hb1)⟩
  obtain ⟨rfl, MM⟩ := hcut
  have M2 : Hid (Mem w wc [some (w.heap.size, .rat (p)), some (w.heap.size + 1, .rat (q))]) := MM
  clear M1 MM
  cases bb with
  | true =>
    have hdd := of_decide_eq_true HBB.out
    have HE := hidD (show cmpI p.num q.num = n by rw [← HN.out]; unfold cmpQ; rw [hdd.1, hdd.2]; simp)
    clear hdd HBB
    obtain ⟨s3, a3, l3, c3, t3, b3, k3, d3, n3, r3, i3, j3⟩ := M2.out.rat (i := 0) rfl
    have e3a := n3.c0
    have e3b := n3.c1
    have e3c := n3.c2
    have e3d := n3.c3
    obtain ⟨s4, a4, l4, c4, t4, b4, k4, d4, n4, r4, i4, j4⟩ := M2.out.rat (i := 1) rfl
    have e4a := n4.c0
    have e4b := n4.c1
    have e4c := n4.c2
    have e4d := n4.c3
    have H1 := hidD (iorder_c _ _ p.num q.num wc i3 i4)
    rw [HE.out] at H1
    go_wp2_with (go_at_call 104; refine H1.out.mono ?_; clear H1; rintro e w1 ⟨rfl, hq⟩)
    go_ret
    exact ⟨rfl, M2.out.2.2.trans (hq.mono M2.out.2.2.size)⟩
  | false =>
    clear HBB
    go_upto_region 3 with fail
    obtain ⟨s5, a5, l5, c5, t5, b5, k5, d5, n5, r5, i5, j5⟩ := M2.out.rat (i := 0) rfl
    have e5a := n5.c0
    have e5b := n5.c1
    have e5c := n5.c2
    have e5d := n5.c3
    obtain ⟨s6, a6, l6, c6, t6, b6, k6, d6, n6, r6, i6, j6⟩ := M2.out.rat (i := 1) rfl
    have e6a := n6.c0
    have e6b := n6.c1
    have e6c := n6.c2
    have e6d := n6.c3
    have H3 := hidD (fun (V : World) (h : Below wc.heap.size wc V) => den_c _ q V (r6.below h))
    have H4 := hidD (fun (V : World) (h : Below wc.heap.size wc V) (v3 : Value) (g3 : IsInt V v3 ((q.den : Int))) => itimes_c _ _ p.num (q.den : Int) V (i5.below h) g3 (by have h1 := HP.out.num.words; have h2 := HQ.out.den.words; omega))
    have H8 := hidD (fun (V : World) (h : Below wc.heap.size wc V) => den_c _ p V (r5.below h))
    have H9 := hidD (fun (V : World) (h : Below wc.heap.size wc V) (v8 : Value) (g8 : IsInt V v8 ((p.den : Int))) => itimes_c _ _ q.num (p.den : Int) V (i6.below h) g8 (by have h1 := HQ.out.num.words; have h2 := HP.out.den.words; omega))
    have H10 := hidD (fun (V : World) (h : Below wc.heap.size wc V) (v4 : Value) (g4 : IsInt V v4 (p.num * (q.den : Int))) (v9 : Value) (g9 : IsInt V v9 (q.num * (p.den : Int))) => (by have h := iorder_c _ _ (p.num * (q.den : Int)) (q.num * (p.den : Int)) V g4 g9; rw [show cmpI (p.num * (q.den : Int)) (q.num * (p.den : Int)) = n from HN.out] at h; exact h))
    have hq : Below wc.heap.size wc wc.drew := (Below.refl _ wc).drew
    go_region_held3 (fun w' => w'.cell? ⟨w.heap.size, 0, none⟩ = some (.bool s5) ∧ w'.cell? ⟨w.heap.size, 1, none⟩ = some (.slice a5 l5 c5) ∧ w'.cell? ⟨w.heap.size, 2, none⟩ = some (.bool t5) ∧ w'.cell? ⟨w.heap.size, 3, none⟩ = some (.slice b5 k5 d5) ∧ w'.cell? ⟨w.heap.size + 1, 0, none⟩ = some (.bool s6) ∧ w'.cell? ⟨w.heap.size + 1, 1, none⟩ = some (.slice a6 l6 c6) ∧ w'.cell? ⟨w.heap.size + 1, 2, none⟩ = some (.bool t6) ∧ w'.cell? ⟨w.heap.size + 1, 3, none⟩ = some (.slice b6 k6 d6)) (first | (with_reducible exact ⟨e5a, e5b, e5c, e5d, e6a, e6b, e6c, e6d⟩) | (go_keep; done) | (refine ⟨?_, ?_, ?_, ?_, ?_, ?_, ?_, ?_⟩ <;> ((repeat rw [cell_set_nb (by omega)]); first | assumption | (go_keep; done))))
      (first
        | (go_at_call 86; refine (H3.out _ hq ).mono ?_; clear H3; rintro e w3 ⟨v3, rfl, g3, hb3⟩; have hq := Below.then hq hb3; have e5a := (n5.below hq).c0; have e5b := (n5.below hq).c1; have e5c := (n5.below hq).c2; have e5d := (n5.below hq).c3; have e6a := (n6.below hq).c0; have e6b := (n6.below hq).c1; have e6c := (n6.below hq).c2; have e6d := (n6.below hq).c3)
        | (go_at_call 85; refine (H4.out _ hq _ g3).mono ?_; clear H4; rintro e w4 ⟨v4, rfl, g4, hb4⟩; have g3 := g3.below hb4; have hq := Below.then hq hb4; have e5a := (n5.below hq).c0; have e5b := (n5.below hq).c1; have e5c := (n5.below hq).c2; have e5d := (n5.below hq).c3; have e6a := (n6.below hq).c0; have e6b := (n6.below hq).c1; have e6c := (n6.below hq).c2; have e6d := (n6.below hq).c3)
        | (go_at_call 86; refine (H8.out _ hq ).mono ?_; clear H8; rintro e w8 ⟨v8, rfl, g8, hb8⟩; have g3 := g3.below hb8; have g4 := g4.below hb8; have hq := Below.then hq hb8; have e5a := (n5.below hq).c0; have e5b := (n5.below hq).c1; have e5c := (n5.below hq).c2; have e5d := (n5.below hq).c3; have e6a := (n6.below hq).c0; have e6b := (n6.below hq).c1; have e6c := (n6.below hq).c2; have e6d := (n6.below hq).c3)
        | (go_at_call 85; refine (H9.out _ hq _ g8).mono ?_; clear H9; rintro e w9 ⟨v9, rfl, g9, hb9⟩; have g3 := g3.below hb9; have g4 := g4.below hb9; have g8 := g8.below hb9; have hq := Below.then hq hb9; have e5a := (n5.below hq).c0; have e5b := (n5.below hq).c1; have e5c := (n5.below hq).c2; have e5d := (n5.below hq).c3; have e6a := (n6.below hq).c0; have e6b := (n6.below hq).c1; have e6c := (n6.below hq).c2; have e6d := (n6.below hq).c3)
        | (go_at_call 104; refine (H10.out _ hq _ g4 _ g9).mono ?_; clear H10; rintro e w10 ⟨rfl, hb10⟩; have g3 := g3.below hb10; have g4 := g4.below hb10; have g8 := g8.below hb10; have g9 := g9.below hb10; have hq := Below.then hq hb10; have e5a := (n5.below hq).c0; have e5b := (n5.below hq).c1; have e5c := (n5.below hq).c2; have e5d := (n5.below hq).c3; have e6a := (n6.below hq).c0; have e6b := (n6.below hq).c1; have e6c := (n6.below hq).c2; have e6d := (n6.below hq).c3))
    all_goals go_wp2_with fail
    go_ret
    exact ⟨rfl, M2.out.2.2.trans (hq.mono M2.out.2.2.size)⟩

set_option maxRecDepth 100000 in
set_option maxHeartbeats 4000000 in
theorem qminus_c (va vb : Value) (p q : Rat) (w : World) (ha : IsRat w va p) (hb : IsRat w vb q) (hsp : Sq p) (hsq : Sq q) :
    Calls Tryz.prog 51 #[va, vb] w fun e w' => ∃ u, e = .returned u ∧ IsRat w' u (p - q) ∧ Below w.heap.size w w' := by
  obtain ⟨s, a, l, c, t, b, k, d, rfl⟩ := IsRat.form ha
  obtain ⟨s', a', l', c', t', b', k', d', rfl⟩ := IsRat.form hb
  have M0 := mem_rats w s t s' t' a b a' b' l c k d l' c' k' d' p q ha hb
  obtain ⟨W0, hW0⟩ : ∃ W0, ((w.alloc (.cells #[.bool s, .slice a l c, .bool t, .slice b k d] 65)).alloc (.cells #[.bool s', .slice a' l' c', .bool t', .slice b' k' d'] 65)).alloc (.cells #[.bool false, .slice none 0 0, .bool false, .slice none 0 0] 65) = W0 := ⟨_, rfl⟩
  have HW0 := hidD hW0
  rw [hW0] at M0
  have M1 : Hid (Mem w W0 [some (w.heap.size, .rat (p)), some (w.heap.size + 1, .rat (q)), some (w.heap.size + 1 + 1, .rat (0))]) := hidD M0
  have hmx : Tryz.prog.follows .mixedOrders = true := by kernel_rfl
  have HP := hidD hsp
  have HQ := hidD hsq
  clear M0 ha hb hW0 hsp hsq
  go_enter Tryz.func51, Tryz.ntmps51
  go_upto_region 1 with fail
  rw [HW0.out]
  clear HW0
  obtain ⟨s1, a1, l1, c1, t1, b1, k1, d1, n1, r1, i1, j1⟩ := M1.out.rat (i := 0) rfl
  have e1a := n1.c0
  have e1b := n1.c1
  have e1c := n1.c2
  have e1d := n1.c3
  obtain ⟨s2, a2, l2, c2, t2, b2, k2, d2, n2, r2, i2, j2⟩ := M1.out.rat (i := 1) rfl
  have e2a := n2.c0
  have e2b := n2.c1
  have e2c := n2.c2
  have e2d := n2.c3
  obtain ⟨s3, a3, l3, c3, t3, b3, k3, d3, n3, r3, i3, j3⟩ := M1.out.rat (i := 2) rfl
  have e3a := n3.c0
  have e3b := n3.c1
  have e3c := n3.c2
  have e3d := n3.c3
  have f3a := n3.f0
  have f3b := n3.f1
  have f3c := n3.f2
  have f3d := n3.f3
  have H1 := hidD (fun (V : World) (h : Below W0.heap.size W0 V) => iminus_c _ _ 0 q.num V (int0 _) (i2.below h) (by have := Sok.zero.words; omega) (by have := HQ.out.num.words; omega))
  have H2 := hidD (fun (V : World) (h : Below W0.heap.size W0 V) (s : Bool) (a : Option Addr) (l c : Nat) (g : IsInt V (.agg #[.bool s, .slice a l c]) (0 - q.num)) => show Calls Tryz.prog 87 #[.agg #[.bool s1, .slice a1 l1 c1, .bool t1, .slice b1 k1 d1], .agg #[.bool s, .slice a l c, .bool t2, .slice b2 k2 d2]] V fun e w' => ∃ u, e = .returned u ∧ IsRat w' u (p - q) ∧ Below V.heap.size V w' by
    have h1 := qplus_c _ _ p (-q) V (r1.below h) (IsRat.mk (q := -q) (by rw [Rat.neg_num, ← Int.zero_sub]; exact g) (j2.below h)) HP.out HQ.out.neg
    rw [← Rat.sub_eq_add_neg] at h1
    exact h1)
  have ne0 : w.heap.size ≠ w.heap.size + 1 + 1 := M1.out.ne 0 2 rfl rfl (by decide)
  have ne1 : w.heap.size + 1 ≠ w.heap.size + 1 + 1 := M1.out.ne 1 2 rfl rfl (by decide)
  have hq : Below W0.heap.size W0 W0.drew := (Below.refl _ W0).drew
  go_region_held3 (fun w' => w'.cell? ⟨w.heap.size, 0, none⟩ = some (.bool s1) ∧ w'.cell? ⟨w.heap.size, 1, none⟩ = some (.slice a1 l1 c1) ∧ w'.cell? ⟨w.heap.size, 2, none⟩ = some (.bool t1) ∧ w'.cell? ⟨w.heap.size, 3, none⟩ = some (.slice b1 k1 d1) ∧ w'.cell? ⟨w.heap.size + 1, 0, none⟩ = some (.bool s2) ∧ w'.cell? ⟨w.heap.size + 1, 1, none⟩ = some (.slice a2 l2 c2) ∧ w'.cell? ⟨w.heap.size + 1, 2, none⟩ = some (.bool t2) ∧ w'.cell? ⟨w.heap.size + 1, 3, none⟩ = some (.slice b2 k2 d2)) (first | (with_reducible exact ⟨e1a, e1b, e1c, e1d, e2a, e2b, e2c, e2d⟩) | (go_keep; done) | (refine ⟨?_, ?_, ?_, ?_, ?_, ?_, ?_, ?_⟩ <;> ((repeat rw [cell_set_nb (by omega)]); first | assumption | (go_keep; done))))
    (first
      | (go_at_call 88; refine (H1.out _ hq).mono ?_; clear H1; rintro e w1 ⟨u1, rfl, hu1, hb1⟩; obtain ⟨s90, a90, l90, c90, rfl⟩ := IsInt.form2 hu1; have hq := Below.then hq hb1; have e1a := (n1.below hq).c0; have e1b := (n1.below hq).c1; have e1c := (n1.below hq).c2; have e1d := (n1.below hq).c3; have e2a := (n2.below hq).c0; have e2b := (n2.below hq).c1; have e2c := (n2.below hq).c2; have e2d := (n2.below hq).c3; have e3a := (n3.below hq).c0; have e3b := (n3.below hq).c1; have e3c := (n3.below hq).c2; have e3d := (n3.below hq).c3; have f3a := (n3.below hq).f0; have f3b := (n3.below hq).f1; have f3c := (n3.below hq).f2; have f3d := (n3.below hq).f3)
      | (go_at_call 87; refine (H2.out _ hq _ _ _ _ hu1).mono ?_; clear H2; rintro e w2 ⟨u2, rfl, hu2, hb2⟩; obtain ⟨s91, a91, l91, c91, t91, b91, k91, d91, rfl⟩ := IsRat.form hu2; have hq := Below.then hq hb2; have e1a := (n1.below hq).c0; have e1b := (n1.below hq).c1; have e1c := (n1.below hq).c2; have e1d := (n1.below hq).c3; have e2a := (n2.below hq).c0; have e2b := (n2.below hq).c1; have e2c := (n2.below hq).c2; have e2d := (n2.below hq).c3; have e3a := (n3.below hq).c0; have e3b := (n3.below hq).c1; have e3c := (n3.below hq).c2; have e3d := (n3.below hq).c3; have f3a := (n3.below hq).f0; have f3b := (n3.below hq).f1; have f3c := (n3.below hq).f2; have f3d := (n3.below hq).f3))
  all_goals go_wp2_with fail
  have hq2 := M1.out.2.2.trans (hq.mono M1.out.2.2.size)
  have hge := M1.out.ge 2 rfl
  exact bodyPost_ret (v := .agg #[.bool s91, .slice a91 l91 c91, .bool t91, .slice b91 k91 d91]) (by simp [results, Tryz.results51, go_sem, e3a, e3b, e3c, e3d]) rfl ⟨_, rfl, hu2.put4 (n3.below hq) rfl rfl rfl rfl _ _ _ _, below_put4 hq2 hge _ _ _ _⟩
end Go.Proofs.YteldjhhjnchdeaaGreatDoor
namespace Go.Proofs.YteldjhhjnchdeaaGreatDoor
open Go.RowKit Go.Shelf

attribute [local go_sem] Oper.semAt_some

theorem cmpQ_zero (q : Rat) : cmpQ q 0 = 0 ↔ q = 0 := by
  rw [Rat.eq_iff_mul_eq_mul]
  unfold cmpQ cmpI
  split <;> (try split) <;> omega
theorem sq0 : Sq 0 := Sq.of (k := 1) ⟨Sm.zero _, Sm.one _ (by omega)⟩ (by omega)

set_option maxRecDepth 100000 in
set_option maxHeartbeats 1000000 in
theorem yisZero_c (v : Value) (q : Rat) (w : World) (h : IsRat w v q) (hq : Sq q) :
    Calls Tryz.prog 31 #[v] w fun e w' => e = .returned (.bool (decide (q = 0))) ∧ Below w.heap.size w w' := by
  obtain ⟨s, a, l, c, t, b, k, d, rfl⟩ := h.form
  have b0 := Box4.new w 65 (.bool s) (.slice a l c) (.bool t) (.slice b k d)
  have hB0 : Below w.heap.size w (w.alloc (.cells #[.bool s, .slice a l c, .bool t, .slice b k d] 65)) := (Below.refl _ w).alloc (Nat.le_refl _) _
  obtain ⟨W0, hW0⟩ : ∃ W0, w.alloc (.cells #[.bool s, .slice a l c, .bool t, .slice b k d] 65) = W0 := ⟨_, rfl⟩
  rw [hW0] at b0 hB0
  have HW0 := hidD hW0
  have HO := hidD (qorder_c _ _ q 0 W0 (h.below hB0) (rat0 _) hq sq0)
  have k0 := b0.c0
  have k1 := b0.c1
  have k2 := b0.c2
  have k3 := b0.c3
  have HZ := hidD (cmpQ_zero q)
  obtain ⟨n, hn⟩ : ∃ n, cmpQ q 0 = n := ⟨_, rfl⟩
  rw [hn] at HO HZ
  clear hW0 hn
  go_enter Tryz.func31, Tryz.ntmps31
  go_upto_region 1 with fail
  rw [HW0.out]
  go_wp2_with (go_at_call 68; refine HO.out.mono ?_; rintro e w1 ⟨rfl, hb1⟩)
  go_ret
  refine ⟨?_, Below.then hB0 hb1⟩
  show Ending.returned (Value.bool (n == 0)) = _
  have e : (n == 0) = decide (q = 0) := by rw [Bool.eq_iff_iff]; simp [HZ.out]
  rw [e]

/-- What a range backward over a row of fractions reads. -/
def BwqRd (Bs : Nat) (a : Option Addr) (len cap : Nat) (x y z u : Nat → Value) (k : Nat) (W : World) : Prop :=
  W.cell? ⟨Bs, 0, none⟩ = some (.slice a len cap) ∧ (k < len → ∃ b, a = some ⟨b, 0, none⟩ ∧ W.cell? ⟨b, (len - 1 - k) * 4, none⟩ = some (x (len - 1 - k)) ∧ W.cell? ⟨b, (len - 1 - k) * 4 + 1, none⟩ = some (y (len - 1 - k)) ∧
    W.cell? ⟨b, (len - 1 - k) * 4 + 2, none⟩ = some (z (len - 1 - k)) ∧ W.cell? ⟨b, (len - 1 - k) * 4 + 3, none⟩ = some (u (len - 1 - k)))

/-- What a round is handed. -/
def bwqArgs (len : Nat) (x y z u : Nat → Value) (k : Nat) : Array Value := #[.int .i64 ((len : Int) - 1 - k), .agg #[x (len - 1 - k), y (len - 1 - k), z (len - 1 - k), u (len - 1 - k)]]

set_option maxRecDepth 100000 in
set_option maxHeartbeats 2000000 in
theorem obwd1_seq (F : Fence) (n : Nat) (hf : F.fn 67) (hro : F.round = none) (hn : 1 ≤ n) (Bs : Nat) (a : Option Addr) (len cap : Nat) (x y z u : Nat → Value) (hlen : len ≤ 1099511627776) :
    SeqN F n Tryz.prog 67 #[.pointer (some ⟨Bs, 0, none⟩)] len (bwqArgs len x y z u) (BwqRd Bs a len cap x y z u) := fun l J Jx W hR hY h0 => by
  have hbs := (hR 0 W h0).1
  refine callsIn_of_wp Tryz.func67 rfl hf ?_ hro
  simp only [Tryz.ntmps67, List.size_toArray, List.length_cons, List.length_nil, Nat.reduceAdd, Nat.reduceSub, Array.replicate_succ, Array.replicate_zero, List.push_toArray, List.append_toArray, List.nil_append, List.cons_append]
  gi_wp2
  gi_loopw [3] (fun i wr => ∃ k : Nat, k ≤ len ∧ i = .int .i64 ((len : Int) - 1 - k) ∧ J k wr) (fun i _ => (intOf i + 1).toNat)
  case atStart => exact ⟨0, Nat.zero_le _, by simp, h0⟩
  case round =>
    obtain ⟨k, hk, rfl, hJ⟩ := hrel
    obtain ⟨hb2, hc2⟩ := hR k wr hJ
    by_cases hlt : k < len
    · obtain ⟨b, rfl, hc, hcy, hcz, hcu⟩ := hc2 hlt
      obtain ⟨fn, tmps, assign, body, hy, hRd⟩ := hY k wr hJ hlt
      have e1 : ((len : Int) - 1 - k) = ((len - 1 - k : Nat) : Int) := by omega
      have e2 : len - 1 - k < len := by omega
      dsimp only [bwqArgs] at hy
      rw [e1] at hy ⊢
      generalize hm : len - 1 - k = m at *
      have HM := Hid.out (p := Hid (len - 1 - k = m)) hm
      clear hm e1
      gi_wp2
      refine hRd.mono ?_
      rintro e W3 (⟨rfl, hJ3⟩ | ⟨rfl, hJx3⟩)
      · gi_wp2
        go_roundw
        case rel => exact ⟨k + 1, by omega, by (congr 1; have := HM.out; omega), hJ3⟩
        case measure => simp [intOf]
      · gi_wp2
        refine bodyPost_ret (results_none rfl _ _ _) rfl ?_
        exact ⟨⟨_, rfl⟩, .inr ⟨k, hlt, hJx3⟩⟩
    · obtain rfl : k = len := by omega
      gi_wp2
      go_end0
      exact ⟨⟨_, rfl⟩, .inl hJ⟩

set_option maxHeartbeats 1000000 in
theorem obwd_in (F : Fence) (n : Nat) (hf : F.fn 30) (hro : F.round = none) (a : Option Addr) (len cap : Nat) (w : World) :
    CallsIn F n Tryz.prog 30 #[.slice a len cap] w fun e w' => e = .returned (.func (.func 67) #[] #[.pointer (some ⟨w.heap.size, 0, none⟩)]) ∧ w' = w.alloc (.cells #[.slice a len cap] 23) := by
  refine callsIn_of_wp Tryz.func30 rfl hf ?_ hro
  simp only [Tryz.ntmps30, List.size_toArray, List.length_cons, List.length_nil, Nat.reduceAdd, Nat.reduceSub, Array.replicate_succ, Array.replicate_zero, List.push_toArray, List.append_toArray, List.nil_append, List.cons_append]
  gi_wp2
  go_ret
  exact ⟨rfl, rfl⟩

/-- Parts of values. -/
def bofV : Value → Bool | .bool b => b | _ => false
def adrV : Value → Option Addr | .slice a _ _ => a | _ => none
def capV : Value → Nat | .slice _ _ c => c | _ => 0

/-- A row's elements, picked. -/
theorem RowK.pick {r : Bool} {W : World} {a : Option Addr} {l cap : Nat} {qs : List Rat} (h : RowK r W (.slice a l cap) qs) : l = qs.length ∧ l ≤ cap ∧ cap ≤ 9223372036854775807 ∧ l ≤ 1099511627776 ∧ ∃ x y z u : Nat → Value, ∀ j, j < l → IsK r W (.agg #[x j, y j, z j, u j]) (cf qs j) ∧
    ∃ b, a = some ⟨b, 0, none⟩ ∧ b < W.heap.size ∧ W.cell? ⟨b, j * 4, none⟩ = some (x j) ∧ W.cell? ⟨b, j * 4 + 1, none⟩ = some (y j) ∧ W.cell? ⟨b, j * 4 + 2, none⟩ = some (z j) ∧ W.cell? ⟨b, j * 4 + 3, none⟩ = some (u j) := by
  obtain ⟨a', cap', e, h1, h2, h3, h4⟩ := h
  cases e
  refine ⟨rfl, h1, h2, h3, ?_⟩
  rcases h4 with h4 | ⟨b, ea, h5⟩
  · exact ⟨fun _ => undef, fun _ => undef, fun _ => undef, fun _ => undef, fun j hj => by rw [h4] at hj; simp at hj⟩
  · obtain ⟨cs, c1, c2⟩ := h5
    refine ⟨fun j => cs[j * 4]?.getD undef, fun j => cs[j * 4 + 1]?.getD undef, fun j => cs[j * 4 + 2]?.getD undef, fun j => cs[j * 4 + 3]?.getD undef, fun j hj => ?_⟩
    obtain ⟨x, y, z, u, e0, e1, e2, e3, h3⟩ := c2 j hj
    dsimp only
    rw [e0, e1, e2, e3]
    exact ⟨h3, b, ea, (Array.getElem?_eq_some_iff.1 c1).1, cell_of c1 e0, cell_of c1 e1, cell_of c1 e2, cell_of c1 e3⟩

/-- The same of the code's rows, with their forms. -/
theorem RowK.forms {W : World} {a : Option Addr} {l cap : Nat} {qs : List Rat} (h : RowK true W (.slice a l cap) qs) : l = qs.length ∧ l ≤ cap ∧ cap ≤ 9223372036854775807 ∧ l ≤ 1099511627776 ∧ ∃ (s t : Nat → Bool) (aa bb : Nat → Option Addr) (ll cc kk dd : Nat → Nat), ∀ j, j < l → IsRat W (.agg #[.bool (s j), .slice (aa j) (ll j) (cc j), .bool (t j), .slice (bb j) (kk j) (dd j)]) (cf qs j) ∧
    ∃ b, a = some ⟨b, 0, none⟩ ∧ b < W.heap.size ∧ W.cell? ⟨b, j * 4, none⟩ = some (.bool (s j)) ∧ W.cell? ⟨b, j * 4 + 1, none⟩ = some (.slice (aa j) (ll j) (cc j)) ∧ W.cell? ⟨b, j * 4 + 2, none⟩ = some (.bool (t j)) ∧ W.cell? ⟨b, j * 4 + 3, none⟩ = some (.slice (bb j) (kk j) (dd j)) := by
  obtain ⟨h1, h2, h3, h4, x, y, z, u, hc⟩ := h.pick
  refine ⟨h1, h2, h3, h4, fun j => bofV (x j), fun j => bofV (z j), fun j => adrV (y j), fun j => adrV (u j), fun j => lenV (y j), fun j => capV (y j), fun j => lenV (u j), fun j => capV (u j), fun j hj => ?_⟩
  obtain ⟨hi, b, ea, hb, c0, c1, c2, c3⟩ := hc j hj
  obtain ⟨s, a', l', c', t, b', k', d', e, _⟩ := (show IsRat W _ _ from hi)
  simp only [Value.agg.injEq, Array.mk.injEq, List.cons.injEq, and_true] at e
  obtain ⟨e0, e1, e2, e3⟩ := e
  rw [e0, e1, e2, e3] at hi
  rw [e0] at c0
  rw [e1] at c1
  rw [e2] at c2
  rw [e3] at c3
  dsimp only
  rw [e0, e1, e2, e3]
  exact ⟨hi, b, ea, hb, c0, c1, c2, c3⟩

/-- What the rounds of trimmed keep. -/
def OtrI (w : World) (a : Option Addr) (len cap : Nat) (qs : List Rat) (k : Nat) (W : World) : Prop :=
  ((((Boxed W w.heap.size 23 (.slice a len cap) ∧ Boxed W (w.heap.size + 1) 75 (.func (.func 31) #[] #[])) ∧ Boxed W (w.heap.size + 1 + 1) 23 (.slice none 0 0)) ∧ Boxed W (w.heap.size + 1 + 1 + 1) 23 (.slice a len cap)) ∧ Below w.heap.size w W) ∧ ∀ j, len - k ≤ j → j < len → cf qs j = 0

/-- What a round of trimmed leaves that returns. -/
def OtrX (w : World) (a : Option Addr) (len cap : Nat) (qs : List Rat) (c : Code) (k : Nat) (W : World) : Prop :=
  (Boxed W (w.heap.size + 1 + 1) 23 (.slice a (len - 1 - k + 1) cap) ∧ Below w.heap.size w W) ∧ (c = .ret ∧ cf qs (len - 1 - k) ≠ 0 ∧ ∀ j, len - k ≤ j → j < len → cf qs j = 0)

theorem otrI_own (w : World) (a : Option Addr) (len cap : Nat) (qs : List Rat) : OwnFrom (w.heap.size + 1 + 1 + 1 + 1) (OtrI w a len cap qs) :=
  OwnFrom.and (OwnFrom.and (OwnFrom.and (OwnFrom.and (OwnFrom.and (Own.from (boxed_own _ _ (fun _ => .slice a len cap)) _) (Own.from (boxed_own _ _ (fun _ => .func (.func 31) #[] #[])) _)) (Own.from (boxed_own _ _ (fun _ => .slice none 0 0)) _)) (Own.from (boxed_own _ _ (fun _ => .slice a len cap)) _)) (ownFrom_below (Nat.le_refl _) (by omega))) (ownFrom_pure _ _)
theorem otrX_own (w : World) (a : Option Addr) (len cap : Nat) (qs : List Rat) (c : Code) : OwnFrom (w.heap.size + 1 + 1 + 1 + 1) (OtrX w a len cap qs c) :=
  OwnFrom.and (OwnFrom.and (Own.from (boxed_own _ _ (fun k => .slice a (len - 1 - k + 1) cap)) _) (ownFrom_below (Nat.le_refl _) (by omega))) (ownFrom_pure _ _)

set_option maxRecDepth 100000 in
set_option maxHeartbeats 2000000 in
theorem otrimmed_w (a : Option Addr) (len cap : Nat) (qs : List Rat) (w : World) (h : RowK true w (.slice a len cap) qs) (hs : Sqs qs) :
    Calls Tryz.prog 60 #[.slice a len cap, .func (.func 31) #[] #[]] w fun e w' => ∃ u, e = .returned u ∧ (RowK true w' u (trimQ qs) ∧ Below w.heap.size w w') ∧ (u = .slice none 0 0 ∧ trimQ qs = [] ∨ u = .slice a (trimQ qs).length cap) := by
  obtain ⟨hl, hcap, hcm, hlm, s, t, aa, bb, ll, cc, kk, dd, hc⟩ := h.forms
  have HL := hidD hl
  have HC := hidD hc
  have HS := hidD hs
  clear hc hl hs
  refine (callsIn_wide (n := 3)).1 ?_
  refine callsIn_of_wp_marks Tryz.func60 rfl trivial ?_ rfl
  simp only [Tryz.ntmps60, List.size_toArray, List.length_cons, List.length_nil, Nat.reduceAdd, Nat.reduceSub, Array.replicate_succ, Array.replicate_zero, List.push_toArray, List.append_toArray, List.nil_append, List.cons_append]
  gi_wp2_with (refine ⟨trivial, ?_⟩; gi_at_call 30; refine (obwd_in Fence.wide _ trivial rfl _ _ _ _).mono ?_; rintro e w' ⟨rfl, rfl⟩)
  have b0 := (((Boxed.new w 23 (.slice a len cap)).alloc (.cells #[.func (.func 31) #[] #[]] 75)).alloc (.cells #[.slice none 0 0] 23)).alloc (.cells #[.slice a len cap] 23)
  have b1 := ((Boxed.new (w.alloc (.cells #[.slice a len cap] 23)) 75 (.func (.func 31) #[] #[])).alloc (.cells #[.slice none 0 0] 23)).alloc (.cells #[.slice a len cap] 23)
  have b2 := (Boxed.new ((w.alloc (.cells #[.slice a len cap] 23)).alloc (.cells #[.func (.func 31) #[] #[]] 75)) 23 (.slice none 0 0)).alloc (.cells #[.slice a len cap] 23)
  have b3 := Boxed.new (((w.alloc (.cells #[.slice a len cap] 23)).alloc (.cells #[.func (.func 31) #[] #[]] 75)).alloc (.cells #[.slice none 0 0] 23)) 23 (.slice a len cap)
  simp only [World.size_alloc] at b1 b2 b3
  have hB0 : Below w.heap.size w ((((w.alloc (.cells #[.slice a len cap] 23)).alloc (.cells #[.func (.func 31) #[] #[]] 75)).alloc (.cells #[.slice none 0 0] 23)).alloc (.cells #[.slice a len cap] 23)) := ((((Below.refl _ w).alloc (Nat.le_refl _) _).alloc (by simp) _).alloc (by simp; omega) _).alloc (by simp; omega) _
  have hN : ((((w.alloc (.cells #[.slice a len cap] 23)).alloc (.cells #[.func (.func 31) #[] #[]] 75)).alloc (.cells #[.slice none 0 0] 23)).alloc (.cells #[.slice a len cap] 23)).heap.size = w.heap.size + 1 + 1 + 1 + 1 := by simp
  refine wpIn_rangeA rfl (by omega) (gf := 67) (lb := #[.pointer (some ⟨w.heap.size + 1 + 1 + 1, 0, none⟩)]) rfl trivial (enters_of Tryz.func67 (by kernel_rfl) rfl)
    (obwd1_seq Fence.wide _ trivial rfl (by omega) (w.heap.size + 1 + 1 + 1) a len cap (fun j => .bool (s j)) (fun j => .slice (aa j) (ll j) (cc j)) (fun j => .bool (t j)) (fun j => .slice (bb j) (kk j) (dd j)) hlm) (fun _ => rfl)
    (OtrI w a len cap qs) (OtrX w a len cap qs) (by rw [hN]; exact otrI_own w a len cap qs) (fun c => by rw [hN]; exact otrX_own w a len cap qs c)
    ⟨⟨⟨⟨⟨b0, b1⟩, b2⟩, b3⟩, hB0⟩, fun j h1 h2 => by omega⟩ ?rd
    (fun k b => { tmps := #[.slice a len cap, .func (.func 31) #[] #[], .pointer (some ⟨w.heap.size, 0, none⟩), .pointer (some ⟨w.heap.size + 1, 0, none⟩), .pointer (some ⟨w.heap.size + 1 + 1, 0, none⟩), .int .i64 ((len : Int) - 1 - k), .pointer (some ⟨b, 0, none⟩), .slice a len cap, .func (.func 67) #[] #[.pointer (some ⟨w.heap.size + 1 + 1 + 1, 0, none⟩)], .int .i64 ((len : Int) - 1 - k), .agg #[.bool (s (len - 1 - k)), .slice (aa (len - 1 - k)) (ll (len - 1 - k)) (cc (len - 1 - k)), .bool (t (len - 1 - k)), .slice (bb (len - 1 - k)) (kk (len - 1 - k)) (dd (len - 1 - k))], undef, undef, undef, undef, undef, undef, undef, undef], defers := [] })
    (fun k => .cells #[.bool (s (len - 1 - k)), .slice (aa (len - 1 - k)) (ll (len - 1 - k)) (cc (len - 1 - k)), .bool (t (len - 1 - k)), .slice (bb (len - 1 - k)) (kk (len - 1 - k)) (dd (len - 1 - k))] 65 (0, 0)) ?assign ?body ?done ?stop
  case rd =>
    rintro k W ⟨⟨⟨_, c3⟩, hB⟩, _⟩
    refine ⟨c3.cell, fun hk => ?_⟩
    obtain ⟨_, b, ea, hb, h1, h2, h3, h4⟩ := HC.out (len - 1 - k) (by omega)
    exact ⟨b, ea, (hB.cell (p := ⟨b, _, none⟩) hb).trans h1, (hB.cell (p := ⟨b, _, none⟩) hb).trans h2, (hB.cell (p := ⟨b, _, none⟩) hb).trans h3, (hB.cell (p := ⟨b, _, none⟩) hb).trans h4⟩
  case assign =>
    intro l k W K hK
    unfold bwqArgs
    gi_wp2
    exact hK
  case body =>
    rintro l k b W ⟨⟨⟨⟨⟨c0, c1⟩, c2⟩, c3⟩, hB⟩, hz⟩ hk hsz hbx hbb
    have hm : len - 1 - k < len := by omega
    obtain ⟨hi, _⟩ := HC.out (len - 1 - k) hm
    have HI := hidD (IsRat.below hi hB)
    have HZ := hidD hz
    have e1 : ((len : Int) - 1 - k) = ((len - 1 - k : Nat) : Int) := by omega
    rw [e1]
    have HM0 := hidD (show len - 1 - k = len - 1 - k from rfl)
    clear e1 hz hi
    obtain ⟨m, hm0⟩ : ∃ m, len - 1 - k = m := ⟨_, rfl⟩
    have HM := hidD hm0
    rw [hm0] at hbb HI hm ⊢
    clear hm0 HM0
    have q0 : Box4 W b 65 (.bool (s m)) (.slice (aa m) (ll m) (cc m)) (.bool (t m)) (.slice (bb m) (kk m) (dd m)) := hbb
    have k0 := q0.c0
    have k1 := q0.c1
    have k2 := q0.c2
    have k3 := q0.c3
    have d0 := c0.cell
    have d1 := c1.cell
    have d2 := c2.cell
    have f2 := c2.frozen
    clear q0 hbb
    have HCALL := hidD (CallsIn.inRound l ((callsIn_wide (n := 3 - 1 - 1 - 1)).2 (yisZero_c _ _ W HI.out (HS.out.at m))))
    by_cases hx : cf qs m = 0
    · have HX := hidD hx
      rw [show decide (cf qs m = 0) = true from decide_eq_true hx] at HCALL
      clear hx
      gi_wp2_with (refine ⟨trivial, ?_⟩; gi_at_call 31; refine HCALL.out.mono ?_; rintro e w' ⟨rfl, hb'⟩)
      refine ⟨(keeps_below hb').from _, ⟨⟨⟨⟨boxed_below c0 hb', boxed_below c1 hb'⟩, boxed_below c2 hb'⟩, boxed_below c3 hb'⟩, hB.trans (hb'.mono hB.size)⟩, fun j h1 h2 => ?_⟩
      by_cases hj : j = m
      · rw [hj]; exact HX.out
      · have := HM.out
        exact HZ.out j (by omega) h2
    · have HX := hidD hx
      rw [show decide (cf qs m = 0) = false from decide_eq_false hx] at HCALL
      clear hx
      gi_wp2_with (refine ⟨trivial, ?_⟩; gi_at_call 31; refine HCALL.out.mono ?_; rintro e w' ⟨rfl, hb'⟩; have d0 := (boxed_below c0 hb').cell; have d2 := (boxed_below c2 hb').cell; have f2 := (boxed_below c2 hb').frozen)
      have hB' := hB.trans (hb'.mono hB.size)
      refine ⟨((keeps_below hb').trans (KeepsOthers.setCell _ _ _)).from _, ⟨?_, hB'.setCell (p := ⟨w.heap.size + 1 + 1, 0, none⟩) (by simp; omega) _⟩, rfl, by rw [HM.out]; exact HX.out, HZ.out⟩
      rw [HM.out]
      exact (boxed_below c2 hb').set _
  case done =>
    rintro D W hD ⟨⟨⟨⟨⟨c0, c1⟩, c2⟩, c3⟩, hB⟩, hz⟩ hK
    have d1 := c2.cell
    have f1 := c2.frozen
    have HZ := hidD hz
    clear hz
    gi_wp2
    have hK2 : (W.setCell ⟨w.heap.size + 1 + 1, 0, none⟩ (.slice none 0 0)).heap[D]? = some (.deferred (some [])) := (KeepsOthers.setCell W ⟨w.heap.size + 1 + 1, 0, none⟩ (.slice none 0 0)).same D _ hK rfl
    refine ⟨by simp, .inl ⟨_, _, rfl, run_takeDeferred hK2, ?_⟩⟩
    have b1' := (c2.set (.slice none 0 0)).kept (grownBy_putObj' _ D (.deferred none)) (fun e => by cases e; rw [show (W.setCell ⟨w.heap.size + 1 + 1, 0, none⟩ (.slice none 0 0)).heap[w.heap.size + 1 + 1]? = _ from c2.set (.slice none 0 0)] at hK2; cases hK2)
    have q := b1'.cell
    have e0 : trimQ qs = [] := trimQ_nil fun j => by
      rcases Nat.lt_or_ge j len with hj | hj
      · exact HZ.out j (by omega) hj
      · exact cf_ge (by have := HL.out; omega)
    refine ⟨.slice none 0 0, by simp [results, Tryz.results60, go_sem, q], _, rfl, ⟨?_, ?_⟩, Or.inl ⟨rfl, e0⟩⟩
    · rw [e0]
      exact RowK.nil _ _
    · exact (hB.setCell (p := ⟨w.heap.size + 1 + 1, 0, none⟩) (by simp; omega) _).trans (belowK_b (w := w) (Nat.le_refl _) _ D _ _ (by simp at hD; omega) hK2 rfl rfl)
  case stop =>
    rintro D c k W hD hk ⟨⟨c1, hB⟩, rfl, hx, hz⟩ hK
    have d1 := c1.cell
    have HZ := hidD (show cf qs (len - 1 - k) ≠ 0 ∧ ∀ j, len - k ≤ j → j < len → cf qs j = 0 from ⟨hx, hz⟩)
    clear hz hx
    gi_wp2
    refine ⟨by simp, .inl ⟨_, _, rfl, run_takeDeferred hK, ?_⟩⟩
    have b1' := c1.kept (grownBy_putObj' _ D (.deferred none)) (fun e => by cases e; rw [show W.heap[w.heap.size + 1 + 1]? = _ from c1] at hK; cases hK)
    have q := b1'.cell
    have hB2 : Below w.heap.size w (W.putObj D (.deferred none)) := hB.trans (belowK_b (w := w) (Nat.le_refl _) _ D _ _ (by simp at hD; omega) hK rfl rfl)
    have hlen := HL.out
    have e : trimQ qs = qs.take (len - 1 - k + 1) := by
      refine trim_take (by omega) (Or.inr HZ.out.1) fun j hj => ?_
      rcases Nat.lt_or_ge j len with h1 | h1
      · exact HZ.out.2 j (by omega) h1
      · exact cf_ge (by omega)
    have el : (qs.take (len - 1 - k + 1)).length = len - 1 - k + 1 := by rw [List.length_take]; omega
    refine ⟨.slice a (len - 1 - k + 1) cap, by simp [results, Tryz.results60, go_sem, q], _, rfl, ⟨?_, hB2⟩, Or.inr (by rw [e, el])⟩
    rw [e]
    exact (h.below hB2).take (by omega)
end Go.Proofs.YteldjhhjnchdeaaGreatDoor
namespace Go.Proofs.YteldjhhjnchdeaaGreatDoor
open Go.RowKit Go.Shelf

attribute [local go_sem] Oper.semAt_some

/-- The memory of a slice, of a polynomial, is new. -/
def Frh (N : Nat) (v : Value) : Prop := ∀ a l c, v = .slice (some a) l c → N ≤ a.block
def FrhP (N : Nat) (v : Value) : Prop := ∀ a l c, v = .agg #[.slice (some a) l c] → N ≤ a.block

theorem boxP {W : World} {B : Nat} {a : Option Addr} {l c : Nat} (b : Boxed W B 25 (.slice a l c)) (x : Value) {v : Value} {qs : List Rat} (h : RowK true W v qs) : RowK true (W.setCell ⟨B, 0, none⟩ x) v qs :=
  M3.rowK_set (cs := #[.slice a l c]) b (o := 0) rfl rfl true (by decide) x v qs h

set_option maxRecDepth 100000 in
set_option maxHeartbeats 1000000 in
theorem ymade_c (v : Value) (qs : List Rat) (w : World) (h : RowK true w v qs) (hs : Sqs qs) :
    Calls Tryz.prog 27 #[v] w fun e w' => ∃ u, e = .returned u ∧ IsPoly w' u (trimQ qs) ∧ (∀ N, Frh N v → FrhP N u) ∧ Below w.heap.size w w' := by
  obtain ⟨a, l, c, rfl⟩ := h.form
  have b0 := Boxed.new w 25 (.slice none 0 0)
  have hB0 : Below w.heap.size w (w.alloc (.cells #[.slice none 0 0] 25)) := (Below.refl _ w).alloc (Nat.le_refl _) _
  obtain ⟨W0, hW0⟩ : ∃ W0, w.alloc (.cells #[.slice none 0 0] 25) = W0 := ⟨_, rfl⟩
  rw [hW0] at b0 hB0
  have HW0 := hidD hW0
  have HT := hidD (otrimmed_w a l c qs W0 (h.below hB0) hs)
  have k0 := b0.cell
  have f0 := b0.frozen
  clear hW0 h hs
  go_enter Tryz.func27, Tryz.ntmps27
  go_upto_region 1 with fail
  rw [HW0.out]
  go_wp2_with (go_at_call 60; refine HT.out.mono ?_; clear HT; rintro e w1 ⟨u, rfl, ⟨hu, hb1⟩, hsame⟩; obtain ⟨ua, ul, uc, rfl⟩ := hu.form; have b1 := boxed_below b0 hb1; have k0 := b1.cell; have f0 := b1.frozen; have HSM := hidD hsame; clear hsame)
  refine bodyPost_ret (v := .agg #[.slice ua ul uc]) (by simp [results, Tryz.results27, go_sem, k0]) rfl ⟨_, rfl, ⟨_, rfl, boxP b1 _ hu⟩, ?_, (Below.then hB0 hb1).setCell (p := ⟨w.heap.size, 0, none⟩) (Nat.le_refl _) _⟩
  intro N hN a' l' c' e
  simp only [Value.agg.injEq, Array.mk.injEq, List.cons.injEq, and_true] at e
  rcases HSM.out with ⟨h1, _⟩ | h1
  · rw [h1] at e; cases e
  · rw [h1] at e; cases e; exact hN _ _ _ rfl

set_option maxRecDepth 100000 in
set_option maxHeartbeats 1000000 in
theorem yDegree_c (v : Value) (ps : List Rat) (w : World) (h : IsPoly w v ps) :
    Calls Tryz.prog 20 #[v] w fun e w' => e = .returned (.int .i64 ((ps.length : Int) - 1)) ∧ Below w.heap.size w w' := by
  obtain ⟨u, rfl, hr⟩ := h
  obtain ⟨a, cap, rfl, h1, h2, h3, _⟩ := hr.open
  clear hr
  generalize ps.length = n at *
  go_enter Tryz.func20, Tryz.ntmps20
  go_wp2
  go_ret
  exact ⟨rfl, (Below.refl _ _).alloc (Nat.le_refl _) _⟩

theorem rat4 {W : World} {v : Value} {q : Rat} (h : IsRat W v q) {B : Nat} {t : TypeId} {x y z u : Value} (b : Box4 W B t x y z u) (n0 : noInt x = true) (n1 : noInt y = true) (n2 : noInt z = true) (n3 : noInt u = true) (x' y' z' u' : Value) : IsRat (put4 W B x' y' z' u') v q := h.put4 b n0 n1 n2 n3 _ _ _ _

set_option maxRecDepth 100000 in
set_option maxHeartbeats 1000000 in
theorem ocoef_c (v : Value) (qs : List Rat) (i : Int) (w : World) (h : RowK true w v qs) :
    Calls Tryz.prog 100 #[v, .int .i64 i] w fun e w' => ∃ u, e = .returned u ∧ IsRat w' u (if i < 0 then 0 else cf qs i.toNat) ∧ Below w.heap.size w w' := by
  obtain ⟨a, l, c, rfl⟩ := h.form
  obtain ⟨hl, hcap, hcm, hlm, s, t, aa, bb, ll, cc, kk, dd, hc⟩ := h.forms
  have HL := hidD hl
  have HC := hidD hc
  clear hl hc h
  by_cases h0 : i < 0
  · rw [if_pos h0]
    go_enter Tryz.func100, Tryz.ntmps100
    go_wp2
    exact bodyPost_ret (v := .agg #[.bool false, .slice none 0 0, .bool false, .slice none 0 0]) (by simp [results, Tryz.results100, go_sem]) rfl ⟨_, rfl, rat0 _, ((Below.refl _ w).alloc (Nat.le_refl _) _).alloc (by simp) _⟩
  · rw [if_neg h0]
    by_cases h1 : (l : Int) ≤ i
    · have HZ := hidD (show cf qs i.toNat = 0 from cf_ge (by have := HL.out; omega))
      rw [HZ.out]
      go_enter Tryz.func100, Tryz.ntmps100
      go_wp2
      exact bodyPost_ret (v := .agg #[.bool false, .slice none 0 0, .bool false, .slice none 0 0]) (by simp [results, Tryz.results100, go_sem]) rfl ⟨_, rfl, rat0 _, ((Below.refl _ w).alloc (Nat.le_refl _) _).alloc (by simp) _⟩
    · obtain ⟨m, rfl⟩ : ∃ m : Nat, i = (m : Int) := ⟨i.toNat, by omega⟩
      have hm : m < l := by omega
      obtain ⟨hi, b, rfl, hb, k0, k1, k2, k3⟩ := HC.out m hm
      have HI := hidD hi
      rw [Int.toNat_natCast]
      clear HC hi h1
      generalize s m = s1 at *
      generalize t m = t1 at *
      generalize aa m = a1 at *
      generalize bb m = b1 at *
      generalize ll m = l1 at *
      generalize cc m = c1 at *
      generalize kk m = k1 at *
      generalize dd m = d1 at *
      go_enter Tryz.func100, Tryz.ntmps100
      go_wp2
      exact bodyPost_ret (v := .agg #[.bool s1, .slice a1 l1 c1, .bool t1, .slice b1 k1 d1]) (by simp [results, Tryz.results100, go_sem]) rfl ⟨_, rfl, HI.out.below ((Below.refl _ w).alloc (Nat.le_refl _) _), (Below.refl _ w).alloc (Nat.le_refl _) _⟩
end Go.Proofs.YteldjhhjnchdeaaGreatDoor
namespace Go.Proofs.YteldjhhjnchdeaaGreatDoor
open Go.RowKit Go.Shelf

attribute [local go_sem] Oper.semAt_some

theorem Tryz.infoRat : (Tryz.prog.info? 65).map (fun i => (i.zero, i.size, i.bytes)) = some (some (.agg #[.bool false, .slice none 0 0, .bool false, .slice none 0 0]), 4, 64) := by kernel_rfl

/-- The cells of n zeros. -/
def zeroQ (n : Nat) : Array Value := madeCells #[.bool false, .slice none 0 0, .bool false, .slice none 0 0] (n * 4)

theorem zeroQ_at {n j : Nat} (hj : j < n) : (zeroQ n)[j * 4]? = some (.bool false) ∧ (zeroQ n)[j * 4 + 1]? = some (.slice none 0 0) ∧ (zeroQ n)[j * 4 + 2]? = some (.bool false) ∧ (zeroQ n)[j * 4 + 3]? = some (.slice none 0 0) := by
  unfold zeroQ madeCells
  have h : ∀ k, k < n * 4 → ((Array.range (n * 4)).map (fun i => (#[Value.bool false, Value.slice none 0 0, Value.bool false, Value.slice none 0 0] : Array Value)[i % 4]!))[k]? = some ((#[Value.bool false, Value.slice none 0 0, Value.bool false, Value.slice none 0 0] : Array Value)[k % 4]!) := fun k hk => by
    rw [Array.getElem?_map, Array.getElem?_range]
    simp [hk]
  refine ⟨(h _ (by omega)).trans ?_, (h _ (by omega)).trans ?_, (h _ (by omega)).trans ?_, (h _ (by omega)).trans ?_⟩
  · rw [show j * 4 % 4 = 0 from by omega]; rfl
  · rw [show (j * 4 + 1) % 4 = 1 from by omega]; rfl
  · rw [show (j * 4 + 2) % 4 = 2 from by omega]; rfl
  · rw [show (j * 4 + 3) % 4 = 3 from by omega]; rfl

theorem make_rats (n : Nat) (h : n ≤ 2199023255552) (w : World) : (Instr.makeSlice 23 (.int .i64 (n : Int)) (.int .i64 (n : Int))).run Tryz.prog w = .ok (.slice (some ⟨w.heap.size, 0, none⟩) n n) (w.alloc (.cells (zeroQ n) 65)) := by
  obtain ⟨i, hi, hzz⟩ := Option.map_eq_some_iff.1 Tryz.infoRat
  simp only [Prod.mk.injEq] at hzz
  obtain ⟨hz, hs, hb⟩ := hzz
  have hr := run_make (P := Tryz.prog) w 23 65 i _ Tryz.underlying23 hi hz .i64 .i64 n n (by omega) (Int.le_refl _) (by rw [hb]; omega) (by omega)
  simp only [Int.toNat_natCast, hs] at hr
  exact hr

theorem els_made (n : Nat) (w : World) : Els true (w.alloc (.cells (zeroQ n) 65)) w.heap.size (List.replicate n 0) := by
  refine ⟨zeroQ n, World.alloc_heap_new w _, fun j hj => ?_⟩
  rw [List.length_replicate] at hj
  obtain ⟨h0, h1, h2, h3⟩ := zeroQ_at hj
  exact ⟨_, _, _, _, h0, h1, h2, h3, by rw [cf_replicate]; exact rat0 _⟩

set_option maxRecDepth 100000 in
set_option maxHeartbeats 4000000 in
theorem ojoinedPlus_w (a b : Option Addr) (la ca lb cb : Nat) (ps qs : List Rat) (w : World) (ha : RowK true w (.slice a la ca) ps) (hb : RowK true w (.slice b lb cb) qs) (hps : Sqs ps) (hqs : Sqs qs) :
    Calls Tryz.prog 83 #[.slice a la ca, .slice b lb cb, .func (.func 87) #[] #[]] w fun e w' => ∃ v zs, e = .returned v ∧ RowK true w' v zs ∧ (∀ j, cf zs j = cf ps j + cf qs j) ∧ Frh w.heap.size v ∧ Below w.heap.size w w' := by
  obtain ⟨hla, hca, hcma, hlma, _⟩ := ha.forms
  obtain ⟨hlb, hcb, hcmb, hlmb, _⟩ := hb.forms
  obtain ⟨n, hn⟩ : ∃ n : Nat, max (la : Int) (lb : Int) = (n : Int) := ⟨max la lb, by omega⟩
  have hn1 : n ≤ 1099511627776 := by omega
  have HN := hidD (show la ≤ n ∧ lb ≤ n from by omega)
  have HA := hidD ha
  have HB := hidD hb
  have HP := hidD hps
  have HQ := hidD hqs
  have HLA := hidD hla
  have HLB := hidD hlb
  have hmk := make_rats n (by omega) w
  have hE0 := els_made n w
  have hB0 : Below w.heap.size w (w.alloc (.cells (zeroQ n) 65)) := (Below.refl _ w).alloc (Nat.le_refl _) _
  obtain ⟨W0, hW0⟩ : ∃ W0, w.alloc (.cells (zeroQ n) 65) = W0 := ⟨_, rfl⟩
  rw [hW0] at hE0 hB0 hmk
  have HE0 := hidD hE0
  have HB0 := hidD hB0
  clear hE0 hB0 hW0 ha hb hps hqs hla hlb hca hcma hcb hcmb
  go_enter Tryz.func83, Tryz.ntmps83
  go_wp2
  go_loopw [17] (fun i wr => ∃ (k : Nat) (zs : List Rat), k ≤ n ∧ i = .int .i64 (k : Int) ∧ Hid (zs.length = n ∧ (∀ j, j < k → cf zs j = cf ps j + cf qs j) ∧ Els true wr w.heap.size zs ∧ Below w.heap.size w wr)) (fun i _ => n - (intOf i).toNat)
  case atStart => exact ⟨0, _, Nat.zero_le _, rfl, hidD ⟨List.length_replicate, fun j hj => by omega, HE0.out, HB0.out⟩⟩
  case round =>
    obtain ⟨k, zs, hk, rfl, HR⟩ := hrel
    by_cases hlt : k < n
    · have hlt2 : (k : Int) < (n : Int) := by omega
      have HC1 := hidD (ocoef_c _ ps (k : Int) wr (HA.out.below HR.out.2.2.2))
      have HC2 := hidD (fun (V : World) (h : Below wr.heap.size wr V) => ocoef_c _ qs (k : Int) V ((HB.out.below HR.out.2.2.2).below h))
      rw [if_neg (by omega), Int.toNat_natCast] at HC1
      rw [show (if (k : Int) < 0 then (0 : Rat) else cf qs ((k : Int)).toNat) = cf qs k from by rw [if_neg (by omega), Int.toNat_natCast]] at HC2
      have HC3 := hidD (fun (V : World) (u v : Value) (hu : IsRat V u (cf ps k)) (hv : IsRat V v (cf qs k)) => qplus_c u v (cf ps k) (cf qs k) V hu hv (HP.out.at k) (HQ.out.at k))
      have HZL := hidD (show k < zs.length from by have := HR.out.1; omega)
      go_wp2_with (first
        | (go_at_call 100; refine HC1.out.mono ?_; clear HC1; rintro e w1 ⟨u1, rfl, hu1, hb1⟩; have hq1 := hb1)
        | (go_at_call 100; refine (HC2.out _ hq1).mono ?_; clear HC2; rintro e w2 ⟨u2, rfl, hu2, hb2⟩; have hu1 := hu1.below hb2; have hq2 := Below.then hq1 hb2; clear hq1)
        | (go_at_call 87; refine (HC3.out _ _ _ hu1 hu2).mono ?_; clear HC3; rintro e w3 ⟨u3, rfl, hu3, hb3⟩; have hq3 := Below.then hq2 hb3; clear hq2 hu1 hu2 hb1 hb2 hb3; have hE3 := HR.out.2.2.1.below hq3; obtain ⟨x0, y0, z0, t0, k0, k1, k2, k3, _⟩ := hE3.at HZL.out; have f0 := hE3.frozen (k * 4); have f1 := hE3.frozen (k * 4 + 1); have f2 := hE3.frozen (k * 4 + 2); have f3 := hE3.frozen (k * 4 + 3); obtain ⟨s91, a91, l91, c91, t91, b91, k91, d91, rfl⟩ := IsRat.form hu3))
      go_roundw
      case rel =>
        refine ⟨k + 1, zs.set k (cf ps k + cf qs k), by omega, by go_num, hidD ⟨by rw [List.length_set]; exact HR.out.1, fun j hj => ?_, hE3.set HZL.out hu3, below_putAt (HR.out.2.2.2.trans (hq3.mono HR.out.2.2.2.size)) (Nat.le_refl _) _ _ _ _⟩⟩
        rw [cf_set _ _ _ _ HZL.out]
        by_cases hjk : j = k
        · rw [if_pos hjk, hjk]
        · rw [if_neg hjk]; exact HR.out.2.1 j (by omega)
      case measure => simp [intOf]; omega
    · have hkn : k = n := by omega
      subst hkn
      go_wp2
      go_ret
      have hR := HR.out
      have hrow := hR.2.2.1.row (n := k) (cap := k) (by omega) (Nat.le_refl _) (by omega) (by omega)
      rw [List.take_of_length_le (by omega)] at hrow
      refine ⟨_, zs, rfl, hrow, fun j => ?_, fun a' l' c' e => by cases e; exact Nat.le_refl _, hR.2.2.2⟩
      rcases Nat.lt_or_ge j k with hj | hj
      · exact hR.2.1 j hj
      · have := HN.out
        have h1 := HLA.out
        have h2 := HLB.out
        rw [cf_ge (by omega), cf_ge (by omega), cf_ge (by omega)]
        grind

set_option maxRecDepth 100000 in
set_option maxHeartbeats 1000000 in
theorem yPlus_c (va vb : Value) (ps qs : List Rat) (w : World) (ha : IsPoly w va ps) (hb : IsPoly w vb qs) (hps : Sqs ps) (hqs : Sqs qs) (hrs : Sqs (addQ ps qs)) :
    Calls Tryz.prog 241 #[va, vb] w fun e w' => ∃ u, e = .returned u ∧ IsPoly w' u (addQ ps qs) ∧ FrhP w.heap.size u ∧ Below w.heap.size w w' := by
  obtain ⟨u, rfl, ha⟩ := ha
  obtain ⟨v, rfl, hb⟩ := hb
  obtain ⟨a, la, ca, rfl⟩ := ha.form
  obtain ⟨b, lb, cb, rfl⟩ := hb.form
  obtain ⟨W0, hW0⟩ : ∃ W0, ((w.alloc (.cells #[.slice a la ca] 25)).alloc (.cells #[.slice b lb cb] 25)).alloc (.cells #[.slice none 0 0] 25) = W0 := ⟨_, rfl⟩
  have b0 : Boxed W0 w.heap.size 25 (.slice a la ca) := by rw [← hW0]; exact ((Boxed.new w _ _).alloc _).alloc _
  have b1 : Boxed W0 (w.heap.size + 1) 25 (.slice b lb cb) := by rw [← hW0]; have := (Boxed.new (w.alloc (.cells #[.slice a la ca] 25)) 25 (.slice b lb cb)).alloc (.cells #[.slice none 0 0] 25); simpa using this
  have b2 : Boxed W0 (w.heap.size + 1 + 1) 25 (.slice none 0 0) := by rw [← hW0]; have := Boxed.new ((w.alloc (.cells #[.slice a la ca] 25)).alloc (.cells #[.slice b lb cb] 25)) 25 (.slice none 0 0); simpa using this
  have hB0 : Below w.heap.size w W0 := by rw [← hW0]; exact (((Below.refl _ w).alloc (Nat.le_refl _) _).alloc (by simp) _).alloc (by simp; omega) _
  have HJ := hidD (ojoinedPlus_w a b la ca lb cb ps qs W0 (ha.below hB0) (hb.below hB0) hps hqs)
  have HM := hidD (fun (V : World) (v : Value) (zs : List Rat) (h : RowK true V v zs) (hs : Sqs zs) => ymade_c v zs V h hs)
  have HRS := hidD hrs
  have HW0 := hidD hW0
  have k0 := b0.cell
  have k1 := b1.cell
  clear hW0 ha hb hps hqs hrs
  go_enter Tryz.func241, Tryz.ntmps241
  go_upto_region 1 with fail
  rw [HW0.out]
  go_wp2_with (first
    | (go_at_call 83; refine HJ.out.mono ?_; clear HJ; rintro e w1 ⟨v1, zs, rfl, hr1, hz, hf1, hb1⟩; have hs1 : Sqs zs := Sqs.of (fun i => by rw [hz i, ← cf_addQ]; exact HRS.out.at i); have HZ := hidD hz; clear hz)
    | (go_at_call 27; refine (HM.out _ _ zs hr1 hs1).mono ?_; clear HM; rintro e w2 ⟨u2, rfl, hu2, hf2, hb2⟩; obtain ⟨a9, l9, c9, rfl⟩ := hu2.form; have hq := Below.then hb1 hb2; have b2' := boxed_below b2 hq; have k2 := b2'.cell; have f2 := b2'.frozen))
  have e0 : trimQ zs = addQ ps qs := by
    rw [← addQ_trim]
    exact trim_ext fun j => by rw [HZ.out j, cf_addQ]
  rw [e0] at hu2
  refine bodyPost_ret (v := .agg #[.slice a9 l9 c9]) (by simp [results, Tryz.results241, go_sem, k2]) rfl ⟨_, rfl, ⟨_, rfl, boxP b2' _ hu2.row⟩, ?_, (Below.then hB0 hq).setCell (p := ⟨w.heap.size + 1 + 1, 0, none⟩) (by simp; omega) _⟩
  intro a' l' c' e
  have := hf2 W0.heap.size hf1 a' l' c' e
  have h2 := hB0.size
  omega

set_option maxRecDepth 100000 in
set_option maxHeartbeats 4000000 in
theorem ojoinedMinus_w (a b : Option Addr) (la ca lb cb : Nat) (ps qs : List Rat) (w : World) (ha : RowK true w (.slice a la ca) ps) (hb : RowK true w (.slice b lb cb) qs) (hps : Sqs ps) (hqs : Sqs qs) :
    Calls Tryz.prog 83 #[.slice a la ca, .slice b lb cb, .func (.func 51) #[] #[]] w fun e w' => ∃ v zs, e = .returned v ∧ RowK true w' v zs ∧ (∀ j, cf zs j = cf ps j - cf qs j) ∧ Frh w.heap.size v ∧ Below w.heap.size w w' := by
  obtain ⟨hla, hca, hcma, hlma, _⟩ := ha.forms
  obtain ⟨hlb, hcb, hcmb, hlmb, _⟩ := hb.forms
  obtain ⟨n, hn⟩ : ∃ n : Nat, max (la : Int) (lb : Int) = (n : Int) := ⟨max la lb, by omega⟩
  have hn1 : n ≤ 1099511627776 := by omega
  have HN := hidD (show la ≤ n ∧ lb ≤ n from by omega)
  have HA := hidD ha
  have HB := hidD hb
  have HP := hidD hps
  have HQ := hidD hqs
  have HLA := hidD hla
  have HLB := hidD hlb
  have hmk := make_rats n (by omega) w
  have hE0 := els_made n w
  have hB0 : Below w.heap.size w (w.alloc (.cells (zeroQ n) 65)) := (Below.refl _ w).alloc (Nat.le_refl _) _
  obtain ⟨W0, hW0⟩ : ∃ W0, w.alloc (.cells (zeroQ n) 65) = W0 := ⟨_, rfl⟩
  rw [hW0] at hE0 hB0 hmk
  have HE0 := hidD hE0
  have HB0 := hidD hB0
  clear hE0 hB0 hW0 ha hb hps hqs hla hlb hca hcma hcb hcmb
  go_enter Tryz.func83, Tryz.ntmps83
  go_wp2
  go_loopw [17] (fun i wr => ∃ (k : Nat) (zs : List Rat), k ≤ n ∧ i = .int .i64 (k : Int) ∧ Hid (zs.length = n ∧ (∀ j, j < k → cf zs j = cf ps j - cf qs j) ∧ Els true wr w.heap.size zs ∧ Below w.heap.size w wr)) (fun i _ => n - (intOf i).toNat)
  case atStart => exact ⟨0, _, Nat.zero_le _, rfl, hidD ⟨List.length_replicate, fun j hj => by omega, HE0.out, HB0.out⟩⟩
  case round =>
    obtain ⟨k, zs, hk, rfl, HR⟩ := hrel
    by_cases hlt : k < n
    · have hlt2 : (k : Int) < (n : Int) := by omega
      have HC1 := hidD (ocoef_c _ ps (k : Int) wr (HA.out.below HR.out.2.2.2))
      have HC2 := hidD (fun (V : World) (h : Below wr.heap.size wr V) => ocoef_c _ qs (k : Int) V ((HB.out.below HR.out.2.2.2).below h))
      rw [if_neg (by omega), Int.toNat_natCast] at HC1
      rw [show (if (k : Int) < 0 then (0 : Rat) else cf qs ((k : Int)).toNat) = cf qs k from by rw [if_neg (by omega), Int.toNat_natCast]] at HC2
      have HC3 := hidD (fun (V : World) (u v : Value) (hu : IsRat V u (cf ps k)) (hv : IsRat V v (cf qs k)) => qminus_c u v (cf ps k) (cf qs k) V hu hv (HP.out.at k) (HQ.out.at k))
      have HZL := hidD (show k < zs.length from by have := HR.out.1; omega)
      go_wp2_with (first
        | (go_at_call 100; refine HC1.out.mono ?_; clear HC1; rintro e w1 ⟨u1, rfl, hu1, hb1⟩; have hq1 := hb1)
        | (go_at_call 100; refine (HC2.out _ hq1).mono ?_; clear HC2; rintro e w2 ⟨u2, rfl, hu2, hb2⟩; have hu1 := hu1.below hb2; have hq2 := Below.then hq1 hb2; clear hq1)
        | (go_at_call 51; refine (HC3.out _ _ _ hu1 hu2).mono ?_; clear HC3; rintro e w3 ⟨u3, rfl, hu3, hb3⟩; have hq3 := Below.then hq2 hb3; clear hq2 hu1 hu2 hb1 hb2 hb3; have hE3 := HR.out.2.2.1.below hq3; obtain ⟨x0, y0, z0, t0, k0, k1, k2, k3, _⟩ := hE3.at HZL.out; have f0 := hE3.frozen (k * 4); have f1 := hE3.frozen (k * 4 + 1); have f2 := hE3.frozen (k * 4 + 2); have f3 := hE3.frozen (k * 4 + 3); obtain ⟨s91, a91, l91, c91, t91, b91, k91, d91, rfl⟩ := IsRat.form hu3))
      go_roundw
      case rel =>
        refine ⟨k + 1, zs.set k (cf ps k - cf qs k), by omega, by go_num, hidD ⟨by rw [List.length_set]; exact HR.out.1, fun j hj => ?_, hE3.set HZL.out hu3, below_putAt (HR.out.2.2.2.trans (hq3.mono HR.out.2.2.2.size)) (Nat.le_refl _) _ _ _ _⟩⟩
        rw [cf_set _ _ _ _ HZL.out]
        by_cases hjk : j = k
        · rw [if_pos hjk, hjk]
        · rw [if_neg hjk]; exact HR.out.2.1 j (by omega)
      case measure => simp [intOf]; omega
    · have hkn : k = n := by omega
      subst hkn
      go_wp2
      go_ret
      have hR := HR.out
      have hrow := hR.2.2.1.row (n := k) (cap := k) (by omega) (Nat.le_refl _) (by omega) (by omega)
      rw [List.take_of_length_le (by omega)] at hrow
      refine ⟨_, zs, rfl, hrow, fun j => ?_, fun a' l' c' e => by cases e; exact Nat.le_refl _, hR.2.2.2⟩
      rcases Nat.lt_or_ge j k with hj | hj
      · exact hR.2.1 j hj
      · have := HN.out
        have h1 := HLA.out
        have h2 := HLB.out
        rw [cf_ge (by omega), cf_ge (by omega), cf_ge (by omega)]
        grind

set_option maxRecDepth 100000 in
set_option maxHeartbeats 1000000 in
theorem yMinus_c (va vb : Value) (ps qs : List Rat) (w : World) (ha : IsPoly w va ps) (hb : IsPoly w vb qs) (hps : Sqs ps) (hqs : Sqs qs) (hrs : Sqs (subQ ps qs)) :
    Calls Tryz.prog 48 #[va, vb] w fun e w' => ∃ u, e = .returned u ∧ IsPoly w' u (subQ ps qs) ∧ FrhP w.heap.size u ∧ Below w.heap.size w w' := by
  obtain ⟨u, rfl, ha⟩ := ha
  obtain ⟨v, rfl, hb⟩ := hb
  obtain ⟨a, la, ca, rfl⟩ := ha.form
  obtain ⟨b, lb, cb, rfl⟩ := hb.form
  obtain ⟨W0, hW0⟩ : ∃ W0, ((w.alloc (.cells #[.slice a la ca] 25)).alloc (.cells #[.slice b lb cb] 25)).alloc (.cells #[.slice none 0 0] 25) = W0 := ⟨_, rfl⟩
  have b0 : Boxed W0 w.heap.size 25 (.slice a la ca) := by rw [← hW0]; exact ((Boxed.new w _ _).alloc _).alloc _
  have b1 : Boxed W0 (w.heap.size + 1) 25 (.slice b lb cb) := by rw [← hW0]; have := (Boxed.new (w.alloc (.cells #[.slice a la ca] 25)) 25 (.slice b lb cb)).alloc (.cells #[.slice none 0 0] 25); simpa using this
  have b2 : Boxed W0 (w.heap.size + 1 + 1) 25 (.slice none 0 0) := by rw [← hW0]; have := Boxed.new ((w.alloc (.cells #[.slice a la ca] 25)).alloc (.cells #[.slice b lb cb] 25)) 25 (.slice none 0 0); simpa using this
  have hB0 : Below w.heap.size w W0 := by rw [← hW0]; exact (((Below.refl _ w).alloc (Nat.le_refl _) _).alloc (by simp) _).alloc (by simp; omega) _
  have HJ := hidD (ojoinedMinus_w a b la ca lb cb ps qs W0 (ha.below hB0) (hb.below hB0) hps hqs)
  have HM := hidD (fun (V : World) (v : Value) (zs : List Rat) (h : RowK true V v zs) (hs : Sqs zs) => ymade_c v zs V h hs)
  have HRS := hidD hrs
  have HW0 := hidD hW0
  have k0 := b0.cell
  have k1 := b1.cell
  clear hW0 ha hb hps hqs hrs
  go_enter Tryz.func48, Tryz.ntmps48
  go_upto_region 1 with fail
  rw [HW0.out]
  go_wp2_with (first
    | (go_at_call 83; refine HJ.out.mono ?_; clear HJ; rintro e w1 ⟨v1, zs, rfl, hr1, hz, hf1, hb1⟩; have hs1 : Sqs zs := Sqs.of (fun i => by rw [hz i, ← cf_subQ]; exact HRS.out.at i); have HZ := hidD hz; clear hz)
    | (go_at_call 27; refine (HM.out _ _ zs hr1 hs1).mono ?_; clear HM; rintro e w2 ⟨u2, rfl, hu2, hf2, hb2⟩; obtain ⟨a9, l9, c9, rfl⟩ := hu2.form; have hq := Below.then hb1 hb2; have b2' := boxed_below b2 hq; have k2 := b2'.cell; have f2 := b2'.frozen))
  have e0 : trimQ zs = subQ ps qs := by
    rw [← subQ_trim]
    exact trim_ext fun j => by rw [HZ.out j, cf_subQ]
  rw [e0] at hu2
  refine bodyPost_ret (v := .agg #[.slice a9 l9 c9]) (by simp [results, Tryz.results48, go_sem, k2]) rfl ⟨_, rfl, ⟨_, rfl, boxP b2' _ hu2.row⟩, ?_, (Below.then hB0 hq).setCell (p := ⟨w.heap.size + 1 + 1, 0, none⟩) (by simp; omega) _⟩
  intro a' l' c' e
  have := hf2 W0.heap.size hf1 a' l' c' e
  have h2 := hB0.size
  omega

end Go.Proofs.YteldjhhjnchdeaaGreatDoor
