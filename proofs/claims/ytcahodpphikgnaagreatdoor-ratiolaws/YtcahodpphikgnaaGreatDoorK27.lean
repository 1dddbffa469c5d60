import Derived.Test.YtcahodpphikgnaaGreatDoorK26
import Derived.Test.YtcahodpphikgnaaGreatDoorK22
import Derived.Test.YtcahodpphikgnaaGreatDoorK12
import Derived.Test.YtcahodpphikgnaaGreatDoorK05
namespace Go.Proofs.YtcahodpphikgnaaGreatDoor
open Go.RowKit Go.Shelf

attribute [local go_sem] Oper.semAt_some

theorem mul_parts (p q : Rat) (hp : Sq p) (hq : Sq q) (dn up x y : Int) (h1 : ((Int.gcd p.num (q.den : Int) : Nat) : Int) = dn) (h2 : ((Int.gcd q.num (p.den : Int) : Nat) : Int) = up) (h3 : p.num / dn = x) (h4 : q.num / up = y) :
    Sok dn ∧ dn ≠ 0 ∧ Sok up ∧ up ≠ 0 ∧ Sok x ∧ Sok y ∧ (p * q).num = x * y ∧ ((p * q).den : Int) = p.den / up * (q.den / dn) := by
  have hl := least_mul p q dn up h1.symm h2.symm
  have hdn : dn ≠ 0 := by rw [← h1]; have := gcd_posZ (x := p.num) (y := q.den) (by have := q.den_nz; omega); omega
  have hup : up ≠ 0 := by rw [← h2]; have := gcd_posZ (x := q.num) (y := p.den) (by have := p.den_nz; omega); omega
  refine ⟨by rw [← h1]; exact hp.num.gcd hq.den, hdn, by rw [← h2]; exact hq.num.gcd hp.den, hup, by rw [← h3]; exact hp.num.div, by rw [← h4]; exact hq.num.div, ?_, hl.2⟩
  rw [hl.1, h3, h4]

set_option maxRecDepth 100000 in
set_option maxHeartbeats 8000000 in
theorem qtimes_c (va vb : Value) (p q : Rat) (w : World) (ha : IsRat w va p) (hb : IsRat w vb q) (hsp : Sq p) (hsq : Sq q) :
    Calls Tryz.prog 29 #[va, vb] w fun e w' => ∃ u, e = .returned u ∧ IsRat w' u (p * q) ∧ Below w.heap.size w w' := by
  obtain ⟨s, a, l, c, t, b, k, d, rfl⟩ := IsRat.form ha
  obtain ⟨s', a', l', c', t', b', k', d', rfl⟩ := IsRat.form hb
  have M0 := mem_rats w s t s' t' a b a' b' l c k d l' c' k' d' p q ha hb
  obtain ⟨W0, hW0⟩ : ∃ W0, ((w.alloc (.cells #[.bool s, .slice a l c, .bool t, .slice b k d] 27)).alloc (.cells #[.bool s', .slice a' l' c', .bool t', .slice b' k' d'] 27)).alloc (.cells #[.bool false, .slice none 0 0, .bool false, .slice none 0 0] 27) = W0 := ⟨_, rfl⟩
  have HW0 := hidD hW0
  rw [hW0] at M0
  have M1 : Hid (Mem w W0 [some (w.heap.size, .rat (p)), some (w.heap.size + 1, .rat (q)), some (w.heap.size + 1 + 1, .rat (0))]) := hidD M0
  have hmx : Tryz.prog.follows .mixedOrders = true := by kernel_rfl
  have HP := hidD hsp
  have HQ := hidD hsq
  clear M0 ha hb hW0 hsp hsq
  go_enter Tryz.func29, Tryz.ntmps29
  go_upto_region 1 with fail
  rw [HW0.out]
  clear HW0
  obtain ⟨bb, hbb⟩ : ∃ bb : Bool, decide (p.den = 1 ∧ q.den = 1) = bb := ⟨_, rfl⟩
  have HBB := hidD hbb
  clear hbb
  go_cut [13] (fun c w' => c = .bool bb ∧ Hid (Mem w w' [some (w.heap.size, .rat (p)), some (w.heap.size + 1, .rat (q)), some (w.heap.size + 1 + 1, .rat (0))]))
  case first =>
    obtain ⟨s1, a1, l1, c1, t1, b1, k1, d1, n1, r1, i1, j1⟩ := M1.out.rat (i := 0) rfl
    have e1a := n1.c0
    have e1b := n1.c1
    have e1c := n1.c2
    have e1d := n1.c3
    obtain ⟨s2, a2, l2, c2, t2, b2, k2, d2, n2, r2, i2, j2⟩ := M1.out.rat (i := 1) rfl
    have e2a := n2.c0
    have e2b := n2.c1
    have e2c := n2.c2
    have e2d := n2.c3
    have H1 := hidD (isWhole_c _ p W0 r1)
    have H2 := hidD (fun (V : World) (h : Below W0.heap.size W0 V) => isWhole_c _ q V (r2.below h))
    by_cases h1 : p.den = 1
    · rw [decide_eq_true h1] at H1
      obtain ⟨b2, hb2⟩ : ∃ b2, decide (q.den = 1) = b2 := ⟨_, rfl⟩
      rw [hb2] at H2
      have HB2 := hidD (show b2 = bb by rw [← hb2, ← HBB.out]; exact decide_eq_decide.2 ⟨fun h => ⟨h1, h⟩, fun h => h.2⟩)
      clear hb2 h1
      go_wp2_with (first
        | (go_at_call 47; refine H1.out.mono ?_; clear H1; rintro e w1 ⟨rfl, hb1⟩; have e1a := (n1.below hb1).c0; have e1b := (n1.below hb1).c1; have e1c := (n1.below hb1).c2; have e1d := (n1.below hb1).c3; have e2a := (n2.below hb1).c0; have e2b := (n2.below hb1).c1; have e2c := (n2.below hb1).c2; have e2d := (n2.below hb1).c3)
        | (go_at_call 47; refine (H2.out _ hb1).mono ?_; clear H2; rintro e w2 ⟨rfl, hb2⟩))
      go_meet
      case rel => exact ⟨by rw [HB2.out], hidD ((M1.out.below hb1).below hb2)⟩
    · rw [decide_eq_false h1] at H1
      have HB2 := hidD (show bb = false by rw [← HBB.out]; exact decide_eq_false (fun h => h1 h.1))
      clear h1
      go_wp2_with (go_at_call 47; refine H1.out.mono ?_; clear H1; rintro e w1 ⟨rfl, hb1⟩)
      go_meet
      case rel => exact ⟨by rw [HB2.out], hidD (M1.out.below hb1)⟩
  obtain ⟨rfl, MM⟩ := hcut
  have M2 : Hid (Mem w wc [some (w.heap.size, .rat (p)), some (w.heap.size + 1, .rat (q)), some (w.heap.size + 1 + 1, .rat (0))]) := MM
  clear M1 MM
  cases bb with
  | true =>
    have hdd := of_decide_eq_true HBB.out
    have HW := hidD (whole_mul hdd.1 hdd.2)
    clear hdd HBB
    obtain ⟨s3, a3, l3, c3, t3, b3, k3, d3, n3, r3, i3, j3⟩ := M2.out.rat (i := 0) rfl
    have e3a := n3.c0
    have e3b := n3.c1
    have e3c := n3.c2
    have e3d := n3.c3
    obtain ⟨s4, a4, l4, c4, t4, b4, k4, d4, n4, r4, i4, j4⟩ := M2.out.rat (i := 1) rfl
    have e4a := n4.c0
    have e4b := n4.c1
    have e4c := n4.c2
    have e4d := n4.c3
    obtain ⟨s5, a5, l5, c5, t5, b5, k5, d5, n5, r5, i5, j5⟩ := M2.out.rat (i := 2) rfl
    have e5a := n5.c0
    have e5b := n5.c1
    have e5c := n5.c2
    have e5d := n5.c3
    have f5a := n5.f0
    have f5b := n5.f1
    have f5c := n5.f2
    have f5d := n5.f3
    go_wp2_with (go_at_call 51; refine (itimes_c _ _ p.num q.num _ i3 i4 (by have h1 := HP.out.num.words; have h2 := HQ.out.num.words; omega)).mono ?_; rintro e w1 ⟨u, rfl, hu, hq⟩; obtain ⟨s90, a90, l90, c90, rfl⟩ := IsInt.form2 hu; have e5a := (n5.below hq).c0; have e5b := (n5.below hq).c1; have e5c := (n5.below hq).c2; have e5d := (n5.below hq).c3; have f5a := (n5.below hq).f0; have f5b := (n5.below hq).f1; have f5c := (n5.below hq).f2; have f5d := (n5.below hq).f3)
    have hr : IsRat w1 (.agg #[.bool s90, .slice a90 l90 c90, .bool false, .slice none 0 0]) (p * q) := IsRat.mk (by rw [HW.out.1]; exact hu) (by rw [denZ_zero.2 HW.out.2]; exact int0 _)
    have hq2 := M2.out.2.2.trans (hq.mono M2.out.2.2.size)
    exact bodyPost_ret (v := .agg #[.bool s90, .slice a90 l90 c90, .bool false, .slice none 0 0]) (by simp [results, Tryz.results29, go_sem, e5a, e5b, e5c, e5d]) rfl ⟨_, rfl, hr.put4 (n5.below hq) rfl rfl rfl rfl _ _ _ _, below_put4 hq2 (by omega) _ _ _ _⟩
  | false =>
    clear HBB
    obtain ⟨dn, hdn⟩ : ∃ dn : Int, ((Int.gcd p.num (q.den : Int) : Nat) : Int) = dn := ⟨_, rfl⟩
    have HDN := hidD hdn
    clear hdn
    obtain ⟨up, hup⟩ : ∃ up : Int, ((Int.gcd q.num (p.den : Int) : Nat) : Int) = up := ⟨_, rfl⟩
    have HUP := hidD hup
    clear hup
    obtain ⟨x, hx⟩ : ∃ x : Int, p.num / dn = x := ⟨_, rfl⟩
    have HX := hidD hx
    clear hx
    obtain ⟨y, hy⟩ : ∃ y : Int, q.num / up = y := ⟨_, rfl⟩
    have HY := hidD hy
    clear hy
    obtain ⟨S1, S2, S3, S4, S5, S6, S7, S8⟩ := mul_parts p q HP.out HQ.out dn up x y HDN.out HUP.out HX.out HY.out
    have T1 := hidD S1
    have T2 := hidD S2
    have T3 := hidD S3
    have T4 := hidD S4
    have T5 := hidD S5
    have T6 := hidD S6
    have T7 := hidD S7
    have T8 := hidD S8
    clear S1 S2 S3 S4 S5 S6 S7 S8
    go_upto_region 3 with fail
    refine wp_region_tab hmx [[], [0], [], [2], [1, 3, 3], [], [5], [], [7, 4], [6, 8, 8], [], [], [10, 4, 9, 0, 1, 2, 3, 4, 10, 11], [11, 9, 12, 0, 1, 2, 3, 4, 5, 6, 7, 8, 9, 10, 11, 12]] (by kernel_rfl) (by decide)
      (fun D act V => ∃ (t20x t21x t22x t23x t24x t25x t26x t27x t28x t29x t5x t6x : Value) (x10 x11 : Option (Nat × Dat)), act = { tmps := #[Value.agg #[Value.bool s, Value.slice a l c, Value.bool t, Value.slice b k d], Value.agg #[Value.bool s', Value.slice a' l' c', Value.bool t', Value.slice b' k' d'], Value.pointer (some { block := w.heap.size, off := 0 }), Value.pointer (some { block := w.heap.size + 1, off := 0 }), Value.pointer (some { block := w.heap.size + 1 + 1, off := 0 }), t5x, t6x, undef, u8, u9, u10, u11, u12, Value.bool false, u14, u15, u16, u17, u18, u19, t20x, t21x, t22x, t23x, t24x, t25x, t26x, t27x, t28x, t29x, u30, u31, u32, u33, u34, u35, u36, u37, u38, u39, u40, u41, u42, u43, u44, u45, u46, u47, u48, u49], defers := [] } ∧ Hid ((D 0 = true → t20x = .pointer (some ⟨w.heap.size, 0, none⟩)) ∧ (D 1 = true → Has V t21x (.int (Rat.num (p)))) ∧ (D 2 = true → Has V t22x (.rat (q))) ∧ (D 3 = true → Has V t23x (.int ((q.den : Int)))) ∧ (D 4 = true → Has V t24x (.int (dn))) ∧ (D 5 = true → t25x = .pointer (some ⟨w.heap.size + 1, 0, none⟩)) ∧ (D 6 = true → Has V t26x (.int (Rat.num (q)))) ∧ (D 7 = true → Has V t27x (.rat (p))) ∧ (D 8 = true → Has V t28x (.int ((p.den : Int)))) ∧ (D 9 = true → Has V t29x (.int (up))) ∧ ((D 10 = false → x10 = none) ∧ (D 10 = true → D 12 = false → ∃ B : Nat, t5x = .pointer (some ⟨B, 0, none⟩) ∧ x10 = some (B, .int 0)) ∧ (D 12 = true → ∃ B : Nat, t5x = .pointer (some ⟨B, 0, none⟩) ∧ x10 = some (B, .int (dn)))) ∧ ((D 11 = false → x11 = none) ∧ (D 11 = true → D 13 = false → ∃ B : Nat, t6x = .pointer (some ⟨B, 0, none⟩) ∧ x11 = some (B, .int 0)) ∧ (D 13 = true → ∃ B : Nat, t6x = .pointer (some ⟨B, 0, none⟩) ∧ x11 = some (B, .int (up))))) ∧ Hid (Mem w V [some (w.heap.size, .rat (p)), some (w.heap.size + 1, .rat (q)), some (w.heap.size + 1 + 1, .rat (0)), x10, x11]))
      ⟨_, _, _, _, _, _, _, _, _, _, _, _, none, none, rfl, hidD ⟨by simp, by simp, by simp, by simp, by simp, by simp, by simp, by simp, by simp, by simp, by simp, by simp⟩, hidD (((M2.out).none).none).drew⟩ ?step6 ?fin6
    case step6 =>
      rintro D act V i ds hcl hi hds hDi ⟨t20x, t21x, t22x, t23x, t24x, t25x, t26x, t27x, t28x, t29x, t5x, t6x, x10, x11, rfl, GG, MM⟩
      have hi6 : i < 14 := (List.getElem?_eq_some_iff.1 hi).1
      obtain rfl | rfl | rfl | rfl | rfl | rfl | rfl | rfl | rfl | rfl | rfl | rfl | rfl | rfl : i = 0 ∨ i = 1 ∨ i = 2 ∨ i = 3 ∨ i = 4 ∨ i = 5 ∨ i = 6 ∨ i = 7 ∨ i = 8 ∨ i = 9 ∨ i = 10 ∨ i = 11 ∨ i = 12 ∨ i = 13 := by omega
      all_goals
        simp only [List.getElem?_cons_zero, List.getElem?_cons_succ, Option.some.injEq] at hi
        subst hi
      · clear hds
        refine wpOp_go rfl rfl (fun K hK => ?_)
        go_simp
        exact hK _ _ ⟨_, _, _, _, _, _, _, _, _, _, _, _, _, _, rfl, hidD ⟨fun _ => rfl, GG.out.2.1, GG.out.2.2.1, GG.out.2.2.2.1, GG.out.2.2.2.2.1, GG.out.2.2.2.2.2.1, GG.out.2.2.2.2.2.2.1, GG.out.2.2.2.2.2.2.2.1, GG.out.2.2.2.2.2.2.2.2.1, GG.out.2.2.2.2.2.2.2.2.2.1, GG.out.2.2.2.2.2.2.2.2.2.2.1, GG.out.2.2.2.2.2.2.2.2.2.2.2⟩, hidD (MM.out)⟩
      · obtain rfl := (GG.out.1 (hds 0 (by simp)))
        clear hds
        obtain ⟨s, a, l, c, t, b, k, d, n, r, i, j⟩ := MM.out.rat (i := 0) rfl
        have e0 := n.c0
        have e1 := n.c1
        have e2 := n.c2
        have e3 := n.c3
        refine wpOp_go rfl rfl (fun K hK => ?_)
        go_simp
        exact hK _ _ ⟨_, _, _, _, _, _, _, _, _, _, _, _, _, _, rfl, hidD ⟨fun _ => rfl, fun _ => i, GG.out.2.2.1, GG.out.2.2.2.1, GG.out.2.2.2.2.1, GG.out.2.2.2.2.2.1, GG.out.2.2.2.2.2.2.1, GG.out.2.2.2.2.2.2.2.1, GG.out.2.2.2.2.2.2.2.2.1, GG.out.2.2.2.2.2.2.2.2.2.1, GG.out.2.2.2.2.2.2.2.2.2.2.1, GG.out.2.2.2.2.2.2.2.2.2.2.2⟩, hidD (MM.out)⟩
      · clear hds
        obtain ⟨s, a, l, c, t, b, k, d, n, r, i, j⟩ := MM.out.rat (i := 1) rfl
        have e0 := n.c0
        have e1 := n.c1
        have e2 := n.c2
        have e3 := n.c3
        refine wpOp_go rfl rfl (fun K hK => ?_)
        go_simp
        exact hK _ _ ⟨_, _, _, _, _, _, _, _, _, _, _, _, _, _, rfl, hidD ⟨GG.out.1, GG.out.2.1, fun _ => r, GG.out.2.2.2.1, GG.out.2.2.2.2.1, GG.out.2.2.2.2.2.1, GG.out.2.2.2.2.2.2.1, GG.out.2.2.2.2.2.2.2.1, GG.out.2.2.2.2.2.2.2.2.1, GG.out.2.2.2.2.2.2.2.2.2.1, GG.out.2.2.2.2.2.2.2.2.2.2.1, GG.out.2.2.2.2.2.2.2.2.2.2.2⟩, hidD (MM.out)⟩
      · have h0 := (GG.out.2.2.1 (hds 2 (by simp)))
        have HC := hidD (den_c _ q V h0)
        clear hds h0
        refine wpOp_go rfl rfl (fun K hK => ?_)
        go_simp
        go_wp2_with (go_at_call 10; refine HC.out.mono ?_; rintro e w5 ⟨v5, rfl, hv5, hb5⟩)
        exact ⟨_, _, _, _, _, _, _, _, _, _, _, _, _, _, rfl, hidD ⟨GG.out.1, fun h => (GG.out.2.1 h).below hb5, fun h => (GG.out.2.2.1 h).below hb5, fun _ => hv5, fun h => (GG.out.2.2.2.2.1 h).below hb5, GG.out.2.2.2.2.2.1, fun h => (GG.out.2.2.2.2.2.2.1 h).below hb5, fun h => (GG.out.2.2.2.2.2.2.2.1 h).below hb5, fun h => (GG.out.2.2.2.2.2.2.2.2.1 h).below hb5, fun h => (GG.out.2.2.2.2.2.2.2.2.2.1 h).below hb5, GG.out.2.2.2.2.2.2.2.2.2.2.1, GG.out.2.2.2.2.2.2.2.2.2.2.2⟩, hidD (MM.out.below hb5)⟩
      · have h0 := (GG.out.2.1 (hds 1 (by simp)))
        have h1 := (GG.out.2.2.2.1 (hds 3 (by simp)))
        have HC := hidD ((by have h := igcd_c _ _ p.num (q.den : Int) V h0 h1 (by have := HP.out.num.words; omega) (by have := HQ.out.den.words; omega); rw [HDN.out] at h; exact h))
        clear hds h0 h1
        refine wpOp_go rfl rfl (fun K hK => ?_)
        go_simp
        go_wp2_with (go_at_call 38; refine HC.out.mono ?_; rintro e w5 ⟨v5, rfl, hv5, hb5⟩)
        exact ⟨_, _, _, _, _, _, _, _, _, _, _, _, _, _, rfl, hidD ⟨GG.out.1, fun h => (GG.out.2.1 h).below hb5, fun h => (GG.out.2.2.1 h).below hb5, fun h => (GG.out.2.2.2.1 h).below hb5, fun _ => hv5, GG.out.2.2.2.2.2.1, fun h => (GG.out.2.2.2.2.2.2.1 h).below hb5, fun h => (GG.out.2.2.2.2.2.2.2.1 h).below hb5, fun h => (GG.out.2.2.2.2.2.2.2.2.1 h).below hb5, fun h => (GG.out.2.2.2.2.2.2.2.2.2.1 h).below hb5, GG.out.2.2.2.2.2.2.2.2.2.2.1, GG.out.2.2.2.2.2.2.2.2.2.2.2⟩, hidD (MM.out.below hb5)⟩
      · clear hds
        refine wpOp_go rfl rfl (fun K hK => ?_)
        go_simp
        exact hK _ _ ⟨_, _, _, _, _, _, _, _, _, _, _, _, _, _, rfl, hidD ⟨GG.out.1, GG.out.2.1, GG.out.2.2.1, GG.out.2.2.2.1, GG.out.2.2.2.2.1, fun _ => rfl, GG.out.2.2.2.2.2.2.1, GG.out.2.2.2.2.2.2.2.1, GG.out.2.2.2.2.2.2.2.2.1, GG.out.2.2.2.2.2.2.2.2.2.1, GG.out.2.2.2.2.2.2.2.2.2.2.1, GG.out.2.2.2.2.2.2.2.2.2.2.2⟩, hidD (MM.out)⟩
      · obtain rfl := (GG.out.2.2.2.2.2.1 (hds 5 (by simp)))
        clear hds
        obtain ⟨s, a, l, c, t, b, k, d, n, r, i, j⟩ := MM.out.rat (i := 1) rfl
        have e0 := n.c0
        have e1 := n.c1
        have e2 := n.c2
        have e3 := n.c3
        refine wpOp_go rfl rfl (fun K hK => ?_)
        go_simp
        exact hK _ _ ⟨_, _, _, _, _, _, _, _, _, _, _, _, _, _, rfl, hidD ⟨GG.out.1, GG.out.2.1, GG.out.2.2.1, GG.out.2.2.2.1, GG.out.2.2.2.2.1, fun _ => rfl, fun _ => i, GG.out.2.2.2.2.2.2.2.1, GG.out.2.2.2.2.2.2.2.2.1, GG.out.2.2.2.2.2.2.2.2.2.1, GG.out.2.2.2.2.2.2.2.2.2.2.1, GG.out.2.2.2.2.2.2.2.2.2.2.2⟩, hidD (MM.out)⟩
      · clear hds
        obtain ⟨s, a, l, c, t, b, k, d, n, r, i, j⟩ := MM.out.rat (i := 0) rfl
        have e0 := n.c0
        have e1 := n.c1
        have e2 := n.c2
        have e3 := n.c3
        refine wpOp_go rfl rfl (fun K hK => ?_)
        go_simp
        exact hK _ _ ⟨_, _, _, _, _, _, _, _, _, _, _, _, _, _, rfl, hidD ⟨GG.out.1, GG.out.2.1, GG.out.2.2.1, GG.out.2.2.2.1, GG.out.2.2.2.2.1, GG.out.2.2.2.2.2.1, GG.out.2.2.2.2.2.2.1, fun _ => r, GG.out.2.2.2.2.2.2.2.2.1, GG.out.2.2.2.2.2.2.2.2.2.1, GG.out.2.2.2.2.2.2.2.2.2.2.1, GG.out.2.2.2.2.2.2.2.2.2.2.2⟩, hidD (MM.out)⟩
      · have h0 := (GG.out.2.2.2.2.2.2.2.1 (hds 7 (by simp)))
        have HC := hidD (den_c _ p V h0)
        clear hds h0
        refine wpOp_go rfl rfl (fun K hK => ?_)
        go_simp
        go_wp2_with (go_at_call 10; refine HC.out.mono ?_; rintro e w5 ⟨v5, rfl, hv5, hb5⟩)
        exact ⟨_, _, _, _, _, _, _, _, _, _, _, _, _, _, rfl, hidD ⟨GG.out.1, fun h => (GG.out.2.1 h).below hb5, fun h => (GG.out.2.2.1 h).below hb5, fun h => (GG.out.2.2.2.1 h).below hb5, fun h => (GG.out.2.2.2.2.1 h).below hb5, GG.out.2.2.2.2.2.1, fun h => (GG.out.2.2.2.2.2.2.1 h).below hb5, fun h => (GG.out.2.2.2.2.2.2.2.1 h).below hb5, fun _ => hv5, fun h => (GG.out.2.2.2.2.2.2.2.2.2.1 h).below hb5, GG.out.2.2.2.2.2.2.2.2.2.2.1, GG.out.2.2.2.2.2.2.2.2.2.2.2⟩, hidD (MM.out.below hb5)⟩
      · have h0 := (GG.out.2.2.2.2.2.2.1 (hds 6 (by simp)))
        have h1 := (GG.out.2.2.2.2.2.2.2.2.1 (hds 8 (by simp)))
        have HC := hidD ((by have h := igcd_c _ _ q.num (p.den : Int) V h0 h1 (by have := HQ.out.num.words; omega) (by have := HP.out.den.words; omega); rw [HUP.out] at h; exact h))
        clear hds h0 h1
        refine wpOp_go rfl rfl (fun K hK => ?_)
        go_simp
        go_wp2_with (go_at_call 38; refine HC.out.mono ?_; rintro e w5 ⟨v5, rfl, hv5, hb5⟩)
        exact ⟨_, _, _, _, _, _, _, _, _, _, _, _, _, _, rfl, hidD ⟨GG.out.1, fun h => (GG.out.2.1 h).below hb5, fun h => (GG.out.2.2.1 h).below hb5, fun h => (GG.out.2.2.2.1 h).below hb5, fun h => (GG.out.2.2.2.2.1 h).below hb5, GG.out.2.2.2.2.2.1, fun h => (GG.out.2.2.2.2.2.2.1 h).below hb5, fun h => (GG.out.2.2.2.2.2.2.2.1 h).below hb5, fun h => (GG.out.2.2.2.2.2.2.2.2.1 h).below hb5, fun _ => hv5, GG.out.2.2.2.2.2.2.2.2.2.2.1, GG.out.2.2.2.2.2.2.2.2.2.2.2⟩, hidD (MM.out.below hb5)⟩
      · have hf : D 12 = false := by
          cases h : D 12 with
          | false => rfl
          | true => rw [hcl 12 _ rfl h 10 (by simp)] at hDi; cases hDi
        obtain rfl := GG.out.2.2.2.2.2.2.2.2.2.2.1.1 hDi
        clear hds
        refine wpOp_go rfl rfl (fun K hK => ?_)
        go_simp
        exact hK _ _ ⟨_, _, _, _, _, _, _, _, _, _, _, _, _, _, rfl, hidD ⟨GG.out.1, fun h => (GG.out.2.1 h).alloc _, fun h => (GG.out.2.2.1 h).alloc _, fun h => (GG.out.2.2.2.1 h).alloc _, fun h => (GG.out.2.2.2.2.1 h).alloc _, GG.out.2.2.2.2.2.1, fun h => (GG.out.2.2.2.2.2.2.1 h).alloc _, fun h => (GG.out.2.2.2.2.2.2.2.1 h).alloc _, fun h => (GG.out.2.2.2.2.2.2.2.2.1 h).alloc _, fun h => (GG.out.2.2.2.2.2.2.2.2.2.1 h).alloc _, ⟨fun h => by simp at h, fun _ _ => ⟨_, rfl, rfl⟩, fun h => by simp [hf] at h⟩, GG.out.2.2.2.2.2.2.2.2.2.2.2⟩, hidD (MM.out.fill (i := 3) rfl (.int 0) (int0 _))⟩
      · have hf : D 13 = false := by
          cases h : D 13 with
          | false => rfl
          | true => rw [hcl 13 _ rfl h 11 (by simp)] at hDi; cases hDi
        obtain rfl := GG.out.2.2.2.2.2.2.2.2.2.2.2.1 hDi
        clear hds
        refine wpOp_go rfl rfl (fun K hK => ?_)
        go_simp
        exact hK _ _ ⟨_, _, _, _, _, _, _, _, _, _, _, _, _, _, rfl, hidD ⟨GG.out.1, fun h => (GG.out.2.1 h).alloc _, fun h => (GG.out.2.2.1 h).alloc _, fun h => (GG.out.2.2.2.1 h).alloc _, fun h => (GG.out.2.2.2.2.1 h).alloc _, GG.out.2.2.2.2.2.1, fun h => (GG.out.2.2.2.2.2.2.1 h).alloc _, fun h => (GG.out.2.2.2.2.2.2.2.1 h).alloc _, fun h => (GG.out.2.2.2.2.2.2.2.2.1 h).alloc _, fun h => (GG.out.2.2.2.2.2.2.2.2.2.1 h).alloc _, GG.out.2.2.2.2.2.2.2.2.2.2.1, ⟨fun h => by simp at h, fun _ _ => ⟨_, rfl, rfl⟩, fun h => by simp [hf] at h⟩⟩, hidD (MM.out.fill (i := 4) rfl (.int 0) (int0 _))⟩
      · obtain ⟨B, rfl, rfl⟩ := GG.out.2.2.2.2.2.2.2.2.2.2.1.2.1 (hds 10 (by simp)) hDi
        have hds0 := hds 10 (by simp)
        have hv := (GG.out.2.2.2.2.1 (hds 4 (by simp)))
        obtain ⟨s1, a1, l1, c1, rfl⟩ := IsInt.form2 (show IsInt V _ _ from hv)
        obtain ⟨s, a, l, c, n, i⟩ := MM.out.int (i := 3) rfl
        have e0 := n.c0
        have f0 := n.f0
        have e1 := n.c1
        have f1 := n.f1
        clear hds
        refine wpOp_go rfl rfl (fun K hK => ?_)
        go_simp
        exact hK _ _ ⟨_, _, _, _, _, _, _, _, _, _, _, _, _, _, rfl, hidD ⟨GG.out.1, fun h => (GG.out.2.1 h).set2 n rfl rfl _ _, fun h => (GG.out.2.2.1 h).set2 n rfl rfl _ _, fun h => (GG.out.2.2.2.1 h).set2 n rfl rfl _ _, fun h => (GG.out.2.2.2.2.1 h).set2 n rfl rfl _ _, GG.out.2.2.2.2.2.1, fun h => (GG.out.2.2.2.2.2.2.1 h).set2 n rfl rfl _ _, fun h => (GG.out.2.2.2.2.2.2.2.1 h).set2 n rfl rfl _ _, fun h => (GG.out.2.2.2.2.2.2.2.2.1 h).set2 n rfl rfl _ _, fun h => (GG.out.2.2.2.2.2.2.2.2.2.1 h).set2 n rfl rfl _ _, ⟨fun h => by simp [hds0] at h, fun _ h => by simp at h, fun _ => ⟨B, rfl, rfl⟩⟩, GG.out.2.2.2.2.2.2.2.2.2.2.2⟩, hidD (MM.out.putInt (i := 3) rfl hv)⟩
      · obtain ⟨B, rfl, rfl⟩ := GG.out.2.2.2.2.2.2.2.2.2.2.2.2.1 (hds 11 (by simp)) hDi
        have hds0 := hds 11 (by simp)
        have hv := (GG.out.2.2.2.2.2.2.2.2.2.1 (hds 9 (by simp)))
        obtain ⟨s1, a1, l1, c1, rfl⟩ := IsInt.form2 (show IsInt V _ _ from hv)
        obtain ⟨s, a, l, c, n, i⟩ := MM.out.int (i := 4) rfl
        have e0 := n.c0
        have f0 := n.f0
        have e1 := n.c1
        have f1 := n.f1
        clear hds
        refine wpOp_go rfl rfl (fun K hK => ?_)
        go_simp
        exact hK _ _ ⟨_, _, _, _, _, _, _, _, _, _, _, _, _, _, rfl, hidD ⟨GG.out.1, fun h => (GG.out.2.1 h).set2 n rfl rfl _ _, fun h => (GG.out.2.2.1 h).set2 n rfl rfl _ _, fun h => (GG.out.2.2.2.1 h).set2 n rfl rfl _ _, fun h => (GG.out.2.2.2.2.1 h).set2 n rfl rfl _ _, GG.out.2.2.2.2.2.1, fun h => (GG.out.2.2.2.2.2.2.1 h).set2 n rfl rfl _ _, fun h => (GG.out.2.2.2.2.2.2.2.1 h).set2 n rfl rfl _ _, fun h => (GG.out.2.2.2.2.2.2.2.2.1 h).set2 n rfl rfl _ _, fun h => (GG.out.2.2.2.2.2.2.2.2.2.1 h).set2 n rfl rfl _ _, GG.out.2.2.2.2.2.2.2.2.2.2.1, ⟨fun h => by simp [hds0] at h, fun _ h => by simp at h, fun _ => ⟨B, rfl, rfl⟩⟩⟩, hidD (MM.out.putInt (i := 4) rfl hv)⟩
    rintro D act V7 hDD ⟨t20x, t21x, t22x, t23x, t24x, t25x, t26x, t27x, t28x, t29x, t5x, t6x, x10, x11, rfl, GG, MM⟩
    obtain ⟨B8, rfl, rfl⟩ := GG.out.2.2.2.2.2.2.2.2.2.2.1.2.2 (hDD 12 (by decide))
    obtain ⟨B9, rfl, rfl⟩ := GG.out.2.2.2.2.2.2.2.2.2.2.2.2.2 (hDD 13 (by decide))
    clear GG hDD M2
    have M3 : Hid (Mem w V7 [some (w.heap.size, .rat (p)), some (w.heap.size + 1, .rat (q)), some (w.heap.size + 1 + 1, .rat (0)), some (B8, .int (dn)), some (B9, .int (up))]) := MM
    clear MM
    go_upto_region 4 with fail
    refine wp_region_tab hmx [[], [0], [], [1, 2], [], [4], [], [5, 6, 3], [3, 7, 7], [], [9, 8, 8, 0, 1, 2, 3, 4, 5, 6, 7, 8, 9]] (by kernel_rfl) (by decide)
      (fun D act V => ∃ (t30x t31x t32x t33x t34x t35x t36x t37x t38x t7x : Value) (x9 : Option (Nat × Dat)), act = { tmps := #[Value.agg #[Value.bool s, Value.slice a l c, Value.bool t, Value.slice b k d], Value.agg #[Value.bool s', Value.slice a' l' c', Value.bool t', Value.slice b' k' d'], Value.pointer (some { block := w.heap.size, off := 0 }), Value.pointer (some { block := w.heap.size + 1, off := 0 }), Value.pointer (some { block := w.heap.size + 1 + 1, off := 0 }), Value.pointer (some { block := B8, off := 0 }), Value.pointer (some { block := B9, off := 0 }), t7x, u8, u9, u10, u11, u12, Value.bool false, u14, u15, u16, u17, u18, u19, t20x, t21x, t22x, t23x, t24x, t25x, t26x, t27x, t28x, t29x, t30x, t31x, t32x, t33x, t34x, t35x, t36x, t37x, t38x, u39, u40, u41, u42, u43, u44, u45, u46, u47, u48, u49], defers := [] } ∧ Hid ((D 0 = true → t30x = .pointer (some ⟨w.heap.size, 0, none⟩)) ∧ (D 1 = true → Has V t31x (.int (Rat.num (p)))) ∧ (D 2 = true → Has V t32x (.int (dn))) ∧ (D 3 = true → Has V t33x (.int (x))) ∧ (D 4 = true → t34x = .pointer (some ⟨w.heap.size + 1, 0, none⟩)) ∧ (D 5 = true → Has V t35x (.int (Rat.num (q)))) ∧ (D 6 = true → Has V t36x (.int (up))) ∧ (D 7 = true → Has V t37x (.int (y))) ∧ (D 8 = true → Has V t38x (.int (x * y))) ∧ ((D 9 = false → x9 = none) ∧ (D 9 = true → D 10 = false → ∃ B : Nat, t7x = .pointer (some ⟨B, 0, none⟩) ∧ x9 = some (B, .int 0)) ∧ (D 10 = true → ∃ B : Nat, t7x = .pointer (some ⟨B, 0, none⟩) ∧ x9 = some (B, .int (x * y))))) ∧ Hid (Mem w V [some (w.heap.size, .rat (p)), some (w.heap.size + 1, .rat (q)), some (w.heap.size + 1 + 1, .rat (0)), some (B8, .int (dn)), some (B9, .int (up)), x9]))
      ⟨_, _, _, _, _, _, _, _, _, _, none, rfl, hidD ⟨by simp, by simp, by simp, by simp, by simp, by simp, by simp, by simp, by simp, by simp⟩, hidD ((M3.out).none).drew⟩ ?step10 ?fin10
    case step10 =>
      rintro D act V i ds hcl hi hds hDi ⟨t30x, t31x, t32x, t33x, t34x, t35x, t36x, t37x, t38x, t7x, x9, rfl, GG, MM⟩
      have hi6 : i < 11 := (List.getElem?_eq_some_iff.1 hi).1
      obtain rfl | rfl | rfl | rfl | rfl | rfl | rfl | rfl | rfl | rfl | rfl : i = 0 ∨ i = 1 ∨ i = 2 ∨ i = 3 ∨ i = 4 ∨ i = 5 ∨ i = 6 ∨ i = 7 ∨ i = 8 ∨ i = 9 ∨ i = 10 := by omega
      all_goals
        simp only [List.getElem?_cons_zero, List.getElem?_cons_succ, Option.some.injEq] at hi
        subst hi
      · clear hds
        refine wpOp_go rfl rfl (fun K hK => ?_)
        go_simp
        exact hK _ _ ⟨_, _, _, _, _, _, _, _, _, _, _, rfl, hidD ⟨fun _ => rfl, GG.out.2.1, GG.out.2.2.1, GG.out.2.2.2.1, GG.out.2.2.2.2.1, GG.out.2.2.2.2.2.1, GG.out.2.2.2.2.2.2.1, GG.out.2.2.2.2.2.2.2.1, GG.out.2.2.2.2.2.2.2.2.1, GG.out.2.2.2.2.2.2.2.2.2⟩, hidD (MM.out)⟩
      · obtain rfl := (GG.out.1 (hds 0 (by simp)))
        clear hds
        obtain ⟨s, a, l, c, t, b, k, d, n, r, i, j⟩ := MM.out.rat (i := 0) rfl
        have e0 := n.c0
        have e1 := n.c1
        have e2 := n.c2
        have e3 := n.c3
        refine wpOp_go rfl rfl (fun K hK => ?_)
        go_simp
        exact hK _ _ ⟨_, _, _, _, _, _, _, _, _, _, _, rfl, hidD ⟨fun _ => rfl, fun _ => i, GG.out.2.2.1, GG.out.2.2.2.1, GG.out.2.2.2.2.1, GG.out.2.2.2.2.2.1, GG.out.2.2.2.2.2.2.1, GG.out.2.2.2.2.2.2.2.1, GG.out.2.2.2.2.2.2.2.2.1, GG.out.2.2.2.2.2.2.2.2.2⟩, hidD (MM.out)⟩
      · clear hds
        obtain ⟨s, a, l, c, n, i⟩ := MM.out.int (i := 3) rfl
        have e0 := n.c0
        have e1 := n.c1
        refine wpOp_go rfl rfl (fun K hK => ?_)
        go_simp
        exact hK _ _ ⟨_, _, _, _, _, _, _, _, _, _, _, rfl, hidD ⟨GG.out.1, GG.out.2.1, fun _ => i, GG.out.2.2.2.1, GG.out.2.2.2.2.1, GG.out.2.2.2.2.2.1, GG.out.2.2.2.2.2.2.1, GG.out.2.2.2.2.2.2.2.1, GG.out.2.2.2.2.2.2.2.2.1, GG.out.2.2.2.2.2.2.2.2.2⟩, hidD (MM.out)⟩
      · have h0 := (GG.out.2.1 (hds 1 (by simp)))
        have h1 := (GG.out.2.2.1 (hds 2 (by simp)))
        have HC := hidD ((by have h := part_c _ _ p.num dn V h0 h1 T2.out HP.out.num T1.out; rw [HX.out] at h; exact h))
        clear hds h0 h1
        refine wpOp_go rfl rfl (fun K hK => ?_)
        go_simp
        go_wp2_with (go_at_call 63; refine HC.out.mono ?_; rintro e w5 ⟨v5, rfl, hv5, hb5⟩)
        exact ⟨_, _, _, _, _, _, _, _, _, _, _, rfl, hidD ⟨GG.out.1, fun h => (GG.out.2.1 h).below hb5, fun h => (GG.out.2.2.1 h).below hb5, fun _ => hv5, GG.out.2.2.2.2.1, fun h => (GG.out.2.2.2.2.2.1 h).below hb5, fun h => (GG.out.2.2.2.2.2.2.1 h).below hb5, fun h => (GG.out.2.2.2.2.2.2.2.1 h).below hb5, fun h => (GG.out.2.2.2.2.2.2.2.2.1 h).below hb5, GG.out.2.2.2.2.2.2.2.2.2⟩, hidD (MM.out.below hb5)⟩
      · clear hds
        refine wpOp_go rfl rfl (fun K hK => ?_)
        go_simp
        exact hK _ _ ⟨_, _, _, _, _, _, _, _, _, _, _, rfl, hidD ⟨GG.out.1, GG.out.2.1, GG.out.2.2.1, GG.out.2.2.2.1, fun _ => rfl, GG.out.2.2.2.2.2.1, GG.out.2.2.2.2.2.2.1, GG.out.2.2.2.2.2.2.2.1, GG.out.2.2.2.2.2.2.2.2.1, GG.out.2.2.2.2.2.2.2.2.2⟩, hidD (MM.out)⟩
      · obtain rfl := (GG.out.2.2.2.2.1 (hds 4 (by simp)))
        clear hds
        obtain ⟨s, a, l, c, t, b, k, d, n, r, i, j⟩ := MM.out.rat (i := 1) rfl
        have e0 := n.c0
        have e1 := n.c1
        have e2 := n.c2
        have e3 := n.c3
        refine wpOp_go rfl rfl (fun K hK => ?_)
        go_simp
        exact hK _ _ ⟨_, _, _, _, _, _, _, _, _, _, _, rfl, hidD ⟨GG.out.1, GG.out.2.1, GG.out.2.2.1, GG.out.2.2.2.1, fun _ => rfl, fun _ => i, GG.out.2.2.2.2.2.2.1, GG.out.2.2.2.2.2.2.2.1, GG.out.2.2.2.2.2.2.2.2.1, GG.out.2.2.2.2.2.2.2.2.2⟩, hidD (MM.out)⟩
      · clear hds
        obtain ⟨s, a, l, c, n, i⟩ := MM.out.int (i := 4) rfl
        have e0 := n.c0
        have e1 := n.c1
        refine wpOp_go rfl rfl (fun K hK => ?_)
        go_simp
        exact hK _ _ ⟨_, _, _, _, _, _, _, _, _, _, _, rfl, hidD ⟨GG.out.1, GG.out.2.1, GG.out.2.2.1, GG.out.2.2.2.1, GG.out.2.2.2.2.1, GG.out.2.2.2.2.2.1, fun _ => i, GG.out.2.2.2.2.2.2.2.1, GG.out.2.2.2.2.2.2.2.2.1, GG.out.2.2.2.2.2.2.2.2.2⟩, hidD (MM.out)⟩
      · have h0 := (GG.out.2.2.2.2.2.1 (hds 5 (by simp)))
        have h1 := (GG.out.2.2.2.2.2.2.1 (hds 6 (by simp)))
        have HC := hidD ((by have h := part_c _ _ q.num up V h0 h1 T4.out HQ.out.num T3.out; rw [HY.out] at h; exact h))
        clear hds h0 h1
        refine wpOp_go rfl rfl (fun K hK => ?_)
        go_simp
        go_wp2_with (go_at_call 63; refine HC.out.mono ?_; rintro e w5 ⟨v5, rfl, hv5, hb5⟩)
        exact ⟨_, _, _, _, _, _, _, _, _, _, _, rfl, hidD ⟨GG.out.1, fun h => (GG.out.2.1 h).below hb5, fun h => (GG.out.2.2.1 h).below hb5, fun h => (GG.out.2.2.2.1 h).below hb5, GG.out.2.2.2.2.1, fun h => (GG.out.2.2.2.2.2.1 h).below hb5, fun h => (GG.out.2.2.2.2.2.2.1 h).below hb5, fun _ => hv5, fun h => (GG.out.2.2.2.2.2.2.2.2.1 h).below hb5, GG.out.2.2.2.2.2.2.2.2.2⟩, hidD (MM.out.below hb5)⟩
      · have h0 := (GG.out.2.2.2.1 (hds 3 (by simp)))
        have h1 := (GG.out.2.2.2.2.2.2.2.1 (hds 7 (by simp)))
        have HC := hidD (itimes_c _ _ x y V h0 h1 (by have h1 := T5.out.words; have h2 := T6.out.words; omega))
        clear hds h0 h1
        refine wpOp_go rfl rfl (fun K hK => ?_)
        go_simp
        go_wp2_with (go_at_call 51; refine HC.out.mono ?_; rintro e w5 ⟨v5, rfl, hv5, hb5⟩)
        exact ⟨_, _, _, _, _, _, _, _, _, _, _, rfl, hidD ⟨GG.out.1, fun h => (GG.out.2.1 h).below hb5, fun h => (GG.out.2.2.1 h).below hb5, fun h => (GG.out.2.2.2.1 h).below hb5, GG.out.2.2.2.2.1, fun h => (GG.out.2.2.2.2.2.1 h).below hb5, fun h => (GG.out.2.2.2.2.2.2.1 h).below hb5, fun h => (GG.out.2.2.2.2.2.2.2.1 h).below hb5, fun _ => hv5, GG.out.2.2.2.2.2.2.2.2.2⟩, hidD (MM.out.below hb5)⟩
      · have hf : D 10 = false := by
          cases h : D 10 with
          | false => rfl
          | true => rw [hcl 10 _ rfl h 9 (by simp)] at hDi; cases hDi
        obtain rfl := GG.out.2.2.2.2.2.2.2.2.2.1 hDi
        clear hds
        refine wpOp_go rfl rfl (fun K hK => ?_)
        go_simp
        exact hK _ _ ⟨_, _, _, _, _, _, _, _, _, _, _, rfl, hidD ⟨GG.out.1, fun h => (GG.out.2.1 h).alloc _, fun h => (GG.out.2.2.1 h).alloc _, fun h => (GG.out.2.2.2.1 h).alloc _, GG.out.2.2.2.2.1, fun h => (GG.out.2.2.2.2.2.1 h).alloc _, fun h => (GG.out.2.2.2.2.2.2.1 h).alloc _, fun h => (GG.out.2.2.2.2.2.2.2.1 h).alloc _, fun h => (GG.out.2.2.2.2.2.2.2.2.1 h).alloc _, ⟨fun h => by simp at h, fun _ _ => ⟨_, rfl, rfl⟩, fun h => by simp [hf] at h⟩⟩, hidD (MM.out.fill (i := 5) rfl (.int 0) (int0 _))⟩
      · obtain ⟨B, rfl, rfl⟩ := GG.out.2.2.2.2.2.2.2.2.2.2.1 (hds 9 (by simp)) hDi
        have hds0 := hds 9 (by simp)
        have hv := (GG.out.2.2.2.2.2.2.2.2.1 (hds 8 (by simp)))
        obtain ⟨s1, a1, l1, c1, rfl⟩ := IsInt.form2 (show IsInt V _ _ from hv)
        obtain ⟨s, a, l, c, n, i⟩ := MM.out.int (i := 5) rfl
        have e0 := n.c0
        have f0 := n.f0
        have e1 := n.c1
        have f1 := n.f1
        clear hds
        refine wpOp_go rfl rfl (fun K hK => ?_)
        go_simp
        exact hK _ _ ⟨_, _, _, _, _, _, _, _, _, _, _, rfl, hidD ⟨GG.out.1, fun h => (GG.out.2.1 h).set2 n rfl rfl _ _, fun h => (GG.out.2.2.1 h).set2 n rfl rfl _ _, fun h => (GG.out.2.2.2.1 h).set2 n rfl rfl _ _, GG.out.2.2.2.2.1, fun h => (GG.out.2.2.2.2.2.1 h).set2 n rfl rfl _ _, fun h => (GG.out.2.2.2.2.2.2.1 h).set2 n rfl rfl _ _, fun h => (GG.out.2.2.2.2.2.2.2.1 h).set2 n rfl rfl _ _, fun h => (GG.out.2.2.2.2.2.2.2.2.1 h).set2 n rfl rfl _ _, ⟨fun h => by simp [hds0] at h, fun _ h => by simp at h, fun _ => ⟨B, rfl, rfl⟩⟩⟩, hidD (MM.out.putInt (i := 5) rfl hv)⟩
    rintro D act V11 hDD ⟨t30x, t31x, t32x, t33x, t34x, t35x, t36x, t37x, t38x, t7x, x9, rfl, GG, MM⟩
    obtain ⟨B12, rfl, rfl⟩ := GG.out.2.2.2.2.2.2.2.2.2.2.2 (hDD 10 (by decide))
    clear GG hDD M3
    have M4 : Hid (Mem w V11 [some (w.heap.size, .rat (p)), some (w.heap.size + 1, .rat (q)), some (w.heap.size + 1 + 1, .rat (0)), some (B8, .int (dn)), some (B9, .int (up)), some (B12, .int (x * y))]) := MM
    clear MM
    go_upto_region 5 with fail
    obtain ⟨s13, a13, l13, c13, n13, i13⟩ := M4.out.int (i := 5) rfl
    have e13a := n13.c0
    have e13b := n13.c1
    obtain ⟨s14, a14, l14, c14, t14, b14, k14, d14, n14, r14, i14, j14⟩ := M4.out.rat (i := 0) rfl
    have e14a := n14.c0
    have e14b := n14.c1
    have e14c := n14.c2
    have e14d := n14.c3
    obtain ⟨s15, a15, l15, c15, n15, i15⟩ := M4.out.int (i := 4) rfl
    have e15a := n15.c0
    have e15b := n15.c1
    obtain ⟨s16, a16, l16, c16, t16, b16, k16, d16, n16, r16, i16, j16⟩ := M4.out.rat (i := 1) rfl
    have e16a := n16.c0
    have e16b := n16.c1
    have e16c := n16.c2
    have e16d := n16.c3
    obtain ⟨s17, a17, l17, c17, n17, i17⟩ := M4.out.int (i := 3) rfl
    have e17a := n17.c0
    have e17b := n17.c1
    obtain ⟨s18, a18, l18, c18, t18, b18, k18, d18, n18, r18, i18, j18⟩ := M4.out.rat (i := 2) rfl
    have e18a := n18.c0
    have e18b := n18.c1
    have e18c := n18.c2
    have e18d := n18.c3
    have f18a := n18.f0
    have f18b := n18.f1
    have f18c := n18.f2
    have f18d := n18.f3
    have H2 := hidD (fun (V : World) (h : Below V11.heap.size V11 V) => den_c _ p V (r14.below h))
    have H4 := hidD (fun (V : World) (h : Below V11.heap.size V11 V) (v2 : Value) (g2 : IsInt V v2 ((p.den : Int))) => part_c _ _ (p.den : Int) up V g2 (i15.below h) T4.out HP.out.den T3.out)
    have H6 := hidD (fun (V : World) (h : Below V11.heap.size V11 V) => den_c _ q V (r16.below h))
    have H8 := hidD (fun (V : World) (h : Below V11.heap.size V11 V) (v6 : Value) (g6 : IsInt V v6 ((q.den : Int))) => part_c _ _ (q.den : Int) dn V g6 (i17.below h) T2.out HQ.out.den T1.out)
    have H9 := hidD (fun (V : World) (h : Below V11.heap.size V11 V) (v4 : Value) (g4 : IsInt V v4 ((p.den : Int) / up)) (v8 : Value) (g8 : IsInt V v8 ((q.den : Int) / dn)) => itimes_c _ _ ((p.den : Int) / up) ((q.den : Int) / dn) V g4 g8 (by have h1 := (Sok.div (y := up) HP.out.den).words; have h2 := (Sok.div (y := dn) HQ.out.den).words; omega))
    have H10 := hidD (fun (V : World) (h : Below V11.heap.size V11 V) (v9 : Value) (g9 : IsInt V v9 ((p.den : Int) / up * ((q.den : Int) / dn))) => least_c _ _ (p * q) V (by rw [T7.out]; exact (i13.below h)) (by rw [T8.out]; exact g9))
    have ne5 : B12 ≠ w.heap.size + 1 + 1 := M4.out.ne 5 2 rfl rfl (by decide)
    have ne0 : w.heap.size ≠ w.heap.size + 1 + 1 := M4.out.ne 0 2 rfl rfl (by decide)
    have ne4 : B9 ≠ w.heap.size + 1 + 1 := M4.out.ne 4 2 rfl rfl (by decide)
    have ne1 : w.heap.size + 1 ≠ w.heap.size + 1 + 1 := M4.out.ne 1 2 rfl rfl (by decide)
    have ne3 : B8 ≠ w.heap.size + 1 + 1 := M4.out.ne 3 2 rfl rfl (by decide)
    have hq : Below V11.heap.size V11 V11.drew := (Below.refl _ V11).drew
    go_region_held3 (fun w' => w'.cell? ⟨B12, 0, none⟩ = some (.bool s13) ∧ w'.cell? ⟨B12, 1, none⟩ = some (.slice a13 l13 c13) ∧ w'.cell? ⟨w.heap.size, 0, none⟩ = some (.bool s14) ∧ w'.cell? ⟨w.heap.size, 1, none⟩ = some (.slice a14 l14 c14) ∧ w'.cell? ⟨w.heap.size, 2, none⟩ = some (.bool t14) ∧ w'.cell? ⟨w.heap.size, 3, none⟩ = some (.slice b14 k14 d14) ∧ w'.cell? ⟨B9, 0, none⟩ = some (.bool s15) ∧ w'.cell? ⟨B9, 1, none⟩ = some (.slice a15 l15 c15) ∧ w'.cell? ⟨w.heap.size + 1, 0, none⟩ = some (.bool s16) ∧ w'.cell? ⟨w.heap.size + 1, 1, none⟩ = some (.slice a16 l16 c16) ∧ w'.cell? ⟨w.heap.size + 1, 2, none⟩ = some (.bool t16) ∧ w'.cell? ⟨w.heap.size + 1, 3, none⟩ = some (.slice b16 k16 d16) ∧ w'.cell? ⟨B8, 0, none⟩ = some (.bool s17) ∧ w'.cell? ⟨B8, 1, none⟩ = some (.slice a17 l17 c17)) (first | (with_reducible exact ⟨e13a, e13b, e14a, e14b, e14c, e14d, e15a, e15b, e16a, e16b, e16c, e16d, e17a, e17b⟩) | (go_keep; done) | (refine ⟨?_, ?_, ?_, ?_, ?_, ?_, ?_, ?_, ?_, ?_, ?_, ?_, ?_, ?_⟩ <;> ((repeat rw [cell_set_nb (by omega)]); first | assumption | (go_keep; done))))
      (first
        | (go_at_call 10; refine (H2.out _ hq ).mono ?_; clear H2; rintro e w2 ⟨v2, rfl, g2, hb2⟩; have hq := Below.then hq hb2; have e13a := (n13.below hq).c0; have e13b := (n13.below hq).c1; have e14a := (n14.below hq).c0; have e14b := (n14.below hq).c1; have e14c := (n14.below hq).c2; have e14d := (n14.below hq).c3; have e15a := (n15.below hq).c0; have e15b := (n15.below hq).c1; have e16a := (n16.below hq).c0; have e16b := (n16.below hq).c1; have e16c := (n16.below hq).c2; have e16d := (n16.below hq).c3; have e17a := (n17.below hq).c0; have e17b := (n17.below hq).c1; have e18a := (n18.below hq).c0; have e18b := (n18.below hq).c1; have e18c := (n18.below hq).c2; have e18d := (n18.below hq).c3; have f18a := (n18.below hq).f0; have f18b := (n18.below hq).f1; have f18c := (n18.below hq).f2; have f18d := (n18.below hq).f3)
        | (go_at_call 63; refine (H4.out _ hq _ g2).mono ?_; clear H4; rintro e w4 ⟨v4, rfl, g4, hb4⟩; have g2 := g2.below hb4; have hq := Below.then hq hb4; have e13a := (n13.below hq).c0; have e13b := (n13.below hq).c1; have e14a := (n14.below hq).c0; have e14b := (n14.below hq).c1; have e14c := (n14.below hq).c2; have e14d := (n14.below hq).c3; have e15a := (n15.below hq).c0; have e15b := (n15.below hq).c1; have e16a := (n16.below hq).c0; have e16b := (n16.below hq).c1; have e16c := (n16.below hq).c2; have e16d := (n16.below hq).c3; have e17a := (n17.below hq).c0; have e17b := (n17.below hq).c1; have e18a := (n18.below hq).c0; have e18b := (n18.below hq).c1; have e18c := (n18.below hq).c2; have e18d := (n18.below hq).c3; have f18a := (n18.below hq).f0; have f18b := (n18.below hq).f1; have f18c := (n18.below hq).f2; have f18d := (n18.below hq).f3)
        | (go_at_call 10; refine (H6.out _ hq ).mono ?_; clear H6; rintro e w6 ⟨v6, rfl, g6, hb6⟩; have g2 := g2.below hb6; have g4 := g4.below hb6; have hq := Below.then hq hb6; have e13a := (n13.below hq).c0; have e13b := (n13.below hq).c1; have e14a := (n14.below hq).c0; have e14b := (n14.below hq).c1; have e14c := (n14.below hq).c2; have e14d := (n14.below hq).c3; have e15a := (n15.below hq).c0; have e15b := (n15.below hq).c1; have e16a := (n16.below hq).c0; have e16b := (n16.below hq).c1; have e16c := (n16.below hq).c2; have e16d := (n16.below hq).c3; have e17a := (n17.below hq).c0; have e17b := (n17.below hq).c1; have e18a := (n18.below hq).c0; have e18b := (n18.below hq).c1; have e18c := (n18.below hq).c2; have e18d := (n18.below hq).c3; have f18a := (n18.below hq).f0; have f18b := (n18.below hq).f1; have f18c := (n18.below hq).f2; have f18d := (n18.below hq).f3)
        | (go_at_call 63; refine (H8.out _ hq _ g6).mono ?_; clear H8; rintro e w8 ⟨v8, rfl, g8, hb8⟩; have g2 := g2.below hb8; have g4 := g4.below hb8; have g6 := g6.below hb8; have hq := Below.then hq hb8; have e13a := (n13.below hq).c0; have e13b := (n13.below hq).c1; have e14a := (n14.below hq).c0; have e14b := (n14.below hq).c1; have e14c := (n14.below hq).c2; have e14d := (n14.below hq).c3; have e15a := (n15.below hq).c0; have e15b := (n15.below hq).c1; have e16a := (n16.below hq).c0; have e16b := (n16.below hq).c1; have e16c := (n16.below hq).c2; have e16d := (n16.below hq).c3; have e17a := (n17.below hq).c0; have e17b := (n17.below hq).c1; have e18a := (n18.below hq).c0; have e18b := (n18.below hq).c1; have e18c := (n18.below hq).c2; have e18d := (n18.below hq).c3; have f18a := (n18.below hq).f0; have f18b := (n18.below hq).f1; have f18c := (n18.below hq).f2; have f18d := (n18.below hq).f3)
        | (go_at_call 51; refine (H9.out _ hq _ g4 _ g8).mono ?_; clear H9; rintro e w9 ⟨v9, rfl, g9, hb9⟩; have g2 := g2.below hb9; have g4 := g4.below hb9; have g6 := g6.below hb9; have g8 := g8.below hb9; have hq := Below.then hq hb9; have e13a := (n13.below hq).c0; have e13b := (n13.below hq).c1; have e14a := (n14.below hq).c0; have e14b := (n14.below hq).c1; have e14c := (n14.below hq).c2; have e14d := (n14.below hq).c3; have e15a := (n15.below hq).c0; have e15b := (n15.below hq).c1; have e16a := (n16.below hq).c0; have e16b := (n16.below hq).c1; have e16c := (n16.below hq).c2; have e16d := (n16.below hq).c3; have e17a := (n17.below hq).c0; have e17b := (n17.below hq).c1; have e18a := (n18.below hq).c0; have e18b := (n18.below hq).c1; have e18c := (n18.below hq).c2; have e18d := (n18.below hq).c3; have f18a := (n18.below hq).f0; have f18b := (n18.below hq).f1; have f18c := (n18.below hq).f2; have f18d := (n18.below hq).f3)
        | (go_at_call 64; refine (H10.out _ hq _ g9).mono ?_; clear H10; rintro e w10 ⟨v10, rfl, g10, hb10⟩; obtain ⟨s91, a91, l91, c91, t91, b91, k91, d91, rfl⟩ := IsRat.form g10; have g2 := g2.below hb10; have g4 := g4.below hb10; have g6 := g6.below hb10; have g8 := g8.below hb10; have g9 := g9.below hb10; have hq := Below.then hq hb10; have e13a := (n13.below hq).c0; have e13b := (n13.below hq).c1; have e14a := (n14.below hq).c0; have e14b := (n14.below hq).c1; have e14c := (n14.below hq).c2; have e14d := (n14.below hq).c3; have e15a := (n15.below hq).c0; have e15b := (n15.below hq).c1; have e16a := (n16.below hq).c0; have e16b := (n16.below hq).c1; have e16c := (n16.below hq).c2; have e16d := (n16.below hq).c3; have e17a := (n17.below hq).c0; have e17b := (n17.below hq).c1; have e18a := (n18.below hq).c0; have e18b := (n18.below hq).c1; have e18c := (n18.below hq).c2; have e18d := (n18.below hq).c3; have f18a := (n18.below hq).f0; have f18b := (n18.below hq).f1; have f18c := (n18.below hq).f2; have f18d := (n18.below hq).f3))
    all_goals go_wp2_with fail
    have hq2 := M4.out.2.2.trans (hq.mono M4.out.2.2.size)
    have hge := M4.out.ge 2 rfl
    exact bodyPost_ret (v := .agg #[.bool s91, .slice a91 l91 c91, .bool t91, .slice b91 k91 d91]) (by simp [results, Tryz.results29, go_sem, e18a, e18b, e18c, e18d]) rfl ⟨_, rfl, g10.put4 (n18.below hq) rfl rfl rfl rfl _ _ _ _, below_put4 hq2 hge _ _ _ _⟩
end Go.Proofs.YtcahodpphikgnaaGreatDoor
namespace Go.Proofs.YtcahodpphikgnaaGreatDoor
open Go.RowKit Go.Shelf

attribute [local go_sem] Oper.semAt_some

set_option maxRecDepth 100000 in
set_option maxHeartbeats 4000000 in
theorem rof_c (va vb : Value) (x y : Int) (w : World) (ha : IsInt w va x) (hb : IsInt w vb y) (hsx : Sok x) (hsy : Sok y) :
    Calls Tryz.prog 22 #[va, vb] w fun e w' => ∃ u, e = .returned (.tuple #[u, .bool (decide (y ≠ 0))]) ∧ IsRat w' u (Rat.divInt x y) ∧ Below w.heap.size w w' := by
  have HX := hidD hsx
  have HY := hidD hsy
  clear hsx hsy
  obtain ⟨s, a, la, ca, rfl⟩ := IsInt.form2 ha
  obtain ⟨t, b, lb, cb, rfl⟩ := IsInt.form2 hb
  have M0 := mem_two w s t a b la ca lb cb _ _ ha hb
  obtain ⟨W0, hW0⟩ : ∃ W0, ((w.alloc (.cells #[.bool s, .slice a la ca] 25)).alloc (.cells #[.bool t, .slice b lb cb] 25)).alloc (.cells #[.bool false, .slice none 0 0, .bool false, .slice none 0 0] 27) = W0 := ⟨_, rfl⟩
  have HW0 := hidD hW0
  rw [hW0] at M0
  have M1 : Hid (Mem w W0 [some (w.heap.size, .int (x)), some (w.heap.size + 1, .int (y)), some (w.heap.size + 1 + 1, .rat (0))]) := hidD M0
  clear M0 ha hb hW0
  obtain ⟨s1, a1, l1, c1, n1, i1⟩ := M1.out.int (i := 0) rfl
  have e1a := n1.c0
  have e1b := n1.c1
  obtain ⟨s2, a2, l2, c2, n2, i2⟩ := M1.out.int (i := 1) rfl
  have e2a := n2.c0
  have e2b := n2.c1
  obtain ⟨s3, a3, l3, c3, t3, b3, k3, d3, n3, r3, i3, j3⟩ := M1.out.rat (i := 2) rfl
  have e3a := n3.c0
  have e3b := n3.c1
  have e3c := n3.c2
  have e3d := n3.c3
  have f3a := n3.f0
  have f3b := n3.f1
  have f3c := n3.f2
  have f3d := n3.f3
  have H1 := hidD (isZero_c _ y W0 i2)
  have H2 := hidD (fun (V : World) (h : Below W0.heap.size W0 V) (hy : y ≠ 0) => reduced_c _ _ x y V (i1.below h) (i2.below h) hy HX.out HY.out)
  by_cases hy : y = 0
  · rw [decide_eq_true hy] at H1
    have HD := hidD (decide_eq_false (p := y ≠ 0) (fun h => h hy))
    rw [HD.out]
    have HE := hidD (show Rat.divInt x y = 0 by rw [hy, Rat.divInt_zero])
    clear hy H2
    go_enter Tryz.func22, Tryz.ntmps22
    go_upto_region 1 with fail
    rw [HW0.out]
    go_wp2_with (go_at_call 60; refine H1.out.mono ?_; rintro e w1 ⟨rfl, hq⟩; have e3a := (n3.below hq).c0; have e3b := (n3.below hq).c1; have e3c := (n3.below hq).c2; have e3d := (n3.below hq).c3; have f3a := (n3.below hq).f0; have f3b := (n3.below hq).f1; have f3c := (n3.below hq).f2; have f3d := (n3.below hq).f3)
    have hr : IsRat w1 (.agg #[.bool false, .slice none 0 0, .bool false, .slice none 0 0]) (Rat.divInt x y) := by rw [HE.out]; exact rat0 _
    have hq2 := M1.out.2.2.trans (hq.mono M1.out.2.2.size)
    exact bodyPost_ret (v := .tuple #[.agg #[.bool false, .slice none 0 0, .bool false, .slice none 0 0], .bool false]) (by simp [results, Tryz.results22, go_sem, e3a, e3b, e3c, e3d]) rfl ⟨_, rfl, hr.put4 (n3.below hq) rfl rfl rfl rfl _ _ _ _, below_put4 hq2 (by omega) _ _ _ _⟩
  · rw [decide_eq_false hy] at H1
    have HD := hidD (decide_eq_true (p := y ≠ 0) hy)
    rw [HD.out]
    have H2 := hidD (fun V h => H2.out V h hy)
    clear hy
    go_enter Tryz.func22, Tryz.ntmps22
    go_upto_region 1 with fail
    rw [HW0.out]
    go_wp2_with (first
      | (go_at_call 60; refine H1.out.mono ?_; rintro e w1 ⟨rfl, hq⟩; have e1a := (n1.below hq).c0; have e1b := (n1.below hq).c1; have e2a := (n2.below hq).c0; have e2b := (n2.below hq).c1; have e3a := (n3.below hq).c0; have e3b := (n3.below hq).c1; have e3c := (n3.below hq).c2; have e3d := (n3.below hq).c3; have f3a := (n3.below hq).f0; have f3b := (n3.below hq).f1; have f3c := (n3.below hq).f2; have f3d := (n3.below hq).f3)
      | (go_at_call 44; refine (H2.out _ hq).mono ?_; clear H2; rintro e w2 ⟨u2, rfl, hu2, hb2⟩; obtain ⟨s91, a91, l91, c91, t91, b91, k91, d91, rfl⟩ := IsRat.form hu2; have hq := Below.then hq hb2; have e3a := (n3.below hq).c0; have e3b := (n3.below hq).c1; have e3c := (n3.below hq).c2; have e3d := (n3.below hq).c3; have f3a := (n3.below hq).f0; have f3b := (n3.below hq).f1; have f3c := (n3.below hq).f2; have f3d := (n3.below hq).f3))
    have hq2 := M1.out.2.2.trans (hq.mono M1.out.2.2.size)
    have hge := M1.out.ge 2 rfl
    exact bodyPost_ret (v := .tuple #[.agg #[.bool s91, .slice a91 l91 c91, .bool t91, .slice b91 k91 d91], .bool true]) (by simp [results, Tryz.results22, go_sem, e3a, e3b, e3c, e3d]) rfl ⟨_, rfl, hu2.put4 (n3.below hq) rfl rfl rfl rfl _ _ _ _, below_put4 hq2 hge _ _ _ _⟩

theorem over_bool (p q : Rat) : decide ((p.den : Int) * q.num ≠ 0) = decide (q ≠ 0) := by
  refine decide_eq_decide.2 (not_congr ⟨fun h => ?_, fun h => ?_⟩)
  · rcases Int.mul_eq_zero.1 h with h | h
    · have := p.den_nz; omega
    · exact Rat.num_eq_zero.1 h
  · rw [h]; exact Int.mul_zero _

set_option maxRecDepth 100000 in
set_option maxHeartbeats 4000000 in
theorem qover_c (va vb : Value) (p q : Rat) (w : World) (ha : IsRat w va p) (hb : IsRat w vb q) (hsp : Sq p) (hsq : Sq q) :
    Calls Tryz.prog 30 #[va, vb] w fun e w' => ∃ u, e = .returned (.tuple #[u, .bool (decide (q ≠ 0))]) ∧ IsRat w' u (p / q) ∧ Below w.heap.size w w' := by
  obtain ⟨bq, hbq⟩ : ∃ bq, decide (q ≠ 0) = bq := ⟨_, rfl⟩
  have HBQ := hidD ((over_bool p q).trans hbq)
  rw [hbq]
  clear hbq
  obtain ⟨s, a, l, c, t, b, k, d, rfl⟩ := IsRat.form ha
  obtain ⟨s', a', l', c', t', b', k', d', rfl⟩ := IsRat.form hb
  have M0 := mem_rats w s t s' t' a b a' b' l c k d l' c' k' d' p q ha hb
  obtain ⟨W0, hW0⟩ : ∃ W0, ((w.alloc (.cells #[.bool s, .slice a l c, .bool t, .slice b k d] 27)).alloc (.cells #[.bool s', .slice a' l' c', .bool t', .slice b' k' d'] 27)).alloc (.cells #[.bool false, .slice none 0 0, .bool false, .slice none 0 0] 27) = W0 := ⟨_, rfl⟩
  have HW0 := hidD hW0
  rw [hW0] at M0
  have M1 : Hid (Mem w W0 [some (w.heap.size, .rat (p)), some (w.heap.size + 1, .rat (q)), some (w.heap.size + 1 + 1, .rat (0))]) := hidD M0
  have hmx : Tryz.prog.follows .mixedOrders = true := by kernel_rfl
  have HP := hidD hsp
  have HQ := hidD hsq
  clear M0 ha hb hW0 hsp hsq
  go_enter Tryz.func30, Tryz.ntmps30
  go_upto_region 1 with fail
  rw [HW0.out]
  clear HW0
  obtain ⟨s1, a1, l1, c1, t1, b1, k1, d1, n1, r1, i1, j1⟩ := M1.out.rat (i := 0) rfl
  have e1a := n1.c0
  have e1b := n1.c1
  have e1c := n1.c2
  have e1d := n1.c3
  obtain ⟨s2, a2, l2, c2, t2, b2, k2, d2, n2, r2, i2, j2⟩ := M1.out.rat (i := 1) rfl
  have e2a := n2.c0
  have e2b := n2.c1
  have e2c := n2.c2
  have e2d := n2.c3
  obtain ⟨s3, a3, l3, c3, t3, b3, k3, d3, n3, r3, i3, j3⟩ := M1.out.rat (i := 2) rfl
  have e3a := n3.c0
  have e3b := n3.c1
  have e3c := n3.c2
  have e3d := n3.c3
  have f3a := n3.f0
  have f3b := n3.f1
  have f3c := n3.f2
  have f3d := n3.f3
  have H3 := hidD (fun (V : World) (h : Below W0.heap.size W0 V) => den_c _ q V (r2.below h))
  have H4 := hidD (fun (V : World) (h : Below W0.heap.size W0 V) (v3 : Value) (g3 : IsInt V v3 ((q.den : Int))) => itimes_c _ _ p.num (q.den : Int) V (i1.below h) g3 (by have h1 := HP.out.num.words; have h2 := HQ.out.den.words; omega))
  have H6 := hidD (fun (V : World) (h : Below W0.heap.size W0 V) => den_c _ p V (r1.below h))
  have H9 := hidD (fun (V : World) (h : Below W0.heap.size W0 V) (v6 : Value) (g6 : IsInt V v6 ((p.den : Int))) => itimes_c _ _ (p.den : Int) q.num V g6 (i2.below h) (by have h1 := HP.out.den.words; have h2 := HQ.out.num.words; omega))
  have H10 := hidD (fun (V : World) (h : Below W0.heap.size W0 V) (v4 : Value) (g4 : IsInt V v4 (p.num * (q.den : Int))) (v9 : Value) (g9 : IsInt V v9 ((p.den : Int) * q.num)) => (by have h := rof_c _ _ (p.num * (q.den : Int)) ((p.den : Int) * q.num) V g4 g9 (HP.out.cross HQ.out) (HP.out.cross2 HQ.out); rw [HBQ.out, over_eq] at h; exact h))
  have ne0 : w.heap.size ≠ w.heap.size + 1 + 1 := M1.out.ne 0 2 rfl rfl (by decide)
  have ne1 : w.heap.size + 1 ≠ w.heap.size + 1 + 1 := M1.out.ne 1 2 rfl rfl (by decide)
  have hq : Below W0.heap.size W0 W0.drew := (Below.refl _ W0).drew
  go_region_held3 (fun w' => w'.cell? ⟨w.heap.size, 0, none⟩ = some (.bool s1) ∧ w'.cell? ⟨w.heap.size, 1, none⟩ = some (.slice a1 l1 c1) ∧ w'.cell? ⟨w.heap.size, 2, none⟩ = some (.bool t1) ∧ w'.cell? ⟨w.heap.size, 3, none⟩ = some (.slice b1 k1 d1) ∧ w'.cell? ⟨w.heap.size + 1, 0, none⟩ = some (.bool s2) ∧ w'.cell? ⟨w.heap.size + 1, 1, none⟩ = some (.slice a2 l2 c2) ∧ w'.cell? ⟨w.heap.size + 1, 2, none⟩ = some (.bool t2) ∧ w'.cell? ⟨w.heap.size + 1, 3, none⟩ = some (.slice b2 k2 d2)) (first | (with_reducible exact ⟨e1a, e1b, e1c, e1d, e2a, e2b, e2c, e2d⟩) | (go_keep; done) | (refine ⟨?_, ?_, ?_, ?_, ?_, ?_, ?_, ?_⟩ <;> ((repeat rw [cell_set_nb (by omega)]); first | assumption | (go_keep; done))))
    (first
      | (go_at_call 10; refine (H3.out _ hq ).mono ?_; clear H3; rintro e w3 ⟨v3, rfl, g3, hb3⟩; have hq := Below.then hq hb3; have e1a := (n1.below hq).c0; have e1b := (n1.below hq).c1; have e1c := (n1.below hq).c2; have e1d := (n1.below hq).c3; have e2a := (n2.below hq).c0; have e2b := (n2.below hq).c1; have e2c := (n2.below hq).c2; have e2d := (n2.below hq).c3; have e3a := (n3.below hq).c0; have e3b := (n3.below hq).c1; have e3c := (n3.below hq).c2; have e3d := (n3.below hq).c3; have f3a := (n3.below hq).f0; have f3b := (n3.below hq).f1; have f3c := (n3.below hq).f2; have f3d := (n3.below hq).f3)
      | (go_at_call 51; refine (H4.out _ hq _ g3).mono ?_; clear H4; rintro e w4 ⟨v4, rfl, g4, hb4⟩; have g3 := g3.below hb4; have hq := Below.then hq hb4; have e1a := (n1.below hq).c0; have e1b := (n1.below hq).c1; have e1c := (n1.below hq).c2; have e1d := (n1.below hq).c3; have e2a := (n2.below hq).c0; have e2b := (n2.below hq).c1; have e2c := (n2.below hq).c2; have e2d := (n2.below hq).c3; have e3a := (n3.below hq).c0; have e3b := (n3.below hq).c1; have e3c := (n3.below hq).c2; have e3d := (n3.below hq).c3; have f3a := (n3.below hq).f0; have f3b := (n3.below hq).f1; have f3c := (n3.below hq).f2; have f3d := (n3.below hq).f3)
      | (go_at_call 10; refine (H6.out _ hq ).mono ?_; clear H6; rintro e w6 ⟨v6, rfl, g6, hb6⟩; have g3 := g3.below hb6; have g4 := g4.below hb6; have hq := Below.then hq hb6; have e1a := (n1.below hq).c0; have e1b := (n1.below hq).c1; have e1c := (n1.below hq).c2; have e1d := (n1.below hq).c3; have e2a := (n2.below hq).c0; have e2b := (n2.below hq).c1; have e2c := (n2.below hq).c2; have e2d := (n2.below hq).c3; have e3a := (n3.below hq).c0; have e3b := (n3.below hq).c1; have e3c := (n3.below hq).c2; have e3d := (n3.below hq).c3; have f3a := (n3.below hq).f0; have f3b := (n3.below hq).f1; have f3c := (n3.below hq).f2; have f3d := (n3.below hq).f3)
      | (go_at_call 51; refine (H9.out _ hq _ g6).mono ?_; clear H9; rintro e w9 ⟨v9, rfl, g9, hb9⟩; have g3 := g3.below hb9; have g4 := g4.below hb9; have g6 := g6.below hb9; have hq := Below.then hq hb9; have e1a := (n1.below hq).c0; have e1b := (n1.below hq).c1; have e1c := (n1.below hq).c2; have e1d := (n1.below hq).c3; have e2a := (n2.below hq).c0; have e2b := (n2.below hq).c1; have e2c := (n2.below hq).c2; have e2d := (n2.below hq).c3; have e3a := (n3.below hq).c0; have e3b := (n3.below hq).c1; have e3c := (n3.below hq).c2; have e3d := (n3.below hq).c3; have f3a := (n3.below hq).f0; have f3b := (n3.below hq).f1; have f3c := (n3.below hq).f2; have f3d := (n3.below hq).f3)
      | (go_at_call 22; refine (H10.out _ hq _ g4 _ g9).mono ?_; clear H10; rintro e w10 ⟨v10, rfl, g10, hb10⟩; obtain ⟨s91, a91, l91, c91, t91, b91, k91, d91, rfl⟩ := IsRat.form g10; have g3 := g3.below hb10; have g4 := g4.below hb10; have g6 := g6.below hb10; have g9 := g9.below hb10; have hq := Below.then hq hb10; have e1a := (n1.below hq).c0; have e1b := (n1.below hq).c1; have e1c := (n1.below hq).c2; have e1d := (n1.below hq).c3; have e2a := (n2.below hq).c0; have e2b := (n2.below hq).c1; have e2c := (n2.below hq).c2; have e2d := (n2.below hq).c3; have e3a := (n3.below hq).c0; have e3b := (n3.below hq).c1; have e3c := (n3.below hq).c2; have e3d := (n3.below hq).c3; have f3a := (n3.below hq).f0; have f3b := (n3.below hq).f1; have f3c := (n3.below hq).f2; have f3d := (n3.below hq).f3))
  all_goals go_wp2_with fail
  have hq2 := M1.out.2.2.trans (hq.mono M1.out.2.2.size)
  have hge := M1.out.ge 2 rfl
  exact bodyPost_ret (v := .tuple #[.agg #[.bool s91, .slice a91 l91 c91, .bool t91, .slice b91 k91 d91], .bool bq]) (by simp [results, Tryz.results30, go_sem, e3a, e3b, e3c, e3d]) rfl ⟨_, rfl, g10.put4 (n3.below hq) rfl rfl rfl rfl _ _ _ _, below_put4 hq2 hge _ _ _ _⟩

/-- Which of two fractions is the greater one. -/
def cmpQ (p q : Rat) : Int := cmpI (p.num * q.den) (q.num * p.den)

set_option maxRecDepth 100000 in
set_option maxHeartbeats 4000000 in
theorem qorder_c (va vb : Value) (p q : Rat) (w : World) (ha : IsRat w va p) (hb : IsRat w vb q) (hsp : Sq p) (hsq : Sq q) :
    Calls Tryz.prog 34 #[va, vb] w fun e w' => e = .returned (.int .i64 (cmpQ p q)) ∧ Below w.heap.size w w' := by
  obtain ⟨s, a, l, c, t, b, k, d, rfl⟩ := IsRat.form ha
  obtain ⟨s', a', l', c', t', b', k', d', rfl⟩ := IsRat.form hb
  have M0 := mem_rats2 w s t s' t' a b a' b' l c k d l' c' k' d' p q ha hb
  obtain ⟨W0, hW0⟩ : ∃ W0, (w.alloc (.cells #[.bool s, .slice a l c, .bool t, .slice b k d] 27)).alloc (.cells #[.bool s', .slice a' l' c', .bool t', .slice b' k' d'] 27) = W0 := ⟨_, rfl⟩
  have HW0 := hidD hW0
  rw [hW0] at M0
  have M1 : Hid (Mem w W0 [some (w.heap.size, .rat (p)), some (w.heap.size + 1, .rat (q))]) := hidD M0
  obtain ⟨n, hn⟩ : ∃ n, cmpQ p q = n := ⟨_, rfl⟩
  have HN := hidD hn
  rw [hn]
  have HP := hidD hsp
  have HQ := hidD hsq
  clear M0 ha hb hW0 hsp hsq hn
  go_enter Tryz.func34, Tryz.ntmps34
  go_upto_region 1 with fail
  rw [HW0.out]
  clear HW0
  obtain ⟨bb, hbb⟩ : ∃ bb : Bool, decide (p.den = 1 ∧ q.den = 1) = bb := ⟨_, rfl⟩
  have HBB := hidD hbb
  clear hbb
  go_cut [10] (fun c w' => c = .bool bb ∧ Hid (Mem w w' [some (w.heap.size, .rat (p)), some (w.heap.size + 1, .rat (q))]))
  case first =>
    obtain ⟨s1, a1, l1, c1, t1, b1, k1, d1, n1, r1, i1, j1⟩ := M1.out.rat (i := 0) rfl
    have e1a := n1.c0
    have e1b := n1.c1
    have e1c := n1.c2
    have e1d := n1.c3
    obtain ⟨s2, a2, l2, c2, t2, b2, k2, d2, n2, r2, i2, j2⟩ := M1.out.rat (i := 1) rfl
    have e2a := n2.c0
    have e2b := n2.c1
    have e2c := n2.c2
    have e2d := n2.c3
    have H1 := hidD (isWhole_c _ p W0 r1)
    have H2 := hidD (fun (V : World) (h : Below W0.heap.size W0 V) => isWhole_c _ q V (r2.below h))
    by_cases h1 : p.den = 1
    · rw [decide_eq_true h1] at H1
      obtain ⟨b2, hb2⟩ : ∃ b2, decide (q.den = 1) = b2 := ⟨_, rfl⟩
      rw [hb2] at H2
      have HB2 := hidD (show b2 = bb by rw [← hb2, ← HBB.out]; exact decide_eq_decide.2 ⟨fun h => ⟨h1, h⟩, fun h => h.2⟩)
      clear hb2 h1
      go_wp2_with (first
        | (go_at_call 47; refine H1.out.mono ?_; clear H1; rintro e w1 ⟨rfl, hb1⟩; have e1a := (n1.below hb1).c0; have e1b := (n1.below hb1).c1; have e1c := (n1.below hb1).c2; have e1d := (n1.below hb1).c3; have e2a := (n2.below hb1).c0; have e2b := (n2.below hb1).c1; have e2c := (n2.below hb1).c2; have e2d := (n2.below hb1).c3)
        | (go_at_call 47; refine (H2.out _ hb1).mono ?_; clear H2; rintro e w2 ⟨rfl, hb2⟩))
      go_meet
      case rel => exact ⟨by rw [HB2.out], hidD ((M1.out.below hb1).below hb2)⟩
    · rw [decide_eq_false h1] at H1
      have HB2 := hidD (show bb = false by rw [← HBB.out]; exact decide_eq_false (fun h => h1 h.1))
      clear h1
      go_wp2_with (go_at_call 47; refine H1.out.mono ?_; clear H1; rintro e w1 ⟨rfl, hb1⟩)
      go_meet
      case rel => exact ⟨by rw [HB2.out], hidD (M1.out.below hb1)⟩
  obtain ⟨rfl, MM⟩ := hcut
  have M2 : Hid (Mem w wc [some (w.heap.size, .rat (p)), some (w.heap.size + 1, .rat (q))]) := MM
  clear M1 MM
  cases bb with
  | true =>
    have hdd := of_decide_eq_true HBB.out
    have HE := hidD (show cmpI p.num q.num = n by rw [← HN.out]; unfold cmpQ; rw [hdd.1, hdd.2]; simp)
    clear hdd HBB
    obtain ⟨s3, a3, l3, c3, t3, b3, k3, d3, n3, r3, i3, j3⟩ := M2.out.rat (i := 0) rfl
    have e3a := n3.c0
    have e3b := n3.c1
    have e3c := n3.c2
    have e3d := n3.c3
    obtain ⟨s4, a4, l4, c4, t4, b4, k4, d4, n4, r4, i4, j4⟩ := M2.out.rat (i := 1) rfl
    have e4a := n4.c0
    have e4b := n4.c1
    have e4c := n4.c2
    have e4d := n4.c3
    have H1 := hidD (iorder_c _ _ p.num q.num wc i3 i4)
    rw [HE.out] at H1
    go_wp2_with (go_at_call 39; refine H1.out.mono ?_; clear H1; rintro e w1 ⟨rfl, hq⟩)
    go_ret
    exact ⟨rfl, M2.out.2.2.trans (hq.mono M2.out.2.2.size)⟩
  | false =>
    clear HBB
    go_upto_region 3 with fail
    obtain ⟨s5, a5, l5, c5, t5, b5, k5, d5, n5, r5, i5, j5⟩ := M2.out.rat (i := 0) rfl
    have e5a := n5.c0
    have e5b := n5.c1
    have e5c := n5.c2
    have e5d := n5.c3
    obtain ⟨s6, a6, l6, c6, t6, b6, k6, d6, n6, r6, i6, j6⟩ := M2.out.rat (i := 1) rfl
    have e6a := n6.c0
    have e6b := n6.c1
    have e6c := n6.c2
    have e6d := n6.c3
    have H3 := hidD (fun (V : World) (h : Below wc.heap.size wc V) => den_c _ q V (r6.below h))
    have H4 := hidD (fun (V : World) (h : Below wc.heap.size wc V) (v3 : Value) (g3 : IsInt V v3 ((q.den : Int))) => itimes_c _ _ p.num (q.den : Int) V (i5.below h) g3 (by have h1 := HP.out.num.words; have h2 := HQ.out.den.words; omega))
    have H8 := hidD (fun (V : World) (h : Below wc.heap.size wc V) => den_c _ p V (r5.below h))
    have H9 := hidD (fun (V : World) (h : Below wc.heap.size wc V) (v8 : Value) (g8 : IsInt V v8 ((p.den : Int))) => itimes_c _ _ q.num (p.den : Int) V (i6.below h) g8 (by have h1 := HQ.out.num.words; have h2 := HP.out.den.words; omega))
    have H10 := hidD (fun (V : World) (h : Below wc.heap.size wc V) (v4 : Value) (g4 : IsInt V v4 (p.num * (q.den : Int))) (v9 : Value) (g9 : IsInt V v9 (q.num * (p.den : Int))) => (by have h := iorder_c _ _ (p.num * (q.den : Int)) (q.num * (p.den : Int)) V g4 g9; rw [show cmpI (p.num * (q.den : Int)) (q.num * (p.den : Int)) = n from HN.out] at h; exact h))
    have hq : Below wc.heap.size wc wc.drew := (Below.refl _ wc).drew
    go_region_held3 (fun w' => w'.cell? ⟨w.heap.size, 0, none⟩ = some (.bool s5) ∧ w'.cell? ⟨w.heap.size, 1, none⟩ = some (.slice a5 l5 c5) ∧ w'.cell? ⟨w.heap.size, 2, none⟩ = some (.bool t5) ∧ w'.cell? ⟨w.heap.size, 3, none⟩ = some (.slice b5 k5 d5) ∧ w'.cell? ⟨w.heap.size + 1, 0, none⟩ = some (.bool s6) ∧ w'.cell? ⟨w.heap.size + 1, 1, none⟩ = some (.slice a6 l6 c6) ∧ w'.cell? ⟨w.heap.size + 1, 2, none⟩ = some (.bool t6) ∧ w'.cell? ⟨w.heap.size + 1, 3, none⟩ = some (.slice b6 k6 d6)) (first | (with_reducible exact ⟨e5a, e5b, e5c, e5d, e6a, e6b, e6c, e6d⟩) | (go_keep; done) | (refine ⟨?_, ?_, ?_, ?_, ?_, ?_, ?_, ?_⟩ <;> ((repeat rw [cell_set_nb (by omega)]); first | assumption | (go_keep; done))))
      (first
        | (go_at_call 10; refine (H3.out _ hq ).mono ?_; clear H3; rintro e w3 ⟨v3, rfl, g3, hb3⟩; have hq := Below.then hq hb3; have e5a := (n5.below hq).c0; have e5b := (n5.below hq).c1; have e5c := (n5.below hq).c2; have e5d := (n5.below hq).c3; have e6a := (n6.below hq).c0; have e6b := (n6.below hq).c1; have e6c := (n6.below hq).c2; have e6d := (n6.below hq).c3)
        | (go_at_call 51; refine (H4.out _ hq _ g3).mono ?_; clear H4; rintro e w4 ⟨v4, rfl, g4, hb4⟩; have g3 := g3.below hb4; have hq := Below.then hq hb4; have e5a := (n5.below hq).c0; have e5b := (n5.below hq).c1; have e5c := (n5.below hq).c2; have e5d := (n5.below hq).c3; have e6a := (n6.below hq).c0; have e6b := (n6.below hq).c1; have e6c := (n6.below hq).c2; have e6d := (n6.below hq).c3)
        | (go_at_call 10; refine (H8.out _ hq ).mono ?_; clear H8; rintro e w8 ⟨v8, rfl, g8, hb8⟩; have g3 := g3.below hb8; have g4 := g4.below hb8; have hq := Below.then hq hb8; have e5a := (n5.below hq).c0; have e5b := (n5.below hq).c1; have e5c := (n5.below hq).c2; have e5d := (n5.below hq).c3; have e6a := (n6.below hq).c0; have e6b := (n6.below hq).c1; have e6c := (n6.below hq).c2; have e6d := (n6.below hq).c3)
        | (go_at_call 51; refine (H9.out _ hq _ g8).mono ?_; clear H9; rintro e w9 ⟨v9, rfl, g9, hb9⟩; have g3 := g3.below hb9; have g4 := g4.below hb9; have g8 := g8.below hb9; have hq := Below.then hq hb9; have e5a := (n5.below hq).c0; have e5b := (n5.below hq).c1; have e5c := (n5.below hq).c2; have e5d := (n5.below hq).c3; have e6a := (n6.below hq).c0; have e6b := (n6.below hq).c1; have e6c := (n6.below hq).c2; have e6d := (n6.below hq).c3)
        | (go_at_call 39; refine (H10.out _ hq _ g4 _ g9).mono ?_; clear H10; rintro e w10 ⟨rfl, hb10⟩; have g3 := g3.below hb10; have g4 := g4.below hb10; have g8 := g8.below hb10; have g9 := g9.below hb10; have hq := Below.then hq hb10; have e5a := (n5.below hq).c0; have e5b := (n5.below hq).c1; have e5c := (n5.below hq).c2; have e5d := (n5.below hq).c3; have e6a := (n6.below hq).c0; have e6b := (n6.below hq).c1; have e6c := (n6.below hq).c2; have e6d := (n6.below hq).c3))
    all_goals go_wp2_with fail
    go_ret
    exact ⟨rfl, M2.out.2.2.trans (hq.mono M2.out.2.2.size)⟩

set_option maxRecDepth 100000 in
set_option maxHeartbeats 4000000 in
theorem qminus_c (va vb : Value) (p q : Rat) (w : World) (ha : IsRat w va p) (hb : IsRat w vb q) (hsp : Sq p) (hsq : Sq q) :
    Calls Tryz.prog 28 #[va, vb] w fun e w' => ∃ u, e = .returned u ∧ IsRat w' u (p - q) ∧ Below w.heap.size w w' := by
  obtain ⟨s, a, l, c, t, b, k, d, rfl⟩ := IsRat.form ha
  obtain ⟨s', a', l', c', t', b', k', d', rfl⟩ := IsRat.form hb
  have M0 := mem_rats w s t s' t' a b a' b' l c k d l' c' k' d' p q ha hb
  obtain ⟨W0, hW0⟩ : ∃ W0, ((w.alloc (.cells #[.bool s, .slice a l c, .bool t, .slice b k d] 27)).alloc (.cells #[.bool s', .slice a' l' c', .bool t', .slice b' k' d'] 27)).alloc (.cells #[.bool false, .slice none 0 0, .bool false, .slice none 0 0] 27) = W0 := ⟨_, rfl⟩
  have HW0 := hidD hW0
  rw [hW0] at M0
  have M1 : Hid (Mem w W0 [some (w.heap.size, .rat (p)), some (w.heap.size + 1, .rat (q)), some (w.heap.size + 1 + 1, .rat (0))]) := hidD M0
  have hmx : Tryz.prog.follows .mixedOrders = true := by kernel_rfl
  have HP := hidD hsp
  have HQ := hidD hsq
  clear M0 ha hb hW0 hsp hsq
  go_enter Tryz.func28, Tryz.ntmps28
  go_upto_region 1 with fail
  rw [HW0.out]
  clear HW0
  obtain ⟨s1, a1, l1, c1, t1, b1, k1, d1, n1, r1, i1, j1⟩ := M1.out.rat (i := 0) rfl
  have e1a := n1.c0
  have e1b := n1.c1
  have e1c := n1.c2
  have e1d := n1.c3
  obtain ⟨s2, a2, l2, c2, t2, b2, k2, d2, n2, r2, i2, j2⟩ := M1.out.rat (i := 1) rfl
  have e2a := n2.c0
  have e2b := n2.c1
  have e2c := n2.c2
  have e2d := n2.c3
  obtain ⟨s3, a3, l3, c3, t3, b3, k3, d3, n3, r3, i3, j3⟩ := M1.out.rat (i := 2) rfl
  have e3a := n3.c0
  have e3b := n3.c1
  have e3c := n3.c2
  have e3d := n3.c3
  have f3a := n3.f0
  have f3b := n3.f1
  have f3c := n3.f2
  have f3d := n3.f3
  have H1 := hidD (fun (V : World) (h : Below W0.heap.size W0 V) => iminus_c _ _ 0 q.num V (int0 _) (i2.below h) (by have := Sok.zero.words; omega) (by have := HQ.out.num.words; omega))
  have H2 := hidD (fun (V : World) (h : Below W0.heap.size W0 V) (s : Bool) (a : Option Addr) (l c : Nat) (g : IsInt V (.agg #[.bool s, .slice a l c]) (0 - q.num)) => show Calls Tryz.prog 27 #[.agg #[.bool s1, .slice a1 l1 c1, .bool t1, .slice b1 k1 d1], .agg #[.bool s, .slice a l c, .bool t2, .slice b2 k2 d2]] V fun e w' => ∃ u, e = .returned u ∧ IsRat w' u (p - q) ∧ Below V.heap.size V w' by
    have h1 := qplus_c _ _ p (-q) V (r1.below h) (IsRat.mk (q := -q) (by rw [Rat.neg_num, ← Int.zero_sub]; exact g) (j2.below h)) HP.out HQ.out.neg
    rw [← Rat.sub_eq_add_neg] at h1
    exact h1)
  have ne0 : w.heap.size ≠ w.heap.size + 1 + 1 := M1.out.ne 0 2 rfl rfl (by decide)
  have ne1 : w.heap.size + 1 ≠ w.heap.size + 1 + 1 := M1.out.ne 1 2 rfl rfl (by decide)
  have hq : Below W0.heap.size W0 W0.drew := (Below.refl _ W0).drew
  go_region_held3 (fun w' => w'.cell? ⟨w.heap.size, 0, none⟩ = some (.bool s1) ∧ w'.cell? ⟨w.heap.size, 1, none⟩ = some (.slice a1 l1 c1) ∧ w'.cell? ⟨w.heap.size, 2, none⟩ = some (.bool t1) ∧ w'.cell? ⟨w.heap.size, 3, none⟩ = some (.slice b1 k1 d1) ∧ w'.cell? ⟨w.heap.size + 1, 0, none⟩ = some (.bool s2) ∧ w'.cell? ⟨w.heap.size + 1, 1, none⟩ = some (.slice a2 l2 c2) ∧ w'.cell? ⟨w.heap.size + 1, 2, none⟩ = some (.bool t2) ∧ w'.cell? ⟨w.heap.size + 1, 3, none⟩ = some (.slice b2 k2 d2)) (first | (with_reducible exact ⟨e1a, e1b, e1c, e1d, e2a, e2b, e2c, e2d⟩) | (go_keep; done) | (refine ⟨?_, ?_, ?_, ?_, ?_, ?_, ?_, ?_⟩ <;> ((repeat rw [cell_set_nb (by omega)]); first | assumption | (go_keep; done))))
    (first
      | (go_at_call 65; refine (H1.out _ hq).mono ?_; clear H1; rintro e w1 ⟨u1, rfl, hu1, hb1⟩; obtain ⟨s90, a90, l90, c90, rfl⟩ := IsInt.form2 hu1; have hq := Below.then hq hb1; have e1a := (n1.below hq).c0; have e1b := (n1.below hq).c1; have e1c := (n1.below hq).c2; have e1d := (n1.below hq).c3; have e2a := (n2.below hq).c0; have e2b := (n2.below hq).c1; have e2c := (n2.below hq).c2; have e2d := (n2.below hq).c3; have e3a := (n3.below hq).c0; have e3b := (n3.below hq).c1; have e3c := (n3.below hq).c2; have e3d := (n3.below hq).c3; have f3a := (n3.below hq).f0; have f3b := (n3.below hq).f1; have f3c := (n3.below hq).f2; have f3d := (n3.below hq).f3)
      | (go_at_call 27; refine (H2.out _ hq _ _ _ _ hu1).mono ?_; clear H2; rintro e w2 ⟨u2, rfl, hu2, hb2⟩; obtain ⟨s91, a91, l91, c91, t91, b91, k91, d91, rfl⟩ := IsRat.form hu2; have hq := Below.then hq hb2; have e1a := (n1.below hq).c0; have e1b := (n1.below hq).c1; have e1c := (n1.below hq).c2; have e1d := (n1.below hq).c3; have e2a := (n2.below hq).c0; have e2b := (n2.below hq).c1; have e2c := (n2.below hq).c2; have e2d := (n2.below hq).c3; have e3a := (n3.below hq).c0; have e3b := (n3.below hq).c1; have e3c := (n3.below hq).c2; have e3d := (n3.below hq).c3; have f3a := (n3.below hq).f0; have f3b := (n3.below hq).f1; have f3c := (n3.below hq).f2; have f3d := (n3.below hq).f3))
  all_goals go_wp2_with fail
  have hq2 := M1.out.2.2.trans (hq.mono M1.out.2.2.size)
  have hge := M1.out.ge 2 rfl
  exact bodyPost_ret (v := .agg #[.bool s91, .slice a91 l91 c91, .bool t91, .slice b91 k91 d91]) (by simp [results, Tryz.results28, go_sem, e3a, e3b, e3c, e3d]) rfl ⟨_, rfl, hu2.put4 (n3.below hq) rfl rfl rfl rfl _ _ _ _, below_put4 hq2 hge _ _ _ _⟩
end Go.Proofs.YtcahodpphikgnaaGreatDoor
namespace Go.Proofs.YtcahodpphikgnaaGreatDoor
open Go.RowKit Go.Shelf

attribute [local go_sem] Oper.semAt_some

/-- The text of a fraction. -/
def textQ (q : Rat) : List UInt8 := if q.den = 1 then decZ q.num else decZ q.num ++ 47 :: decZ (q.den : Int)

theorem ba_append (a b : List UInt8) : (⟨a.toArray⟩ : ByteArray) ++ ⟨b.toArray⟩ = ⟨(a ++ b).toArray⟩ := by
  apply ByteArray.ext
  simp

theorem decZ_len (z : Int) : (decZ z).length ≤ 20 * (limbs B64 z.natAbs).length + 2 := by
  have h := decN_len z.natAbs
  unfold decZ
  split
  · rw [List.length_cons]; omega
  · omega

theorem decZ_size {z : Int} (h : Sok z) : (⟨(decZ z).toArray⟩ : ByteArray).size ≤ 1000000000 := by
  have h1 := decZ_len z
  have h2 := h.words
  show (decZ z).toArray.size ≤ _
  rw [List.size_toArray]; omega

theorem slash_text (a b : List UInt8) : (⟨a.toArray⟩ : ByteArray) ++ ⟨#[47]⟩ ++ ⟨b.toArray⟩ = ⟨(a ++ 47 :: b).toArray⟩ := by
  have e : (⟨#[47]⟩ : ByteArray) = ⟨([47] : List UInt8).toArray⟩ := rfl
  rw [e, ba_append, ba_append, List.append_assoc]
  rfl

theorem decZ_one {z : Int} : decZ z = [49] ↔ z = 1 := by
  have h0 : decZ (valZ [49]) = [49] := good_dec (by decide)
  have h1 : valZ [49] = 1 := by decide
  rw [h1] at h0
  constructor
  · intro h
    have h2 := (dec_good (z := z) (by rw [h]; decide)).2
    rw [h, h1] at h2
    exact h2.symm
  · intro h; rw [h]; exact h0

set_option maxRecDepth 100000 in
set_option maxHeartbeats 4000000 in
theorem qtext_c (va : Value) (q : Rat) (w : World) (ha : IsRat w va q) (hsq : Sq q) (htab : Lib.TabIs Tryz.prog w "internal/strconv.uint64pow10" .u64 Lib.pow10Tab) :
    Calls Tryz.prog 11 #[va] w fun e w' => e = .returned (.string ⟨(textQ q).toArray⟩) ∧ Below w.heap.size w w' := by
  obtain ⟨S1, hS1⟩ : ∃ S : ByteArray, ⟨(decZ q.num).toArray⟩ = S := ⟨_, rfl⟩
  have zS1 : S1.size ≤ 1000000000 := by rw [← hS1]; exact decZ_size hsq.num
  have HS1 := hidD hS1
  clear hS1
  obtain ⟨S2, hS2⟩ : ∃ S : ByteArray, ⟨(decZ (q.den : Int)).toArray⟩ = S := ⟨_, rfl⟩
  have zS2 : S2.size ≤ 1000000000 := by rw [← hS2]; exact decZ_size hsq.den
  have HS2 := hidD hS2
  clear hS2
  have HT := hidD htab
  clear htab
  by_cases hd : q.den = 1
  · have HD := hidD hd
    have HR := hidD (show (⟨(textQ q).toArray⟩ : ByteArray) = S1 by rw [← HS1.out]; unfold textQ; rw [if_pos hd])
    rw [HR.out]
    clear hd
    obtain ⟨s900, a900, l900, c900, t900, b900, k900, d900, rfl⟩ := IsRat.form ha
    have M0 := ((Mem.nil w).push (.rat (q)) ha)
    have M0 : Mem w (w.alloc (.cells #[.bool s900, .slice a900 l900 c900, .bool t900, .slice b900 k900 d900] 27)) [some (w.heap.size, .rat (q))] := M0
    obtain ⟨W0, hW0⟩ : ∃ W0, w.alloc (.cells #[.bool s900, .slice a900 l900 c900, .bool t900, .slice b900 k900 d900] 27) = W0 := ⟨_, rfl⟩
    have HW0 := hidD hW0
    rw [hW0] at M0
    have M1 : Hid (Mem w W0 [some (w.heap.size, .rat (q))]) := hidD M0
    have HHSQ := hidD hsq
    clear M0 hW0 ha hsq
    go_enter Tryz.func11, Tryz.ntmps11
    go_upto_region 1 with fail
    rw [HW0.out]
    clear HW0
    obtain ⟨s1, a1, l1, c1, t1, b1, k1, d1, n1, r1, i1, j1⟩ := M1.out.rat (i := 0) rfl
    have e1a := n1.c0
    have e1b := n1.c1
    have e1c := n1.c2
    have e1d := n1.c3
    have H1 := hidD (isWhole_c _ q W0 r1)
    rw [decide_eq_true HD.out] at H1
    have H2 := hidD (fun (V : World) (h : Below W0.heap.size W0 V) => itext_c _ q.num V (i1.below h) (tab_below HT.out (M1.out.2.2.trans (h.mono M1.out.2.2.size))))
    rw [HS1.out] at H2
    go_wp2_with (first
      | (go_at_call 47; refine H1.out.mono ?_; clear H1; rintro e w1 ⟨rfl, hq⟩; have e1a := (n1.below hq).c0; have e1b := (n1.below hq).c1; have e1c := (n1.below hq).c2; have e1d := (n1.below hq).c3)
      | (go_at_call 13; refine (H2.out _ hq).mono ?_; clear H2; rintro e w2 ⟨rfl, hb2⟩; have hq := Below.then hq hb2))
    go_ret
    exact ⟨rfl, M1.out.2.2.trans (hq.mono M1.out.2.2.size)⟩
  · have HD := hidD hd
    have HR := hidD (show (⟨(textQ q).toArray⟩ : ByteArray) = S1 ++ ⟨#[47]⟩ ++ S2 by rw [← HS1.out, ← HS2.out, slash_text]; unfold textQ; rw [if_neg hd])
    rw [HR.out]
    have HZ := hidD (show denZ q = q.den by unfold denZ; rw [if_neg hd])
    clear hd
    have y1 : ¬ 9223372036854775807 < S1.size + 1 := by omega
    have y2 : ¬ 9223372036854775807 < S1.size + 1 + S2.size := by omega
    obtain ⟨s900, a900, l900, c900, t900, b900, k900, d900, rfl⟩ := IsRat.form ha
    have M0 := ((Mem.nil w).push (.rat (q)) ha)
    have M0 : Mem w (w.alloc (.cells #[.bool s900, .slice a900 l900 c900, .bool t900, .slice b900 k900 d900] 27)) [some (w.heap.size, .rat (q))] := M0
    obtain ⟨W0, hW0⟩ : ∃ W0, w.alloc (.cells #[.bool s900, .slice a900 l900 c900, .bool t900, .slice b900 k900 d900] 27) = W0 := ⟨_, rfl⟩
    have HW0 := hidD hW0
    rw [hW0] at M0
    have M1 : Hid (Mem w W0 [some (w.heap.size, .rat (q))]) := hidD M0
    have HHSQ := hidD hsq
    clear M0 hW0 ha hsq
    go_enter Tryz.func11, Tryz.ntmps11
    go_upto_region 1 with fail
    rw [HW0.out]
    clear HW0
    obtain ⟨s1, a1, l1, c1, t1, b1, k1, d1, n1, r1, i1, j1⟩ := M1.out.rat (i := 0) rfl
    have e1a := n1.c0
    have e1b := n1.c1
    have e1c := n1.c2
    have e1d := n1.c3
    have H1 := hidD (isWhole_c _ q W0 r1)
    rw [decide_eq_false HD.out] at H1
    go_upto_region 3 with (go_at_call 47; refine H1.out.mono ?_; clear H1; rintro e w1 ⟨rfl, hb1⟩)
    have M2 : Hid (Mem w w1 [some (w.heap.size, .rat (q))]) := hidD (M1.out.below hb1)
    clear M1
    clear n1 e1a e1b e1c e1d i1 r1 j1 hb1
    obtain ⟨s2, a2, l2, c2, t2, b2, k2, d2, n2, r2, i2, j2⟩ := M2.out.rat (i := 0) rfl
    have e2a := n2.c0
    have e2b := n2.c1
    have e2c := n2.c2
    have e2d := n2.c3
    have H2 := hidD (fun (V : World) (h : Below w1.heap.size w1 V) => (by have h1 := itext_c _ q.num V (i2.below h) (tab_below HT.out (M2.out.2.2.trans (h.mono M2.out.2.2.size))); rw [HS1.out] at h1; exact h1))
    have H6 := hidD (fun (V : World) (h : Below w1.heap.size w1 V) => (by have h0 := (j2.below h); rw [HZ.out] at h0; have h1 := itext_c _ (q.den : Int) V h0 (tab_below HT.out (M2.out.2.2.trans (h.mono M2.out.2.2.size))); rw [HS2.out] at h1; exact h1))
    have hq : Below w1.heap.size w1 w1.drew := (Below.refl _ w1).drew
    go_region_held3 (fun w' => w'.cell? ⟨w.heap.size, 0, none⟩ = some (.bool s2) ∧ w'.cell? ⟨w.heap.size, 1, none⟩ = some (.slice a2 l2 c2) ∧ w'.cell? ⟨w.heap.size, 2, none⟩ = some (.bool t2) ∧ w'.cell? ⟨w.heap.size, 3, none⟩ = some (.slice b2 k2 d2)) (first | (with_reducible exact ⟨e2a, e2b, e2c, e2d⟩) | (go_keep; done) | (refine ⟨?_, ?_, ?_, ?_⟩ <;> ((repeat rw [cell_set_nb (by omega)]); first | assumption | (go_keep; done))))
      (first
        | (go_at_call 13; refine (H2.out _ hq ).mono ?_; clear H2; rintro e w2 ⟨rfl, hb2⟩; have hq := Below.then hq hb2; have e2a := (n2.below hq).c0; have e2b := (n2.below hq).c1; have e2c := (n2.below hq).c2; have e2d := (n2.below hq).c3)
        | (go_at_call 13; refine (H6.out _ hq ).mono ?_; clear H6; rintro e w6 ⟨rfl, hb6⟩; have hq := Below.then hq hb6; have e2a := (n2.below hq).c0; have e2b := (n2.below hq).c1; have e2c := (n2.below hq).c2; have e2d := (n2.below hq).c3))
    all_goals go_wp2_with fail
    go_ret
    exact ⟨rfl, M2.out.2.2.trans (hq.mono M2.out.2.2.size)⟩

set_option maxRecDepth 100000 in
set_option maxHeartbeats 4000000 in
theorem stext_c (va : Value) (q : Rat) (w : World) (ha : IsRef w va q) (hsq : Sq q) :
    Calls Tryz.prog 12 #[va] w fun e w' => e = .returned (.string ⟨(textQ q).toArray⟩) ∧ Below w.heap.size w w' := by
  obtain ⟨S1, hS1⟩ : ∃ S : ByteArray, ⟨(decZ q.num).toArray⟩ = S := ⟨_, rfl⟩
  have zS1 : S1.size ≤ 1000000000 := by rw [← hS1]; exact decZ_size hsq.num
  have HS1 := hidD hS1
  clear hS1
  obtain ⟨S2, hS2⟩ : ∃ S : ByteArray, ⟨(decZ (q.den : Int)).toArray⟩ = S := ⟨_, rfl⟩
  have zS2 : S2.size ≤ 1000000000 := by rw [← hS2]; exact decZ_size hsq.den
  have HS2 := hidD hS2
  clear hS2
  have HSQ := hidD hsq
  clear hsq
  by_cases hd : q.den = 1
  · have HD := hidD hd
    have HR := hidD (show (⟨(textQ q).toArray⟩ : ByteArray) = S1 by rw [← HS1.out]; unfold textQ; rw [if_pos hd])
    rw [HR.out]
    have hS2 : S2 = ⟨#[49]⟩ := by rw [← HS2.out, hd, show decZ ((1 : Nat) : Int) = [49] from decZ_one.2 rfl]
    subst hS2
    clear hd
    obtain ⟨a900, l900, c900, s900, b900, k900, d900, t900, rfl⟩ := IsRef.form ha
    have M0 := ((Mem.nil w).push (.ref (q)) ha)
    have M0 : Mem w (w.alloc (.cells #[.slice a900 l900 c900, .bool s900, .slice b900 k900 d900, .bool t900] 34)) [some (w.heap.size, .ref (q))] := M0
    obtain ⟨W0, hW0⟩ : ∃ W0, w.alloc (.cells #[.slice a900 l900 c900, .bool s900, .slice b900 k900 d900, .bool t900] 34) = W0 := ⟨_, rfl⟩
    have HW0 := hidD hW0
    rw [hW0] at M0
    have M1 : Hid (Mem w W0 [some (w.heap.size, .ref (q))]) := hidD M0
    clear M0 hW0 ha 
    go_enter Tryz.func12, Tryz.ntmps12
    go_upto_region 1 with fail
    rw [HW0.out]
    clear HW0
    obtain ⟨a1, l1, c1, s1, b1, k1, d1, t1, n1, r1, i1, j1⟩ := M1.out.ref (i := 0) rfl
    have e1a := n1.c0
    have e1b := n1.c1
    have e1c := n1.c2
    have e1d := n1.c3
    have H1 := hidD (text_c _ q.num W0 i1 (by have := HSQ.out.num.size; omega))
    rw [HS1.out] at H1
    have H2 := hidD (fun (V : World) (h : Below W0.heap.size W0 V) => text_c _ (q.den : Int) V (j1.below h) (by have := HSQ.out.den.size; omega))
    rw [HS2.out] at H2
    go_wp2_with (first
      | (go_at_call 14; refine H1.out.mono ?_; clear H1; rintro e w1 ⟨rfl, hq⟩; have e1a := (n1.below hq).c0; have e1b := (n1.below hq).c1; have e1c := (n1.below hq).c2; have e1d := (n1.below hq).c3)
      | (go_at_call 14; refine (H2.out _ hq).mono ?_; clear H2; rintro e w2 ⟨rfl, hb2⟩; have hq := Below.then hq hb2))
    go_ret
    exact ⟨rfl, M1.out.2.2.trans (hq.mono M1.out.2.2.size)⟩
  · have HD := hidD hd
    have HR := hidD (show (⟨(textQ q).toArray⟩ : ByteArray) = S1 ++ ⟨#[47]⟩ ++ S2 by rw [← HS1.out, ← HS2.out, slash_text]; unfold textQ; rw [if_neg hd])
    rw [HR.out]
    have hS2 : ¬ S2 = ⟨#[49]⟩ := by
      intro h
      rw [← HS2.out] at h
      have h1 : decZ (q.den : Int) = [49] := by have := congrArg (fun b : ByteArray => b.data.toList) h; simpa using this
      have := decZ_one.1 h1
      omega
    have hS3 : (S2.toList == [49]) = false := by
      rw [beq_eq_false_iff_ne]
      intro h
      rw [ByteArray.toList_eq] at h
      exact hS2 (ByteArray.ext (by show S2.data = ([49] : List UInt8).toArray; rw [← h]))
    clear hd
    obtain ⟨a900, l900, c900, s900, b900, k900, d900, t900, rfl⟩ := IsRef.form ha
    have M0 := ((Mem.nil w).push (.ref (q)) ha)
    have M0 : Mem w (w.alloc (.cells #[.slice a900 l900 c900, .bool s900, .slice b900 k900 d900, .bool t900] 34)) [some (w.heap.size, .ref (q))] := M0
    obtain ⟨W0, hW0⟩ : ∃ W0, w.alloc (.cells #[.slice a900 l900 c900, .bool s900, .slice b900 k900 d900, .bool t900] 34) = W0 := ⟨_, rfl⟩
    have HW0 := hidD hW0
    rw [hW0] at M0
    have M1 : Hid (Mem w W0 [some (w.heap.size, .ref (q))]) := hidD M0
    clear M0 hW0 ha 
    go_enter Tryz.func12, Tryz.ntmps12
    go_upto_region 1 with fail
    rw [HW0.out]
    clear HW0
    obtain ⟨a1, l1, c1, s1, b1, k1, d1, t1, n1, r1, i1, j1⟩ := M1.out.ref (i := 0) rfl
    have e1a := n1.c0
    have e1b := n1.c1
    have e1c := n1.c2
    have e1d := n1.c3
    have H1 := hidD (text_c _ q.num W0 i1 (by have := HSQ.out.num.size; omega))
    rw [HS1.out] at H1
    have H2 := hidD (fun (V : World) (h : Below W0.heap.size W0 V) => text_c _ (q.den : Int) V (j1.below h) (by have := HSQ.out.den.size; omega))
    rw [HS2.out] at H2
    go_wp2_with (first
      | (go_at_call 14; refine H1.out.mono ?_; clear H1; rintro e w1 ⟨rfl, hq⟩; have e1a := (n1.below hq).c0; have e1b := (n1.below hq).c1; have e1c := (n1.below hq).c2; have e1d := (n1.below hq).c3)
      | (go_at_call 14; refine (H2.out _ hq).mono ?_; clear H2; rintro e w2 ⟨rfl, hb2⟩; have hq := Below.then hq hb2))
    go_ret
    exact ⟨rfl, M1.out.2.2.trans (hq.mono M1.out.2.2.size)⟩
end Go.Proofs.YtcahodpphikgnaaGreatDoor
namespace Go.Proofs.YtcahodpphikgnaaGreatDoor
open Go.RowKit Go.Shelf

attribute [local go_sem] Oper.semAt_some

theorem dd_ne (y : Int) : dd y ≠ 0 := by unfold dd; split <;> omega

set_option maxRecDepth 100000 in
set_option maxHeartbeats 4000000 in
theorem floor_p (va : Value) (x y : Int) (w : World) (ha : IsPair w va x y) (hsx : Sok x) (hsy : Sok (dd y)) :
    Calls Tryz.prog 15 #[va] w fun e w' => ∃ u, e = .returned u ∧ IsInt w' u (x / dd y) ∧ Below w.heap.size w w' := by
  have hmx : Tryz.prog.follows .mixedOrders = true := by kernel_rfl
  obtain ⟨s900, a900, l900, c900, t900, b900, k900, d900, rfl⟩ := IsPair.form ha
  have M0 := (((Mem.nil w).push (.pair (x) (y)) ha).push (.int 0) (int0 _))
  simp only [World.size_alloc] at M0
  have M0 : Mem w ((w.alloc (.cells #[.bool s900, .slice a900 l900 c900, .bool t900, .slice b900 k900 d900] 27)).alloc (.cells #[.bool false, .slice none 0 0] 25)) [some (w.heap.size, .pair (x) (y)), some (w.heap.size + 1, .int (0))] := M0
  obtain ⟨W0, hW0⟩ : ∃ W0, (w.alloc (.cells #[.bool s900, .slice a900 l900 c900, .bool t900, .slice b900 k900 d900] 27)).alloc (.cells #[.bool false, .slice none 0 0] 25) = W0 := ⟨_, rfl⟩
  have HW0 := hidD hW0
  rw [hW0] at M0
  have M1 : Hid (Mem w W0 [some (w.heap.size, .pair (x) (y)), some (w.heap.size + 1, .int (0))]) := hidD M0
  have HHSX := hidD hsx
  have HHSY := hidD hsy
  clear M0 hW0 ha hsx hsy
  go_enter Tryz.func15, Tryz.ntmps15
  go_upto_region 1 with fail
  rw [HW0.out]
  clear HW0
  refine wp_region_tab hmx [[], [0], [], [2], [1, 3, 3], [4], [5], [5], [5], [], [], [9, 6, 4, 0, 1, 2, 3, 4, 5, 6, 9, 10], [10, 7, 11, 0, 1, 2, 3, 4, 5, 6, 7, 9, 10, 11], [8, 12, 0, 1, 2, 3, 4, 5, 6, 7, 8, 9, 10, 11, 12]] (by kernel_rfl) (by decide)
    (fun D act V => ∃ (t7x t8x t9x t10x t11x t6x t12x t13x t14x t3x t4x t5x : Value) (x9 x10 : Option (Nat × Dat)), act = { tmps := #[Value.agg #[Value.bool s900, Value.slice a900 l900 c900, Value.bool t900, Value.slice b900 k900 d900], Value.pointer (some { block := w.heap.size, off := 0 }), Value.pointer (some { block := w.heap.size + 1, off := 0 }), t3x, t4x, t5x, t6x, t7x, t8x, t9x, t10x, t11x, t12x, t13x, t14x, undef], defers := [] } ∧ Hid ((D 0 = true → t7x = .pointer (some ⟨w.heap.size, 0, none⟩)) ∧ (D 1 = true → Has V t8x (.int (x))) ∧ (D 2 = true → Has V t9x (.pair (x) (y))) ∧ (D 3 = true → Has V t10x (.int (dd y))) ∧ (D 4 = true → Tup2 V t11x (.int (x / dd y)) (.int (x % dd y))) ∧ (D 5 = true → Tup2 V t6x (.int (x / dd y)) (.int (x % dd y))) ∧ (D 6 = true → Has V t12x (.int (x / dd y))) ∧ (D 7 = true → Has V t13x (.int (x % dd y))) ∧ (D 8 = true → t14x = .bool true) ∧ ((D 9 = false → x9 = none) ∧ (D 9 = true → D 11 = false → ∃ B : Nat, t3x = .pointer (some ⟨B, 0, none⟩) ∧ x9 = some (B, .int 0)) ∧ (D 11 = true → ∃ B : Nat, t3x = .pointer (some ⟨B, 0, none⟩) ∧ x9 = some (B, .int (x / dd y)))) ∧ ((D 10 = false → x10 = none) ∧ (D 10 = true → D 12 = false → ∃ B : Nat, t4x = .pointer (some ⟨B, 0, none⟩) ∧ x10 = some (B, .int 0)) ∧ (D 12 = true → ∃ B : Nat, t4x = .pointer (some ⟨B, 0, none⟩) ∧ x10 = some (B, .int (x % dd y)))) ∧ (D 13 = true → t5x = .bool true)) ∧ Hid (Mem w V [some (w.heap.size, .pair (x) (y)), some (w.heap.size + 1, .int (0)), x9, x10]))
    ⟨_, _, _, _, _, _, _, _, _, _, _, _, none, none, rfl, hidD ⟨by simp, by simp, by simp, by simp, by simp, by simp, by simp, by simp, by simp, by simp, by simp, by simp⟩, hidD (((M1.out).none).none).drew⟩ ?step1 ?fin1
  case step1 =>
    rintro D act V i ds hcl hi hds hDi ⟨t7x, t8x, t9x, t10x, t11x, t6x, t12x, t13x, t14x, t3x, t4x, t5x, x9, x10, rfl, GG, MM⟩
    have hi6 : i < 14 := (List.getElem?_eq_some_iff.1 hi).1
    obtain rfl | rfl | rfl | rfl | rfl | rfl | rfl | rfl | rfl | rfl | rfl | rfl | rfl | rfl : i = 0 ∨ i = 1 ∨ i = 2 ∨ i = 3 ∨ i = 4 ∨ i = 5 ∨ i = 6 ∨ i = 7 ∨ i = 8 ∨ i = 9 ∨ i = 10 ∨ i = 11 ∨ i = 12 ∨ i = 13 := by omega
    all_goals
      simp only [List.getElem?_cons_zero, List.getElem?_cons_succ, Option.some.injEq] at hi
      subst hi
    · clear hds
      refine wpOp_go rfl rfl (fun K hK => ?_)
      go_simp
      exact hK _ _ ⟨_, _, _, _, _, _, _, _, _, _, _, _, _, _, rfl, hidD ⟨fun _ => rfl, GG.out.2.1, GG.out.2.2.1, GG.out.2.2.2.1, GG.out.2.2.2.2.1, GG.out.2.2.2.2.2.1, GG.out.2.2.2.2.2.2.1, GG.out.2.2.2.2.2.2.2.1, GG.out.2.2.2.2.2.2.2.2.1, GG.out.2.2.2.2.2.2.2.2.2.1, GG.out.2.2.2.2.2.2.2.2.2.2.1, GG.out.2.2.2.2.2.2.2.2.2.2.2⟩, hidD (MM.out)⟩
    · obtain rfl := (GG.out.1 (hds 0 (by simp)))
      clear hds
      obtain ⟨s, a, l, c, t, b, k, d, n, r, i, j⟩ := MM.out.pair (i := 0) rfl
      have e0 := n.c0
      have e1 := n.c1
      have e2 := n.c2
      have e3 := n.c3
      refine wpOp_go rfl rfl (fun K hK => ?_)
      go_simp
      exact hK _ _ ⟨_, _, _, _, _, _, _, _, _, _, _, _, _, _, rfl, hidD ⟨fun _ => rfl, fun _ => i, GG.out.2.2.1, GG.out.2.2.2.1, GG.out.2.2.2.2.1, GG.out.2.2.2.2.2.1, GG.out.2.2.2.2.2.2.1, GG.out.2.2.2.2.2.2.2.1, GG.out.2.2.2.2.2.2.2.2.1, GG.out.2.2.2.2.2.2.2.2.2.1, GG.out.2.2.2.2.2.2.2.2.2.2.1, GG.out.2.2.2.2.2.2.2.2.2.2.2⟩, hidD (MM.out)⟩
    · clear hds
      obtain ⟨s, a, l, c, t, b, k, d, n, r, i, j⟩ := MM.out.pair (i := 0) rfl
      have e0 := n.c0
      have e1 := n.c1
      have e2 := n.c2
      have e3 := n.c3
      refine wpOp_go rfl rfl (fun K hK => ?_)
      go_simp
      exact hK _ _ ⟨_, _, _, _, _, _, _, _, _, _, _, _, _, _, rfl, hidD ⟨GG.out.1, GG.out.2.1, fun _ => r, GG.out.2.2.2.1, GG.out.2.2.2.2.1, GG.out.2.2.2.2.2.1, GG.out.2.2.2.2.2.2.1, GG.out.2.2.2.2.2.2.2.1, GG.out.2.2.2.2.2.2.2.2.1, GG.out.2.2.2.2.2.2.2.2.2.1, GG.out.2.2.2.2.2.2.2.2.2.2.1, GG.out.2.2.2.2.2.2.2.2.2.2.2⟩, hidD (MM.out)⟩
    · have h0 := (GG.out.2.2.1 (hds 2 (by simp)))
      have HC := hidD (den_p _ x y V h0)
      clear hds h0
      refine wpOp_go rfl rfl (fun K hK => ?_)
      go_simp
      go_wp2_with (go_at_call 10; refine HC.out.mono ?_; rintro e w5 ⟨v5, rfl, hv5, hb5⟩)
      exact ⟨_, _, _, _, _, _, _, _, _, _, _, _, _, _, rfl, hidD ⟨GG.out.1, fun h => (GG.out.2.1 h).below hb5, fun h => (GG.out.2.2.1 h).below hb5, fun _ => hv5, fun h => (GG.out.2.2.2.2.1 h).below hb5, fun h => (GG.out.2.2.2.2.2.1 h).below hb5, fun h => (GG.out.2.2.2.2.2.2.1 h).below hb5, fun h => (GG.out.2.2.2.2.2.2.2.1 h).below hb5, GG.out.2.2.2.2.2.2.2.2.1, GG.out.2.2.2.2.2.2.2.2.2.1, GG.out.2.2.2.2.2.2.2.2.2.2.1, GG.out.2.2.2.2.2.2.2.2.2.2.2⟩, hidD (MM.out.below hb5)⟩
    · have h0 := (GG.out.2.1 (hds 1 (by simp)))
      have h1 := (GG.out.2.2.2.1 (hds 3 (by simp)))
      have HC := hidD (isplit_c _ _ x (dd y) V h0 h1 (dd_ne y) (by have := HHSX.out.words; omega) (by have := HHSY.out.words; omega))
      clear hds h0 h1
      refine wpOp_go rfl rfl (fun K hK => ?_)
      go_simp
      go_wp2_with (go_at_call 49; refine HC.out.mono ?_; rintro e w5 ⟨v5, v6, rfl, hv5, hv6, hb5⟩)
      exact ⟨_, _, _, _, _, _, _, _, _, _, _, _, _, _, rfl, hidD ⟨GG.out.1, fun h => (GG.out.2.1 h).below hb5, fun h => (GG.out.2.2.1 h).below hb5, fun h => (GG.out.2.2.2.1 h).below hb5, fun _ => ⟨v5, v6, rfl, hv5, hv6⟩, fun h => (GG.out.2.2.2.2.2.1 h).below hb5, fun h => (GG.out.2.2.2.2.2.2.1 h).below hb5, fun h => (GG.out.2.2.2.2.2.2.2.1 h).below hb5, GG.out.2.2.2.2.2.2.2.2.1, GG.out.2.2.2.2.2.2.2.2.2.1, GG.out.2.2.2.2.2.2.2.2.2.2.1, GG.out.2.2.2.2.2.2.2.2.2.2.2⟩, hidD (MM.out.below hb5)⟩
    · have h0 := (GG.out.2.2.2.2.1 (hds 4 (by simp)))
      clear hds
      refine wpOp_go rfl rfl (fun K hK => ?_)
      go_simp
      exact hK _ _ ⟨_, _, _, _, _, _, _, _, _, _, _, _, _, _, rfl, hidD ⟨GG.out.1, GG.out.2.1, GG.out.2.2.1, GG.out.2.2.2.1, GG.out.2.2.2.2.1, fun _ => h0, GG.out.2.2.2.2.2.2.1, GG.out.2.2.2.2.2.2.2.1, GG.out.2.2.2.2.2.2.2.2.1, GG.out.2.2.2.2.2.2.2.2.2.1, GG.out.2.2.2.2.2.2.2.2.2.2.1, GG.out.2.2.2.2.2.2.2.2.2.2.2⟩, hidD (MM.out)⟩
    · obtain ⟨y1, y2, rfl, h1, h2⟩ := (GG.out.2.2.2.2.2.1 (hds 5 (by simp)))
      clear hds
      refine wpOp_go rfl rfl (fun K hK => ?_)
      go_simp
      exact hK _ _ ⟨_, _, _, _, _, _, _, _, _, _, _, _, _, _, rfl, hidD ⟨GG.out.1, GG.out.2.1, GG.out.2.2.1, GG.out.2.2.2.1, GG.out.2.2.2.2.1, GG.out.2.2.2.2.2.1, fun _ => h1, GG.out.2.2.2.2.2.2.2.1, GG.out.2.2.2.2.2.2.2.2.1, GG.out.2.2.2.2.2.2.2.2.2.1, GG.out.2.2.2.2.2.2.2.2.2.2.1, GG.out.2.2.2.2.2.2.2.2.2.2.2⟩, hidD (MM.out)⟩
    · obtain ⟨y1, y2, rfl, h1, h2⟩ := (GG.out.2.2.2.2.2.1 (hds 5 (by simp)))
      clear hds
      refine wpOp_go rfl rfl (fun K hK => ?_)
      go_simp
      exact hK _ _ ⟨_, _, _, _, _, _, _, _, _, _, _, _, _, _, rfl, hidD ⟨GG.out.1, GG.out.2.1, GG.out.2.2.1, GG.out.2.2.2.1, GG.out.2.2.2.2.1, GG.out.2.2.2.2.2.1, GG.out.2.2.2.2.2.2.1, fun _ => h2, GG.out.2.2.2.2.2.2.2.2.1, GG.out.2.2.2.2.2.2.2.2.2.1, GG.out.2.2.2.2.2.2.2.2.2.2.1, GG.out.2.2.2.2.2.2.2.2.2.2.2⟩, hidD (MM.out)⟩
    · obtain ⟨y1, y2, rfl, h1, h2⟩ := (GG.out.2.2.2.2.2.1 (hds 5 (by simp)))
      clear hds
      refine wpOp_go rfl rfl (fun K hK => ?_)
      go_simp
      exact hK _ _ ⟨_, _, _, _, _, _, _, _, _, _, _, _, _, _, rfl, hidD ⟨GG.out.1, GG.out.2.1, GG.out.2.2.1, GG.out.2.2.2.1, GG.out.2.2.2.2.1, GG.out.2.2.2.2.2.1, GG.out.2.2.2.2.2.2.1, GG.out.2.2.2.2.2.2.2.1, fun _ => rfl, GG.out.2.2.2.2.2.2.2.2.2.1, GG.out.2.2.2.2.2.2.2.2.2.2.1, GG.out.2.2.2.2.2.2.2.2.2.2.2⟩, hidD (MM.out)⟩
    · have hf : D 11 = false := by
        cases h : D 11 with
        | false => rfl
        | true => rw [hcl 11 _ rfl h 9 (by simp)] at hDi; cases hDi
      obtain rfl := GG.out.2.2.2.2.2.2.2.2.2.1.1 hDi
      clear hds
      refine wpOp_go rfl rfl (fun K hK => ?_)
      go_simp
      exact hK _ _ ⟨_, _, _, _, _, _, _, _, _, _, _, _, _, _, rfl, hidD ⟨GG.out.1, fun h => (GG.out.2.1 h).alloc _, fun h => (GG.out.2.2.1 h).alloc _, fun h => (GG.out.2.2.2.1 h).alloc _, fun h => (GG.out.2.2.2.2.1 h).alloc _, fun h => (GG.out.2.2.2.2.2.1 h).alloc _, fun h => (GG.out.2.2.2.2.2.2.1 h).alloc _, fun h => (GG.out.2.2.2.2.2.2.2.1 h).alloc _, GG.out.2.2.2.2.2.2.2.2.1, ⟨fun h => by simp at h, fun _ _ => ⟨_, rfl, rfl⟩, fun h => by simp [hf] at h⟩, GG.out.2.2.2.2.2.2.2.2.2.2.1, GG.out.2.2.2.2.2.2.2.2.2.2.2⟩, hidD (MM.out.fill (i := 2) rfl (.int 0) (int0 _))⟩
    · have hf : D 12 = false := by
        cases h : D 12 with
        | false => rfl
        | true => rw [hcl 12 _ rfl h 10 (by simp)] at hDi; cases hDi
      obtain rfl := GG.out.2.2.2.2.2.2.2.2.2.2.1.1 hDi
      clear hds
      refine wpOp_go rfl rfl (fun K hK => ?_)
      go_simp
      exact hK _ _ ⟨_, _, _, _, _, _, _, _, _, _, _, _, _, _, rfl, hidD ⟨GG.out.1, fun h => (GG.out.2.1 h).alloc _, fun h => (GG.out.2.2.1 h).alloc _, fun h => (GG.out.2.2.2.1 h).alloc _, fun h => (GG.out.2.2.2.2.1 h).alloc _, fun h => (GG.out.2.2.2.2.2.1 h).alloc _, fun h => (GG.out.2.2.2.2.2.2.1 h).alloc _, fun h => (GG.out.2.2.2.2.2.2.2.1 h).alloc _, GG.out.2.2.2.2.2.2.2.2.1, GG.out.2.2.2.2.2.2.2.2.2.1, ⟨fun h => by simp at h, fun _ _ => ⟨_, rfl, rfl⟩, fun h => by simp [hf] at h⟩, GG.out.2.2.2.2.2.2.2.2.2.2.2⟩, hidD (MM.out.fill (i := 3) rfl (.int 0) (int0 _))⟩
    · obtain ⟨B, rfl, rfl⟩ := GG.out.2.2.2.2.2.2.2.2.2.1.2.1 (hds 9 (by simp)) hDi
      have hds0 := hds 9 (by simp)
      have hv := (GG.out.2.2.2.2.2.2.1 (hds 6 (by simp)))
      obtain ⟨s1, a1, l1, c1, rfl⟩ := IsInt.form2 (show IsInt V _ _ from hv)
      obtain ⟨s, a, l, c, n, i⟩ := MM.out.int (i := 2) rfl
      have e0 := n.c0
      have f0 := n.f0
      have e1 := n.c1
      have f1 := n.f1
      clear hds
      refine wpOp_go rfl rfl (fun K hK => ?_)
      go_simp
      exact hK _ _ ⟨_, _, _, _, _, _, _, _, _, _, _, _, _, _, rfl, hidD ⟨GG.out.1, fun h => (GG.out.2.1 h).set2 n rfl rfl _ _, fun h => (GG.out.2.2.1 h).set2 n rfl rfl _ _, fun h => (GG.out.2.2.2.1 h).set2 n rfl rfl _ _, fun h => (GG.out.2.2.2.2.1 h).set2 n rfl rfl _ _, fun h => (GG.out.2.2.2.2.2.1 h).set2 n rfl rfl _ _, fun h => (GG.out.2.2.2.2.2.2.1 h).set2 n rfl rfl _ _, fun h => (GG.out.2.2.2.2.2.2.2.1 h).set2 n rfl rfl _ _, GG.out.2.2.2.2.2.2.2.2.1, ⟨fun h => by simp [hds0] at h, fun _ h => by simp at h, fun _ => ⟨B, rfl, rfl⟩⟩, GG.out.2.2.2.2.2.2.2.2.2.2.1, GG.out.2.2.2.2.2.2.2.2.2.2.2⟩, hidD (MM.out.putInt (i := 2) rfl hv)⟩
    · obtain ⟨B, rfl, rfl⟩ := GG.out.2.2.2.2.2.2.2.2.2.2.1.2.1 (hds 10 (by simp)) hDi
      have hds0 := hds 10 (by simp)
      have hv := (GG.out.2.2.2.2.2.2.2.1 (hds 7 (by simp)))
      obtain ⟨s1, a1, l1, c1, rfl⟩ := IsInt.form2 (show IsInt V _ _ from hv)
      obtain ⟨s, a, l, c, n, i⟩ := MM.out.int (i := 3) rfl
      have e0 := n.c0
      have f0 := n.f0
      have e1 := n.c1
      have f1 := n.f1
      clear hds
      refine wpOp_go rfl rfl (fun K hK => ?_)
      go_simp
      exact hK _ _ ⟨_, _, _, _, _, _, _, _, _, _, _, _, _, _, rfl, hidD ⟨GG.out.1, fun h => (GG.out.2.1 h).set2 n rfl rfl _ _, fun h => (GG.out.2.2.1 h).set2 n rfl rfl _ _, fun h => (GG.out.2.2.2.1 h).set2 n rfl rfl _ _, fun h => (GG.out.2.2.2.2.1 h).set2 n rfl rfl _ _, fun h => (GG.out.2.2.2.2.2.1 h).set2 n rfl rfl _ _, fun h => (GG.out.2.2.2.2.2.2.1 h).set2 n rfl rfl _ _, fun h => (GG.out.2.2.2.2.2.2.2.1 h).set2 n rfl rfl _ _, GG.out.2.2.2.2.2.2.2.2.1, GG.out.2.2.2.2.2.2.2.2.2.1, ⟨fun h => by simp [hds0] at h, fun _ h => by simp at h, fun _ => ⟨B, rfl, rfl⟩⟩, GG.out.2.2.2.2.2.2.2.2.2.2.2⟩, hidD (MM.out.putInt (i := 3) rfl hv)⟩
    · obtain rfl := (GG.out.2.2.2.2.2.2.2.2.1 (hds 8 (by simp)))
      clear hds
      refine wpOp_go rfl rfl (fun K hK => ?_)
      go_simp
      exact hK _ _ ⟨_, _, _, _, _, _, _, _, _, _, _, _, _, _, rfl, hidD ⟨GG.out.1, GG.out.2.1, GG.out.2.2.1, GG.out.2.2.2.1, GG.out.2.2.2.2.1, GG.out.2.2.2.2.2.1, GG.out.2.2.2.2.2.2.1, GG.out.2.2.2.2.2.2.2.1, GG.out.2.2.2.2.2.2.2.2.1, GG.out.2.2.2.2.2.2.2.2.2.1, GG.out.2.2.2.2.2.2.2.2.2.2.1, fun _ => rfl⟩, hidD (MM.out)⟩
  rintro D act V2 hDD ⟨t7x, t8x, t9x, t10x, t11x, t6x, t12x, t13x, t14x, t3x, t4x, t5x, x9, x10, rfl, GG, MM⟩
  obtain ⟨B3, rfl, rfl⟩ := GG.out.2.2.2.2.2.2.2.2.2.1.2.2 (hDD 11 (by decide))
  obtain ⟨B4, rfl, rfl⟩ := GG.out.2.2.2.2.2.2.2.2.2.2.1.2.2 (hDD 12 (by decide))
  clear GG hDD M1
  have M2 : Hid (Mem w V2 [some (w.heap.size, .pair (x) (y)), some (w.heap.size + 1, .int (0)), some (B3, .int (x / dd y)), some (B4, .int (x % dd y))]) := MM
  clear MM
  go_upto_region 2 with fail
  obtain ⟨s5, a5, l5, c5, n5, i5⟩ := M2.out.int (i := 2) rfl
  have e5a := n5.c0
  have e5b := n5.c1
  obtain ⟨s6, a6, l6, c6, n6, i6⟩ := M2.out.int (i := 1) rfl
  have e6a := n6.c0
  have e6b := n6.c1
  have f6a := n6.f0
  have f6b := n6.f1
  have hge := M2.out.ge 1 rfl
  have hB := M2.out.2.2
  go_wp2_with fail
  exact bodyPost_ret (v := .agg #[.bool s5, .slice a5 l5 c5]) (by simp [results, Tryz.results15, go_sem, e6a, e6b]) rfl ⟨_, rfl, i5.box n6 rfl rfl, (hB.setCell (p := ⟨_, 0, none⟩) hge _).setCell (p := ⟨_, 1, none⟩) hge _⟩

theorem qfloor_c (va : Value) (q : Rat) (w : World) (ha : IsRat w va q) (hsq : Sq q) :
    Calls Tryz.prog 15 #[va] w fun e w' => ∃ u, e = .returned u ∧ IsInt w' u (q.num / (q.den : Int)) ∧ Below w.heap.size w w' := by
  have h := floor_p va q.num (denZ q) w ha.pair hsq.num (by rw [dd_den]; exact hsq.den)
  rwa [dd_den] at h
end Go.Proofs.YtcahodpphikgnaaGreatDoor
