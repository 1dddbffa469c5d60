import Derived.Test.YteldjhhjnchdeaaGreatDoorK22
import Derived.Test.YteldjhhjnchdeaaGreatDoorK16
import Derived.Test.YteldjhhjnchdeaaGreatDoorK24
import Derived.Deep.RegionHeld3
namespace Go.Proofs.YteldjhhjnchdeaaGreatDoor
open Go.RowKit Go.Shelf

attribute [local go_sem] Oper.semAt_some

set_option maxRecDepth 100000 in
set_option maxHeartbeats 1000000 in
theorem igcd_c (va vb : Value) (x y : Int) (w : World) (ha : IsInt w va x) (hb : IsInt w vb y) (hlx : (limbs B64 x.natAbs).length < 1000000000000) (hly : (limbs B64 y.natAbs).length < 1000000000000) :
    Calls Tryz.prog 90 #[va, vb] w fun e w' => ∃ u, e = .returned u ∧ IsInt w' u (Int.gcd x y : Nat) ∧ Below w.heap.size w w' := by
  obtain ⟨a, la, ca, e0, hu⟩ := ha
  cases e0
  obtain ⟨b, lb, cb, e0, hv⟩ := hb
  cases e0
  have ela := hu.len
  have elb := hv.len
  obtain ⟨s, hs⟩ : ∃ s, decide (x < 0) = s := ⟨_, rfl⟩
  obtain ⟨t, ht⟩ : ∃ t, decide (y < 0) = t := ⟨_, rfl⟩
  rw [hs, ht]
  obtain ⟨W0, hW0⟩ : ∃ W0, ((w.alloc (.cells #[.bool s, .slice a la ca] 63)).alloc (.cells #[.bool t, .slice b lb cb] 63)).alloc (.cells #[.bool false, .slice none 0 0] 63) = W0 := ⟨_, rfl⟩
  have hB0 : Below w.heap.size w W0 := by rw [← hW0]; exact below_3 w _ _ _
  have b0 : Box2 W0 w.heap.size 63 (.bool s) (.slice a la ca) := by rw [← hW0]; exact ((Box2.new w _ _ _).alloc _).alloc _
  have b1 : Box2 W0 (w.heap.size + 1) 63 (.bool t) (.slice b lb cb) := by
    have h := (Box2.new (w.alloc (.cells #[.bool s, .slice a la ca] 63)) 63 (.bool t) (.slice b lb cb)).alloc (.cells #[.bool false, .slice none 0 0] 63)
    rw [World.size_alloc, hW0] at h; exact h
  have bR : Box2 W0 (w.heap.size + 1 + 1) 63 (.bool false) (.slice none 0 0) := by
    have h := Box2.new ((w.alloc (.cells #[.bool s, .slice a la ca] 63)).alloc (.cells #[.bool t, .slice b lb cb] 63)) 63 (.bool false) (.slice none 0 0)
    rw [World.size_alloc, World.size_alloc, hW0] at h; exact h
  have HT := hidD (mgcd_w a la ca b lb cb _ _ W0 (UN.below hu hB0) (UN.below hv hB0) (by rw [ela]; exact hlx) (by rw [elb]; exact hly))
  have HS := hidD (fun (V : World) (u : Value) (hu : UN V u (Nat.gcd x.natAbs y.natAbs)) => show Calls Tryz.prog 119 #[.bool false, u] V fun e w' => ∃ u, e = .returned u ∧ IsInt w' u (Int.gcd x y : Nat) ∧ Below V.heap.size V w' from signed_c false u _ V hu)
  have k1 := b0.c1
  have k3 := b1.c1
  have HW0 := hidD hW0
  clear hu hv hs ht ela elb hlx hly hW0
  go_enter Tryz.func90, Tryz.ntmps90
  go_upto_region 1 with fail
  rw [HW0.out]
  have ne2 : ¬ (w.heap.size = w.heap.size + 1 + 1) := by omega
  go_wp2_with (first
    | (go_at_call 122; refine HT.out.mono ?_; rintro e w1 ⟨u1, rfl, hu1, hb1⟩; obtain ⟨na, nc, rfl⟩ := UN.form hu1)
    | (go_at_call 119; refine (HS.out _ _ hu1).mono ?_; rintro e w2 ⟨u2, rfl, hu2, hb2⟩; obtain ⟨sa, sl, sc, rfl⟩ := hu2.form; obtain ⟨s2, hs2⟩ : ∃ s2, decide (((Int.gcd x y : Nat) : Int) < 0) = s2 := ⟨_, rfl⟩; rw [hs2] at hu2; rw [hs2]; clear hs2; have hq := hb1.trans (hb2.mono hb1.size); have r0 := (bR.below hq).c0; have r1 := (bR.below hq).c1; have f0 := (bR.below hq).f0; have f1 := (bR.below hq).f1))
  have hq2 := hB0.trans (hq.mono hB0.size)
  have hfin := hu2.box (bR.below hq) rfl rfl (x0 := .bool s2) (x1 := .slice sa sl sc)
  exact bodyPost_ret (v := .agg #[.bool s2, .slice sa sl sc]) (by simp [results, Tryz.results90, go_sem, r0, r1]) rfl ⟨_, rfl, hfin, (hq2.setCell (p := ⟨_, 0, none⟩) (by simp only; omega) _).setCell (p := ⟨_, 1, none⟩) (by simp only; omega) _⟩
end Go.Proofs.YteldjhhjnchdeaaGreatDoor
namespace Go.Proofs.YteldjhhjnchdeaaGreatDoor
open Go.RowKit Go.Shelf

attribute [local go_sem] Oper.semAt_some

theorem below_4 (w : World) (o1 o2 o3 o4 : Obj) : Below w.heap.size w ((((w.alloc o1).alloc o2).alloc o3).alloc o4) :=
  ((((Below.refl _ w).alloc (Nat.le_refl _) _).alloc (by simp) _).alloc (by simp; omega) _).alloc (by simp; omega) _

/-- The one quotient with a rest from 0 on. -/
theorem ediv_one {x y z r : Int} (hy : y ≠ 0) (h : r + y * z = x) (h0 : 0 ≤ r) (h1 : r < y.natAbs) : z = x / y ∧ r = x % y := by
  rcases Int.lt_or_gt_of_ne hy with hn | hp
  · have h2 := (Int.ediv_emod_unique (a := x) (b := -y) (r := r) (q := -z) (by omega)).2 ⟨by rw [Int.neg_mul_neg]; exact h, h0, by omega⟩
    rw [Int.ediv_neg, Int.emod_neg] at h2
    exact ⟨by omega, h2.2.symm⟩
  · have h2 := (Int.ediv_emod_unique (a := x) (b := y) (r := r) (q := z) hp).2 ⟨h, h0, by omega⟩
    exact ⟨h2.1.symm, h2.2.symm⟩

/-- Quotient and rest of the sizes, with their signs. -/
theorem split_signs {x y : Int} (hy : y ≠ 0) (hc : ¬ (x < 0 ∧ x.natAbs % y.natAbs ≠ 0)) :
    (if (!(decide (x < 0) == decide (y < 0))) = true then -((x.natAbs / y.natAbs : Nat) : Int) else ((x.natAbs / y.natAbs : Nat) : Int)) = x / y ∧ ((x.natAbs % y.natAbs : Nat) : Int) = x % y := by
  have hm := Nat.div_add_mod x.natAbs y.natAbs
  have hlt := Nat.mod_lt x.natAbs (show y.natAbs > 0 by omega)
  generalize x.natAbs / y.natAbs = Q at *
  generalize x.natAbs % y.natAbs = R at *
  have hm2 : (y.natAbs : Int) * Q + R = x.natAbs := by rw [← hm]; push_cast; rfl
  apply ediv_one hy _ (by omega) (by omega)
  by_cases hx : x < 0 <;> by_cases hy2 : y < 0
  · have hR : R = 0 := by
      rcases Nat.eq_zero_or_pos R with h | h
      · exact h
      · exact absurd ⟨hx, by omega⟩ hc
    have e1 : (y.natAbs : Int) = -y := by omega
    have e2 : (x.natAbs : Int) = -x := by omega
    rw [e1, e2, Int.neg_mul] at hm2
    simp [hx, hy2]
    omega
  · have hR : R = 0 := by
      rcases Nat.eq_zero_or_pos R with h | h
      · exact h
      · exact absurd ⟨hx, by omega⟩ hc
    have e1 : (y.natAbs : Int) = y := by omega
    have e2 : (x.natAbs : Int) = -x := by omega
    rw [e1, e2] at hm2
    simp [hx, hy2, Int.mul_neg]
    omega
  · have e1 : (y.natAbs : Int) = -y := by omega
    have e2 : (x.natAbs : Int) = x := by omega
    rw [e1, e2, Int.neg_mul] at hm2
    simp [hx, hy2, Int.mul_neg]
    omega
  · have e1 : (y.natAbs : Int) = y := by omega
    have e2 : (x.natAbs : Int) = x := by omega
    rw [e1, e2] at hm2
    simp [hx, hy2]
    omega

theorem split_signs_n {x y : Int} (hy : y ≠ 0) (hc : x < 0 ∧ x.natAbs % y.natAbs ≠ 0) :
    (if (!(decide (x < 0) == decide (y < 0))) = true then -((x.natAbs / y.natAbs + 1 : Nat) : Int) else ((x.natAbs / y.natAbs + 1 : Nat) : Int)) = x / y ∧ ((y.natAbs - x.natAbs % y.natAbs : Nat) : Int) = x % y := by
  have hm := Nat.div_add_mod x.natAbs y.natAbs
  have hlt := Nat.mod_lt x.natAbs (show y.natAbs > 0 by omega)
  generalize x.natAbs / y.natAbs = Q at *
  generalize x.natAbs % y.natAbs = R at *
  have hm2 : (y.natAbs : Int) * Q + R = x.natAbs := by rw [← hm]; push_cast; rfl
  obtain ⟨hx, hR⟩ := hc
  apply ediv_one hy _ (by omega) (by omega)
  have e2 : (x.natAbs : Int) = -x := by omega
  by_cases hy2 : y < 0
  · have e1 : (y.natAbs : Int) = -y := by omega
    have e3 : ((y.natAbs - R : Nat) : Int) = -y - R := by omega
    rw [e1, e2, Int.neg_mul] at hm2
    rw [e3]
    simp [hx, hy2, Int.mul_add]
    omega
  · have e1 : (y.natAbs : Int) = y := by omega
    have e3 : ((y.natAbs - R : Nat) : Int) = y - R := by omega
    rw [e1, e2] at hm2
    rw [e3]
    simp [hx, hy2, Int.mul_neg, Int.mul_add]
    omega
end Go.Proofs.YteldjhhjnchdeaaGreatDoor
namespace Go.Proofs.YteldjhhjnchdeaaGreatDoor
open Go.RowKit Go.Shelf

attribute [local go_sem] Oper.semAt_some

theorem box_two {W : World} {B : Nat} {t : TypeId} {v0 v1 u0 u1 : Value} (x0 x1 y0 y1 : Value) (h : Box2 W B t v0 v1) (k : Box2 W (B + 1) t u0 u1) :
    Box2 ((((W.setCell ⟨B, 0, none⟩ x0).setCell ⟨B, 1, none⟩ x1).setCell ⟨B + 1, 0, none⟩ y0).setCell ⟨B + 1, 1, none⟩ y1) B t x0 x1 ∧ Box2 ((((W.setCell ⟨B, 0, none⟩ x0).setCell ⟨B, 1, none⟩ x1).setCell ⟨B + 1, 0, none⟩ y0).setCell ⟨B + 1, 1, none⟩ y1) (B + 1) t y0 y1 :=
  ⟨(((h.set0 x0).set1 x1).far (by simp) y0).far (by simp) y1, (((k.far (by simp) x0).far (by simp) x1).set0 y0).set1 y1⟩

/-- The memory that Split begins with. -/
theorem split_boxes (w : World) (o0 o1 o2 o3 : Value) (p0 p1 : Value) :
    Box2 ((((w.alloc (.cells #[o0, o1] 63)).alloc (.cells #[o2, o3] 63)).alloc (.cells #[p0, p1] 63)).alloc (.cells #[p0, p1] 63)) w.heap.size 63 o0 o1 ∧
    Box2 ((((w.alloc (.cells #[o0, o1] 63)).alloc (.cells #[o2, o3] 63)).alloc (.cells #[p0, p1] 63)).alloc (.cells #[p0, p1] 63)) (w.heap.size + 1) 63 o2 o3 ∧
    Box2 ((((w.alloc (.cells #[o0, o1] 63)).alloc (.cells #[o2, o3] 63)).alloc (.cells #[p0, p1] 63)).alloc (.cells #[p0, p1] 63)) (w.heap.size + 1 + 1) 63 p0 p1 ∧
    Box2 ((((w.alloc (.cells #[o0, o1] 63)).alloc (.cells #[o2, o3] 63)).alloc (.cells #[p0, p1] 63)).alloc (.cells #[p0, p1] 63)) (w.heap.size + 1 + 1 + 1) 63 p0 p1 := by
  refine ⟨(((Box2.new w _ _ _).alloc _).alloc _).alloc _, ?_, ?_, ?_⟩
  · have h := ((Box2.new (w.alloc (.cells #[o0, o1] 63)) 63 o2 o3).alloc (.cells #[p0, p1] 63)).alloc (.cells #[p0, p1] 63)
    rw [World.size_alloc] at h; exact h
  · have h := (Box2.new ((w.alloc (.cells #[o0, o1] 63)).alloc (.cells #[o2, o3] 63)) 63 p0 p1).alloc (.cells #[p0, p1] 63)
    rw [World.size_alloc, World.size_alloc] at h; exact h
  · have h := Box2.new (((w.alloc (.cells #[o0, o1] 63)).alloc (.cells #[o2, o3] 63)).alloc (.cells #[p0, p1] 63)) 63 p0 p1
    rw [World.size_alloc, World.size_alloc, World.size_alloc] at h; exact h

set_option maxRecDepth 100000 in
set_option maxHeartbeats 2000000 in
theorem isplit_0 (va : Value) (x : Int) (b : Option Addr) (cb : Nat) (t : Bool) (w : World) (ha : IsInt w va x) :
    Calls Tryz.prog 123 #[va, .agg #[.bool t, .slice b 0 cb]] w fun e w' => e = .returned (.tuple #[.agg #[.bool false, .slice none 0 0], .agg #[.bool false, .slice none 0 0], .bool false]) ∧ Below w.heap.size w w' := by
  obtain ⟨a, la, ca, e0, hu⟩ := ha
  cases e0
  obtain ⟨s, hs⟩ : ∃ s, decide (x < 0) = s := ⟨_, rfl⟩
  rw [hs]
  obtain ⟨b0, b1, b4, b5⟩ := split_boxes w (.bool s) (.slice a la ca) (.bool t) (.slice b 0 cb) (.bool false) (.slice none 0 0)
  have hB0 := below_4 w (.cells #[.bool s, .slice a la ca] 63) (.cells #[.bool t, .slice b 0 cb] 63) (.cells #[.bool false, .slice none 0 0] 63) (.cells #[.bool false, .slice none 0 0] 63)
  obtain ⟨W0, hW0⟩ : ∃ W0, (((w.alloc (.cells #[.bool s, .slice a la ca] 63)).alloc (.cells #[.bool t, .slice b 0 cb] 63)).alloc (.cells #[.bool false, .slice none 0 0] 63)).alloc (.cells #[.bool false, .slice none 0 0] 63) = W0 := ⟨_, rfl⟩
  rw [hW0] at b0 b1 b4 b5 hB0
  have HW0 := hidD hW0
  have k1 := b1.c1
  have q0 := b4.c0
  have q1 := b4.c1
  have q2 := b5.c0
  have q3 := b5.c1
  have f0 := b4.f0
  have f1 := b4.f1
  have f2 := b5.f0
  have f3 := b5.f1
  clear hW0 hs hu
  go_enter Tryz.func123, Tryz.ntmps123
  go_upto_region 1 with fail
  rw [HW0.out]
  go_wp2_with fail
  obtain ⟨z4, z5⟩ := box_two (.bool false) (.slice none 0 0) (.bool false) (.slice none 0 0) b4 b5
  have z4a := z4.c0
  have z4b := z4.c1
  have z5a := z5.c0
  have z5b := z5.c1
  exact bodyPost_ret (v := .tuple #[.agg #[.bool false, .slice none 0 0], .agg #[.bool false, .slice none 0 0], .bool false]) (by simp [results, Tryz.results123, go_sem, z4a, z4b, z5a, z5b]) rfl ⟨rfl, (((hB0.setCell (p := ⟨_, 0, none⟩) (by simp only; omega) _).setCell (p := ⟨_, 1, none⟩) (by simp only; omega) _).setCell (p := ⟨_, 0, none⟩) (by simp only; omega) _).setCell (p := ⟨_, 1, none⟩) (by simp only; omega) _⟩

set_option maxRecDepth 100000 in
set_option maxHeartbeats 4000000 in
theorem isplit_v (a : Option Addr) (la ca : Nat) (b : Option Addr) (lb cb X Y : Nat) (s t : Bool) (z r : Int) (w : World) (hu : UN w (.slice a la ca) X) (hv : UN w (.slice b lb cb) Y) (hY : Y ≠ 0) (hla : la < 1000000000000) (hlb : lb < 1000000000000)
    (HP : Hid (¬ (s = true ∧ X % Y ≠ 0) → (if (!(s == t)) = true then -((X / Y : Nat) : Int) else ((X / Y : Nat) : Int)) = z ∧ ((X % Y : Nat) : Int) = r))
    (HN : Hid (s = true ∧ X % Y ≠ 0 → (if (!(s == t)) = true then -((X / Y + 1 : Nat) : Int) else ((X / Y + 1 : Nat) : Int)) = z ∧ ((Y - X % Y : Nat) : Int) = r)) :
    Calls Tryz.prog 123 #[.agg #[.bool s, .slice a la ca], .agg #[.bool t, .slice b lb cb]] w fun e w' => ∃ q o, e = .returned (.tuple #[q, o, .bool true]) ∧ IsInt w' q z ∧ IsInt w' o r ∧ Below w.heap.size w w' := by
  obtain ⟨b0, b1, b4, b5⟩ := split_boxes w (.bool s) (.slice a la ca) (.bool t) (.slice b lb cb) (.bool false) (.slice none 0 0)
  have hB0 := below_4 w (.cells #[.bool s, .slice a la ca] 63) (.cells #[.bool t, .slice b lb cb] 63) (.cells #[.bool false, .slice none 0 0] 63) (.cells #[.bool false, .slice none 0 0] 63)
  obtain ⟨W0, hW0⟩ : ∃ W0, (((w.alloc (.cells #[.bool s, .slice a la ca] 63)).alloc (.cells #[.bool t, .slice b lb cb] 63)).alloc (.cells #[.bool false, .slice none 0 0] 63)).alloc (.cells #[.bool false, .slice none 0 0] 63) = W0 := ⟨_, rfl⟩
  rw [hW0] at b0 b1 b4 b5 hB0
  have HW0 := hidD hW0
  have hlb0 : lb ≠ 0 := fun e => hY ((limbs_eq_nil two_le_B64).1 (List.eq_nil_of_length_eq_zero (by rw [← UN.len hv, e])))
  have hu0 := UN.below hu hB0
  have hv0 := UN.below hv hB0
  have HSP := hidD (msplit_w a la ca b lb cb X Y W0 hu0 hv0 hY (by omega))
  have HV0 := hidD hv0
  have HLX := hidD (UN.len hu).symm
  have k0 := b0.c0
  have k1 := b0.c1
  have k2 := b1.c0
  have k3 := b1.c1
  clear hW0 hu hv hu0 hv0
  go_enter Tryz.func123, Tryz.ntmps123
  go_upto_region 1 with fail
  rw [HW0.out]
  go_upto_region 4 with (go_at_call 146; refine HSP.out.mono ?_; rintro e w1 ⟨u1, v1, rfl, hu1, hv1, hb1⟩; obtain ⟨ua, uc, rfl⟩ := UN.form hu1; obtain ⟨va, vc, rfl⟩ := UN.form hv1)
  clear HSP HW0
  have k0 := (b0.below hb1).c0
  have k1 := (b0.below hb1).c1
  have k2 := (b1.below hb1).c0
  have k3 := (b1.below hb1).c1
  have hlr : (limbs B64 (X % Y)).length = 0 ↔ X % Y = 0 := ⟨fun h => (limbs_eq_nil two_le_B64).1 (List.eq_nil_of_length_eq_zero h), fun h => by rw [h, limbs_zero]; rfl⟩
  have hmod := Nat.mod_lt X (show Y > 0 by omega)
  have hlu := wlimbs_mono (m := X) (n := X / Y) (Nat.div_le_self _ _)
  have hlX : (limbs B64 (X / Y)).length < 1099511627776 := by
    have h1 := (row_fn hu1).2.2.2.1
    have : (limbs B64 X).length = la := by
      have h := HLX.out
      omega
    omega
  obtain ⟨lr, hlre⟩ : ∃ lr, (limbs B64 (X % Y)).length = lr := ⟨_, rfl⟩
  obtain ⟨lq, hlqe⟩ : ∃ lq, (limbs B64 (X / Y)).length = lq := ⟨_, rfl⟩
  rw [hlre] at hv1 hlr ⊢
  rw [hlqe] at hu1 hlX ⊢
  obtain ⟨cd, hcd⟩ : ∃ cd : Bool, (s && decide (0 < lr)) = cd := ⟨_, rfl⟩
  have HCD := hidD hcd
  have HLR := hidD hlr
  clear hcd hlr hlre hlqe
  go_cut [29] (fun v w2 => v = .bool cd ∧ w2 = w1)
  case first =>
    cases s with
    | false =>
      have e5 : cd = false := by rw [← HCD.out]; rfl
      go_wp2_with fail
      go_meet
      case rel => exact ⟨by rw [e5], rfl⟩
    | true =>
      by_cases h5 : 0 < lr
      · have e5 : cd = true := by rw [← HCD.out]; simp; omega
        go_wp2_with fail
        go_meet
        case rel => exact ⟨by rw [e5], rfl⟩
      · have e5 : cd = false := by rw [← HCD.out]; simp; omega
        go_wp2_with fail
        go_meet
        case rel => exact ⟨by rw [e5], rfl⟩
  case rest =>
    obtain ⟨rfl, rfl⟩ := hcut
    go_upto_if 29 with fail
    go_cut [7, 8] (fun qv rv w2 => ∃ (qa : Option Addr) (ql qc Q : Nat) (oa : Option Addr) (ol oc R : Nat), qv = .slice qa ql qc ∧ rv = .slice oa ol oc ∧ Hid (UN w2 (.slice qa ql qc) Q) ∧ Hid (UN w2 (.slice oa ol oc) R) ∧ Hid ((if (!(s == t)) = true then -(Q : Int) else (Q : Int)) = z ∧ (R : Int) = r) ∧ Below W0.heap.size W0 w2)
    case first =>
      cases cd with
      | false =>
        have hc : ¬ (s = true ∧ X % Y ≠ 0) := fun ⟨h1, h2⟩ => by
          have h := HCD.out
          rw [h1] at h
          simp at h
          exact h2 (HLR.out.1 h)
        go_wp2_with fail
        go_meet
        case rel => exact ⟨_, _, _, _, _, _, _, _, rfl, rfl, hidD hu1, hidD hv1, hidD (HP.out hc), hb1⟩
      | true =>
        have hc : s = true ∧ X % Y ≠ 0 := by
          have h := HCD.out
          simp at h
          exact ⟨h.1, fun e => by have := HLR.out.2 e; omega⟩
        have HC := hidD hc
        clear hc
        have HPL := hidD (show ∀ V : World, Below wc.heap.size wc V → Calls Tryz.prog 142 #[.slice ua lq uc, .slice (some ⟨V.heap.size, 0, none⟩) 1 1] (V.alloc (.cells #[.int .u64 1] 156)) fun e w' => ∃ u, e = .returned u ∧ UN w' u (X / Y + 1) ∧ Below (V.alloc (.cells #[.int .u64 1] 156)).heap.size (V.alloc (.cells #[.int .u64 1] 156)) w' from fun V h => by
          have hone : Row .u64 (V.alloc (.cells #[.int .u64 1] 156)) (.slice (some ⟨V.heap.size, 0, none⟩) 1 1) (limbs B64 1) := by
            rw [limbs_small (by omega) (by unfold B64; omega)]
            exact (Arr.made (xs := [1]) (World.alloc_heap_new V (.cells #[.int .u64 ((1 : Nat) : Int)] 156))).row 0 1 1 (by simp) (by omega) (by omega) (by omega)
          exact rplus_w ua lq uc (some ⟨V.heap.size, 0, none⟩) 1 1 (X / Y) 1 _ (Row.below (Row.below hu1 h) ((Below.refl _ V).alloc (Nat.le_refl _) _)) hone hlX (by omega))
        have HMI := hidD (fun (V : World) (h : Below wc.heap.size wc V) => rminus_w b lb cb va lr vc Y (X % Y) V (Row.below (Row.below HV0.out hb1) h) (Row.below hv1 h) (by omega))
        have hq : Below wc.heap.size wc wc.drew := (Below.refl _ wc).drew
        have bx := b1.below hb1
        have lx := bx.lt
        go_wp2_with fail
        have k3 := bx.c1
        go_region_held3 (fun w' => w'.cell? ⟨w.heap.size + 1, 1, none⟩ = some (.slice b lb cb)) (first | exact k3 | (go_keep; done))
          (first
            | (go_at_call 142; refine (HPL.out _ hq).mono ?_; rintro e w3 ⟨u3, rfl, hu3, hb3⟩; obtain ⟨pa, pc, rfl⟩ := UN.form hu3; have hq := below_at hq hb3; have k3 := (bx.below hq).c1)
            | (go_at_call 143; refine (HMI.out _ hq).mono ?_; rintro e w4 ⟨u4, rfl, hu4, hb4⟩; obtain ⟨ma, mc, rfl⟩ := UN.form hu4; have hq := hq.trans (hb4.mono hq.size); have k3 := (bx.below hq).c1))
        all_goals go_wp2_with fail
        go_meet
        case rel => exact ⟨_, _, _, _, _, _, _, _, rfl, rfl, hidD (UN.below hu3 hb4), hidD hu4, hidD (HN.out HC.out), hb1.trans (hq.mono hb1.size)⟩
    case rest =>
      obtain ⟨qa, ql, qc, Q, oa, ol, oc, R, rfl, rfl, hQ, hR, hZ, hb2⟩ := hcut
      have HS1 := hidD (show ∀ V : World, Below wc.heap.size wc V → Calls Tryz.prog 119 #[.bool (!(s == t)), .slice qa ql qc] V fun e w' => ∃ u, e = .returned u ∧ IsInt w' u z ∧ Below V.heap.size V w' from fun V h => by
        have h1 := signed_c (!(s == t)) _ _ V (UN.below hQ.out h)
        rw [hZ.out.1] at h1
        exact h1)
      have HS2 := hidD (show ∀ V : World, Below wc.heap.size wc V → Calls Tryz.prog 119 #[.bool false, .slice oa ol oc] V fun e w' => ∃ u, e = .returned u ∧ IsInt w' u r ∧ Below V.heap.size V w' from fun V h => by
        have h1 := signed_c false _ _ V (UN.below hR.out h)
        simp only [Bool.false_eq_true, if_false] at h1
        rw [hZ.out.2] at h1
        exact h1)
      have k0 := (b0.below hb2).c0
      have k2 := (b1.below hb2).c0
      go_wp2_with (first
        | (go_at_call 119; refine (HS1.out _ (Below.refl _ _)).mono ?_; clear HS1; rintro e w5 ⟨u5, rfl, hu5, hb5⟩; obtain ⟨a5, l5, c5, rfl⟩ := hu5.form; obtain ⟨s5, hs5⟩ : ∃ q, decide (z < 0) = q := ⟨_, rfl⟩; rw [hs5] at hu5; rw [hs5]; clear hs5)
        | (go_at_call 119; refine (HS2.out _ hb5).mono ?_; clear HS2; rintro e w6 ⟨u6, rfl, hu6, hb6⟩; obtain ⟨a6, l6, c6, rfl⟩ := hu6.form; obtain ⟨s6, hs6⟩ : ∃ q, decide (r < 0) = q := ⟨_, rfl⟩; rw [hs6] at hu6; rw [hs6]; clear hs6; have hq6 := (hb2.trans (hb5.mono hb2.size)).trans (hb6.mono (hb2.trans (hb5.mono hb2.size)).size); have q0 := (b4.below hq6).c0; have q1 := (b4.below hq6).c1; have q2 := (b5.below hq6).c0; have q3 := (b5.below hq6).c1; have f0 := (b4.below hq6).f0; have f1 := (b4.below hq6).f1; have f2 := (b5.below hq6).f0; have f3 := (b5.below hq6).f1))
      have b46 := b4.below hq6
      have b56 := b5.below hq6
      obtain ⟨z4, z5⟩ := box_two (.bool s5) (.slice a5 l5 c5) (.bool s6) (.slice a6 l6 c6) b46 b56
      have z4a := z4.c0
      have z4b := z4.c1
      have z5a := z5.c0
      have z5b := z5.c1
      have b57 : Box2 ((w6.setCell ⟨w.heap.size + 1 + 1, 0, none⟩ (.bool s5)).setCell ⟨w.heap.size + 1 + 1, 1, none⟩ (.slice a5 l5 c5)) (w.heap.size + 1 + 1 + 1) 63 (.bool false) (.slice none 0 0) := (b56.far (by simp) _).far (by simp) _
      have hz1 := ((hu5.below hb6).box b46 rfl rfl (x0 := .bool s5) (x1 := .slice a5 l5 c5)).box b57 rfl rfl (x0 := .bool s6) (x1 := .slice a6 l6 c6)
      have hz2 := (hu6.box b46 rfl rfl (x0 := .bool s5) (x1 := .slice a5 l5 c5)).box b57 rfl rfl (x0 := .bool s6) (x1 := .slice a6 l6 c6)
      have hB6 := hB0.trans (hq6.mono hB0.size)
      exact bodyPost_ret (v := .tuple #[.agg #[.bool s5, .slice a5 l5 c5], .agg #[.bool s6, .slice a6 l6 c6], .bool true]) (by simp [results, Tryz.results123, go_sem, z4a, z4b, z5a, z5b]) rfl ⟨_, _, rfl, hz1, hz2, (((hB6.setCell (p := ⟨_, 0, none⟩) (by simp only; omega) _).setCell (p := ⟨_, 1, none⟩) (by simp only; omega) _).setCell (p := ⟨_, 0, none⟩) (by simp only; omega) _).setCell (p := ⟨_, 1, none⟩) (by simp only; omega) _⟩

/-- Quotient and rest. -/
theorem isplit_c (va vb : Value) (x y : Int) (w : World) (ha : IsInt w va x) (hb : IsInt w vb y) (hy : y ≠ 0) (hlx : (limbs B64 x.natAbs).length < 1000000000000) (hly : (limbs B64 y.natAbs).length < 1000000000000) :
    Calls Tryz.prog 123 #[va, vb] w fun e w' => ∃ q o, e = .returned (.tuple #[q, o, .bool true]) ∧ IsInt w' q (x / y) ∧ IsInt w' o (x % y) ∧ Below w.heap.size w w' := by
  obtain ⟨a, la, ca, rfl, hu⟩ := ha
  obtain ⟨b, lb, cb, rfl, hv⟩ := hb
  refine isplit_v a la ca b lb cb x.natAbs y.natAbs _ _ (x / y) (x % y) w hu hv (by omega) (by rw [UN.len hu]; exact hlx) (by rw [UN.len hv]; exact hly) (fun hc => split_signs hy (fun h => hc ⟨decide_eq_true h.1, h.2⟩)) (fun hc => split_signs_n hy ⟨of_decide_eq_true hc.1, hc.2⟩)
end Go.Proofs.YteldjhhjnchdeaaGreatDoor
namespace Go.Proofs.YteldjhhjnchdeaaGreatDoor
open Go.RowKit Go.Shelf

attribute [local go_sem] Oper.semAt_some

theorem cmp_zero (z : Int) : (cmpI z 0 = 0) ↔ z = 0 := by
  unfold cmpI; split <;> (try split) <;> omega

set_option maxRecDepth 100000 in
set_option maxHeartbeats 1000000 in
theorem isZero_c (v : Value) (z : Int) (w : World) (h : IsInt w v z) :
    Calls Tryz.prog 117 #[v] w fun e w' => e = .returned (.bool (decide (z = 0))) ∧ Below w.heap.size w w' := by
  obtain ⟨a, l, c, rfl⟩ := h.form
  obtain ⟨s, hs⟩ : ∃ s, decide (z < 0) = s := ⟨_, rfl⟩
  rw [hs] at h ⊢
  clear hs
  have b0 := Box2.new w 63 (.bool s) (.slice a l c)
  have hB0 : Below w.heap.size w (w.alloc (.cells #[.bool s, .slice a l c] 63)) := (Below.refl _ w).alloc (Nat.le_refl _) _
  obtain ⟨W0, hW0⟩ : ∃ W0, w.alloc (.cells #[.bool s, .slice a l c] 63) = W0 := ⟨_, rfl⟩
  rw [hW0] at b0 hB0
  have HW0 := hidD hW0
  have HO := hidD (iorder_c _ _ z 0 W0 (h.below hB0) (int0 _))
  have k0 := b0.c0
  have k1 := b0.c1
  have HZ := hidD (cmp_zero z)
  obtain ⟨n, hn⟩ : ∃ n, cmpI z 0 = n := ⟨_, rfl⟩
  rw [hn] at HO HZ
  clear hW0 hn
  go_enter Tryz.func117, Tryz.ntmps117
  go_upto_region 1 with fail
  rw [HW0.out]
  go_wp2_with (go_at_call 104; refine HO.out.mono ?_; rintro e w1 ⟨rfl, hb1⟩)
  go_ret
  refine ⟨?_, Below.then hB0 hb1⟩
  show Ending.returned (Value.bool (n == 0)) = _
  have e : (n == 0) = decide (z = 0) := by rw [Bool.eq_iff_iff]; simp [HZ.out]
  rw [e]

/-- What stands below, 1 where 0 stands for it. -/
def dd (y : Int) : Int := if y = 0 then 1 else y

set_option maxRecDepth 100000 in
set_option maxHeartbeats 1000000 in
theorem isWhole_p (v : Value) (x y : Int) (w : World) (h : IsPair w v x y) :
    Calls Tryz.prog 89 #[v] w fun e w' => e = .returned (.bool (decide (y = 0))) ∧ Below w.heap.size w w' := by
  obtain ⟨s, a, l, c, t, b, k, d, rfl, h1, h2⟩ := h
  have b0 := Box4.new w 65 (.bool s) (.slice a l c) (.bool t) (.slice b k d)
  have hB0 : Below w.heap.size w (w.alloc (.cells #[.bool s, .slice a l c, .bool t, .slice b k d] 65)) := (Below.refl _ w).alloc (Nat.le_refl _) _
  obtain ⟨W0, hW0⟩ : ∃ W0, w.alloc (.cells #[.bool s, .slice a l c, .bool t, .slice b k d] 65) = W0 := ⟨_, rfl⟩
  rw [hW0] at b0 hB0
  have HW0 := hidD hW0
  have HO := hidD (isZero_c _ _ W0 (h2.below hB0))
  have k2 := b0.c2
  have k3 := b0.c3
  obtain ⟨n, hn⟩ : ∃ n, decide (y = 0) = n := ⟨_, rfl⟩
  rw [hn] at HO ⊢
  clear hW0 hn
  go_enter Tryz.func89, Tryz.ntmps89
  go_upto_region 1 with fail
  rw [HW0.out]
  go_wp2_with (go_at_call 117; refine HO.out.mono ?_; rintro e w1 ⟨rfl, hb1⟩)
  go_ret
  exact ⟨rfl, Below.then hB0 hb1⟩

set_option maxRecDepth 100000 in
set_option maxHeartbeats 1000000 in
theorem den_p (v : Value) (x y : Int) (w : World) (h : IsPair w v x y) :
    Calls Tryz.prog 86 #[v] w fun e w' => ∃ u, e = .returned u ∧ IsInt w' u (dd y) ∧ Below w.heap.size w w' := by
  have h0 := h
  obtain ⟨s, a, l, c, t, b, k, d, rfl, h1, h2⟩ := h
  obtain ⟨W0, hW0⟩ : ∃ W0, (w.alloc (.cells #[.bool s, .slice a l c, .bool t, .slice b k d] 65)).alloc (.cells #[.bool false, .slice none 0 0] 63) = W0 := ⟨_, rfl⟩
  have b0 : Box4 W0 w.heap.size 65 (.bool s) (.slice a l c) (.bool t) (.slice b k d) := by rw [← hW0]; exact (Box4.new w _ _ _ _ _).alloc _
  have hB0 : Below w.heap.size w W0 := by rw [← hW0]; exact belowI2 w _ _
  have bR : Box2 W0 (w.heap.size + 1) 63 (.bool false) (.slice none 0 0) := by
    have h := Box2.new (w.alloc (.cells #[.bool s, .slice a l c, .bool t, .slice b k d] 65)) 63 (.bool false) (.slice none 0 0)
    rw [World.size_alloc, hW0] at h; exact h
  have HO := hidD (isWhole_p _ x y W0 (h0.below hB0))
  have HW0 := hidD hW0
  have k0 := b0.c0
  have k1 := b0.c1
  have k2 := b0.c2
  have k3 := b0.c3
  have HD := hidD (h2.below hB0)
  clear h0 h1 h2 hW0
  by_cases hq : y = 0
  · rw [decide_eq_true hq] at HO
    have HE := hidD (show dd y = 1 by unfold dd; rw [if_pos hq])
    clear hq
    go_enter Tryz.func86, Tryz.ntmps86
    go_upto_region 1 with fail
    rw [HW0.out]
    go_wp2_with (first
      | (go_at_call 89; refine HO.out.mono ?_; rintro e w1 ⟨rfl, hb1⟩)
      | (go_at_call 95; refine (iof_c 1 (by omega) (by omega) _).mono ?_; rintro e w2 ⟨u2, rfl, hu2, hb2⟩; obtain ⟨sa, sl, sc, rfl⟩ := hu2.form; obtain ⟨s2, hs2⟩ : ∃ s2, decide ((1 : Int) < 0) = s2 := ⟨_, rfl⟩; rw [hs2] at hu2; rw [hs2]; clear hs2; have hq := hb1.trans (hb2.mono hb1.size); have r0 := (bR.below hq).c0; have r1 := (bR.below hq).c1; have f0 := (bR.below hq).f0; have f1 := (bR.below hq).f1))
    have hq2 := hB0.trans (hq.mono hB0.size)
    have hfin := hu2.box (bR.below hq) rfl rfl (x0 := .bool s2) (x1 := .slice sa sl sc)
    exact bodyPost_ret (v := .agg #[.bool s2, .slice sa sl sc]) (by simp [results, Tryz.results86, go_sem, r0, r1]) rfl ⟨_, rfl, by rw [HE.out]; exact hfin, (hq2.setCell (p := ⟨_, 0, none⟩) (by simp only; omega) _).setCell (p := ⟨_, 1, none⟩) (by simp only; omega) _⟩
  · rw [decide_eq_false hq] at HO
    have HE := hidD (show y = dd y by unfold dd; rw [if_neg hq])
    clear hq
    go_enter Tryz.func86, Tryz.ntmps86
    go_upto_region 1 with fail
    rw [HW0.out]
    go_wp2_with (go_at_call 89; refine HO.out.mono ?_; rintro e w1 ⟨rfl, hb1⟩; have m2 := (b0.below hb1).c2; have m3 := (b0.below hb1).c3; have r0 := (bR.below hb1).c0; have r1 := (bR.below hb1).c1; have f0 := (bR.below hb1).f0; have f1 := (bR.below hb1).f1)
    have hq2 := hB0.trans (hb1.mono hB0.size)
    have hu := HD.out.below hb1
    rw [HE.out] at hu
    have hfin := hu.box (bR.below hb1) rfl rfl (x0 := .bool t) (x1 := .slice b k d)
    exact bodyPost_ret (v := .agg #[.bool t, .slice b k d]) (by simp [results, Tryz.results86, go_sem, r0, r1]) rfl ⟨_, rfl, hfin, (hq2.setCell (p := ⟨_, 0, none⟩) (by simp only; omega) _).setCell (p := ⟨_, 1, none⟩) (by simp only; omega) _⟩

theorem dd_den (q : Rat) : dd (denZ q) = q.den := by
  have := q.den_pos
  unfold dd denZ
  split <;> (try split at *) <;> omega

theorem isWhole_c (v : Value) (q : Rat) (w : World) (h : IsRat w v q) :
    Calls Tryz.prog 89 #[v] w fun e w' => e = .returned (.bool (decide (q.den = 1))) ∧ Below w.heap.size w w' := by
  have h1 := isWhole_p v q.num (denZ q) w h.pair
  rwa [decide_eq_decide.2 denZ_zero] at h1

theorem den_c (v : Value) (q : Rat) (w : World) (h : IsRat w v q) :
    Calls Tryz.prog 86 #[v] w fun e w' => ∃ u, e = .returned u ∧ IsInt w' u (q.den : Int) ∧ Below w.heap.size w w' := by
  have h1 := den_p v q.num (denZ q) w h.pair
  rwa [dd_den] at h1
end Go.Proofs.YteldjhhjnchdeaaGreatDoor
namespace Go.Proofs.YteldjhhjnchdeaaGreatDoor
open Go.RowKit Go.Shelf

attribute [local go_sem] Oper.semAt_some

set_option maxRecDepth 100000 in
set_option maxHeartbeats 1000000 in
theorem part_c (va vb : Value) (x y : Int) (w : World) (ha : IsInt w va x) (hb : IsInt w vb y) (hy : y ≠ 0) (hsx : Sok x) (hsy : Sok y) :
    Calls Tryz.prog 91 #[va, vb] w fun e w' => ∃ u, e = .returned u ∧ IsInt w' u (x / y) ∧ Below w.heap.size w w' := by
  obtain ⟨a, la, ca, rfl⟩ := ha.form
  obtain ⟨b, lb, cb, rfl⟩ := hb.form
  obtain ⟨s, hs⟩ : ∃ s, decide (x < 0) = s := ⟨_, rfl⟩
  obtain ⟨t, ht⟩ : ∃ t, decide (y < 0) = t := ⟨_, rfl⟩
  rw [hs] at ha ⊢
  rw [ht] at hb ⊢
  clear hs ht
  obtain ⟨W0, hW0⟩ : ∃ W0, ((w.alloc (.cells #[.bool s, .slice a la ca] 63)).alloc (.cells #[.bool t, .slice b lb cb] 63)).alloc (.cells #[.bool false, .slice none 0 0] 63) = W0 := ⟨_, rfl⟩
  have hB0 : Below w.heap.size w W0 := by rw [← hW0]; exact below_3 w _ _ _
  have b0 : Box2 W0 w.heap.size 63 (.bool s) (.slice a la ca) := by rw [← hW0]; exact ((Box2.new w _ _ _).alloc _).alloc _
  have b1 : Box2 W0 (w.heap.size + 1) 63 (.bool t) (.slice b lb cb) := by
    have h := (Box2.new (w.alloc (.cells #[.bool s, .slice a la ca] 63)) 63 (.bool t) (.slice b lb cb)).alloc (.cells #[.bool false, .slice none 0 0] 63)
    rw [World.size_alloc, hW0] at h; exact h
  have bR : Box2 W0 (w.heap.size + 1 + 1) 63 (.bool false) (.slice none 0 0) := by
    have h := Box2.new ((w.alloc (.cells #[.bool s, .slice a la ca] 63)).alloc (.cells #[.bool t, .slice b lb cb] 63)) 63 (.bool false) (.slice none 0 0)
    rw [World.size_alloc, World.size_alloc, hW0] at h; exact h
  have HS := hidD (isplit_c _ _ x y W0 (ha.below hB0) (hb.below hB0) hy (by have := hsx.words; omega) (by have := hsy.words; omega))
  have HW0 := hidD hW0
  have k0 := b0.c0
  have k1 := b0.c1
  have k2 := b1.c0
  have k3 := b1.c1
  clear ha hb hy hsx hsy hW0
  go_enter Tryz.func91, Tryz.ntmps91
  go_upto_region 1 with fail
  rw [HW0.out]
  go_upto_region 2 with (go_at_call 123; refine HS.out.mono ?_; rintro e w1 ⟨u1, u2, rfl, hu1, hu2, hb1⟩; obtain ⟨a1, l1, c1, rfl⟩ := hu1.form; obtain ⟨s1, hs1⟩ : ∃ s1, decide (x / y < 0) = s1 := ⟨_, rfl⟩; rw [hs1] at hu1; rw [hs1]; clear hs1; obtain ⟨a2, l2, c2, rfl⟩ := hu2.form; obtain ⟨s2, hs2⟩ : ∃ s2, decide (x % y < 0) = s2 := ⟨_, rfl⟩; rw [hs2] at hu2; rw [hs2]; clear hs2)
  have bq := (Box2.new w1 63 (.bool s1) (.slice a1 l1 c1)).alloc (.cells #[.bool s2, .slice a2 l2 c2] 63)
  have br := ((bR.below hb1).alloc (.cells #[.bool s1, .slice a1 l1 c1] 63)).alloc (.cells #[.bool s2, .slice a2 l2 c2] 63)
  have hu := (hu1.alloc (.cells #[.bool s1, .slice a1 l1 c1] 63)).alloc (.cells #[.bool s2, .slice a2 l2 c2] 63)
  have hB1 : Below w.heap.size w ((w1.alloc (.cells #[.bool s1, .slice a1 l1 c1] 63)).alloc (.cells #[.bool s2, .slice a2 l2 c2] 63)) := Below.then (Below.then hB0 hb1) (belowI2 w1 _ _)
  have q0 := bq.c0
  have q1 := bq.c1
  have r0 := br.c0
  have r1 := br.c1
  have f0 := br.f0
  have f1 := br.f1
  go_wp2_with fail
  have hfin := hu.box br rfl rfl (x0 := .bool s1) (x1 := .slice a1 l1 c1)
  exact bodyPost_ret (v := .agg #[.bool s1, .slice a1 l1 c1]) (by simp [results, Tryz.results91, go_sem, r0, r1]) rfl ⟨_, rfl, hfin, (hB1.setCell (p := ⟨_, 0, none⟩) (by simp only; omega) _).setCell (p := ⟨_, 1, none⟩) (by simp only; omega) _⟩

/-- The memory that a call of two numbers begins with, its result a fraction. -/
theorem mem_two (w : World) (s t : Bool) (a b : Option Addr) (la ca lb cb : Nat) (x y : Int) (ha : IsInt w (.agg #[.bool s, .slice a la ca]) x) (hb : IsInt w (.agg #[.bool t, .slice b lb cb]) y) :
    Mem w (((w.alloc (.cells #[.bool s, .slice a la ca] 63)).alloc (.cells #[.bool t, .slice b lb cb] 63)).alloc (.cells #[.bool false, .slice none 0 0, .bool false, .slice none 0 0] 65)) [some (w.heap.size, .int x), some (w.heap.size + 1, .int y), some (w.heap.size + 1 + 1, .rat 0)] := by
  have h := (((Mem.nil w).push (.int x) ha).push (.int y) (hb.alloc _)).push (.rat 0) (rat0 _)
  rw [World.size_alloc, World.size_alloc, World.size_alloc] at h
  exact h

theorem IsRat.mk {W : World} {s t : Bool} {a b : Option Addr} {l c k d : Nat} {q : Rat} (h1 : IsInt W (.agg #[.bool s, .slice a l c]) q.num) (h2 : IsInt W (.agg #[.bool t, .slice b k d]) (denZ q)) : IsRat W (.agg #[.bool s, .slice a l c, .bool t, .slice b k d]) q := ⟨_, _, _, _, _, _, _, _, rfl, h1, h2⟩

set_option maxRecDepth 100000 in
set_option maxHeartbeats 1000000 in
theorem least_c (va vb : Value) (q : Rat) (w : World) (ha : IsInt w va q.num) (hb : IsInt w vb (q.den : Int)) :
    Calls Tryz.prog 92 #[va, vb] w fun e w' => ∃ u, e = .returned u ∧ IsRat w' u q ∧ Below w.heap.size w w' := by
  obtain ⟨a, la, ca, rfl⟩ := ha.form
  obtain ⟨b, lb, cb, rfl⟩ := hb.form
  obtain ⟨s, hs⟩ : ∃ s, decide (q.num < 0) = s := ⟨_, rfl⟩
  obtain ⟨t, ht⟩ : ∃ t, decide ((q.den : Int) < 0) = t := ⟨_, rfl⟩
  rw [hs] at ha ⊢
  rw [ht] at hb ⊢
  clear hs ht
  have M0 := mem_two w s t a b la ca lb cb _ _ ha hb
  obtain ⟨W0, hW0⟩ : ∃ W0, ((w.alloc (.cells #[.bool s, .slice a la ca] 63)).alloc (.cells #[.bool t, .slice b lb cb] 63)).alloc (.cells #[.bool false, .slice none 0 0, .bool false, .slice none 0 0] 65) = W0 := ⟨_, rfl⟩
  have b0 : Box2 W0 w.heap.size 63 (.bool s) (.slice a la ca) := by rw [← hW0]; exact ((Box2.new w _ _ _).alloc _).alloc _
  have b1 : Box2 W0 (w.heap.size + 1) 63 (.bool t) (.slice b lb cb) := by
    have h := (Box2.new (w.alloc (.cells #[.bool s, .slice a la ca] 63)) 63 (.bool t) (.slice b lb cb)).alloc (.cells #[.bool false, .slice none 0 0, .bool false, .slice none 0 0] 65)
    rw [World.size_alloc, hW0] at h; exact h
  have bR : Box4 W0 (w.heap.size + 1 + 1) 65 (.bool false) (.slice none 0 0) (.bool false) (.slice none 0 0) := by
    have h := Box4.new ((w.alloc (.cells #[.bool s, .slice a la ca] 63)).alloc (.cells #[.bool t, .slice b lb cb] 63)) 65 (.bool false) (.slice none 0 0) (.bool false) (.slice none 0 0)
    rw [World.size_alloc, World.size_alloc, hW0] at h; exact h
  rw [hW0] at M0
  have hB0 := M0.2.2
  have HO := hidD (fun (V : World) (u : Value) (h : Below W0.heap.size W0 V) (hu : IsInt V u 1) => iorder_c _ u (q.den : Int) 1 V ((hb.below hB0).below h) hu)
  have HA := hidD (ha.below hB0)
  have HB := hidD (hb.below hB0)
  have HW0 := hidD hW0
  have k0 := b0.c0
  have k1 := b0.c1
  have k2 := b1.c0
  have k3 := b1.c1
  have HZ := hidD (show (cmpI (q.den : Int) 1 = 0) ↔ q.den = 1 by unfold cmpI; split <;> (try split) <;> omega)
  obtain ⟨n, hn⟩ : ∃ n, cmpI (q.den : Int) 1 = n := ⟨_, rfl⟩
  rw [hn] at HO HZ
  clear ha hb hW0 hn M0
  go_enter Tryz.func92, Tryz.ntmps92
  go_upto_region 1 with fail
  rw [HW0.out]
  have hq : Below W0.heap.size W0 W0.drew := (Below.refl _ W0).drew
  go_region_held3 (fun w' => w'.cell? ⟨w.heap.size + 1, 0, none⟩ = some (.bool t) ∧ w'.cell? ⟨w.heap.size + 1, 1, none⟩ = some (.slice b lb cb)) (refine ⟨?_, ?_⟩ <;> (first | (go_keep; done) | ((repeat rw [cell_set_nb (by omega)]); simp [*]; done)))
    (first
      | (go_at_call 95; refine (iof_c 1 (by omega) (by omega) _).mono ?_; rintro e w1 ⟨u1, rfl, hu1, hb1⟩; have hq := Below.then hq hb1; have k2 := (b1.below hq).c0; have k3 := (b1.below hq).c1)
      | (go_at_call 104; refine (HO.out _ _ hq hu1).mono ?_; clear HO; rintro e w2 ⟨rfl, hb2⟩; have hq := Below.then hq hb2; have k0 := (b0.below hq).c0; have k1 := (b0.below hq).c1; have k2 := (b1.below hq).c0; have k3 := (b1.below hq).c1; have r0 := (bR.below hq).c0; have r1 := (bR.below hq).c1; have r2 := (bR.below hq).c2; have r3 := (bR.below hq).c3; have f0 := (bR.below hq).f0; have f1 := (bR.below hq).f1; have f2 := (bR.below hq).f2; have f3 := (bR.below hq).f3))
  have hq2 := hB0.trans (hq.mono hB0.size)
  have bw := bR.below hq
  by_cases hn : n = 0
  · have HD := hidD (show denZ q = 0 from denZ_zero.2 (HZ.out.1 hn))
    subst hn
    have hr : IsRat w2 (.agg #[.bool s, .slice a la ca, .bool false, .slice none 0 0]) q := IsRat.mk (HA.out.below hq) (by rw [HD.out]; exact int0 _)
    go_wp2_with fail
    exact bodyPost_ret (v := .agg #[.bool s, .slice a la ca, .bool false, .slice none 0 0]) (by simp [results, Tryz.results92, go_sem, r0, r1, r2, r3]) rfl ⟨_, rfl, hr.put4 bw rfl rfl rfl rfl _ _ _ _, below_put4 hq2 (by omega) _ _ _ _⟩
  · have HD := hidD (show denZ q = q.den by unfold denZ; rw [if_neg (fun h => hn (HZ.out.2 h))])
    have hr : IsRat w2 (.agg #[.bool s, .slice a la ca, .bool t, .slice b lb cb]) q := IsRat.mk (HA.out.below hq) (by rw [HD.out]; exact HB.out.below hq)
    go_wp2_with fail
    exact bodyPost_ret (v := .agg #[.bool s, .slice a la ca, .bool t, .slice b lb cb]) (by simp [results, Tryz.results92, go_sem, r0, r1, r2, r3]) rfl ⟨_, rfl, hr.put4 bw rfl rfl rfl rfl _ _ _ _, below_put4 hq2 (by omega) _ _ _ _⟩
end Go.Proofs.YteldjhhjnchdeaaGreatDoor
namespace Go.Proofs.YteldjhhjnchdeaaGreatDoor
open Go.RowKit Go.Shelf

attribute [local go_sem] Oper.semAt_some

theorem gcd_posZ {x y : Int} (hy : y ≠ 0) : (0 : Int) < (Int.gcd x y : Nat) := by
  have := Int.gcd_pos_of_ne_zero_right x hy
  omega

set_option maxRecDepth 100000 in
set_option maxHeartbeats 2000000 in
theorem reduced_c (va vb : Value) (x y : Int) (w : World) (ha : IsInt w va x) (hb : IsInt w vb y) (hy : y ≠ 0) (hsx : Sok x) (hsy : Sok y) :
    Calls Tryz.prog 118 #[va, vb] w fun e w' => ∃ u, e = .returned u ∧ IsRat w' u (Rat.divInt x y) ∧ Below w.heap.size w w' := by
  have HX := hidD hsx
  have HY := hidD hsy
  have HN := hidD hy
  clear hsx hsy hy
  obtain ⟨s, a, la, ca, rfl⟩ := IsInt.form2 ha
  obtain ⟨t, b, lb, cb, rfl⟩ := IsInt.form2 hb
  have M0 := mem_two w s t a b la ca lb cb _ _ ha hb
  obtain ⟨W0, hW0⟩ : ∃ W0, ((w.alloc (.cells #[.bool s, .slice a la ca] 63)).alloc (.cells #[.bool t, .slice b lb cb] 63)).alloc (.cells #[.bool false, .slice none 0 0, .bool false, .slice none 0 0] 65) = W0 := ⟨_, rfl⟩
  have HW0 := hidD hW0
  rw [hW0] at M0
  have M1 : Hid (Mem w W0 [some (w.heap.size, .int (x)), some (w.heap.size + 1, .int (y)), some (w.heap.size + 1 + 1, .rat (0))]) := hidD M0
  clear M0 ha hb hW0
  go_enter Tryz.func118, Tryz.ntmps118
  go_upto_region 1 with fail
  rw [HW0.out]
  clear HW0
  obtain ⟨s1, a1, l1, c1, n1, i1⟩ := M1.out.int (i := 0) rfl
  have e1a := n1.c0
  have e1b := n1.c1
  obtain ⟨s2, a2, l2, c2, n2, i2⟩ := M1.out.int (i := 1) rfl
  have e2a := n2.c0
  have e2b := n2.c1
  go_upto_region 2 with (go_at_call 90; refine (igcd_c _ _ x y _ i1 i2 (by have := HX.out.words; omega) (by have := HY.out.words; omega)).mono ?_; rintro e w1 ⟨u, rfl, hu, hb⟩; obtain ⟨s90, a90, l90, c90, rfl⟩ := IsInt.form2 hu)
  obtain ⟨V3, hV⟩ : ∃ V, w1.alloc (.cells #[.bool s90, .slice a90 l90 c90] 63) = V := ⟨_, rfl⟩
  obtain ⟨B3, hBk⟩ : ∃ B, w1.heap.size = B := ⟨_, rfl⟩
  have MM : Mem w (w1.alloc (.cells #[.bool s90, .slice a90 l90 c90] 63)) [some (w.heap.size, .int (x)), some (w.heap.size + 1, .int (y)), some (w.heap.size + 1 + 1, .rat (0)), some (w1.heap.size, .int (((Int.gcd x y : Nat) : Int)))] := Mem.push (M1.out.below hb) (.int (((Int.gcd x y : Nat) : Int))) hu
  rw [hV, hBk] at MM
  rw [hV]
  rw [hBk]
  have M2 : Hid (Mem w V3 [some (w.heap.size, .int (x)), some (w.heap.size + 1, .int (y)), some (w.heap.size + 1 + 1, .rat (0)), some (B3, .int (((Int.gcd x y : Nat) : Int)))]) := hidD (MM)
  clear M1
  clear MM hV hBk
  clear n1 e1a e1b i1 n2 e2a e2b i2 hu hb
  have HG := hidD (Sok.gcd HX.out HY.out)
  by_cases hn : y < 0
  · have HL := hidD hn
    clear hn
    obtain ⟨s4, a4, l4, c4, n4, i4⟩ := M2.out.int (i := 1) rfl
    have e4a := n4.c0
    have e4b := n4.c1
    have HO := hidD (iorder_c _ _ y 0 V3 i4 (int0 _))
    rw [show cmpI y 0 = -1 from by unfold cmpI; rw [if_pos HL.out]] at HO
    go_upto_region 3 with (go_at_call 104; refine HO.out.mono ?_; rintro e w5 ⟨rfl, hb5⟩)
    have M3 : Hid (Mem w w5 [some (w.heap.size, .int (x)), some (w.heap.size + 1, .int (y)), some (w.heap.size + 1 + 1, .rat (0)), some (B3, .int (((Int.gcd x y : Nat) : Int)))]) := hidD (M2.out.below hb5)
    clear M2
    clear n4 e4a e4b i4 HO hb5
    obtain ⟨s5, a5, l5, c5, n5, i5⟩ := M3.out.int (i := 3) rfl
    have e5a := n5.c0
    have e5b := n5.c1
    go_upto_region 4 with (go_at_call 88; refine (iminus_c _ _ 0 (((Int.gcd x y : Nat) : Int)) _ (int0 _) i5 (by have := Sok.zero.words; omega) (by have := HG.out.words; omega)).mono ?_; rintro e w6 ⟨u6, rfl, hu6, hb6⟩; obtain ⟨s92, a92, l92, c92, rfl⟩ := IsInt.form2 hu6; have e5a := (n5.below hb6).c0; have e5b := (n5.below hb6).c1; have f5a := (n5.below hb6).f0; have f5b := (n5.below hb6).f1)
    obtain ⟨V6, hV⟩ : ∃ V, (w6.setCell ⟨B3, 0, none⟩ (.bool s92)).setCell ⟨B3, 1, none⟩ (.slice a92 l92 c92) = V := ⟨_, rfl⟩
    have MM : Mem w ((w6.setCell ⟨B3, 0, none⟩ (.bool s92)).setCell ⟨B3, 1, none⟩ (.slice a92 l92 c92)) [some (w.heap.size, .int (x)), some (w.heap.size + 1, .int (y)), some (w.heap.size + 1 + 1, .rat (0)), some (B3, .int (0 - ((Int.gcd x y : Nat) : Int)))] := Mem.putInt (M3.out.below hb6) (i := 3) rfl hu6
    rw [hV] at MM
    rw [hV]
    have M4 : Hid (Mem w V6 [some (w.heap.size, .int (x)), some (w.heap.size + 1, .int (y)), some (w.heap.size + 1 + 1, .rat (0)), some (B3, .int (0 - ((Int.gcd x y : Nat) : Int)))]) := hidD (MM)
    clear M3
    clear MM hV
    clear n5 e5a e5b i5 hu6 hb6
    clear f5a f5b
    have HNE := hidD (show (0 - ((Int.gcd x y : Nat) : Int)) ≠ 0 by have := gcd_posZ (x := x) HN.out; omega)
    have HE := hidD (show (0 - ((Int.gcd x y : Nat) : Int)) = (if y < 0 then -((Int.gcd x y : Nat) : Int) else ((Int.gcd x y : Nat) : Int)) by rw [if_pos HL.out]; omega)
    have HSM := hidD (show Sok (0 - ((Int.gcd x y : Nat) : Int)) by rw [Int.zero_sub]; exact HG.out.neg)
    obtain ⟨s7, a7, l7, c7, n7, i7⟩ := M4.out.int (i := 0) rfl
    have e7a := n7.c0
    have e7b := n7.c1
    obtain ⟨s8, a8, l8, c8, n8, i8⟩ := M4.out.int (i := 1) rfl
    have e8a := n8.c0
    have e8b := n8.c1
    obtain ⟨s9, a9, l9, c9, n9, i9⟩ := M4.out.int (i := 3) rfl
    have e9a := n9.c0
    have e9b := n9.c1
    obtain ⟨s10, a10, l10, c10, t10, b10, k10, d10, n10, r10, i10, j10⟩ := M4.out.rat (i := 2) rfl
    have e10a := n10.c0
    have e10b := n10.c1
    have e10c := n10.c2
    have e10d := n10.c3
    have f10a := n10.f0
    have f10b := n10.f1
    have f10c := n10.f2
    have f10d := n10.f3
    have H1 := hidD (fun (V : World) (h : Below V6.heap.size V6 V) => part_c _ _ x ((0 - ((Int.gcd x y : Nat) : Int))) V (i7.below h) (i9.below h) HNE.out HX.out HSM.out)
    have H2 := hidD (fun (V : World) (h : Below V6.heap.size V6 V) => part_c _ _ y ((0 - ((Int.gcd x y : Nat) : Int))) V (i8.below h) (i9.below h) HNE.out HY.out HSM.out)
    have H3 := hidD (fun (V : World) (u v : Value) (hu : IsInt V u (x / (0 - ((Int.gcd x y : Nat) : Int)))) (hv : IsInt V v (y / (0 - ((Int.gcd x y : Nat) : Int)))) => least_c u v (Rat.divInt x y) V (by rw [reduced_num HN.out, ← HE.out]; exact hu) (by rw [reduced_den HN.out, ← HE.out]; exact hv))
    have ne0 : w.heap.size ≠ w.heap.size + 1 + 1 := M4.out.ne 0 2 rfl rfl (by decide)
    have ne1 : w.heap.size + 1 ≠ w.heap.size + 1 + 1 := M4.out.ne 1 2 rfl rfl (by decide)
    have ne3 : B3 ≠ w.heap.size + 1 + 1 := M4.out.ne 3 2 rfl rfl (by decide)
    have hq : Below V6.heap.size V6 V6.drew := (Below.refl _ V6).drew
    go_region_held3 (fun w' => w'.cell? ⟨w.heap.size, 0, none⟩ = some (.bool s7) ∧ w'.cell? ⟨w.heap.size, 1, none⟩ = some (.slice a7 l7 c7) ∧ w'.cell? ⟨w.heap.size + 1, 0, none⟩ = some (.bool s8) ∧ w'.cell? ⟨w.heap.size + 1, 1, none⟩ = some (.slice a8 l8 c8) ∧ w'.cell? ⟨B3, 0, none⟩ = some (.bool s9) ∧ w'.cell? ⟨B3, 1, none⟩ = some (.slice a9 l9 c9)) (first | (with_reducible exact ⟨e7a, e7b, e8a, e8b, e9a, e9b⟩) | (go_keep; done) | (refine ⟨?_, ?_, ?_, ?_, ?_, ?_⟩ <;> ((repeat rw [cell_set_nb (by omega)]); first | assumption | (go_keep; done))))
      (first
        | (go_at_call 91; refine (H1.out _ hq).mono ?_; clear H1; rintro e w2 ⟨u2, rfl, hu2, hb2⟩; have hq := Below.then hq hb2; have e7a := (n7.below hq).c0; have e7b := (n7.below hq).c1; have e8a := (n8.below hq).c0; have e8b := (n8.below hq).c1; have e9a := (n9.below hq).c0; have e9b := (n9.below hq).c1; have e10a := (n10.below hq).c0; have e10b := (n10.below hq).c1; have e10c := (n10.below hq).c2; have e10d := (n10.below hq).c3; have f10a := (n10.below hq).f0; have f10b := (n10.below hq).f1; have f10c := (n10.below hq).f2; have f10d := (n10.below hq).f3)
        | (go_at_call 91; refine (H2.out _ hq).mono ?_; clear H2; rintro e w3 ⟨u3, rfl, hu3, hb3⟩; have hu2 := hu2.below hb3; have hq := Below.then hq hb3; have e7a := (n7.below hq).c0; have e7b := (n7.below hq).c1; have e8a := (n8.below hq).c0; have e8b := (n8.below hq).c1; have e9a := (n9.below hq).c0; have e9b := (n9.below hq).c1; have e10a := (n10.below hq).c0; have e10b := (n10.below hq).c1; have e10c := (n10.below hq).c2; have e10d := (n10.below hq).c3; have f10a := (n10.below hq).f0; have f10b := (n10.below hq).f1; have f10c := (n10.below hq).f2; have f10d := (n10.below hq).f3)
        | (go_at_call 92; refine (H3.out _ _ _ hu2 hu3).mono ?_; clear H3; rintro e w4 ⟨u4, rfl, hu4, hb4⟩; obtain ⟨s91, a91, l91, c91, t91, b91, k91, d91, rfl⟩ := IsRat.form hu4; have hq := Below.then hq hb4; have e7a := (n7.below hq).c0; have e7b := (n7.below hq).c1; have e8a := (n8.below hq).c0; have e8b := (n8.below hq).c1; have e9a := (n9.below hq).c0; have e9b := (n9.below hq).c1; have e10a := (n10.below hq).c0; have e10b := (n10.below hq).c1; have e10c := (n10.below hq).c2; have e10d := (n10.below hq).c3; have f10a := (n10.below hq).f0; have f10b := (n10.below hq).f1; have f10c := (n10.below hq).f2; have f10d := (n10.below hq).f3))
    all_goals go_wp2_with fail
    have hq2 := M4.out.2.2.trans (hq.mono M4.out.2.2.size)
    exact bodyPost_ret (v := .agg #[.bool s91, .slice a91 l91 c91, .bool t91, .slice b91 k91 d91]) (by simp [results, Tryz.results118, go_sem, e10a, e10b, e10c, e10d]) rfl ⟨_, rfl, hu4.put4 (n10.below hq) rfl rfl rfl rfl _ _ _ _, below_put4 hq2 (by omega) _ _ _ _⟩
  · have HL := hidD hn
    clear hn
    obtain ⟨s11, a11, l11, c11, n11, i11⟩ := M2.out.int (i := 1) rfl
    have e11a := n11.c0
    have e11b := n11.c1
    have HO := hidD (iorder_c _ _ y 0 V3 i11 (int0 _))
    rw [show cmpI y 0 = 1 from by have h1 := HL.out; have h2 := HN.out; unfold cmpI; rw [if_neg (by omega), if_pos (by omega)]] at HO
    go_upto_region 4 with (go_at_call 104; refine HO.out.mono ?_; rintro e w5 ⟨rfl, hb5⟩)
    have M3 : Hid (Mem w w5 [some (w.heap.size, .int (x)), some (w.heap.size + 1, .int (y)), some (w.heap.size + 1 + 1, .rat (0)), some (B3, .int (((Int.gcd x y : Nat) : Int)))]) := hidD (M2.out.below hb5)
    clear M2
    clear n11 e11a e11b i11 HO hb5
    have HNE := hidD (show ((Int.gcd x y : Nat) : Int) ≠ 0 by have := gcd_posZ (x := x) HN.out; omega)
    have HE := hidD (show ((Int.gcd x y : Nat) : Int) = (if y < 0 then -((Int.gcd x y : Nat) : Int) else ((Int.gcd x y : Nat) : Int)) by rw [if_neg (by have := HL.out; omega)])
    obtain ⟨s12, a12, l12, c12, n12, i12⟩ := M3.out.int (i := 0) rfl
    have e12a := n12.c0
    have e12b := n12.c1
    obtain ⟨s13, a13, l13, c13, n13, i13⟩ := M3.out.int (i := 1) rfl
    have e13a := n13.c0
    have e13b := n13.c1
    obtain ⟨s14, a14, l14, c14, n14, i14⟩ := M3.out.int (i := 3) rfl
    have e14a := n14.c0
    have e14b := n14.c1
    obtain ⟨s15, a15, l15, c15, t15, b15, k15, d15, n15, r15, i15, j15⟩ := M3.out.rat (i := 2) rfl
    have e15a := n15.c0
    have e15b := n15.c1
    have e15c := n15.c2
    have e15d := n15.c3
    have f15a := n15.f0
    have f15b := n15.f1
    have f15c := n15.f2
    have f15d := n15.f3
    have H1 := hidD (fun (V : World) (h : Below w5.heap.size w5 V) => part_c _ _ x (((Int.gcd x y : Nat) : Int)) V (i12.below h) (i14.below h) HNE.out HX.out HG.out)
    have H2 := hidD (fun (V : World) (h : Below w5.heap.size w5 V) => part_c _ _ y (((Int.gcd x y : Nat) : Int)) V (i13.below h) (i14.below h) HNE.out HY.out HG.out)
    have H3 := hidD (fun (V : World) (u v : Value) (hu : IsInt V u (x / ((Int.gcd x y : Nat) : Int))) (hv : IsInt V v (y / ((Int.gcd x y : Nat) : Int))) => least_c u v (Rat.divInt x y) V (by rw [reduced_num HN.out, ← HE.out]; exact hu) (by rw [reduced_den HN.out, ← HE.out]; exact hv))
    have ne0 : w.heap.size ≠ w.heap.size + 1 + 1 := M3.out.ne 0 2 rfl rfl (by decide)
    have ne1 : w.heap.size + 1 ≠ w.heap.size + 1 + 1 := M3.out.ne 1 2 rfl rfl (by decide)
    have ne3 : B3 ≠ w.heap.size + 1 + 1 := M3.out.ne 3 2 rfl rfl (by decide)
    have hq : Below w5.heap.size w5 w5.drew := (Below.refl _ w5).drew
    go_region_held3 (fun w' => w'.cell? ⟨w.heap.size, 0, none⟩ = some (.bool s12) ∧ w'.cell? ⟨w.heap.size, 1, none⟩ = some (.slice a12 l12 c12) ∧ w'.cell? ⟨w.heap.size + 1, 0, none⟩ = some (.bool s13) ∧ w'.cell? ⟨w.heap.size + 1, 1, none⟩ = some (.slice a13 l13 c13) ∧ w'.cell? ⟨B3, 0, none⟩ = some (.bool s14) ∧ w'.cell? ⟨B3, 1, none⟩ = some (.slice a14 l14 c14)) (first | (with_reducible exact ⟨e12a, e12b, e13a, e13b, e14a, e14b⟩) | (go_keep; done) | (refine ⟨?_, ?_, ?_, ?_, ?_, ?_⟩ <;> ((repeat rw [cell_set_nb (by omega)]); first | assumption | (go_keep; done))))
      (first
        | (go_at_call 91; refine (H1.out _ hq).mono ?_; clear H1; rintro e w2 ⟨u2, rfl, hu2, hb2⟩; have hq := Below.then hq hb2; have e12a := (n12.below hq).c0; have e12b := (n12.below hq).c1; have e13a := (n13.below hq).c0; have e13b := (n13.below hq).c1; have e14a := (n14.below hq).c0; have e14b := (n14.below hq).c1; have e15a := (n15.below hq).c0; have e15b := (n15.below hq).c1; have e15c := (n15.below hq).c2; have e15d := (n15.below hq).c3; have f15a := (n15.below hq).f0; have f15b := (n15.below hq).f1; have f15c := (n15.below hq).f2; have f15d := (n15.below hq).f3)
        | (go_at_call 91; refine (H2.out _ hq).mono ?_; clear H2; rintro e w3 ⟨u3, rfl, hu3, hb3⟩; have hu2 := hu2.below hb3; have hq := Below.then hq hb3; have e12a := (n12.below hq).c0; have e12b := (n12.below hq).c1; have e13a := (n13.below hq).c0; have e13b := (n13.below hq).c1; have e14a := (n14.below hq).c0; have e14b := (n14.below hq).c1; have e15a := (n15.below hq).c0; have e15b := (n15.below hq).c1; have e15c := (n15.below hq).c2; have e15d := (n15.below hq).c3; have f15a := (n15.below hq).f0; have f15b := (n15.below hq).f1; have f15c := (n15.below hq).f2; have f15d := (n15.below hq).f3)
        | (go_at_call 92; refine (H3.out _ _ _ hu2 hu3).mono ?_; clear H3; rintro e w4 ⟨u4, rfl, hu4, hb4⟩; obtain ⟨s91, a91, l91, c91, t91, b91, k91, d91, rfl⟩ := IsRat.form hu4; have hq := Below.then hq hb4; have e12a := (n12.below hq).c0; have e12b := (n12.below hq).c1; have e13a := (n13.below hq).c0; have e13b := (n13.below hq).c1; have e14a := (n14.below hq).c0; have e14b := (n14.below hq).c1; have e15a := (n15.below hq).c0; have e15b := (n15.below hq).c1; have e15c := (n15.below hq).c2; have e15d := (n15.below hq).c3; have f15a := (n15.below hq).f0; have f15b := (n15.below hq).f1; have f15c := (n15.below hq).f2; have f15d := (n15.below hq).f3))
    all_goals go_wp2_with fail
    have hq2 := M3.out.2.2.trans (hq.mono M3.out.2.2.size)
    exact bodyPost_ret (v := .agg #[.bool s91, .slice a91 l91 c91, .bool t91, .slice b91 k91 d91]) (by simp [results, Tryz.results118, go_sem, e15a, e15b, e15c, e15d]) rfl ⟨_, rfl, hu4.put4 (n15.below hq) rfl rfl rfl rfl _ _ _ _, below_put4 hq2 (by omega) _ _ _ _⟩
end Go.Proofs.YteldjhhjnchdeaaGreatDoor
namespace Go.Proofs.YteldjhhjnchdeaaGreatDoor
open Go.RowKit Go.Shelf

attribute [local go_sem] Oper.semAt_some

/-- The memory that a call of two fractions begins with, its result a fraction. -/
theorem mem_rats (w : World) (s t s' t' : Bool) (a b a' b' : Option Addr) (l c k d l' c' k' d' : Nat) (p q : Rat) (hp : IsRat w (.agg #[.bool s, .slice a l c, .bool t, .slice b k d]) p) (hq : IsRat w (.agg #[.bool s', .slice a' l' c', .bool t', .slice b' k' d']) q) :
    Mem w (((w.alloc (.cells #[.bool s, .slice a l c, .bool t, .slice b k d] 65)).alloc (.cells #[.bool s', .slice a' l' c', .bool t', .slice b' k' d'] 65)).alloc (.cells #[.bool false, .slice none 0 0, .bool false, .slice none 0 0] 65)) [some (w.heap.size, .rat p), some (w.heap.size + 1, .rat q), some (w.heap.size + 1 + 1, .rat 0)] := by
  have h := (((Mem.nil w).push (.rat p) hp).push (.rat q) (hq.below ((Below.refl _ w).alloc (Nat.le_refl _) _))).push (.rat 0) (rat0 _)
  rw [World.size_alloc, World.size_alloc, World.size_alloc] at h
  exact h

/-- The same without a box for the result. -/
theorem mem_rats2 (w : World) (s t s' t' : Bool) (a b a' b' : Option Addr) (l c k d l' c' k' d' : Nat) (p q : Rat) (hp : IsRat w (.agg #[.bool s, .slice a l c, .bool t, .slice b k d]) p) (hq : IsRat w (.agg #[.bool s', .slice a' l' c', .bool t', .slice b' k' d']) q) :
    Mem w ((w.alloc (.cells #[.bool s, .slice a l c, .bool t, .slice b k d] 65)).alloc (.cells #[.bool s', .slice a' l' c', .bool t', .slice b' k' d'] 65)) [some (w.heap.size, .rat p), some (w.heap.size + 1, .rat q)] := by
  have h := ((Mem.nil w).push (.rat p) hp).push (.rat q) (hq.below ((Below.refl _ w).alloc (Nat.le_refl _) _))
  rw [World.size_alloc] at h
  exact h

theorem whole_num {q : Rat} (h : q.den = 1) : q = (q.num : Rat) := Rat.ext rfl h
theorem whole_add {p q : Rat} (hp : p.den = 1) (hq : q.den = 1) : (p + q).num = p.num + q.num ∧ (p + q).den = 1 := by
  have h : p + q = ((p.num + q.num : Int) : Rat) := by rw [Rat.intCast_add, ← whole_num hp, ← whole_num hq]
  rw [h]; exact ⟨rfl, rfl⟩
theorem whole_mul {p q : Rat} (hp : p.den = 1) (hq : q.den = 1) : (p * q).num = p.num * q.num ∧ (p * q).den = 1 := by
  have h : p * q = ((p.num * q.num : Int) : Rat) := by rw [Rat.intCast_mul, ← whole_num hp, ← whole_num hq]
  rw [h]; exact ⟨rfl, rfl⟩

theorem add_parts (p q : Rat) (hp : Sq p) (hq : Sq q) (cm lf rt ab ag : Int) (h1 : ((Int.gcd (p.den : Int) (q.den : Int) : Nat) : Int) = cm) (h2 : (p.den : Int) / cm = lf) (h3 : (q.den : Int) / cm = rt) (h4 : p.num * rt + q.num * lf = ab) (h5 : ((Int.gcd ab cm : Nat) : Int) = ag) :
    Sok cm ∧ cm ≠ 0 ∧ Sok lf ∧ Sok rt ∧ Sok ab ∧ Sok ag ∧ ag ≠ 0 ∧ Sok (p.num * rt) ∧ Sok (q.num * lf) ∧ (p + q).num = ab / ag ∧ ((p + q).den : Int) = lf * (q.den / ag) := by
  have hl := least_add p q cm lf rt ab ag h1.symm h2.symm h3.symm h4.symm h5.symm
  have hcm : cm ≠ 0 := by rw [← h1]; have := gcd_posZ (x := (p.den : Int)) (y := q.den) (by have := q.den_nz; omega); omega
  have sc : Sok cm := by rw [← h1]; exact hp.den.gcd hq.den
  have slf : Sm 1000000 lf := by rw [← h2]; exact hp.sm.2.div
  have srt : Sm 1000000 rt := by rw [← h3]; exact hq.sm.2.div
  have s1 := hp.sm.1.mul srt
  have s2 := hq.sm.1.mul slf
  have sab : Sok ab := by rw [← h4]; exact Sok.of (s1.add s2) (by omega)
  refine ⟨sc, hcm, Sok.of slf (by omega), Sok.of srt (by omega), sab, by rw [← h5]; exact sab.gcd sc, ?_, Sok.of s1 (by omega), Sok.of s2 (by omega), hl.1, hl.2⟩
  rw [← h5]; have := gcd_posZ (x := ab) hcm; omega

set_option maxRecDepth 100000 in
set_option maxHeartbeats 8000000 in
theorem qplus_c (va vb : Value) (p q : Rat) (w : World) (ha : IsRat w va p) (hb : IsRat w vb q) (hsp : Sq p) (hsq : Sq q) :
    Calls Tryz.prog 87 #[va, vb] w fun e w' => ∃ u, e = .returned u ∧ IsRat w' u (p + q) ∧ Below w.heap.size w w' := by
  obtain ⟨s, a, l, c, t, b, k, d, rfl⟩ := IsRat.form ha
  obtain ⟨s', a', l', c', t', b', k', d', rfl⟩ := IsRat.form hb
  have M0 := mem_rats w s t s' t' a b a' b' l c k d l' c' k' d' p q ha hb
  obtain ⟨W0, hW0⟩ : ∃ W0, ((w.alloc (.cells #[.bool s, .slice a l c, .bool t, .slice b k d] 65)).alloc (.cells #[.bool s', .slice a' l' c', .bool t', .slice b' k' d'] 65)).alloc (.cells #[.bool false, .slice none 0 0, .bool false, .slice none 0 0] 65) = W0 := ⟨_, rfl⟩
  have HW0 := hidD hW0
  rw [hW0] at M0
  have M1 : Hid (Mem w W0 [some (w.heap.size, .rat (p)), some (w.heap.size + 1, .rat (q)), some (w.heap.size + 1 + 1, .rat (0))]) := hidD M0
  have hmx : Tryz.prog.follows .mixedOrders = true := by kernel_rfl
  have HP := hidD hsp
  have HQ := hidD hsq
  clear M0 ha hb hW0 hsp hsq
  go_enter Tryz.func87, Tryz.ntmps87
  go_upto_region 1 with fail
  rw [HW0.out]
  clear HW0
  obtain ⟨bb, hbb⟩ : ∃ bb : Bool, decide (p.den = 1 ∧ q.den = 1) = bb := ⟨_, rfl⟩
  have HBB := hidD hbb
  clear hbb
  go_cut [15] (fun c w' => c = .bool bb ∧ Hid (Mem w w' [some (w.heap.size, .rat (p)), some (w.heap.size + 1, .rat (q)), some (w.heap.size + 1 + 1, .rat (0))]))
  case first =>
    obtain ⟨s1, a1, l1, c1, t1, b1, k1, d1, n1, r1, i1, j1⟩ := M1.out.rat (i := 0) rfl
    have e1a := n1.c0
    have e1b := n1.c1
    have e1c := n1.c2
    have e1d := n1.c3
    obtain ⟨s2, a2, l2, c2, t2, b2, k2, d2, n2, r2, i2, j2⟩ := M1.out.rat (i := 1) rfl
    have e2a := n2.c0
    have e2b := n2.c1
    have e2c := n2.c2
    have e2d := n2.c3
    have H1 := hidD (isWhole_c _ p W0 r1)
    have H2 := hidD (fun (V : World) (h : Below W0.heap.size W0 V) => isWhole_c _ q V (r2.below h))
    by_cases h1 : p.den = 1
    · rw [decide_eq_true h1] at H1
      obtain ⟨b2, hb2⟩ : ∃ b2, decide (q.den = 1) = b2 := ⟨_, rfl⟩
      rw [hb2] at H2
      have HB2 := hidD (show b2 = bb by rw [← hb2, ← HBB.out]; exact decide_eq_decide.2 ⟨fun h => ⟨h1, h⟩, fun h => h.2⟩)
      clear hb2 h1
      go_wp2_with (first
        | (go_at_call 89; refine H1.out.mono ?_; clear H1; rintro e w1 ⟨rfl, hb1⟩; have e1a := (n1.below hb1).c0; have e1b := (n1.below hb1).c1; have e1c := (n1.below hb1).c2; have e1d := (n1.below hb1).c3; have e2a := (n2.below hb1).c0; have e2b := (n2.below hb1).c1; have e2c := (n2.below hb1).c2; have e2d := (n2.below hb1).c3)
        | (go_at_call 89; refine (H2.out _ hb1).mono ?_; clear H2; rintro e w2 ⟨rfl, hb2⟩))
      go_meet
      case rel => exact ⟨by rw [HB2.out], hidD ((M1.out.below hb1).below hb2)⟩
    · rw [decide_eq_false h1] at H1
      have HB2 := hidD (show bb = false by rw [← HBB.out]; exact decide_eq_false (fun h => h1 h.1))
      clear h1
      go_wp2_with (go_at_call 89; refine H1.out.mono ?_; clear H1; rintro e w1 ⟨rfl, hb1⟩)
      go_meet
      case rel => exact ⟨by rw [HB2.out], hidD (M1.out.below hb1)⟩
  obtain ⟨rfl, MM⟩ := hcut
  have M2 : Hid (Mem w wc [some (w.heap.size, .rat (p)), some (w.heap.size + 1, .rat (q)), some (w.heap.size + 1 + 1, .rat (0))]) := MM
  clear M1 MM
  cases bb with
  | true =>
    have hdd := of_decide_eq_true HBB.out
    have HW := hidD (whole_add hdd.1 hdd.2)
    clear hdd HBB
    obtain ⟨s3, a3, l3, c3, t3, b3, k3, d3, n3, r3, i3, j3⟩ := M2.out.rat (i := 0) rfl
    have e3a := n3.c0
    have e3b := n3.c1
    have e3c := n3.c2
    have e3d := n3.c3
    obtain ⟨s4, a4, l4, c4, t4, b4, k4, d4, n4, r4, i4, j4⟩ := M2.out.rat (i := 1) rfl
    have e4a := n4.c0
    have e4b := n4.c1
    have e4c := n4.c2
    have e4d := n4.c3
    obtain ⟨s5, a5, l5, c5, t5, b5, k5, d5, n5, r5, i5, j5⟩ := M2.out.rat (i := 2) rfl
    have e5a := n5.c0
    have e5b := n5.c1
    have e5c := n5.c2
    have e5d := n5.c3
    have f5a := n5.f0
    have f5b := n5.f1
    have f5c := n5.f2
    have f5d := n5.f3
    go_wp2_with (go_at_call 121; refine (iplus_c _ _ p.num q.num _ i3 i4 (by have := HP.out.num.words; omega) (by have := HQ.out.num.words; omega)).mono ?_; rintro e w1 ⟨u, rfl, hu, hq⟩; obtain ⟨s90, a90, l90, c90, rfl⟩ := IsInt.form2 hu; have e5a := (n5.below hq).c0; have e5b := (n5.below hq).c1; have e5c := (n5.below hq).c2; have e5d := (n5.below hq).c3; have f5a := (n5.below hq).f0; have f5b := (n5.below hq).f1; have f5c := (n5.below hq).f2; have f5d := (n5.below hq).f3)
    have hr : IsRat w1 (.agg #[.bool s90, .slice a90 l90 c90, .bool false, .slice none 0 0]) (p + q) := IsRat.mk (by rw [HW.out.1]; exact hu) (by rw [denZ_zero.2 HW.out.2]; exact int0 _)
    have hq2 := M2.out.2.2.trans (hq.mono M2.out.2.2.size)
    exact bodyPost_ret (v := .agg #[.bool s90, .slice a90 l90 c90, .bool false, .slice none 0 0]) (by simp [results, Tryz.results87, go_sem, e5a, e5b, e5c, e5d]) rfl ⟨_, rfl, hr.put4 (n5.below hq) rfl rfl rfl rfl _ _ _ _, below_put4 hq2 (by omega) _ _ _ _⟩
  | false =>
    clear HBB
    obtain ⟨cm, hcm⟩ : ∃ cm : Int, ((Int.gcd (p.den : Int) (q.den : Int) : Nat) : Int) = cm := ⟨_, rfl⟩
    have HCM := hidD hcm
    clear hcm
    obtain ⟨lf, hlf⟩ : ∃ lf : Int, (p.den : Int) / cm = lf := ⟨_, rfl⟩
    have HLF := hidD hlf
    clear hlf
    obtain ⟨rt, hrt⟩ : ∃ rt : Int, (q.den : Int) / cm = rt := ⟨_, rfl⟩
    have HRT := hidD hrt
    clear hrt
    obtain ⟨ab, hab⟩ : ∃ ab : Int, p.num * rt + q.num * lf = ab := ⟨_, rfl⟩
    have HAB := hidD hab
    clear hab
    obtain ⟨ag, hag⟩ : ∃ ag : Int, ((Int.gcd ab cm : Nat) : Int) = ag := ⟨_, rfl⟩
    have HAG := hidD hag
    clear hag
    obtain ⟨S1, S2, S3, S4, S5, S6, S7, S8, S9, S10, S11⟩ := add_parts p q HP.out HQ.out cm lf rt ab ag HCM.out HLF.out HRT.out HAB.out HAG.out
    have T1 := hidD S1
    have T2 := hidD S2
    have T3 := hidD S3
    have T4 := hidD S4
    have T5 := hidD S5
    have T6 := hidD S6
    have T7 := hidD S7
    have T8 := hidD S8
    have T9 := hidD S9
    have T10 := hidD S10
    have T11 := hidD S11
    clear S1 S2 S3 S4 S5 S6 S7 S8 S9 S10 S11
    go_upto_region 3 with fail
    refine wp_region_tab hmx [[], [0], [], [2, 1], [1, 3, 3], [], [5, 4, 4, 0, 1, 2, 3, 4, 5]] (by kernel_rfl) (by decide)
      (fun D act V => ∃ (t22x t23x t24x t25x t26x t5x : Value) (x5 : Option (Nat × Dat)), act = { tmps := #[Value.agg #[Value.bool s, Value.slice a l c, Value.bool t, Value.slice b k d], Value.agg #[Value.bool s', Value.slice a' l' c', Value.bool t', Value.slice b' k' d'], Value.pointer (some { block := w.heap.size, off := 0 }), Value.pointer (some { block := w.heap.size + 1, off := 0 }), Value.pointer (some { block := w.heap.size + 1 + 1, off := 0 }), t5x, undef, undef, undef, undef, u10, u11, u12, u13, u14, Value.bool false, u16, u17, u18, u19, u20, u21, t22x, t23x, t24x, t25x, t26x, u27, u28, u29, u30, u31, u32, u33, u34, u35, u36, u37, u38, u39, u40, u41, u42, u43, u44, u45, u46, u47, u48, u49, u50, u51, u52, u53, u54, u55, u56], defers := [] } ∧ Hid ((D 0 = true → Has V t22x (.rat (p))) ∧ (D 1 = true → Has V t23x (.int ((p.den : Int)))) ∧ (D 2 = true → Has V t24x (.rat (q))) ∧ (D 3 = true → Has V t25x (.int ((q.den : Int)))) ∧ (D 4 = true → Has V t26x (.int (cm))) ∧ ((D 5 = false → x5 = none) ∧ (D 5 = true → D 6 = false → ∃ B : Nat, t5x = .pointer (some ⟨B, 0, none⟩) ∧ x5 = some (B, .int 0)) ∧ (D 6 = true → ∃ B : Nat, t5x = .pointer (some ⟨B, 0, none⟩) ∧ x5 = some (B, .int (cm))))) ∧ Hid (Mem w V [some (w.heap.size, .rat (p)), some (w.heap.size + 1, .rat (q)), some (w.heap.size + 1 + 1, .rat (0)), x5]))
      ⟨_, _, _, _, _, _, none, rfl, hidD ⟨by simp, by simp, by simp, by simp, by simp, by simp⟩, hidD ((M2.out).none).drew⟩ ?step6 ?fin6
    case step6 =>
      rintro D act V i ds hcl hi hds hDi ⟨t22x, t23x, t24x, t25x, t26x, t5x, x5, rfl, GG, MM⟩
      have hi6 : i < 7 := (List.getElem?_eq_some_iff.1 hi).1
      obtain rfl | rfl | rfl | rfl | rfl | rfl | rfl : i = 0 ∨ i = 1 ∨ i = 2 ∨ i = 3 ∨ i = 4 ∨ i = 5 ∨ i = 6 := by omega
      all_goals
        simp only [List.getElem?_cons_zero, List.getElem?_cons_succ, Option.some.injEq] at hi
        subst hi
      · clear hds
        obtain ⟨s, a, l, c, t, b, k, d, n, r, i, j⟩ := MM.out.rat (i := 0) rfl
        have e0 := n.c0
        have e1 := n.c1
        have e2 := n.c2
        have e3 := n.c3
        refine wpOp_go rfl rfl (fun K hK => ?_)
        go_simp
        exact hK _ _ ⟨_, _, _, _, _, _, _, rfl, hidD ⟨fun _ => r, GG.out.2.1, GG.out.2.2.1, GG.out.2.2.2.1, GG.out.2.2.2.2.1, GG.out.2.2.2.2.2⟩, hidD (MM.out)⟩
      · have h0 := (GG.out.1 (hds 0 (by simp)))
        have HC := hidD (den_c _ p V h0)
        clear hds h0
        refine wpOp_go rfl rfl (fun K hK => ?_)
        go_simp
        go_wp2_with (go_at_call 86; refine HC.out.mono ?_; rintro e w5 ⟨v5, rfl, hv5, hb5⟩)
        exact ⟨_, _, _, _, _, _, _, rfl, hidD ⟨fun h => (GG.out.1 h).below hb5, fun _ => hv5, fun h => (GG.out.2.2.1 h).below hb5, fun h => (GG.out.2.2.2.1 h).below hb5, fun h => (GG.out.2.2.2.2.1 h).below hb5, GG.out.2.2.2.2.2⟩, hidD (MM.out.below hb5)⟩
      · clear hds
        obtain ⟨s, a, l, c, t, b, k, d, n, r, i, j⟩ := MM.out.rat (i := 1) rfl
        have e0 := n.c0
        have e1 := n.c1
        have e2 := n.c2
        have e3 := n.c3
        refine wpOp_go rfl rfl (fun K hK => ?_)
        go_simp
        exact hK _ _ ⟨_, _, _, _, _, _, _, rfl, hidD ⟨GG.out.1, GG.out.2.1, fun _ => r, GG.out.2.2.2.1, GG.out.2.2.2.2.1, GG.out.2.2.2.2.2⟩, hidD (MM.out)⟩
      · have h0 := (GG.out.2.2.1 (hds 2 (by simp)))
        have HC := hidD (den_c _ q V h0)
        clear hds h0
        refine wpOp_go rfl rfl (fun K hK => ?_)
        go_simp
        go_wp2_with (go_at_call 86; refine HC.out.mono ?_; rintro e w5 ⟨v5, rfl, hv5, hb5⟩)
        exact ⟨_, _, _, _, _, _, _, rfl, hidD ⟨fun h => (GG.out.1 h).below hb5, fun h => (GG.out.2.1 h).below hb5, fun h => (GG.out.2.2.1 h).below hb5, fun _ => hv5, fun h => (GG.out.2.2.2.2.1 h).below hb5, GG.out.2.2.2.2.2⟩, hidD (MM.out.below hb5)⟩
      · have h0 := (GG.out.2.1 (hds 1 (by simp)))
        have h1 := (GG.out.2.2.2.1 (hds 3 (by simp)))
        have HC := hidD ((by have h := igcd_c _ _ (p.den : Int) (q.den : Int) V h0 h1 (by have := HP.out.den.words; omega) (by have := HQ.out.den.words; omega); rw [HCM.out] at h; exact h))
        clear hds h0 h1
        refine wpOp_go rfl rfl (fun K hK => ?_)
        go_simp
        go_wp2_with (go_at_call 90; refine HC.out.mono ?_; rintro e w5 ⟨v5, rfl, hv5, hb5⟩)
        exact ⟨_, _, _, _, _, _, _, rfl, hidD ⟨fun h => (GG.out.1 h).below hb5, fun h => (GG.out.2.1 h).below hb5, fun h => (GG.out.2.2.1 h).below hb5, fun h => (GG.out.2.2.2.1 h).below hb5, fun _ => hv5, GG.out.2.2.2.2.2⟩, hidD (MM.out.below hb5)⟩
      · have hf : D 6 = false := by
          cases h : D 6 with
          | false => rfl
          | true => rw [hcl 6 _ rfl h 5 (by simp)] at hDi; cases hDi
        obtain rfl := GG.out.2.2.2.2.2.1 hDi
        clear hds
        refine wpOp_go rfl rfl (fun K hK => ?_)
        go_simp
        exact hK _ _ ⟨_, _, _, _, _, _, _, rfl, hidD ⟨fun h => (GG.out.1 h).alloc _, fun h => (GG.out.2.1 h).alloc _, fun h => (GG.out.2.2.1 h).alloc _, fun h => (GG.out.2.2.2.1 h).alloc _, fun h => (GG.out.2.2.2.2.1 h).alloc _, ⟨fun h => by simp at h, fun _ _ => ⟨_, rfl, rfl⟩, fun h => by simp [hf] at h⟩⟩, hidD (MM.out.fill (i := 3) rfl (.int 0) (int0 _))⟩
      · obtain ⟨B, rfl, rfl⟩ := GG.out.2.2.2.2.2.2.1 (hds 5 (by simp)) hDi
        have hds0 := hds 5 (by simp)
        have hv := (GG.out.2.2.2.2.1 (hds 4 (by simp)))
        obtain ⟨s1, a1, l1, c1, rfl⟩ := IsInt.form2 (show IsInt V _ _ from hv)
        obtain ⟨s, a, l, c, n, i⟩ := MM.out.int (i := 3) rfl
        have e0 := n.c0
        have f0 := n.f0
        have e1 := n.c1
        have f1 := n.f1
        clear hds
        refine wpOp_go rfl rfl (fun K hK => ?_)
        go_simp
        exact hK _ _ ⟨_, _, _, _, _, _, _, rfl, hidD ⟨fun h => (GG.out.1 h).set2 n rfl rfl _ _, fun h => (GG.out.2.1 h).set2 n rfl rfl _ _, fun h => (GG.out.2.2.1 h).set2 n rfl rfl _ _, fun h => (GG.out.2.2.2.1 h).set2 n rfl rfl _ _, fun h => (GG.out.2.2.2.2.1 h).set2 n rfl rfl _ _, ⟨fun h => by simp [hds0] at h, fun _ h => by simp at h, fun _ => ⟨B, rfl, rfl⟩⟩⟩, hidD (MM.out.putInt (i := 3) rfl hv)⟩
    rintro D act V7 hDD ⟨t22x, t23x, t24x, t25x, t26x, t5x, x5, rfl, GG, MM⟩
    obtain ⟨B8, rfl, rfl⟩ := GG.out.2.2.2.2.2.2.2 (hDD 6 (by decide))
    clear GG hDD M2
    have M3 : Hid (Mem w V7 [some (w.heap.size, .rat (p)), some (w.heap.size + 1, .rat (q)), some (w.heap.size + 1 + 1, .rat (0)), some (B8, .int (cm))]) := MM
    clear MM
    go_upto_region 4 with fail
    refine wp_region_tab hmx [[], [0], [], [1, 2, 1], [], [4, 3], [], [5, 6, 5], [], [], [8, 3, 7, 0, 1, 2, 3, 8, 9], [9, 7, 10, 0, 1, 2, 3, 4, 5, 6, 7, 8, 9, 10]] (by kernel_rfl) (by decide)
      (fun D act V => ∃ (t27x t28x t29x t30x t31x t32x t33x t34x t6x t7x : Value) (x8 x9 : Option (Nat × Dat)), act = { tmps := #[Value.agg #[Value.bool s, Value.slice a l c, Value.bool t, Value.slice b k d], Value.agg #[Value.bool s', Value.slice a' l' c', Value.bool t', Value.slice b' k' d'], Value.pointer (some { block := w.heap.size, off := 0 }), Value.pointer (some { block := w.heap.size + 1, off := 0 }), Value.pointer (some { block := w.heap.size + 1 + 1, off := 0 }), Value.pointer (some { block := B8, off := 0 }), t6x, t7x, undef, undef, u10, u11, u12, u13, u14, Value.bool false, u16, u17, u18, u19, u20, u21, t22x, t23x, t24x, t25x, t26x, t27x, t28x, t29x, t30x, t31x, t32x, t33x, t34x, u35, u36, u37, u38, u39, u40, u41, u42, u43, u44, u45, u46, u47, u48, u49, u50, u51, u52, u53, u54, u55, u56], defers := [] } ∧ Hid ((D 0 = true → Has V t27x (.rat (p))) ∧ (D 1 = true → Has V t28x (.int ((p.den : Int)))) ∧ (D 2 = true → Has V t29x (.int (cm))) ∧ (D 3 = true → Has V t30x (.int (lf))) ∧ (D 4 = true → Has V t31x (.rat (q))) ∧ (D 5 = true → Has V t32x (.int ((q.den : Int)))) ∧ (D 6 = true → Has V t33x (.int (cm))) ∧ (D 7 = true → Has V t34x (.int (rt))) ∧ ((D 8 = false → x8 = none) ∧ (D 8 = true → D 10 = false → ∃ B : Nat, t6x = .pointer (some ⟨B, 0, none⟩) ∧ x8 = some (B, .int 0)) ∧ (D 10 = true → ∃ B : Nat, t6x = .pointer (some ⟨B, 0, none⟩) ∧ x8 = some (B, .int (lf)))) ∧ ((D 9 = false → x9 = none) ∧ (D 9 = true → D 11 = false → ∃ B : Nat, t7x = .pointer (some ⟨B, 0, none⟩) ∧ x9 = some (B, .int 0)) ∧ (D 11 = true → ∃ B : Nat, t7x = .pointer (some ⟨B, 0, none⟩) ∧ x9 = some (B, .int (rt))))) ∧ Hid (Mem w V [some (w.heap.size, .rat (p)), some (w.heap.size + 1, .rat (q)), some (w.heap.size + 1 + 1, .rat (0)), some (B8, .int (cm)), x8, x9]))
      ⟨_, _, _, _, _, _, _, _, _, _, none, none, rfl, hidD ⟨by simp, by simp, by simp, by simp, by simp, by simp, by simp, by simp, by simp, by simp⟩, hidD (((M3.out).none).none).drew⟩ ?step9 ?fin9
    case step9 =>
      rintro D act V i ds hcl hi hds hDi ⟨t27x, t28x, t29x, t30x, t31x, t32x, t33x, t34x, t6x, t7x, x8, x9, rfl, GG, MM⟩
      have hi6 : i < 12 := (List.getElem?_eq_some_iff.1 hi).1
      obtain rfl | rfl | rfl | rfl | rfl | rfl | rfl | rfl | rfl | rfl | rfl | rfl : i = 0 ∨ i = 1 ∨ i = 2 ∨ i = 3 ∨ i = 4 ∨ i = 5 ∨ i = 6 ∨ i = 7 ∨ i = 8 ∨ i = 9 ∨ i = 10 ∨ i = 11 := by omega
      all_goals
        simp only [List.getElem?_cons_zero, List.getElem?_cons_succ, Option.some.injEq] at hi
        subst hi
      · clear hds
        obtain ⟨s, a, l, c, t, b, k, d, n, r, i, j⟩ := MM.out.rat (i := 0) rfl
        have e0 := n.c0
        have e1 := n.c1
        have e2 := n.c2
        have e3 := n.c3
        refine wpOp_go rfl rfl (fun K hK => ?_)
        go_simp
        exact hK _ _ ⟨_, _, _, _, _, _, _, _, _, _, _, _, rfl, hidD ⟨fun _ => r, GG.out.2.1, GG.out.2.2.1, GG.out.2.2.2.1, GG.out.2.2.2.2.1, GG.out.2.2.2.2.2.1, GG.out.2.2.2.2.2.2.1, GG.out.2.2.2.2.2.2.2.1, GG.out.2.2.2.2.2.2.2.2.1, GG.out.2.2.2.2.2.2.2.2.2⟩, hidD (MM.out)⟩
      · have h0 := (GG.out.1 (hds 0 (by simp)))
        have HC := hidD (den_c _ p V h0)
        clear hds h0
        refine wpOp_go rfl rfl (fun K hK => ?_)
        go_simp
        go_wp2_with (go_at_call 86; refine HC.out.mono ?_; rintro e w5 ⟨v5, rfl, hv5, hb5⟩)
        exact ⟨_, _, _, _, _, _, _, _, _, _, _, _, rfl, hidD ⟨fun h => (GG.out.1 h).below hb5, fun _ => hv5, fun h => (GG.out.2.2.1 h).below hb5, fun h => (GG.out.2.2.2.1 h).below hb5, fun h => (GG.out.2.2.2.2.1 h).below hb5, fun h => (GG.out.2.2.2.2.2.1 h).below hb5, fun h => (GG.out.2.2.2.2.2.2.1 h).below hb5, fun h => (GG.out.2.2.2.2.2.2.2.1 h).below hb5, GG.out.2.2.2.2.2.2.2.2.1, GG.out.2.2.2.2.2.2.2.2.2⟩, hidD (MM.out.below hb5)⟩
      · clear hds
        obtain ⟨s, a, l, c, n, i⟩ := MM.out.int (i := 3) rfl
        have e0 := n.c0
        have e1 := n.c1
        refine wpOp_go rfl rfl (fun K hK => ?_)
        go_simp
        exact hK _ _ ⟨_, _, _, _, _, _, _, _, _, _, _, _, rfl, hidD ⟨GG.out.1, GG.out.2.1, fun _ => i, GG.out.2.2.2.1, GG.out.2.2.2.2.1, GG.out.2.2.2.2.2.1, GG.out.2.2.2.2.2.2.1, GG.out.2.2.2.2.2.2.2.1, GG.out.2.2.2.2.2.2.2.2.1, GG.out.2.2.2.2.2.2.2.2.2⟩, hidD (MM.out)⟩
      · have h0 := (GG.out.2.1 (hds 1 (by simp)))
        have h1 := (GG.out.2.2.1 (hds 2 (by simp)))
        have HC := hidD ((by have h := part_c _ _ (p.den : Int) cm V h0 h1 T2.out HP.out.den T1.out; rw [HLF.out] at h; exact h))
        clear hds h0 h1
        refine wpOp_go rfl rfl (fun K hK => ?_)
        go_simp
        go_wp2_with (go_at_call 91; refine HC.out.mono ?_; rintro e w5 ⟨v5, rfl, hv5, hb5⟩)
        exact ⟨_, _, _, _, _, _, _, _, _, _, _, _, rfl, hidD ⟨fun h => (GG.out.1 h).below hb5, fun h => (GG.out.2.1 h).below hb5, fun h => (GG.out.2.2.1 h).below hb5, fun _ => hv5, fun h => (GG.out.2.2.2.2.1 h).below hb5, fun h => (GG.out.2.2.2.2.2.1 h).below hb5, fun h => (GG.out.2.2.2.2.2.2.1 h).below hb5, fun h => (GG.out.2.2.2.2.2.2.2.1 h).below hb5, GG.out.2.2.2.2.2.2.2.2.1, GG.out.2.2.2.2.2.2.2.2.2⟩, hidD (MM.out.below hb5)⟩
      · clear hds
        obtain ⟨s, a, l, c, t, b, k, d, n, r, i, j⟩ := MM.out.rat (i := 1) rfl
        have e0 := n.c0
        have e1 := n.c1
        have e2 := n.c2
        have e3 := n.c3
        refine wpOp_go rfl rfl (fun K hK => ?_)
        go_simp
        exact hK _ _ ⟨_, _, _, _, _, _, _, _, _, _, _, _, rfl, hidD ⟨GG.out.1, GG.out.2.1, GG.out.2.2.1, GG.out.2.2.2.1, fun _ => r, GG.out.2.2.2.2.2.1, GG.out.2.2.2.2.2.2.1, GG.out.2.2.2.2.2.2.2.1, GG.out.2.2.2.2.2.2.2.2.1, GG.out.2.2.2.2.2.2.2.2.2⟩, hidD (MM.out)⟩
      · have h0 := (GG.out.2.2.2.2.1 (hds 4 (by simp)))
        have HC := hidD (den_c _ q V h0)
        clear hds h0
        refine wpOp_go rfl rfl (fun K hK => ?_)
        go_simp
        go_wp2_with (go_at_call 86; refine HC.out.mono ?_; rintro e w5 ⟨v5, rfl, hv5, hb5⟩)
        exact ⟨_, _, _, _, _, _, _, _, _, _, _, _, rfl, hidD ⟨fun h => (GG.out.1 h).below hb5, fun h => (GG.out.2.1 h).below hb5, fun h => (GG.out.2.2.1 h).below hb5, fun h => (GG.out.2.2.2.1 h).below hb5, fun h => (GG.out.2.2.2.2.1 h).below hb5, fun _ => hv5, fun h => (GG.out.2.2.2.2.2.2.1 h).below hb5, fun h => (GG.out.2.2.2.2.2.2.2.1 h).below hb5, GG.out.2.2.2.2.2.2.2.2.1, GG.out.2.2.2.2.2.2.2.2.2⟩, hidD (MM.out.below hb5)⟩
      · clear hds
        obtain ⟨s, a, l, c, n, i⟩ := MM.out.int (i := 3) rfl
        have e0 := n.c0
        have e1 := n.c1
        refine wpOp_go rfl rfl (fun K hK => ?_)
        go_simp
        exact hK _ _ ⟨_, _, _, _, _, _, _, _, _, _, _, _, rfl, hidD ⟨GG.out.1, GG.out.2.1, GG.out.2.2.1, GG.out.2.2.2.1, GG.out.2.2.2.2.1, GG.out.2.2.2.2.2.1, fun _ => i, GG.out.2.2.2.2.2.2.2.1, GG.out.2.2.2.2.2.2.2.2.1, GG.out.2.2.2.2.2.2.2.2.2⟩, hidD (MM.out)⟩
      · have h0 := (GG.out.2.2.2.2.2.1 (hds 5 (by simp)))
        have h1 := (GG.out.2.2.2.2.2.2.1 (hds 6 (by simp)))
        have HC := hidD ((by have h := part_c _ _ (q.den : Int) cm V h0 h1 T2.out HQ.out.den T1.out; rw [HRT.out] at h; exact h))
        clear hds h0 h1
        refine wpOp_go rfl rfl (fun K hK => ?_)
        go_simp
        go_wp2_with (go_at_call 91; refine HC.out.mono ?_; rintro e w5 ⟨v5, rfl, hv5, hb5⟩)
        exact ⟨_, _, _, _, _, _, _, _, _, _, _, _, rfl, hidD ⟨fun h => (GG.out.1 h).below hb5, fun h => (GG.out.2.1 h).below hb5, fun h => (GG.out.2.2.1 h).below hb5, fun h => (GG.out.2.2.2.1 h).below hb5, fun h => (GG.out.2.2.2.2.1 h).below hb5, fun h => (GG.out.2.2.2.2.2.1 h).below hb5, fun h => (GG.out.2.2.2.2.2.2.1 h).below hb5, fun _ => hv5, GG.out.2.2.2.2.2.2.2.2.1, GG.out.2.2.2.2.2.2.2.2.2⟩, hidD (MM.out.below hb5)⟩
      · have hf : D 10 = false := by
          cases h : D 10 with
          | false => rfl
          | true => rw [hcl 10 _ rfl h 8 (by simp)] at hDi; cases hDi
        obtain rfl := GG.out.2.2.2.2.2.2.2.2.1.1 hDi
        clear hds
        refine wpOp_go rfl rfl (fun K hK => ?_)
        go_simp
        exact hK _ _ ⟨_, _, _, _, _, _, _, _, _, _, _, _, rfl, hidD ⟨fun h => (GG.out.1 h).alloc _, fun h => (GG.out.2.1 h).alloc _, fun h => (GG.out.2.2.1 h).alloc _, fun h => (GG.out.2.2.2.1 h).alloc _, fun h => (GG.out.2.2.2.2.1 h).alloc _, fun h => (GG.out.2.2.2.2.2.1 h).alloc _, fun h => (GG.out.2.2.2.2.2.2.1 h).alloc _, fun h => (GG.out.2.2.2.2.2.2.2.1 h).alloc _, ⟨fun h => by simp at h, fun _ _ => ⟨_, rfl, rfl⟩, fun h => by simp [hf] at h⟩, GG.out.2.2.2.2.2.2.2.2.2⟩, hidD (MM.out.fill (i := 4) rfl (.int 0) (int0 _))⟩
      · have hf : D 11 = false := by
          cases h : D 11 with
          | false => rfl
          | true => rw [hcl 11 _ rfl h 9 (by simp)] at hDi; cases hDi
        obtain rfl := GG.out.2.2.2.2.2.2.2.2.2.1 hDi
        clear hds
        refine wpOp_go rfl rfl (fun K hK => ?_)
        go_simp
        exact hK _ _ ⟨_, _, _, _, _, _, _, _, _, _, _, _, rfl, hidD ⟨fun h => (GG.out.1 h).alloc _, fun h => (GG.out.2.1 h).alloc _, fun h => (GG.out.2.2.1 h).alloc _, fun h => (GG.out.2.2.2.1 h).alloc _, fun h => (GG.out.2.2.2.2.1 h).alloc _, fun h => (GG.out.2.2.2.2.2.1 h).alloc _, fun h => (GG.out.2.2.2.2.2.2.1 h).alloc _, fun h => (GG.out.2.2.2.2.2.2.2.1 h).alloc _, GG.out.2.2.2.2.2.2.2.2.1, ⟨fun h => by simp at h, fun _ _ => ⟨_, rfl, rfl⟩, fun h => by simp [hf] at h⟩⟩, hidD (MM.out.fill (i := 5) rfl (.int 0) (int0 _))⟩
      · obtain ⟨B, rfl, rfl⟩ := GG.out.2.2.2.2.2.2.2.2.1.2.1 (hds 8 (by simp)) hDi
        have hds0 := hds 8 (by simp)
        have hv := (GG.out.2.2.2.1 (hds 3 (by simp)))
        obtain ⟨s1, a1, l1, c1, rfl⟩ := IsInt.form2 (show IsInt V _ _ from hv)
        obtain ⟨s, a, l, c, n, i⟩ := MM.out.int (i := 4) rfl
        have e0 := n.c0
        have f0 := n.f0
        have e1 := n.c1
        have f1 := n.f1
        clear hds
        refine wpOp_go rfl rfl (fun K hK => ?_)
        go_simp
        exact hK _ _ ⟨_, _, _, _, _, _, _, _, _, _, _, _, rfl, hidD ⟨fun h => (GG.out.1 h).set2 n rfl rfl _ _, fun h => (GG.out.2.1 h).set2 n rfl rfl _ _, fun h => (GG.out.2.2.1 h).set2 n rfl rfl _ _, fun h => (GG.out.2.2.2.1 h).set2 n rfl rfl _ _, fun h => (GG.out.2.2.2.2.1 h).set2 n rfl rfl _ _, fun h => (GG.out.2.2.2.2.2.1 h).set2 n rfl rfl _ _, fun h => (GG.out.2.2.2.2.2.2.1 h).set2 n rfl rfl _ _, fun h => (GG.out.2.2.2.2.2.2.2.1 h).set2 n rfl rfl _ _, ⟨fun h => by simp [hds0] at h, fun _ h => by simp at h, fun _ => ⟨B, rfl, rfl⟩⟩, GG.out.2.2.2.2.2.2.2.2.2⟩, hidD (MM.out.putInt (i := 4) rfl hv)⟩
      · obtain ⟨B, rfl, rfl⟩ := GG.out.2.2.2.2.2.2.2.2.2.2.1 (hds 9 (by simp)) hDi
        have hds0 := hds 9 (by simp)
        have hv := (GG.out.2.2.2.2.2.2.2.1 (hds 7 (by simp)))
        obtain ⟨s1, a1, l1, c1, rfl⟩ := IsInt.form2 (show IsInt V _ _ from hv)
        obtain ⟨s, a, l, c, n, i⟩ := MM.out.int (i := 5) rfl
        have e0 := n.c0
        have f0 := n.f0
        have e1 := n.c1
        have f1 := n.f1
        clear hds
        refine wpOp_go rfl rfl (fun K hK => ?_)
        go_simp
        exact hK _ _ ⟨_, _, _, _, _, _, _, _, _, _, _, _, rfl, hidD ⟨fun h => (GG.out.1 h).set2 n rfl rfl _ _, fun h => (GG.out.2.1 h).set2 n rfl rfl _ _, fun h => (GG.out.2.2.1 h).set2 n rfl rfl _ _, fun h => (GG.out.2.2.2.1 h).set2 n rfl rfl _ _, fun h => (GG.out.2.2.2.2.1 h).set2 n rfl rfl _ _, fun h => (GG.out.2.2.2.2.2.1 h).set2 n rfl rfl _ _, fun h => (GG.out.2.2.2.2.2.2.1 h).set2 n rfl rfl _ _, fun h => (GG.out.2.2.2.2.2.2.2.1 h).set2 n rfl rfl _ _, GG.out.2.2.2.2.2.2.2.2.1, ⟨fun h => by simp [hds0] at h, fun _ h => by simp at h, fun _ => ⟨B, rfl, rfl⟩⟩⟩, hidD (MM.out.putInt (i := 5) rfl hv)⟩
    rintro D act V10 hDD ⟨t27x, t28x, t29x, t30x, t31x, t32x, t33x, t34x, t6x, t7x, x8, x9, rfl, GG, MM⟩
    obtain ⟨B11, rfl, rfl⟩ := GG.out.2.2.2.2.2.2.2.2.1.2.2 (hDD 10 (by decide))
    obtain ⟨B12, rfl, rfl⟩ := GG.out.2.2.2.2.2.2.2.2.2.2.2 (hDD 11 (by decide))
    clear GG hDD M3
    have M4 : Hid (Mem w V10 [some (w.heap.size, .rat (p)), some (w.heap.size + 1, .rat (q)), some (w.heap.size + 1 + 1, .rat (0)), some (B8, .int (cm)), some (B11, .int (lf)), some (B12, .int (rt))]) := MM
    clear MM
    go_upto_region 5 with fail
    refine wp_region_tab hmx [[], [0], [], [1, 2], [], [4], [], [5, 6, 3], [3, 7, 7], [], [9, 8, 8, 0, 1, 2, 3, 4, 5, 6, 7, 8, 9]] (by kernel_rfl) (by decide)
      (fun D act V => ∃ (t35x t36x t37x t38x t39x t40x t41x t42x t43x t8x : Value) (x9 : Option (Nat × Dat)), act = { tmps := #[Value.agg #[Value.bool s, Value.slice a l c, Value.bool t, Value.slice b k d], Value.agg #[Value.bool s', Value.slice a' l' c', Value.bool t', Value.slice b' k' d'], Value.pointer (some { block := w.heap.size, off := 0 }), Value.pointer (some { block := w.heap.size + 1, off := 0 }), Value.pointer (some { block := w.heap.size + 1 + 1, off := 0 }), Value.pointer (some { block := B8, off := 0 }), Value.pointer (some { block := B11, off := 0 }), Value.pointer (some { block := B12, off := 0 }), t8x, undef, u10, u11, u12, u13, u14, Value.bool false, u16, u17, u18, u19, u20, u21, t22x, t23x, t24x, t25x, t26x, t27x, t28x, t29x, t30x, t31x, t32x, t33x, t34x, t35x, t36x, t37x, t38x, t39x, t40x, t41x, t42x, t43x, u44, u45, u46, u47, u48, u49, u50, u51, u52, u53, u54, u55, u56], defers := [] } ∧ Hid ((D 0 = true → t35x = .pointer (some ⟨w.heap.size, 0, none⟩)) ∧ (D 1 = true → Has V t36x (.int (Rat.num (p)))) ∧ (D 2 = true → Has V t37x (.int (rt))) ∧ (D 3 = true → Has V t38x (.int (p.num * rt))) ∧ (D 4 = true → t39x = .pointer (some ⟨w.heap.size + 1, 0, none⟩)) ∧ (D 5 = true → Has V t40x (.int (Rat.num (q)))) ∧ (D 6 = true → Has V t41x (.int (lf))) ∧ (D 7 = true → Has V t42x (.int (q.num * lf))) ∧ (D 8 = true → Has V t43x (.int (ab))) ∧ ((D 9 = false → x9 = none) ∧ (D 9 = true → D 10 = false → ∃ B : Nat, t8x = .pointer (some ⟨B, 0, none⟩) ∧ x9 = some (B, .int 0)) ∧ (D 10 = true → ∃ B : Nat, t8x = .pointer (some ⟨B, 0, none⟩) ∧ x9 = some (B, .int (ab))))) ∧ Hid (Mem w V [some (w.heap.size, .rat (p)), some (w.heap.size + 1, .rat (q)), some (w.heap.size + 1 + 1, .rat (0)), some (B8, .int (cm)), some (B11, .int (lf)), some (B12, .int (rt)), x9]))
      ⟨_, _, _, _, _, _, _, _, _, _, none, rfl, hidD ⟨by simp, by simp, by simp, by simp, by simp, by simp, by simp, by simp, by simp, by simp⟩, hidD ((M4.out).none).drew⟩ ?step13 ?fin13
    case step13 =>
      rintro D act V i ds hcl hi hds hDi ⟨t35x, t36x, t37x, t38x, t39x, t40x, t41x, t42x, t43x, t8x, x9, rfl, GG, MM⟩
      have hi6 : i < 11 := (List.getElem?_eq_some_iff.1 hi).1
      obtain rfl | rfl | rfl | rfl | rfl | rfl | rfl | rfl | rfl | rfl | rfl : i = 0 ∨ i = 1 ∨ i = 2 ∨ i = 3 ∨ i = 4 ∨ i = 5 ∨ i = 6 ∨ i = 7 ∨ i = 8 ∨ i = 9 ∨ i = 10 := by omega
      all_goals
        simp only [List.getElem?_cons_zero, List.getElem?_cons_succ, Option.some.injEq] at hi
        subst hi
      · clear hds
        refine wpOp_go rfl rfl (fun K hK => ?_)
        go_simp
        exact hK _ _ ⟨_, _, _, _, _, _, _, _, _, _, _, rfl, hidD ⟨fun _ => rfl, GG.out.2.1, GG.out.2.2.1, GG.out.2.2.2.1, GG.out.2.2.2.2.1, GG.out.2.2.2.2.2.1, GG.out.2.2.2.2.2.2.1, GG.out.2.2.2.2.2.2.2.1, GG.out.2.2.2.2.2.2.2.2.1, GG.out.2.2.2.2.2.2.2.2.2⟩, hidD (MM.out)⟩
      · obtain rfl := (GG.out.1 (hds 0 (by simp)))
        clear hds
        obtain ⟨s, a, l, c, t, b, k, d, n, r, i, j⟩ := MM.out.rat (i := 0) rfl
        have e0 := n.c0
        have e1 := n.c1
        have e2 := n.c2
        have e3 := n.c3
        refine wpOp_go rfl rfl (fun K hK => ?_)
        go_simp
        exact hK _ _ ⟨_, _, _, _, _, _, _, _, _, _, _, rfl, hidD ⟨fun _ => rfl, fun _ => i, GG.out.2.2.1, GG.out.2.2.2.1, GG.out.2.2.2.2.1, GG.out.2.2.2.2.2.1, GG.out.2.2.2.2.2.2.1, GG.out.2.2.2.2.2.2.2.1, GG.out.2.2.2.2.2.2.2.2.1, GG.out.2.2.2.2.2.2.2.2.2⟩, hidD (MM.out)⟩
      · clear hds
        obtain ⟨s, a, l, c, n, i⟩ := MM.out.int (i := 5) rfl
        have e0 := n.c0
        have e1 := n.c1
        refine wpOp_go rfl rfl (fun K hK => ?_)
        go_simp
        exact hK _ _ ⟨_, _, _, _, _, _, _, _, _, _, _, rfl, hidD ⟨GG.out.1, GG.out.2.1, fun _ => i, GG.out.2.2.2.1, GG.out.2.2.2.2.1, GG.out.2.2.2.2.2.1, GG.out.2.2.2.2.2.2.1, GG.out.2.2.2.2.2.2.2.1, GG.out.2.2.2.2.2.2.2.2.1, GG.out.2.2.2.2.2.2.2.2.2⟩, hidD (MM.out)⟩
      · have h0 := (GG.out.2.1 (hds 1 (by simp)))
        have h1 := (GG.out.2.2.1 (hds 2 (by simp)))
        have HC := hidD (itimes_c _ _ p.num rt V h0 h1 (by have h1 := HP.out.num.words; have h2 := T4.out.words; omega))
        clear hds h0 h1
        refine wpOp_go rfl rfl (fun K hK => ?_)
        go_simp
        go_wp2_with (go_at_call 85; refine HC.out.mono ?_; rintro e w5 ⟨v5, rfl, hv5, hb5⟩)
        exact ⟨_, _, _, _, _, _, _, _, _, _, _, rfl, hidD ⟨GG.out.1, fun h => (GG.out.2.1 h).below hb5, fun h => (GG.out.2.2.1 h).below hb5, fun _ => hv5, GG.out.2.2.2.2.1, fun h => (GG.out.2.2.2.2.2.1 h).below hb5, fun h => (GG.out.2.2.2.2.2.2.1 h).below hb5, fun h => (GG.out.2.2.2.2.2.2.2.1 h).below hb5, fun h => (GG.out.2.2.2.2.2.2.2.2.1 h).below hb5, GG.out.2.2.2.2.2.2.2.2.2⟩, hidD (MM.out.below hb5)⟩
      · clear hds
        refine wpOp_go rfl rfl (fun K hK => ?_)
        go_simp
        exact hK _ _ ⟨_, _, _, _, _, _, _, _, _, _, _, rfl, hidD ⟨GG.out.1, GG.out.2.1, GG.out.2.2.1, GG.out.2.2.2.1, fun _ => rfl, GG.out.2.2.2.2.2.1, GG.out.2.2.2.2.2.2.1, GG.out.2.2.2.2.2.2.2.1, GG.out.2.2.2.2.2.2.2.2.1, GG.out.2.2.2.2.2.2.2.2.2⟩, hidD (MM.out)⟩
      · obtain rfl := (GG.out.2.2.2.2.1 (hds 4 (by simp)))
        clear hds
        obtain ⟨s, a, l, c, t, b, k, d, n, r, i, j⟩ := MM.out.rat (i := 1) rfl
        have e0 := n.c0
        have e1 := n.c1
        have e2 := n.c2
        have e3 := n.c3
        refine wpOp_go rfl rfl (fun K hK => ?_)
        go_simp
        exact hK _ _ ⟨_, _, _, _, _, _, _, _, _, _, _, rfl, hidD ⟨GG.out.1, GG.out.2.1, GG.out.2.2.1, GG.out.2.2.2.1, fun _ => rfl, fun _ => i, GG.out.2.2.2.2.2.2.1, GG.out.2.2.2.2.2.2.2.1, GG.out.2.2.2.2.2.2.2.2.1, GG.out.2.2.2.2.2.2.2.2.2⟩, hidD (MM.out)⟩
      · clear hds
        obtain ⟨s, a, l, c, n, i⟩ := MM.out.int (i := 4) rfl
        have e0 := n.c0
        have e1 := n.c1
        refine wpOp_go rfl rfl (fun K hK => ?_)
        go_simp
        exact hK _ _ ⟨_, _, _, _, _, _, _, _, _, _, _, rfl, hidD ⟨GG.out.1, GG.out.2.1, GG.out.2.2.1, GG.out.2.2.2.1, GG.out.2.2.2.2.1, GG.out.2.2.2.2.2.1, fun _ => i, GG.out.2.2.2.2.2.2.2.1, GG.out.2.2.2.2.2.2.2.2.1, GG.out.2.2.2.2.2.2.2.2.2⟩, hidD (MM.out)⟩
      · have h0 := (GG.out.2.2.2.2.2.1 (hds 5 (by simp)))
        have h1 := (GG.out.2.2.2.2.2.2.1 (hds 6 (by simp)))
        have HC := hidD (itimes_c _ _ q.num lf V h0 h1 (by have h1 := HQ.out.num.words; have h2 := T3.out.words; omega))
        clear hds h0 h1
        refine wpOp_go rfl rfl (fun K hK => ?_)
        go_simp
        go_wp2_with (go_at_call 85; refine HC.out.mono ?_; rintro e w5 ⟨v5, rfl, hv5, hb5⟩)
        exact ⟨_, _, _, _, _, _, _, _, _, _, _, rfl, hidD ⟨GG.out.1, fun h => (GG.out.2.1 h).below hb5, fun h => (GG.out.2.2.1 h).below hb5, fun h => (GG.out.2.2.2.1 h).below hb5, GG.out.2.2.2.2.1, fun h => (GG.out.2.2.2.2.2.1 h).below hb5, fun h => (GG.out.2.2.2.2.2.2.1 h).below hb5, fun _ => hv5, fun h => (GG.out.2.2.2.2.2.2.2.2.1 h).below hb5, GG.out.2.2.2.2.2.2.2.2.2⟩, hidD (MM.out.below hb5)⟩
      · have h0 := (GG.out.2.2.2.1 (hds 3 (by simp)))
        have h1 := (GG.out.2.2.2.2.2.2.2.1 (hds 7 (by simp)))
        have HC := hidD ((by have h := iplus_c _ _ (p.num * rt) (q.num * lf) V h0 h1 (by have := T8.out.words; omega) (by have := T9.out.words; omega); rw [HAB.out] at h; exact h))
        clear hds h0 h1
        refine wpOp_go rfl rfl (fun K hK => ?_)
        go_simp
        go_wp2_with (go_at_call 121; refine HC.out.mono ?_; rintro e w5 ⟨v5, rfl, hv5, hb5⟩)
        exact ⟨_, _, _, _, _, _, _, _, _, _, _, rfl, hidD ⟨GG.out.1, fun h => (GG.out.2.1 h).below hb5, fun h => (GG.out.2.2.1 h).below hb5, fun h => (GG.out.2.2.2.1 h).below hb5, GG.out.2.2.2.2.1, fun h => (GG.out.2.2.2.2.2.1 h).below hb5, fun h => (GG.out.2.2.2.2.2.2.1 h).below hb5, fun h => (GG.out.2.2.2.2.2.2.2.1 h).below hb5, fun _ => hv5, GG.out.2.2.2.2.2.2.2.2.2⟩, hidD (MM.out.below hb5)⟩
      · have hf : D 10 = false := by
          cases h : D 10 with
          | false => rfl
          | true => rw [hcl 10 _ rfl h 9 (by simp)] at hDi; cases hDi
        obtain rfl := GG.out.2.2.2.2.2.2.2.2.2.1 hDi
        clear hds
        refine wpOp_go rfl rfl (fun K hK => ?_)
        go_simp
        exact hK _ _ ⟨_, _, _, _, _, _, _, _, _, _, _, rfl, hidD ⟨GG.out.1, fun h => (GG.out.2.1 h).alloc _, fun h => (GG.out.2.2.1 h).alloc _, fun h => (GG.out.2.2.2.1 h).alloc _, GG.out.2.2.2.2.1, fun h => (GG.out.2.2.2.2.2.1 h).alloc _, fun h => (GG.out.2.2.2.2.2.2.1 h).alloc _, fun h => (GG.out.2.2.2.2.2.2.2.1 h).alloc _, fun h => (GG.out.2.2.2.2.2.2.2.2.1 h).alloc _, ⟨fun h => by simp at h, fun _ _ => ⟨_, rfl, rfl⟩, fun h => by simp [hf] at h⟩⟩, hidD (MM.out.fill (i := 6) rfl (.int 0) (int0 _))⟩
      · obtain ⟨B, rfl, rfl⟩ := GG.out.2.2.2.2.2.2.2.2.2.2.1 (hds 9 (by simp)) hDi
        have hds0 := hds 9 (by simp)
        have hv := (GG.out.2.2.2.2.2.2.2.2.1 (hds 8 (by simp)))
        obtain ⟨s1, a1, l1, c1, rfl⟩ := IsInt.form2 (show IsInt V _ _ from hv)
        obtain ⟨s, a, l, c, n, i⟩ := MM.out.int (i := 6) rfl
        have e0 := n.c0
        have f0 := n.f0
        have e1 := n.c1
        have f1 := n.f1
        clear hds
        refine wpOp_go rfl rfl (fun K hK => ?_)
        go_simp
        exact hK _ _ ⟨_, _, _, _, _, _, _, _, _, _, _, rfl, hidD ⟨GG.out.1, fun h => (GG.out.2.1 h).set2 n rfl rfl _ _, fun h => (GG.out.2.2.1 h).set2 n rfl rfl _ _, fun h => (GG.out.2.2.2.1 h).set2 n rfl rfl _ _, GG.out.2.2.2.2.1, fun h => (GG.out.2.2.2.2.2.1 h).set2 n rfl rfl _ _, fun h => (GG.out.2.2.2.2.2.2.1 h).set2 n rfl rfl _ _, fun h => (GG.out.2.2.2.2.2.2.2.1 h).set2 n rfl rfl _ _, fun h => (GG.out.2.2.2.2.2.2.2.2.1 h).set2 n rfl rfl _ _, ⟨fun h => by simp [hds0] at h, fun _ h => by simp at h, fun _ => ⟨B, rfl, rfl⟩⟩⟩, hidD (MM.out.putInt (i := 6) rfl hv)⟩
    rintro D act V14 hDD ⟨t35x, t36x, t37x, t38x, t39x, t40x, t41x, t42x, t43x, t8x, x9, rfl, GG, MM⟩
    obtain ⟨B15, rfl, rfl⟩ := GG.out.2.2.2.2.2.2.2.2.2.2.2 (hDD 10 (by decide))
    clear GG hDD M4
    have M5 : Hid (Mem w V14 [some (w.heap.size, .rat (p)), some (w.heap.size + 1, .rat (q)), some (w.heap.size + 1 + 1, .rat (0)), some (B8, .int (cm)), some (B11, .int (lf)), some (B12, .int (rt)), some (B15, .int (ab))]) := MM
    clear MM
    go_upto_region 6 with fail
    obtain ⟨s16, a16, l16, c16, n16, i16⟩ := M5.out.int (i := 6) rfl
    have e16a := n16.c0
    have e16b := n16.c1
    obtain ⟨s17, a17, l17, c17, n17, i17⟩ := M5.out.int (i := 3) rfl
    have e17a := n17.c0
    have e17b := n17.c1
    have HC := hidD (igcd_c _ _ ab cm V14 i16 i17 (by have := T5.out.words; omega) (by have := T1.out.words; omega))
    rw [HAG.out] at HC
    go_upto_region 7 with (go_at_call 90; refine HC.out.mono ?_; clear HC; rintro e w1 ⟨u, rfl, hu, hb⟩; obtain ⟨s90, a90, l90, c90, rfl⟩ := IsInt.form2 hu)
    obtain ⟨V18, hV⟩ : ∃ V, w1.alloc (.cells #[.bool s90, .slice a90 l90 c90] 63) = V := ⟨_, rfl⟩
    obtain ⟨B18, hBk⟩ : ∃ B, w1.heap.size = B := ⟨_, rfl⟩
    have MM : Mem w (w1.alloc (.cells #[.bool s90, .slice a90 l90 c90] 63)) [some (w.heap.size, .rat (p)), some (w.heap.size + 1, .rat (q)), some (w.heap.size + 1 + 1, .rat (0)), some (B8, .int (cm)), some (B11, .int (lf)), some (B12, .int (rt)), some (B15, .int (ab)), some (w1.heap.size, .int (ag))] := Mem.push (M5.out.below hb) (.int (ag)) hu
    rw [hV, hBk] at MM
    rw [hV]
    rw [hBk]
    have M6 : Hid (Mem w V18 [some (w.heap.size, .rat (p)), some (w.heap.size + 1, .rat (q)), some (w.heap.size + 1 + 1, .rat (0)), some (B8, .int (cm)), some (B11, .int (lf)), some (B12, .int (rt)), some (B15, .int (ab)), some (B18, .int (ag))]) := hidD (MM)
    clear M5
    clear MM hV hBk
    clear n16 e16a e16b i16 n17 e17a e17b i17 hu hb
    obtain ⟨s19, a19, l19, c19, n19, i19⟩ := M6.out.int (i := 6) rfl
    have e19a := n19.c0
    have e19b := n19.c1
    obtain ⟨s20, a20, l20, c20, n20, i20⟩ := M6.out.int (i := 7) rfl
    have e20a := n20.c0
    have e20b := n20.c1
    obtain ⟨s21, a21, l21, c21, n21, i21⟩ := M6.out.int (i := 4) rfl
    have e21a := n21.c0
    have e21b := n21.c1
    obtain ⟨s22, a22, l22, c22, t22, b22, k22, d22, n22, r22, i22, j22⟩ := M6.out.rat (i := 1) rfl
    have e22a := n22.c0
    have e22b := n22.c1
    have e22c := n22.c2
    have e22d := n22.c3
    obtain ⟨s23, a23, l23, c23, t23, b23, k23, d23, n23, r23, i23, j23⟩ := M6.out.rat (i := 2) rfl
    have e23a := n23.c0
    have e23b := n23.c1
    have e23c := n23.c2
    have e23d := n23.c3
    have f23a := n23.f0
    have f23b := n23.f1
    have f23c := n23.f2
    have f23d := n23.f3
    have H1 := hidD (fun (V : World) (h : Below V18.heap.size V18 V) => part_c _ _ ab ag V (i19.below h) (i20.below h) T7.out T5.out T6.out)
    have H2 := hidD (fun (V : World) (h : Below V18.heap.size V18 V) => den_c _ q V (r22.below h))
    have H3 := hidD (fun (V : World) (u : Value) (h : Below V18.heap.size V18 V) (hu : IsInt V u (q.den : Int)) => part_c u _ (q.den : Int) ag V hu (i20.below h) T7.out HQ.out.den T6.out)
    have H4 := hidD (fun (V : World) (u : Value) (h : Below V18.heap.size V18 V) (hu : IsInt V u ((q.den : Int) / ag)) => itimes_c _ u lf ((q.den : Int) / ag) V (i21.below h) hu (by have h1 := T3.out.words; have h2 := (Sok.div (y := ag) HQ.out.den).words; omega))
    have H5 := hidD (fun (V : World) (u v : Value) (hu : IsInt V u (ab / ag)) (hv : IsInt V v (lf * ((q.den : Int) / ag))) => least_c u v (p + q) V (by rw [T10.out]; exact hu) (by rw [T11.out]; exact hv))
    have ne6 : B15 ≠ w.heap.size + 1 + 1 := M6.out.ne 6 2 rfl rfl (by decide)
    have ne7 : B18 ≠ w.heap.size + 1 + 1 := M6.out.ne 7 2 rfl rfl (by decide)
    have ne4 : B11 ≠ w.heap.size + 1 + 1 := M6.out.ne 4 2 rfl rfl (by decide)
    have ne1 : w.heap.size + 1 ≠ w.heap.size + 1 + 1 := M6.out.ne 1 2 rfl rfl (by decide)
    have hq : Below V18.heap.size V18 V18.drew := (Below.refl _ V18).drew
    go_region_held3 (fun w' => w'.cell? ⟨B15, 0, none⟩ = some (.bool s19) ∧ w'.cell? ⟨B15, 1, none⟩ = some (.slice a19 l19 c19) ∧ w'.cell? ⟨B18, 0, none⟩ = some (.bool s20) ∧ w'.cell? ⟨B18, 1, none⟩ = some (.slice a20 l20 c20) ∧ w'.cell? ⟨B11, 0, none⟩ = some (.bool s21) ∧ w'.cell? ⟨B11, 1, none⟩ = some (.slice a21 l21 c21) ∧ w'.cell? ⟨w.heap.size + 1, 0, none⟩ = some (.bool s22) ∧ w'.cell? ⟨w.heap.size + 1, 1, none⟩ = some (.slice a22 l22 c22) ∧ w'.cell? ⟨w.heap.size + 1, 2, none⟩ = some (.bool t22) ∧ w'.cell? ⟨w.heap.size + 1, 3, none⟩ = some (.slice b22 k22 d22)) (first | (with_reducible exact ⟨e19a, e19b, e20a, e20b, e21a, e21b, e22a, e22b, e22c, e22d⟩) | (go_keep; done) | (refine ⟨?_, ?_, ?_, ?_, ?_, ?_, ?_, ?_, ?_, ?_⟩ <;> ((repeat rw [cell_set_nb (by omega)]); first | assumption | (go_keep; done))))
      (first
        | (go_at_call 91; refine (H1.out _ hq).mono ?_; clear H1; rintro e w2 ⟨u2, rfl, hu2, hb2⟩; have hq := Below.then hq hb2; have e19a := (n19.below hq).c0; have e19b := (n19.below hq).c1; have e20a := (n20.below hq).c0; have e20b := (n20.below hq).c1; have e21a := (n21.below hq).c0; have e21b := (n21.below hq).c1; have e22a := (n22.below hq).c0; have e22b := (n22.below hq).c1; have e22c := (n22.below hq).c2; have e22d := (n22.below hq).c3; have e23a := (n23.below hq).c0; have e23b := (n23.below hq).c1; have e23c := (n23.below hq).c2; have e23d := (n23.below hq).c3; have f23a := (n23.below hq).f0; have f23b := (n23.below hq).f1; have f23c := (n23.below hq).f2; have f23d := (n23.below hq).f3)
        | (go_at_call 86; refine (H2.out _ hq).mono ?_; clear H2; rintro e w3 ⟨u3, rfl, hu3, hb3⟩; have hu2 := hu2.below hb3; have hq := Below.then hq hb3; have e19a := (n19.below hq).c0; have e19b := (n19.below hq).c1; have e20a := (n20.below hq).c0; have e20b := (n20.below hq).c1; have e21a := (n21.below hq).c0; have e21b := (n21.below hq).c1; have e22a := (n22.below hq).c0; have e22b := (n22.below hq).c1; have e22c := (n22.below hq).c2; have e22d := (n22.below hq).c3; have e23a := (n23.below hq).c0; have e23b := (n23.below hq).c1; have e23c := (n23.below hq).c2; have e23d := (n23.below hq).c3; have f23a := (n23.below hq).f0; have f23b := (n23.below hq).f1; have f23c := (n23.below hq).f2; have f23d := (n23.below hq).f3)
        | (go_at_call 91; refine (H3.out _ _ hq hu3).mono ?_; clear H3; rintro e w4 ⟨u4, rfl, hu4, hb4⟩; have hu2 := hu2.below hb4; have hq := Below.then hq hb4; have e19a := (n19.below hq).c0; have e19b := (n19.below hq).c1; have e20a := (n20.below hq).c0; have e20b := (n20.below hq).c1; have e21a := (n21.below hq).c0; have e21b := (n21.below hq).c1; have e22a := (n22.below hq).c0; have e22b := (n22.below hq).c1; have e22c := (n22.below hq).c2; have e22d := (n22.below hq).c3; have e23a := (n23.below hq).c0; have e23b := (n23.below hq).c1; have e23c := (n23.below hq).c2; have e23d := (n23.below hq).c3; have f23a := (n23.below hq).f0; have f23b := (n23.below hq).f1; have f23c := (n23.below hq).f2; have f23d := (n23.below hq).f3)
        | (go_at_call 85; refine (H4.out _ _ hq hu4).mono ?_; clear H4; rintro e w5 ⟨u5, rfl, hu5, hb5⟩; have hu2 := hu2.below hb5; have hq := Below.then hq hb5; have e19a := (n19.below hq).c0; have e19b := (n19.below hq).c1; have e20a := (n20.below hq).c0; have e20b := (n20.below hq).c1; have e21a := (n21.below hq).c0; have e21b := (n21.below hq).c1; have e22a := (n22.below hq).c0; have e22b := (n22.below hq).c1; have e22c := (n22.below hq).c2; have e22d := (n22.below hq).c3; have e23a := (n23.below hq).c0; have e23b := (n23.below hq).c1; have e23c := (n23.below hq).c2; have e23d := (n23.below hq).c3; have f23a := (n23.below hq).f0; have f23b := (n23.below hq).f1; have f23c := (n23.below hq).f2; have f23d := (n23.below hq).f3)
        | (go_at_call 92; refine (H5.out _ _ _ hu2 hu5).mono ?_; clear H5; rintro e w6 ⟨u6, rfl, hu6, hb6⟩; obtain ⟨s91, a91, l91, c91, t91, b91, k91, d91, rfl⟩ := IsRat.form hu6; have hq := Below.then hq hb6; have e19a := (n19.below hq).c0; have e19b := (n19.below hq).c1; have e20a := (n20.below hq).c0; have e20b := (n20.below hq).c1; have e21a := (n21.below hq).c0; have e21b := (n21.below hq).c1; have e22a := (n22.below hq).c0; have e22b := (n22.below hq).c1; have e22c := (n22.below hq).c2; have e22d := (n22.below hq).c3; have e23a := (n23.below hq).c0; have e23b := (n23.below hq).c1; have e23c := (n23.below hq).c2; have e23d := (n23.below hq).c3; have f23a := (n23.below hq).f0; have f23b := (n23.below hq).f1; have f23c := (n23.below hq).f2; have f23d := (n23.below hq).f3))
    all_goals go_wp2_with fail
    have hq2 := M6.out.2.2.trans (hq.mono M6.out.2.2.size)
    have hge := M6.out.ge 2 rfl
    exact bodyPost_ret (v := .agg #[.bool s91, .slice a91 l91 c91, .bool t91, .slice b91 k91 d91]) (by simp [results, Tryz.results87, go_sem, e23a, e23b, e23c, e23d]) rfl ⟨_, rfl, hu6.put4 (n23.below hq) rfl rfl rfl rfl _ _ _ _, below_put4 hq2 hge _ _ _ _⟩
end Go.Proofs.YteldjhhjnchdeaaGreatDoor
