import Derived.Test.YtjmmnpfedhkjbaaGreatDoorK24
import Derived.Test.YtjmmnpfedhkjbaaGreatDoorK14
import Derived.Test.YtjmmnpfedhkjbaaGreatDoorK20
import Derived.Deep.RegionHeld3
namespace Go.Proofs.YtjmmnpfedhkjbaaGreatDoor
open Go.RowKit Go.Shelf

attribute [local go_sem] Oper.semAt_some

set_option maxRecDepth 100000 in
set_option maxHeartbeats 1000000 in
theorem igcd_c (va vb : Value) (x y : Int) (w : World) (ha : IsInt w va x) (hb : IsInt w vb y) (hlx : (limbs B64 x.natAbs).length < 1000000000000) (hly : (limbs B64 y.natAbs).length < 1000000000000) :
    Calls Tryz.prog 8 #[va, vb] w fun e w' => ∃ u, e = .returned u ∧ IsInt w' u (Int.gcd x y : Nat) ∧ Below w.heap.size w w' := by
  obtain ⟨a, la, ca, e0, hu⟩ := ha
  cases e0
  obtain ⟨b, lb, cb, e0, hv⟩ := hb
  cases e0
  have ela := hu.len
  have elb := hv.len
  obtain ⟨s, hs⟩ : ∃ s, decide (x < 0) = s := ⟨_, rfl⟩
  obtain ⟨t, ht⟩ : ∃ t, decide (y < 0) = t := ⟨_, rfl⟩
  rw [hs, ht]
  obtain ⟨W0, hW0⟩ : ∃ W0, ((w.alloc (.cells #[.bool s, .slice a la ca] 29)).alloc (.cells #[.bool t, .slice b lb cb] 29)).alloc (.cells #[.bool false, .slice none 0 0] 29) = W0 := ⟨_, rfl⟩
  have hB0 : Below w.heap.size w W0 := by rw [← hW0]; exact below_3 w _ _ _
  have b0 : Box2 W0 w.heap.size 29 (.bool s) (.slice a la ca) := by rw [← hW0]; exact ((Box2.new w _ _ _).alloc _).alloc _
  have b1 : Box2 W0 (w.heap.size + 1) 29 (.bool t) (.slice b lb cb) := by
    have h := (Box2.new (w.alloc (.cells #[.bool s, .slice a la ca] 29)) 29 (.bool t) (.slice b lb cb)).alloc (.cells #[.bool false, .slice none 0 0] 29)
    rw [World.size_alloc, hW0] at h; exact h
  have bR : Box2 W0 (w.heap.size + 1 + 1) 29 (.bool false) (.slice none 0 0) := by
    have h := Box2.new ((w.alloc (.cells #[.bool s, .slice a la ca] 29)).alloc (.cells #[.bool t, .slice b lb cb] 29)) 29 (.bool false) (.slice none 0 0)
    rw [World.size_alloc, World.size_alloc, hW0] at h; exact h
  have HT := hidD (mgcd_w a la ca b lb cb _ _ W0 (UN.below hu hB0) (UN.below hv hB0) (by rw [ela]; exact hlx) (by rw [elb]; exact hly))
  have HS := hidD (fun (V : World) (u : Value) (hu : UN V u (Nat.gcd x.natAbs y.natAbs)) => show Calls Tryz.prog 28 #[.bool false, u] V fun e w' => ∃ u, e = .returned u ∧ IsInt w' u (Int.gcd x y : Nat) ∧ Below V.heap.size V w' from signed_c false u _ V hu)
  have k1 := b0.c1
  have k3 := b1.c1
  have HW0 := hidD hW0
  clear hu hv hs ht ela elb hlx hly hW0
  go_enter Tryz.func8, Tryz.ntmps8
  go_upto_region 1 with fail
  rw [HW0.out]
  have ne2 : ¬ (w.heap.size = w.heap.size + 1 + 1) := by omega
  go_wp2_with (first
    | (go_at_call 29; refine HT.out.mono ?_; rintro e w1 ⟨u1, rfl, hu1, hb1⟩; obtain ⟨na, nc, rfl⟩ := UN.form hu1)
    | (go_at_call 28; refine (HS.out _ _ hu1).mono ?_; rintro e w2 ⟨u2, rfl, hu2, hb2⟩; obtain ⟨sa, sl, sc, rfl⟩ := hu2.form; obtain ⟨s2, hs2⟩ : ∃ s2, decide (((Int.gcd x y : Nat) : Int) < 0) = s2 := ⟨_, rfl⟩; rw [hs2] at hu2; rw [hs2]; clear hs2; have hq := hb1.trans (hb2.mono hb1.size); have r0 := (bR.below hq).c0; have r1 := (bR.below hq).c1; have f0 := (bR.below hq).f0; have f1 := (bR.below hq).f1))
  have hq2 := hB0.trans (hq.mono hB0.size)
  have hfin := hu2.box (bR.below hq) rfl rfl (x0 := .bool s2) (x1 := .slice sa sl sc)
  exact bodyPost_ret (v := .agg #[.bool s2, .slice sa sl sc]) (by simp [results, Tryz.results8, go_sem, r0, r1]) rfl ⟨_, rfl, hfin, (hq2.setCell (p := ⟨_, 0, none⟩) (by simp only; omega) _).setCell (p := ⟨_, 1, none⟩) (by simp only; omega) _⟩
end Go.Proofs.YtjmmnpfedhkjbaaGreatDoor
namespace Go.Proofs.YtjmmnpfedhkjbaaGreatDoor
open Go.RowKit Go.Shelf

attribute [local go_sem] Oper.semAt_some

theorem below_4 (w : World) (o1 o2 o3 o4 : Obj) : Below w.heap.size w ((((w.alloc o1).alloc o2).alloc o3).alloc o4) :=
  ((((Below.refl _ w).alloc (Nat.le_refl _) _).alloc (by simp) _).alloc (by simp; omega) _).alloc (by simp; omega) _

/-- The one quotient with a rest from 0 on. -/
theorem ediv_one {x y z r : Int} (hy : y ≠ 0) (h : r + y * z = x) (h0 : 0 ≤ r) (h1 : r < y.natAbs) : z = x / y ∧ r = x % y := by
  rcases Int.lt_or_gt_of_ne hy with hn | hp
  · have h2 := (Int.ediv_emod_unique (a := x) (b := -y) (r := r) (q := -z) (by omega)).2 ⟨by rw [Int.neg_mul_neg]; exact h, h0, by omega⟩
    rw [Int.ediv_neg, Int.emod_neg] at h2
    exact ⟨by omega, h2.2.symm⟩
  · have h2 := (Int.ediv_emod_unique (a := x) (b := y) (r := r) (q := z) hp).2 ⟨h, h0, by omega⟩
    exact ⟨h2.1.symm, h2.2.symm⟩

/-- Quotient and rest of the sizes, with their signs. -/
theorem split_signs {x y : Int} (hy : y ≠ 0) (hc : ¬ (x < 0 ∧ x.natAbs % y.natAbs ≠ 0)) :
    (if (!(decide (x < 0) == decide (y < 0))) = true then -((x.natAbs / y.natAbs : Nat) : Int) else ((x.natAbs / y.natAbs : Nat) : Int)) = x / y ∧ ((x.natAbs % y.natAbs : Nat) : Int) = x % y := by
  have hm := Nat.div_add_mod x.natAbs y.natAbs
  have hlt := Nat.mod_lt x.natAbs (show y.natAbs > 0 by omega)
  generalize x.natAbs / y.natAbs = Q at *
  generalize x.natAbs % y.natAbs = R at *
  have hm2 : (y.natAbs : Int) * Q + R = x.natAbs := by rw [← hm]; push_cast; rfl
  apply ediv_one hy _ (by omega) (by omega)
  by_cases hx : x < 0 <;> by_cases hy2 : y < 0
  · have hR : R = 0 := by
      rcases Nat.eq_zero_or_pos R with h | h
      · exact h
      · exact absurd ⟨hx, by omega⟩ hc
    have e1 : (y.natAbs : Int) = -y := by omega
    have e2 : (x.natAbs : Int) = -x := by omega
    rw [e1, e2, Int.neg_mul] at hm2
    simp [hx, hy2]
    omega
  · have hR : R = 0 := by
      rcases Nat.eq_zero_or_pos R with h | h
      · exact h
      · exact absurd ⟨hx, by omega⟩ hc
    have e1 : (y.natAbs : Int) = y := by omega
    have e2 : (x.natAbs : Int) = -x := by omega
    rw [e1, e2] at hm2
    simp [hx, hy2, Int.mul_neg]
    omega
  · have e1 : (y.natAbs : Int) = -y := by omega
    have e2 : (x.natAbs : Int) = x := by omega
    rw [e1, e2, Int.neg_mul] at hm2
    simp [hx, hy2, Int.mul_neg]
    omega
  · have e1 : (y.natAbs : Int) = y := by omega
    have e2 : (x.natAbs : Int) = x := by omega
    rw [e1, e2] at hm2
    simp [hx, hy2]
    omega

theorem split_signs_n {x y : Int} (hy : y ≠ 0) (hc : x < 0 ∧ x.natAbs % y.natAbs ≠ 0) :
    (if (!(decide (x < 0) == decide (y < 0))) = true then -((x.natAbs / y.natAbs + 1 : Nat) : Int) else ((x.natAbs / y.natAbs + 1 : Nat) : Int)) = x / y ∧ ((y.natAbs - x.natAbs % y.natAbs : Nat) : Int) = x % y := by
  have hm := Nat.div_add_mod x.natAbs y.natAbs
  have hlt := Nat.mod_lt x.natAbs (show y.natAbs > 0 by omega)
  generalize x.natAbs / y.natAbs = Q at *
  generalize x.natAbs % y.natAbs = R at *
  have hm2 : (y.natAbs : Int) * Q + R = x.natAbs := by rw [← hm]; push_cast; rfl
  obtain ⟨hx, hR⟩ := hc
  apply ediv_one hy _ (by omega) (by omega)
  have e2 : (x.natAbs : Int) = -x := by omega
  by_cases hy2 : y < 0
  · have e1 : (y.natAbs : Int) = -y := by omega
    have e3 : ((y.natAbs - R : Nat) : Int) = -y - R := by omega
    rw [e1, e2, Int.neg_mul] at hm2
    rw [e3]
    simp [hx, hy2, Int.mul_add]
    omega
  · have e1 : (y.natAbs : Int) = y := by omega
    have e3 : ((y.natAbs - R : Nat) : Int) = y - R := by omega
    rw [e1, e2] at hm2
    rw [e3]
    simp [hx, hy2, Int.mul_neg, Int.mul_add]
    omega
end Go.Proofs.YtjmmnpfedhkjbaaGreatDoor
namespace Go.Proofs.YtjmmnpfedhkjbaaGreatDoor
open Go.RowKit Go.Shelf

attribute [local go_sem] Oper.semAt_some

theorem box_two {W : World} {B : Nat} {t : TypeId} {v0 v1 u0 u1 : Value} (x0 x1 y0 y1 : Value) (h : Box2 W B t v0 v1) (k : Box2 W (B + 1) t u0 u1) :
    Box2 ((((W.setCell ⟨B, 0, none⟩ x0).setCell ⟨B, 1, none⟩ x1).setCell ⟨B + 1, 0, none⟩ y0).setCell ⟨B + 1, 1, none⟩ y1) B t x0 x1 ∧ Box2 ((((W.setCell ⟨B, 0, none⟩ x0).setCell ⟨B, 1, none⟩ x1).setCell ⟨B + 1, 0, none⟩ y0).setCell ⟨B + 1, 1, none⟩ y1) (B + 1) t y0 y1 :=
  ⟨(((h.set0 x0).set1 x1).far (by simp) y0).far (by simp) y1, (((k.far (by simp) x0).far (by simp) x1).set0 y0).set1 y1⟩

/-- The memory that Split begins with. -/
theorem split_boxes (w : World) (o0 o1 o2 o3 : Value) (p0 p1 : Value) :
    Box2 ((((w.alloc (.cells #[o0, o1] 29)).alloc (.cells #[o2, o3] 29)).alloc (.cells #[p0, p1] 29)).alloc (.cells #[p0, p1] 29)) w.heap.size 29 o0 o1 ∧
    Box2 ((((w.alloc (.cells #[o0, o1] 29)).alloc (.cells #[o2, o3] 29)).alloc (.cells #[p0, p1] 29)).alloc (.cells #[p0, p1] 29)) (w.heap.size + 1) 29 o2 o3 ∧
    Box2 ((((w.alloc (.cells #[o0, o1] 29)).alloc (.cells #[o2, o3] 29)).alloc (.cells #[p0, p1] 29)).alloc (.cells #[p0, p1] 29)) (w.heap.size + 1 + 1) 29 p0 p1 ∧
    Box2 ((((w.alloc (.cells #[o0, o1] 29)).alloc (.cells #[o2, o3] 29)).alloc (.cells #[p0, p1] 29)).alloc (.cells #[p0, p1] 29)) (w.heap.size + 1 + 1 + 1) 29 p0 p1 := by
  refine ⟨(((Box2.new w _ _ _).alloc _).alloc _).alloc _, ?_, ?_, ?_⟩
  · have h := ((Box2.new (w.alloc (.cells #[o0, o1] 29)) 29 o2 o3).alloc (.cells #[p0, p1] 29)).alloc (.cells #[p0, p1] 29)
    rw [World.size_alloc] at h; exact h
  · have h := (Box2.new ((w.alloc (.cells #[o0, o1] 29)).alloc (.cells #[o2, o3] 29)) 29 p0 p1).alloc (.cells #[p0, p1] 29)
    rw [World.size_alloc, World.size_alloc] at h; exact h
  · have h := Box2.new (((w.alloc (.cells #[o0, o1] 29)).alloc (.cells #[o2, o3] 29)).alloc (.cells #[p0, p1] 29)) 29 p0 p1
    rw [World.size_alloc, World.size_alloc, World.size_alloc] at h; exact h

set_option maxRecDepth 100000 in
set_option maxHeartbeats 2000000 in
theorem isplit_0 (va : Value) (x : Int) (b : Option Addr) (cb : Nat) (t : Bool) (w : World) (ha : IsInt w va x) :
    Calls Tryz.prog 7 #[va, .agg #[.bool t, .slice b 0 cb]] w fun e w' => e = .returned (.tuple #[.agg #[.bool false, .slice none 0 0], .agg #[.bool false, .slice none 0 0], .bool false]) ∧ Below w.heap.size w w' := by
  obtain ⟨a, la, ca, e0, hu⟩ := ha
  cases e0
  obtain ⟨s, hs⟩ : ∃ s, decide (x < 0) = s := ⟨_, rfl⟩
  rw [hs]
  obtain ⟨b0, b1, b4, b5⟩ := split_boxes w (.bool s) (.slice a la ca) (.bool t) (.slice b 0 cb) (.bool false) (.slice none 0 0)
  have hB0 := below_4 w (.cells #[.bool s, .slice a la ca] 29) (.cells #[.bool t, .slice b 0 cb] 29) (.cells #[.bool false, .slice none 0 0] 29) (.cells #[.bool false, .slice none 0 0] 29)
  obtain ⟨W0, hW0⟩ : ∃ W0, (((w.alloc (.cells #[.bool s, .slice a la ca] 29)).alloc (.cells #[.bool t, .slice b 0 cb] 29)).alloc (.cells #[.bool false, .slice none 0 0] 29)).alloc (.cells #[.bool false, .slice none 0 0] 29) = W0 := ⟨_, rfl⟩
  rw [hW0] at b0 b1 b4 b5 hB0
  have HW0 := hidD hW0
  have k1 := b1.c1
  have q0 := b4.c0
  have q1 := b4.c1
  have q2 := b5.c0
  have q3 := b5.c1
  have f0 := b4.f0
  have f1 := b4.f1
  have f2 := b5.f0
  have f3 := b5.f1
  clear hW0 hs hu
  go_enter Tryz.func7, Tryz.ntmps7
  go_upto_region 1 with fail
  rw [HW0.out]
  go_wp2_with fail
  obtain ⟨z4, z5⟩ := box_two (.bool false) (.slice none 0 0) (.bool false) (.slice none 0 0) b4 b5
  have z4a := z4.c0
  have z4b := z4.c1
  have z5a := z5.c0
  have z5b := z5.c1
  exact bodyPost_ret (v := .tuple #[.agg #[.bool false, .slice none 0 0], .agg #[.bool false, .slice none 0 0], .bool false]) (by simp [results, Tryz.results7, go_sem, z4a, z4b, z5a, z5b]) rfl ⟨rfl, (((hB0.setCell (p := ⟨_, 0, none⟩) (by simp only; omega) _).setCell (p := ⟨_, 1, none⟩) (by simp only; omega) _).setCell (p := ⟨_, 0, none⟩) (by simp only; omega) _).setCell (p := ⟨_, 1, none⟩) (by simp only; omega) _⟩

set_option maxRecDepth 100000 in
set_option maxHeartbeats 4000000 in
theorem isplit_v (a : Option Addr) (la ca : Nat) (b : Option Addr) (lb cb X Y : Nat) (s t : Bool) (z r : Int) (w : World) (hu : UN w (.slice a la ca) X) (hv : UN w (.slice b lb cb) Y) (hY : Y ≠ 0) (hla : la < 1000000000000) (hlb : lb < 1000000000000)
    (HP : Hid (¬ (s = true ∧ X % Y ≠ 0) → (if (!(s == t)) = true then -((X / Y : Nat) : Int) else ((X / Y : Nat) : Int)) = z ∧ ((X % Y : Nat) : Int) = r))
    (HN : Hid (s = true ∧ X % Y ≠ 0 → (if (!(s == t)) = true then -((X / Y + 1 : Nat) : Int) else ((X / Y + 1 : Nat) : Int)) = z ∧ ((Y - X % Y : Nat) : Int) = r)) :
    Calls Tryz.prog 7 #[.agg #[.bool s, .slice a la ca], .agg #[.bool t, .slice b lb cb]] w fun e w' => ∃ q o, e = .returned (.tuple #[q, o, .bool true]) ∧ IsInt w' q z ∧ IsInt w' o r ∧ Below w.heap.size w w' := by
  obtain ⟨b0, b1, b4, b5⟩ := split_boxes w (.bool s) (.slice a la ca) (.bool t) (.slice b lb cb) (.bool false) (.slice none 0 0)
  have hB0 := below_4 w (.cells #[.bool s, .slice a la ca] 29) (.cells #[.bool t, .slice b lb cb] 29) (.cells #[.bool false, .slice none 0 0] 29) (.cells #[.bool false, .slice none 0 0] 29)
  obtain ⟨W0, hW0⟩ : ∃ W0, (((w.alloc (.cells #[.bool s, .slice a la ca] 29)).alloc (.cells #[.bool t, .slice b lb cb] 29)).alloc (.cells #[.bool false, .slice none 0 0] 29)).alloc (.cells #[.bool false, .slice none 0 0] 29) = W0 := ⟨_, rfl⟩
  rw [hW0] at b0 b1 b4 b5 hB0
  have HW0 := hidD hW0
  have hlb0 : lb ≠ 0 := fun e => hY ((limbs_eq_nil two_le_B64).1 (List.eq_nil_of_length_eq_zero (by rw [← UN.len hv, e])))
  have hu0 := UN.below hu hB0
  have hv0 := UN.below hv hB0
  have HSP := hidD (msplit_w a la ca b lb cb X Y W0 hu0 hv0 hY (by omega))
  have HV0 := hidD hv0
  have HLX := hidD (UN.len hu).symm
  have k0 := b0.c0
  have k1 := b0.c1
  have k2 := b1.c0
  have k3 := b1.c1
  clear hW0 hu hv hu0 hv0
  go_enter Tryz.func7, Tryz.ntmps7
  go_upto_region 1 with fail
  rw [HW0.out]
  go_upto_region 4 with (go_at_call 25; refine HSP.out.mono ?_; rintro e w1 ⟨u1, v1, rfl, hu1, hv1, hb1⟩; obtain ⟨ua, uc, rfl⟩ := UN.form hu1; obtain ⟨va, vc, rfl⟩ := UN.form hv1)
  clear HSP HW0
  have k0 := (b0.below hb1).c0
  have k1 := (b0.below hb1).c1
  have k2 := (b1.below hb1).c0
  have k3 := (b1.below hb1).c1
  have hlr : (limbs B64 (X % Y)).length = 0 ↔ X % Y = 0 := ⟨fun h => (limbs_eq_nil two_le_B64).1 (List.eq_nil_of_length_eq_zero h), fun h => by rw [h, limbs_zero]; rfl⟩
  have hmod := Nat.mod_lt X (show Y > 0 by omega)
  have hlu := wlimbs_mono (m := X) (n := X / Y) (Nat.div_le_self _ _)
  have hlX : (limbs B64 (X / Y)).length < 1099511627776 := by
    have h1 := (row_fn hu1).2.2.2.1
    have : (limbs B64 X).length = la := by
      have h := HLX.out
      omega
    omega
  obtain ⟨lr, hlre⟩ : ∃ lr, (limbs B64 (X % Y)).length = lr := ⟨_, rfl⟩
  obtain ⟨lq, hlqe⟩ : ∃ lq, (limbs B64 (X / Y)).length = lq := ⟨_, rfl⟩
  rw [hlre] at hv1 hlr ⊢
  rw [hlqe] at hu1 hlX ⊢
  obtain ⟨cd, hcd⟩ : ∃ cd : Bool, (s && decide (0 < lr)) = cd := ⟨_, rfl⟩
  have HCD := hidD hcd
  have HLR := hidD hlr
  clear hcd hlr hlre hlqe
  go_cut [29] (fun v w2 => v = .bool cd ∧ w2 = w1)
  case first =>
    cases s with
    | false =>
      have e5 : cd = false := by rw [← HCD.out]; rfl
      go_wp2_with fail
      go_meet
      case rel => exact ⟨by rw [e5], rfl⟩
    | true =>
      by_cases h5 : 0 < lr
      · have e5 : cd = true := by rw [← HCD.out]; simp; omega
        go_wp2_with fail
        go_meet
        case rel => exact ⟨by rw [e5], rfl⟩
      · have e5 : cd = false := by rw [← HCD.out]; simp; omega
        go_wp2_with fail
        go_meet
        case rel => exact ⟨by rw [e5], rfl⟩
  case rest =>
    obtain ⟨rfl, rfl⟩ := hcut
    go_upto_if 29 with fail
    go_cut [7, 8] (fun qv rv w2 => ∃ (qa : Option Addr) (ql qc Q : Nat) (oa : Option Addr) (ol oc R : Nat), qv = .slice qa ql qc ∧ rv = .slice oa ol oc ∧ Hid (UN w2 (.slice qa ql qc) Q) ∧ Hid (UN w2 (.slice oa ol oc) R) ∧ Hid ((if (!(s == t)) = true then -(Q : Int) else (Q : Int)) = z ∧ (R : Int) = r) ∧ Below W0.heap.size W0 w2)
    case first =>
      cases cd with
      | false =>
        have hc : ¬ (s = true ∧ X % Y ≠ 0) := fun ⟨h1, h2⟩ => by
          have h := HCD.out
          rw [h1] at h
          simp at h
          exact h2 (HLR.out.1 h)
        go_wp2_with fail
        go_meet
        case rel => exact ⟨_, _, _, _, _, _, _, _, rfl, rfl, hidD hu1, hidD hv1, hidD (HP.out hc), hb1⟩
      | true =>
        have hc : s = true ∧ X % Y ≠ 0 := by
          have h := HCD.out
          simp at h
          exact ⟨h.1, fun e => by have := HLR.out.2 e; omega⟩
        have HC := hidD hc
        clear hc
        have HPL := hidD (show ∀ V : World, Below wc.heap.size wc V → Calls Tryz.prog 26 #[.slice ua lq uc, .slice (some ⟨V.heap.size, 0, none⟩) 1 1] (V.alloc (.cells #[.int .u64 1] 53)) fun e w' => ∃ u, e = .returned u ∧ UN w' u (X / Y + 1) ∧ Below (V.alloc (.cells #[.int .u64 1] 53)).heap.size (V.alloc (.cells #[.int .u64 1] 53)) w' from fun V h => by
          have hone : Row .u64 (V.alloc (.cells #[.int .u64 1] 53)) (.slice (some ⟨V.heap.size, 0, none⟩) 1 1) (limbs B64 1) := by
            rw [limbs_small (by omega) (by unfold B64; omega)]
            exact (Arr.made (xs := [1]) (World.alloc_heap_new V (.cells #[.int .u64 ((1 : Nat) : Int)] 53))).row 0 1 1 (by simp) (by omega) (by omega) (by omega)
          exact rplus_w ua lq uc (some ⟨V.heap.size, 0, none⟩) 1 1 (X / Y) 1 _ (Row.below (Row.below hu1 h) ((Below.refl _ V).alloc (Nat.le_refl _) _)) hone hlX (by omega))
        have HMI := hidD (fun (V : World) (h : Below wc.heap.size wc V) => rminus_w b lb cb va lr vc Y (X % Y) V (Row.below (Row.below HV0.out hb1) h) (Row.below hv1 h) (by omega))
        have hq : Below wc.heap.size wc wc.drew := (Below.refl _ wc).drew
        have bx := b1.below hb1
        have lx := bx.lt
        go_wp2_with fail
        have k3 := bx.c1
        go_region_held3 (fun w' => w'.cell? ⟨w.heap.size + 1, 1, none⟩ = some (.slice b lb cb)) (first | exact k3 | (go_keep; done))
          (first
            | (go_at_call 26; refine (HPL.out _ hq).mono ?_; rintro e w3 ⟨u3, rfl, hu3, hb3⟩; obtain ⟨pa, pc, rfl⟩ := UN.form hu3; have hq := below_at hq hb3; have k3 := (bx.below hq).c1)
            | (go_at_call 27; refine (HMI.out _ hq).mono ?_; rintro e w4 ⟨u4, rfl, hu4, hb4⟩; obtain ⟨ma, mc, rfl⟩ := UN.form hu4; have hq := hq.trans (hb4.mono hq.size); have k3 := (bx.below hq).c1))
        all_goals go_wp2_with fail
        go_meet
        case rel => exact ⟨_, _, _, _, _, _, _, _, rfl, rfl, hidD (UN.below hu3 hb4), hidD hu4, hidD (HN.out HC.out), hb1.trans (hq.mono hb1.size)⟩
    case rest =>
      obtain ⟨qa, ql, qc, Q, oa, ol, oc, R, rfl, rfl, hQ, hR, hZ, hb2⟩ := hcut
      have HS1 := hidD (show ∀ V : World, Below wc.heap.size wc V → Calls Tryz.prog 28 #[.bool (!(s == t)), .slice qa ql qc] V fun e w' => ∃ u, e = .returned u ∧ IsInt w' u z ∧ Below V.heap.size V w' from fun V h => by
        have h1 := signed_c (!(s == t)) _ _ V (UN.below hQ.out h)
        rw [hZ.out.1] at h1
        exact h1)
      have HS2 := hidD (show ∀ V : World, Below wc.heap.size wc V → Calls Tryz.prog 28 #[.bool false, .slice oa ol oc] V fun e w' => ∃ u, e = .returned u ∧ IsInt w' u r ∧ Below V.heap.size V w' from fun V h => by
        have h1 := signed_c false _ _ V (UN.below hR.out h)
        simp only [Bool.false_eq_true, if_false] at h1
        rw [hZ.out.2] at h1
        exact h1)
      have k0 := (b0.below hb2).c0
      have k2 := (b1.below hb2).c0
      go_wp2_with (first
        | (go_at_call 28; refine (HS1.out _ (Below.refl _ _)).mono ?_; clear HS1; rintro e w5 ⟨u5, rfl, hu5, hb5⟩; obtain ⟨a5, l5, c5, rfl⟩ := hu5.form; obtain ⟨s5, hs5⟩ : ∃ q, decide (z < 0) = q := ⟨_, rfl⟩; rw [hs5] at hu5; rw [hs5]; clear hs5)
        | (go_at_call 28; refine (HS2.out _ hb5).mono ?_; clear HS2; rintro e w6 ⟨u6, rfl, hu6, hb6⟩; obtain ⟨a6, l6, c6, rfl⟩ := hu6.form; obtain ⟨s6, hs6⟩ : ∃ q, decide (r < 0) = q := ⟨_, rfl⟩; rw [hs6] at hu6; rw [hs6]; clear hs6; have hq6 := (hb2.trans (hb5.mono hb2.size)).trans (hb6.mono (hb2.trans (hb5.mono hb2.size)).size); have q0 := (b4.below hq6).c0; have q1 := (b4.below hq6).c1; have q2 := (b5.below hq6).c0; have q3 := (b5.below hq6).c1; have f0 := (b4.below hq6).f0; have f1 := (b4.below hq6).f1; have f2 := (b5.below hq6).f0; have f3 := (b5.below hq6).f1))
      have b46 := b4.below hq6
      have b56 := b5.below hq6
      obtain ⟨z4, z5⟩ := box_two (.bool s5) (.slice a5 l5 c5) (.bool s6) (.slice a6 l6 c6) b46 b56
      have z4a := z4.c0
      have z4b := z4.c1
      have z5a := z5.c0
      have z5b := z5.c1
      have b57 : Box2 ((w6.setCell ⟨w.heap.size + 1 + 1, 0, none⟩ (.bool s5)).setCell ⟨w.heap.size + 1 + 1, 1, none⟩ (.slice a5 l5 c5)) (w.heap.size + 1 + 1 + 1) 29 (.bool false) (.slice none 0 0) := (b56.far (by simp) _).far (by simp) _
      have hz1 := ((hu5.below hb6).box b46 rfl rfl (x0 := .bool s5) (x1 := .slice a5 l5 c5)).box b57 rfl rfl (x0 := .bool s6) (x1 := .slice a6 l6 c6)
      have hz2 := (hu6.box b46 rfl rfl (x0 := .bool s5) (x1 := .slice a5 l5 c5)).box b57 rfl rfl (x0 := .bool s6) (x1 := .slice a6 l6 c6)
      have hB6 := hB0.trans (hq6.mono hB0.size)
      exact bodyPost_ret (v := .tuple #[.agg #[.bool s5, .slice a5 l5 c5], .agg #[.bool s6, .slice a6 l6 c6], .bool true]) (by simp [results, Tryz.results7, go_sem, z4a, z4b, z5a, z5b]) rfl ⟨_, _, rfl, hz1, hz2, (((hB6.setCell (p := ⟨_, 0, none⟩) (by simp only; omega) _).setCell (p := ⟨_, 1, none⟩) (by simp only; omega) _).setCell (p := ⟨_, 0, none⟩) (by simp only; omega) _).setCell (p := ⟨_, 1, none⟩) (by simp only; omega) _⟩

/-- Quotient and rest. -/
theorem isplit_c (va vb : Value) (x y : Int) (w : World) (ha : IsInt w va x) (hb : IsInt w vb y) (hy : y ≠ 0) (hlx : (limbs B64 x.natAbs).length < 1000000000000) (hly : (limbs B64 y.natAbs).length < 1000000000000) :
    Calls Tryz.prog 7 #[va, vb] w fun e w' => ∃ q o, e = .returned (.tuple #[q, o, .bool true]) ∧ IsInt w' q (x / y) ∧ IsInt w' o (x % y) ∧ Below w.heap.size w w' := by
  obtain ⟨a, la, ca, rfl, hu⟩ := ha
  obtain ⟨b, lb, cb, rfl, hv⟩ := hb
  refine isplit_v a la ca b lb cb x.natAbs y.natAbs _ _ (x / y) (x % y) w hu hv (by omega) (by rw [UN.len hu]; exact hlx) (by rw [UN.len hv]; exact hly) (fun hc => split_signs hy (fun h => hc ⟨decide_eq_true h.1, h.2⟩)) (fun hc => split_signs_n hy ⟨of_decide_eq_true hc.1, hc.2⟩)
end Go.Proofs.YtjmmnpfedhkjbaaGreatDoor
