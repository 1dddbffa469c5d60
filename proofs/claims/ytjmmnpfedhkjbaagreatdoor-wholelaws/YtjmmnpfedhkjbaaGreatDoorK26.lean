import Derived.Test.YtjmmnpfedhkjbaaGreatDoorK22
import Derived.Test.YtjmmnpfedhkjbaaGreatDoorK24
import Derived.Test.YtjmmnpfedhkjbaaGreatDoorK20
import Derived.Test.YtjmmnpfedhkjbaaGreatDoorK25
import Derived.Deep.RegionWith
namespace Go.Proofs.YtjmmnpfedhkjbaaGreatDoor
open Go.RowKit Go.Shelf

attribute [local go_sem] Oper.semAt_some

/-- The number that a row of digits holds. -/
def rowValI (W : World) : Value → Nat
  | .slice (some p) l _ => val 10000 ((List.range l).map fun j => cellN W ⟨p.block, p.off + j, none⟩)
  | _ => 0

theorem RN.rowVal {W : World} {a : Option Addr} {l c n : Nat} (h : RN W (.slice a l c) n) : rowValI W (.slice a l c) = n := by
  obtain ⟨h1, _, _, _, h5⟩ := row_fn h
  rcases Nat.eq_zero_or_pos l with h0 | h0
  · subst h0
    have hn : n = 0 := (limbs_eq_nil (by omega)).1 (List.eq_nil_of_length_eq_zero h1.symm)
    subst hn
    cases a <;> rfl
  · obtain ⟨b, off, rfl, _, _⟩ := h5 0 h0
    show val 10000 ((List.range l).map fun j => cellN W ⟨b, off + j, none⟩) = n
    have e : (List.range l).map (fun j => cellN W ⟨b, off + j, none⟩) = limbs 10000 n := by
      refine List.ext_getElem (by rw [List.length_map, List.length_range]; exact h1) (fun j g1 g2 => ?_)
      obtain ⟨b', off', e, _, hc⟩ := h5 j (by omega)
      cases e
      rw [List.getElem_map, List.getElem_range, cellN, hc, List.getElem?_eq_getElem g2]
      rfl
    rw [e, val_limbs (by omega)]

theorem rlimbs_mono {m n : Nat} (h : n ≤ m) : (limbs 10000 n).length ≤ (limbs 10000 m).length := by
  rcases Nat.lt_or_ge (limbs 10000 m).length (limbs 10000 n).length with h1 | h1
  · have := limbs_lt_length (by omega) h1; omega
  · exact h1

set_option maxRecDepth 100000 in
set_option maxHeartbeats 2000000 in
theorem rgcd_c (va vb : Value) (x y : Int) (w : World) (ha : IsBig w va x) (hb : IsBig w vb y) (hma : szB x ≤ 100000000) (hmb : szB y ≤ 100000000) :
    Calls Tryz.prog 11 #[va, vb] w fun e w' => ∃ u, e = .returned u ∧ IsBig w' u (Int.gcd x y : Nat) ∧ Below w.heap.size w w' := by
  obtain ⟨a, la, ca, rfl, ra⟩ := ha
  obtain ⟨b, lb, cb, rfl, rb⟩ := hb
  obtain ⟨s, hs⟩ : ∃ s, decide (x < 0) = s := ⟨_, rfl⟩
  obtain ⟨t, ht⟩ : ∃ t, decide (y < 0) = t := ⟨_, rfl⟩
  rw [hs, ht]
  clear hs ht
  obtain ⟨W0, hW0⟩ : ∃ W0, ((w.alloc (.cells #[.slice a la ca, .bool s] 24)).alloc (.cells #[.slice b lb cb, .bool t] 24)).alloc (.cells #[.slice none 0 0, .bool false] 24) = W0 := ⟨_, rfl⟩
  have hB0 : Below w.heap.size w W0 := by rw [← hW0]; exact below_3 w _ _ _
  have b0 : Box2 W0 w.heap.size 24 (.slice a la ca) (.bool s) := by rw [← hW0]; exact ((Box2.new w _ _ _).alloc _).alloc _
  have b1 : Box2 W0 (w.heap.size + 1) 24 (.slice b lb cb) (.bool t) := by
    have h := (Box2.new (w.alloc (.cells #[.slice a la ca, .bool s] 24)) 24 (.slice b lb cb) (.bool t)).alloc (.cells #[.slice none 0 0, .bool false] 24)
    rw [World.size_alloc, hW0] at h; exact h
  have bR : Box2 W0 (w.heap.size + 1 + 1) 24 (.slice none 0 0) (.bool false) := by
    have h := Box2.new ((w.alloc (.cells #[.slice a la ca, .bool s] 24)).alloc (.cells #[.slice b lb cb, .bool t] 24)) 24 (.slice none 0 0) (.bool false)
    rw [World.size_alloc, World.size_alloc, hW0] at h; exact h
  have r0 := RN.below ra hB0
  have r1 := RN.below rb hB0
  have k0 := b0.c0
  have k2 := b1.c0
  have hla : la ≤ 100000000 := by rw [RN.len ra]; exact hma
  have hlb : lb ≤ 100000000 := by rw [RN.len rb]; exact hmb
  have HW0 := hidD hW0
  clear hW0 ra rb hma hmb
  go_enter Tryz.func11, Tryz.ntmps11
  go_upto_region 1 with fail
  rw [HW0.out]
  clear HW0
  go_wp2_with fail
  go_loopw [5, 6] (fun xv yv wr => ∃ (a0 : Option Addr) (l0 c0 X : Nat) (a1 : Option Addr) (l1 c1 Y : Nat), xv = .slice a0 l0 c0 ∧ yv = .slice a1 l1 c1 ∧ Hid (RN wr (.slice a0 l0 c0) X) ∧ Hid (RN wr (.slice a1 l1 c1) Y) ∧ Hid (Nat.gcd X Y = Int.gcd x y) ∧ (l0 ≤ 100000000 ∧ l1 ≤ 100000000) ∧ Below W0.heap.size W0 wr)
    (fun _ yv wr => rowValI wr yv)
  case atStart => exact ⟨a, la, ca, x.natAbs, b, lb, cb, y.natAbs, rfl, rfl, hidD r0, hidD r1, hidD rfl, ⟨hla, hlb⟩, Below.refl _ W0⟩
  case round =>
    clear r0 r1 hla hlb
    obtain ⟨a0, l0, c0, X, a1, l1, c1, Y, rfl, rfl, hX, hY, hG, ⟨hl0, hl1⟩, hB⟩ := hrel
    rcases Nat.eq_zero_or_pos l1 with h0 | h0
    · subst h0
      have hYz : Y = 0 := (limbs_eq_nil (by omega)).1 (List.eq_nil_of_length_eq_zero (RN.len hY.out).symm)
      have HE := hidD (show X = Int.gcd x y by rw [← hG.out, hYz, Nat.gcd_zero_right])
      have bRw := bR.below hB
      have q0 := bRw.c0
      have q1 := bRw.c1
      have f0 := bRw.f0
      have f1 := bRw.f1
      clear hYz
      go_wp2_with fail
      have hfin := (bigOf hX.out).box bRw rfl rfl (x0 := .slice a0 l0 c0) (x1 := .bool false)
      rw [HE.out] at hfin
      have hB2 := hB0.trans (hB.mono hB0.size)
      have z0 := ((bRw.set0 (.slice a0 l0 c0)).set1 (.bool false)).c0
      have z1 := ((bRw.set0 (.slice a0 l0 c0)).set1 (.bool false)).c1
      exact bodyPost_ret (v := .agg #[.slice a0 l0 c0, .bool false]) (by simp [results, Tryz.results11, go_sem, z0, z1]) rfl ⟨_, rfl, hfin, (hB2.setCell (p := ⟨_, 0, none⟩) (by simp only; omega) _).setCell (p := ⟨_, 1, none⟩) (by simp only; omega) _⟩
    · have hY0 : Y ≠ 0 := fun e => by
        have h := RN.len hY.out
        rw [e, limbs_zero] at h
        simp at h
        omega
      have HLG := hidD (rlong_c a0 l0 c0 a1 l1 c1 X Y wr hX.out hY.out hY0 hl0 hl1)
      have hmod := Nat.mod_lt X (show Y > 0 by omega)
      go_wp2_with (go_at_call 31; refine HLG.out.mono ?_; rintro e w2 ⟨u, v, rfl, hu, hv, hb2⟩; obtain ⟨ua, uc, rfl⟩ := RN.form hu; obtain ⟨va, vc, rfl⟩ := RN.form hv)
      have hY2 := RN.below hY.out hb2
      refine ⟨⟨a1, l1, c1, Y, va, _, vc, X % Y, rfl, rfl, hidD hY2, hidD hv, hidD (by rw [← hG.out, Nat.gcd_comm Y, ← Nat.gcd_rec, Nat.gcd_comm]), ⟨hl1, ?_⟩, hB.trans (hb2.mono hB.size)⟩, ?_⟩
      · have h1 := rlimbs_mono (Nat.le_of_lt hmod)
        rw [← RN.len hY.out] at h1
        omega
      · rw [RN.rowVal hv, RN.rowVal hY.out]
        exact hmod
end Go.Proofs.YtjmmnpfedhkjbaaGreatDoor
namespace Go.Proofs.YtjmmnpfedhkjbaaGreatDoor
open Go.RowKit Go.Shelf

attribute [local go_sem] Oper.semAt_some

theorem big_boxes (w : World) (o0 o1 o2 o3 : Value) (p0 p1 : Value) :
    Box2 ((((w.alloc (.cells #[o0, o1] 24)).alloc (.cells #[o2, o3] 24)).alloc (.cells #[p0, p1] 24)).alloc (.cells #[p0, p1] 24)) w.heap.size 24 o0 o1 ∧
    Box2 ((((w.alloc (.cells #[o0, o1] 24)).alloc (.cells #[o2, o3] 24)).alloc (.cells #[p0, p1] 24)).alloc (.cells #[p0, p1] 24)) (w.heap.size + 1) 24 o2 o3 ∧
    Box2 ((((w.alloc (.cells #[o0, o1] 24)).alloc (.cells #[o2, o3] 24)).alloc (.cells #[p0, p1] 24)).alloc (.cells #[p0, p1] 24)) (w.heap.size + 1 + 1) 24 p0 p1 ∧
    Box2 ((((w.alloc (.cells #[o0, o1] 24)).alloc (.cells #[o2, o3] 24)).alloc (.cells #[p0, p1] 24)).alloc (.cells #[p0, p1] 24)) (w.heap.size + 1 + 1 + 1) 24 p0 p1 := by
  refine ⟨(((Box2.new w _ _ _).alloc _).alloc _).alloc _, ?_, ?_, ?_⟩
  · have h := ((Box2.new (w.alloc (.cells #[o0, o1] 24)) 24 o2 o3).alloc (.cells #[p0, p1] 24)).alloc (.cells #[p0, p1] 24)
    rw [World.size_alloc] at h; exact h
  · have h := (Box2.new ((w.alloc (.cells #[o0, o1] 24)).alloc (.cells #[o2, o3] 24)) 24 p0 p1).alloc (.cells #[p0, p1] 24)
    rw [World.size_alloc, World.size_alloc] at h; exact h
  · have h := Box2.new (((w.alloc (.cells #[o0, o1] 24)).alloc (.cells #[o2, o3] 24)).alloc (.cells #[p0, p1] 24)) 24 p0 p1
    rw [World.size_alloc, World.size_alloc, World.size_alloc] at h; exact h

/-- A row with a sign, as the reference makes it. -/
theorem made_big {W : World} {a : Option Addr} {l c n : Nat} (h : RN W (.slice a l c) n) (m : Bool) : IsBig W (.agg #[.slice a l c, .bool (m && decide (0 < l))]) (if m = true then -(n : Int) else (n : Int)) := by
  have hl := RN.len h
  have hz : 0 < l ↔ n ≠ 0 := by
    rw [hl]
    constructor
    · intro h1 h2
      rw [h2, limbs_zero] at h1
      simp at h1
    · intro h1
      exact List.length_pos_iff.2 (fun e => h1 ((limbs_eq_nil (by omega)).1 e))
  cases m with
  | false =>
    refine ⟨a, l, c, ?_, by simp; exact h⟩
    have : decide ((n : Int) < 0) = false := decide_eq_false (by omega)
    simp [this]
  | true =>
    refine ⟨a, l, c, ?_, by simp; exact h⟩
    simp only [Bool.true_and, if_true]
    have : decide (0 < l) = decide (-(n : Int) < 0) := by
      by_cases hn : n = 0
      · rw [decide_eq_false (fun h1 => hz.1 h1 hn), decide_eq_false (by omega)]
      · rw [decide_eq_true (hz.2 hn), decide_eq_true (by omega)]
    rw [this]

set_option maxRecDepth 100000 in
set_option maxHeartbeats 4000000 in
theorem rsplit_v (a : Option Addr) (la ca : Nat) (b : Option Addr) (lb cb X Y : Nat) (s t : Bool) (z r : Int) (w : World) (hu : RN w (.slice a la ca) X) (hv : RN w (.slice b lb cb) Y) (hY : Y ≠ 0) (hla : la ≤ 100000000) (hlb : lb ≤ 100000000)
    (HP : Hid (¬ (s = true ∧ X % Y ≠ 0) → (if (!(s == t)) = true then -((X / Y : Nat) : Int) else ((X / Y : Nat) : Int)) = z ∧ ((X % Y : Nat) : Int) = r))
    (HN : Hid (s = true ∧ X % Y ≠ 0 → (if (!(s == t)) = true then -((X / Y + 1 : Nat) : Int) else ((X / Y + 1 : Nat) : Int)) = z ∧ ((Y - X % Y : Nat) : Int) = r)) :
    Calls Tryz.prog 14 #[.agg #[.slice a la ca, .bool s], .agg #[.slice b lb cb, .bool t]] w fun e w' => ∃ q o, e = .returned (.tuple #[q, o]) ∧ IsBig w' q z ∧ IsBig w' o r ∧ Below w.heap.size w w' := by
  have hmx : Tryz.prog.follows .mixedOrders = true := by kernel_rfl
  obtain ⟨b0, b1, b4, b5⟩ := big_boxes w (.slice a la ca) (.bool s) (.slice b lb cb) (.bool t) (.slice none 0 0) (.bool false)
  have hB0 := below_4 w (.cells #[.slice a la ca, .bool s] 24) (.cells #[.slice b lb cb, .bool t] 24) (.cells #[.slice none 0 0, .bool false] 24) (.cells #[.slice none 0 0, .bool false] 24)
  obtain ⟨W0, hW0⟩ : ∃ W0, (((w.alloc (.cells #[.slice a la ca, .bool s] 24)).alloc (.cells #[.slice b lb cb, .bool t] 24)).alloc (.cells #[.slice none 0 0, .bool false] 24)).alloc (.cells #[.slice none 0 0, .bool false] 24) = W0 := ⟨_, rfl⟩
  rw [hW0] at b0 b1 b4 b5 hB0
  have HW0 := hidD hW0
  have hu0 := RN.below hu hB0
  have hv0 := RN.below hv hB0
  have HLG := hidD (rlong_c a la ca b lb cb X Y W0 hu0 hv0 hY hla hlb)
  have HV0 := hidD hv0
  have HLA := hidD (RN.len hu).symm
  have k0 := b0.c0
  have k1 := b0.c1
  have k2 := b1.c0
  have k3 := b1.c1
  clear hW0 hu hv hu0 hv0
  go_enter Tryz.func14, Tryz.ntmps14
  go_upto_region 1 with fail
  rw [HW0.out]
  go_upto_region 2 with (go_at_call 31; refine HLG.out.mono ?_; rintro e w1 ⟨u1, v1, rfl, hu1, hv1, hb1⟩; obtain ⟨ua, uc, rfl⟩ := RN.form hu1; obtain ⟨va, vc, rfl⟩ := RN.form hv1)
  clear HLG HW0
  obtain ⟨lr, hlre⟩ : ∃ lr, (limbs 10000 (X % Y)).length = lr := ⟨_, rfl⟩
  obtain ⟨lq, hlqe⟩ : ∃ lq, (limbs 10000 (X / Y)).length = lq := ⟨_, rfl⟩
  have HLR := hidD (show lr = 0 ↔ X % Y = 0 by
    rw [← hlre]
    exact ⟨fun h => (limbs_eq_nil (by omega)).1 (List.eq_nil_of_length_eq_zero h), fun h => by rw [h, limbs_zero]; rfl⟩)
  rw [hlre] at hv1 ⊢
  rw [hlqe] at hu1 ⊢
  have hlq : lq ≤ 100000000 := by
    have h1 := rlimbs_mono (m := X) (n := X / Y) (Nat.div_le_self _ _)
    have h2 := HLA.out
    omega
  have HLQ := hidD hlqe.symm
  clear hlre hlqe
  have k0 := (b0.below hb1).c0
  have k1 := (b0.below hb1).c1
  have k2 := (b1.below hb1).c0
  have k3 := (b1.below hb1).c1
  have HMD := hidD (made_c ua lq uc (!(s == t)) w1)
  go_upto_region 3 with (go_at_call 33; refine HMD.out.mono ?_; rintro e w2 ⟨rfl, hb2⟩)
  obtain ⟨m8, hm8⟩ : ∃ m8 : Bool, ((!(s == t)) && decide (0 < lq)) = m8 := ⟨_, rfl⟩
  have hI := made_big (RN.below hu1 hb2) (!(s == t))
  rw [hm8] at hI ⊢
  obtain ⟨W3, hW3⟩ : ∃ W3, w2.alloc (.cells #[.slice ua lq uc, .bool m8] 24) = W3 := ⟨_, rfl⟩
  have hb23 : Below w2.heap.size w2 W3 := by rw [← hW3]; exact (Below.refl _ w2).alloc (Nat.le_refl _) _
  have b8 : Box2 W3 w2.heap.size 24 (.slice ua lq uc) (.bool m8) := by rw [← hW3]; exact Box2.new w2 _ _ _
  have hb13 : Below w1.heap.size w1 W3 := hb2.trans (hb23.mono hb2.size)
  have hb3 : Below W0.heap.size W0 W3 := hb1.trans (hb13.mono hb1.size)
  have hI3 := hI.below hb23
  have hR3 := RN.below hv1 hb13
  have hB3 := hB0.trans (hb3.mono hB0.size)
  obtain ⟨B8, hB8⟩ : ∃ B8, w2.heap.size = B8 := ⟨_, rfl⟩
  have hB8w : w.heap.size + 1 + 1 + 1 < B8 := by
    have h1 := (b5.below (hb1.trans (hb2.mono hb1.size))).lt
    omega
  rw [hW3]
  rw [hB8] at b8 ⊢
  clear hW3 hB8 hm8 hI HMD
  have p0 := b0.below hb3
  have p1 := b1.below hb3
  have p4 := b4.below hb3
  have p5 := b5.below hb3
  clear b0 b1 b4 b5 k0 k1 k2 k3
  have k0 := p0.c0
  have k1 := p0.c1
  have k2 := p1.c0
  have k3 := p1.c1
  have k8 := b8.c0
  have k9 := b8.c1
  have q0 := p4.c0
  have q1 := p4.c1
  have q2 := p5.c0
  have q3 := p5.c1
  have f0 := p4.f0
  have f1 := p4.f1
  have f2 := p5.f0
  have f3 := p5.f1
  obtain ⟨cd, hcd⟩ : ∃ cd : Bool, (!s || decide (lr = 0)) = cd := ⟨_, rfl⟩
  have HCD := hidD hcd
  clear hcd
  go_cut [31] (fun v w4 => v = .bool cd ∧ w4 = W3)
  case first =>
    cases s with
    | false =>
      have e5 : cd = true := by rw [← HCD.out]; rfl
      go_wp2_with fail
      go_meet
      case rel => exact ⟨by rw [e5], rfl⟩
    | true =>
      by_cases h5 : lr = 0
      · have e5 : cd = true := by rw [← HCD.out]; simp; omega
        have h6 : ((lr : Int) == 0) = true := by simp; omega
        clear h5
        go_wp2_with fail
        go_meet
        case rel => exact ⟨by rw [e5], rfl⟩
      · have e5 : cd = false := by rw [← HCD.out]; simp; omega
        have h6 : ((lr : Int) == 0) = false := by simp; omega
        clear h5
        go_wp2_with fail
        go_meet
        case rel => exact ⟨by rw [e5], rfl⟩
  case rest =>
    obtain ⟨rfl, rfl⟩ := hcut
    cases cd with
    | true =>
      have hc : ¬ (s = true ∧ X % Y ≠ 0) := fun ⟨h1, h2⟩ => by
        have h := HCD.out
        rw [h1] at h
        simp at h
        exact h2 (HLR.out.1 h)
      obtain ⟨z1, z2⟩ := HP.out hc
      rw [z1] at hI3
      have HMD := hidD (made_c va lr vc s)
      have hsl : (s && decide (0 < lr)) = false := by
        have h := HCD.out
        cases s with
        | false => rfl
        | true => simp at h; simp; omega
      rw [hsl] at HMD
      have HZ2 := hidD z2
      clear hsl z1 z2 hc
      go_wp2_with fail
      go_region_with (first
        | (go_at_call 33; refine (HMD.out _).mono ?_; rintro e w5 ⟨rfl, hb5⟩; have k8 := ((b8.drew).below hb5).c0; have k9 := ((b8.drew).below hb5).c1; have q0 := ((p4.drew).below hb5).c0; have q1 := ((p4.drew).below hb5).c1; have q2 := ((p5.drew).below hb5).c0; have q3 := ((p5.drew).below hb5).c1; have f0 := ((p4.drew).below hb5).f0; have f1 := ((p4.drew).below hb5).f1; have f2 := ((p5.drew).below hb5).f0; have f3 := ((p5.drew).below hb5).f1))
      all_goals
        go_wp2_with fail
        have hbc : Below wc.heap.size wc w5 := ((Below.refl _ wc).drew).trans (hb5.mono (Nat.le_refl _))
        have b45 := p4.below hbc
        have b55 := p5.below hbc
        obtain ⟨z4, z5⟩ := box_two (.slice ua lq uc) (.bool m8) (.slice va lr vc) (.bool false) b45 b55
        have z4a := z4.c0
        have z4b := z4.c1
        have z5a := z5.c0
        have z5b := z5.c1
        have b57 : Box2 ((w5.setCell ⟨w.heap.size + 1 + 1, 0, none⟩ (.slice ua lq uc)).setCell ⟨w.heap.size + 1 + 1, 1, none⟩ (.bool m8)) (w.heap.size + 1 + 1 + 1) 24 (.slice none 0 0) (.bool false) := (b55.far (by simp) _).far (by simp) _
        have hR5 := (bigOf hR3).below hbc
        rw [HZ2.out] at hR5
        have hz1 := ((hI3.below hbc).box b45 rfl rfl (x0 := .slice ua lq uc) (x1 := .bool m8)).box b57 rfl rfl (x0 := .slice va lr vc) (x1 := .bool false)
        have hz2 := (hR5.box b45 rfl rfl (x0 := .slice ua lq uc) (x1 := .bool m8)).box b57 rfl rfl (x0 := .slice va lr vc) (x1 := .bool false)
        have hB6 := hB3.trans (hbc.mono hB3.size)
        exact bodyPost_ret (v := .tuple #[.agg #[.slice ua lq uc, .bool m8], .agg #[.slice va lr vc, .bool false]]) (by simp [results, Tryz.results14, go_sem, z4a, z4b, z5a, z5b]) rfl ⟨_, _, rfl, hz1, hz2, (((hB6.setCell (p := ⟨_, 0, none⟩) (by simp only; omega) _).setCell (p := ⟨_, 1, none⟩) (by simp only; omega) _).setCell (p := ⟨_, 0, none⟩) (by simp only; omega) _).setCell (p := ⟨_, 1, none⟩) (by simp only; omega) _⟩
    | false =>
      have hc : s = true ∧ X % Y ≠ 0 := by
        have h := HCD.out
        simp at h
        exact ⟨h.1, fun e => h.2 (HLR.out.2 e)⟩
      obtain ⟨z1, z2⟩ := HN.out hc
      rw [hc.1] at z1
      have hI4 : IsBig wc (.agg #[.slice ua lq uc, .bool m8]) (if (!(true == t)) = true then -((X / Y : Nat) : Int) else ((X / Y : Nat) : Int)) := by have h := hI3; rw [hc.1] at h; exact h
      have HI4 := hidD hI4
      have HZ1 := hidD z1
      have HZ2 := hidD z2
      have hmod := Nat.mod_lt X (show Y > 0 by omega)
      have HOF := hidD (of_c 1 (by omega) (by omega))
      have HMI := hidD (fun (V : World) (h : Below wc.heap.size wc V) => minus_c _ _ Y (X % Y) V (RN.below (RN.below HV0.out hb3) h) (RN.below hR3 h) (by omega) (by rw [← RN.len HV0.out]; omega))
      clear hc hI4 z1 z2 hI3
      cases t with
      | true =>
        have HSU := hidD (show ∀ (V : World) (u : Value), Below wc.heap.size wc V → IsBig V u 1 → Calls Tryz.prog 21 #[.agg #[.slice ua lq uc, .bool m8], u] V fun e w' => ∃ u, e = .returned u ∧ IsBig w' u z ∧ Below V.heap.size V w' from fun V u h hu => by
          have hx := HI4.out.below h
          simp only [beq_self_eq_true, Bool.not_true, Bool.false_eq_true, if_false] at hx
          have h1 := sum_c _ u _ 1 V hx hu (by unfold szB; rw [Int.natAbs_natCast, ← HLQ.out]; omega) (int_szB (by omega) (by omega))
          have h2 := HZ1.out
          simp only [beq_self_eq_true, Bool.not_true, Bool.false_eq_true, if_false] at h2
          rw [show ((X / Y : Nat) : Int) + 1 = z from by rw [← h2]; push_cast; rfl] at h1
          exact h1)
        clear HI4 HZ1 HN HP
        go_upto_region 6 with fail
        refine wp_region_tab hmx [[], [], [0, 1, 1], [], [3], [], [4, 5, 2], [6], [2, 6, 0, 1, 2], [7, 8, 0, 1, 2, 3, 4, 5, 6, 7, 8]] (by kernel_rfl) (by decide)
          (fun DD ac V => ∃ t39 t40 t41 t42 t43 t44 t45 t46 : Value, ac = { tmps := #[.agg #[.slice a la ca, .bool s], .agg #[.slice b lb cb, .bool true], .pointer (some ⟨w.heap.size, 0, none⟩), .pointer (some ⟨w.heap.size + 1, 0, none⟩), .pointer (some ⟨w.heap.size + 1 + 1, 0, none⟩), .pointer (some ⟨w.heap.size + 1 + 1 + 1, 0, none⟩), .slice ua lq uc, .slice va lr vc, .pointer (some ⟨B8, 0, none⟩), u9, u10, u11, u12, u13, u14, u15, u16, u17, u18, u19, u20, u21, u22, u23, u24, u25, u26, u27, u28, u29, u30, .bool false, u32, u33, u34, u35, u36, .pointer (some ⟨w.heap.size + 1, 1, none⟩), .bool true, t39, t40, t41, t42, t43, t44, t45, t46, u47, u48, u49, u50, u51, u52, u53, u54], defers := [] } ∧ Hid (DD 0 = true → t39 = .agg #[.slice ua lq uc, .bool m8]) ∧ Hid (DD 1 = true → DD 8 = false → IsBig V t40 1) ∧ Hid (DD 2 = true → DD 8 = false → ∃ a5 l5 c5 s5, t41 = .agg #[.slice a5 l5 c5, .bool s5] ∧ IsBig V t41 z) ∧ Hid (DD 3 = true → t42 = .pointer (some ⟨w.heap.size + 1, 0, none⟩)) ∧ Hid (DD 4 = true → t43 = .slice b lb cb) ∧ Hid (DD 5 = true → t44 = .slice va lr vc) ∧ Hid (DD 6 = true → DD 8 = false → ∃ a6 l6 c6, t45 = .slice a6 l6 c6 ∧ RN V t45 (Y - X % Y)) ∧ Hid (DD 7 = true → ∃ a6 l6 c6, t45 = .slice a6 l6 c6 ∧ t46 = .agg #[.slice a6 l6 c6, .bool false]) ∧ Hid (DD 8 = true → ∃ V0 a5 l5 c5 s5 a6 l6 c6, t41 = .agg #[.slice a5 l5 c5, .bool s5] ∧ t45 = .slice a6 l6 c6 ∧ IsBig V0 (.agg #[.slice a5 l5 c5, .bool s5]) z ∧ RN V0 (.slice a6 l6 c6) (Y - X % Y) ∧ Below wc.heap.size wc V0 ∧ (DD 9 = false → V = ((V0.setCell ⟨w.heap.size + 1 + 1, 0, none⟩ (.slice a5 l5 c5)).setCell ⟨w.heap.size + 1 + 1, 1, none⟩ (.bool s5))) ∧ (DD 9 = true → V = (((V0.setCell ⟨w.heap.size + 1 + 1, 0, none⟩ (.slice a5 l5 c5)).setCell ⟨w.heap.size + 1 + 1, 1, none⟩ (.bool s5)).setCell ⟨w.heap.size + 1 + 1 + 1, 0, none⟩ (.slice a6 l6 c6)).setCell ⟨w.heap.size + 1 + 1 + 1, 1, none⟩ (.bool false))) ∧ Hid (DD 8 = false → Below wc.heap.size wc V))
          ⟨_, _, _, _, _, _, _, _, rfl, hidD (fun h => by cases h), hidD (fun h => by cases h), hidD (fun h => by cases h), hidD (fun h => by cases h), hidD (fun h => by cases h), hidD (fun h => by cases h), hidD (fun h => by cases h), hidD (fun h => by cases h), hidD (fun h => by cases h), hidD (fun _ => (Below.refl _ wc).drew)⟩ ?step ?fin
        case step =>
          rintro DD a2 V i ds hcl2 hi2 hds hDi ⟨t39, t40, t41, t42, t43, t44, t45, t46, rfl, g0, g1, g2, g3, g4, g5, g6, g7, g8, gq⟩
          have hi10 : i < 10 := (List.getElem?_eq_some_iff.1 hi2).1
          obtain rfl | rfl | rfl | rfl | rfl | rfl | rfl | rfl | rfl | rfl : i = 0 ∨ i = 1 ∨ i = 2 ∨ i = 3 ∨ i = 4 ∨ i = 5 ∨ i = 6 ∨ i = 7 ∨ i = 8 ∨ i = 9 := by omega
          all_goals
            simp only [List.getElem?_cons_zero, List.getElem?_cons_succ, Option.some.injEq] at hi2
            subst hi2
            clear hi10
          · have hf8 : DD 8 = false := by
              cases h : DD 8 with
              | false => rfl
              | true => rw [hcl2 8 _ rfl h 0 (by simp)] at hDi; cases hDi
            have hq := gq.out hf8
            have k8 := (b8.below hq).c0
            have k9 := (b8.below hq).c1
            clear hds hcl2
            refine wpOp_go2 rfl rfl (fun K hK => ?_)
            go_simp
            exact hK _ _ ⟨_, _, _, _, _, _, _, _, rfl, hidD (fun _ => rfl), g1, g2, g3, g4, g5, g6, g7, hidD (fun h => by simp [hf8] at h), gq⟩
          · have hf8 : DD 8 = false := by
              cases h : DD 8 with
              | false => rfl
              | true => rw [hcl2 8 _ rfl h 1 (by simp)] at hDi; cases hDi
            have hf2 : DD 2 = false := by
              cases h : DD 2 with
              | false => rfl
              | true => rw [hcl2 2 _ rfl h 1 (by simp)] at hDi; cases hDi
            have hq := gq.out hf8
            clear hds hcl2
            refine wpOp_go2 rfl rfl (fun K hK => ?_)
            go_simp
            go_wp2_with (go_at_call 20; refine (HOF.out _).mono ?_; rintro e w5 ⟨u5, rfl, hu5, hb5⟩)
            exact ⟨_, _, _, _, _, _, _, _, rfl, g0, hidD (fun _ _ => hu5), hidD (fun h => by simp [hf2] at h), g3, g4, g5, hidD (fun h h2 => by obtain ⟨a6, l6, c6, e, q⟩ := g6.out h h2; exact ⟨a6, l6, c6, e, RN.below q hb5⟩), g7, hidD (fun h => by simp [hf8] at h), hidD (fun _ => hq.trans (hb5.mono hq.size))⟩
          · have hf8 : DD 8 = false := by
              cases h : DD 8 with
              | false => rfl
              | true => rw [hcl2 8 _ rfl h 2 (by simp)] at hDi; cases hDi
            have hq := gq.out hf8
            obtain rfl := g0.out (hds 0 (by simp))
            have h1 := g1.out (hds 1 (by simp)) hf8
            clear hds hcl2
            refine wpOp_go2 rfl rfl (fun K hK => ?_)
            go_simp
            go_wp2_with (go_at_call 21; refine (HSU.out _ _ hq h1).mono ?_; rintro e w5 ⟨u5, rfl, hu5, hb5⟩; obtain ⟨a5, l5, c5, rfl⟩ := hu5.form; obtain ⟨s5, hs5⟩ : ∃ q, decide (z < 0) = q := ⟨_, rfl⟩; rw [hs5] at hu5; rw [hs5]; clear hs5)
            exact ⟨_, _, _, _, _, _, _, _, rfl, hidD (fun _ => rfl), hidD (fun h h2 => (g1.out h h2).below hb5), hidD (fun _ _ => ⟨a5, l5, c5, s5, rfl, hu5⟩), g3, g4, g5, hidD (fun h h2 => by obtain ⟨a6, l6, c6, e, q⟩ := g6.out h h2; exact ⟨a6, l6, c6, e, RN.below q hb5⟩), g7, hidD (fun h => by simp [hf8] at h), hidD (fun _ => hq.trans (hb5.mono hq.size))⟩
          · clear hds hcl2
            refine wpOp_go2 rfl rfl (fun K hK => ?_)
            go_simp
            exact hK _ _ ⟨_, _, _, _, _, _, _, _, rfl, g0, g1, g2, hidD (fun _ => rfl), g4, g5, g6, g7, g8, gq⟩
          · have hf6 : DD 6 = false := by
              cases h : DD 6 with
              | false => rfl
              | true => rw [hcl2 6 _ rfl h 4 (by simp)] at hDi; cases hDi
            have hf8 : DD 8 = false := by
              cases h : DD 8 with
              | false => rfl
              | true => rw [hcl2 8 _ rfl h 6 (by simp)] at hf6; cases hf6
            have hq := gq.out hf8
            obtain rfl := g3.out (hds 3 (by simp))
            have k2 := (p1.below hq).c0
            clear hds hcl2
            refine wpOp_go2 rfl rfl (fun K hK => ?_)
            go_simp
            exact hK _ _ ⟨_, _, _, _, _, _, _, _, rfl, g0, g1, g2, hidD (fun _ => rfl), hidD (fun _ => rfl), g5, g6, g7, hidD (fun h => by simp [hf8] at h), gq⟩
          · clear hds hcl2
            refine wpOp_go2 rfl rfl (fun K hK => ?_)
            go_simp
            exact hK _ _ ⟨_, _, _, _, _, _, _, _, rfl, g0, g1, g2, g3, g4, hidD (fun _ => rfl), g6, g7, g8, gq⟩
          · have hf8 : DD 8 = false := by
              cases h : DD 8 with
              | false => rfl
              | true => rw [hcl2 8 _ rfl h 6 (by simp)] at hDi; cases hDi
            have hf7 : DD 7 = false := by
              cases h : DD 7 with
              | false => rfl
              | true => rw [hcl2 7 _ rfl h 6 (by simp)] at hDi; cases hDi
            have hq := gq.out hf8
            obtain rfl := g4.out (hds 4 (by simp))
            obtain rfl := g5.out (hds 5 (by simp))
            clear hds hcl2
            refine wpOp_go2 rfl rfl (fun K hK => ?_)
            go_simp
            go_wp2_with (go_at_call 34; refine (HMI.out _ hq).mono ?_; rintro e w5 ⟨u5, rfl, hu5, hb5⟩; obtain ⟨a6, c6, rfl⟩ := RN.form hu5)
            exact ⟨_, _, _, _, _, _, _, _, rfl, g0, hidD (fun h h2 => (g1.out h h2).below hb5), hidD (fun h h2 => by obtain ⟨a5, l5, c5, s5, e, q⟩ := g2.out h h2; exact ⟨a5, l5, c5, s5, e, q.below hb5⟩), g3, hidD (fun _ => rfl), hidD (fun _ => rfl), hidD (fun _ _ => ⟨_, _, _, rfl, hu5⟩), hidD (fun h => by simp [hf7] at h), hidD (fun h => by simp [hf8] at h), hidD (fun _ => hq.trans (hb5.mono hq.size))⟩
          · obtain ⟨a6, l6, c6, e6⟩ : ∃ a6 l6 c6, t45 = .slice a6 l6 c6 := by
              cases h8 : DD 8 with
              | false => obtain ⟨a6, l6, c6, e, _⟩ := g6.out (hds 6 (by simp)) h8; exact ⟨a6, l6, c6, e⟩
              | true => obtain ⟨_, _, _, _, _, a6, l6, c6, _, e, _⟩ := g8.out h8; exact ⟨a6, l6, c6, e⟩
            obtain rfl := e6
            clear hds hcl2
            refine wpOp_go2 rfl rfl (fun K hK => ?_)
            go_simp
            exact hK _ _ ⟨_, _, _, _, _, _, _, _, rfl, g0, g1, g2, g3, g4, g5, g6, hidD (fun _ => ⟨a6, l6, c6, rfl, rfl⟩), g8, gq⟩
          · have hf9 : DD 9 = false := by
              cases h : DD 9 with
              | false => rfl
              | true => rw [hcl2 9 _ rfl h 8 (by simp)] at hDi; cases hDi
            have hq := gq.out hDi
            obtain ⟨a5, l5, c5, s5, e5, h5⟩ := g2.out (hds 2 (by simp)) hDi
            obtain ⟨a6, l6, c6, e6, h6⟩ := g6.out (hds 6 (by simp)) hDi
            obtain rfl := e5
            obtain rfl := e6
            have q0 := (p4.below hq).c0
            have q1 := (p4.below hq).c1
            have f0 := (p4.below hq).f0
            have f1 := (p4.below hq).f1
            clear g1 g2 g6
            clear hds hcl2
            refine wpOp_go2 rfl rfl (fun K hK => ?_)
            go_simp
            exact hK _ _ ⟨_, _, _, _, _, _, _, _, rfl, g0, hidD (fun _ h => by simp at h), hidD (fun _ h => by simp at h), g3, g4, g5, hidD (fun _ h => by simp at h), g7, hidD (fun _ => ⟨V, a5, l5, c5, s5, a6, l6, c6, rfl, rfl, h5, h6, hq, fun _ => rfl, fun h => by simp [hf9] at h⟩), hidD (fun h => by simp at h)⟩
          · obtain ⟨V0, a5, l5, c5, s5, a6, l6, c6, e5, e6, h5, h6, hq, hV, _⟩ := g8.out (hds 8 (by simp))
            obtain rfl := hV hDi
            obtain ⟨a7, l7, c7, e7, e8⟩ := g7.out (hds 7 (by simp))
            obtain rfl := e8
            obtain rfl := e6
            cases e7
            obtain rfl := e5
            have bb := ((p5.below hq).far (p := ⟨w.heap.size + 1 + 1, 0, none⟩) (by simp) (.slice a5 l5 c5)).far (p := ⟨w.heap.size + 1 + 1, 1, none⟩) (by simp) (.bool s5)
            have q0 := bb.c0
            have q1 := bb.c1
            have f0 := bb.f0
            have f1 := bb.f1
            have h8 := hds 8 (by simp)
            clear hV
            clear hds hcl2
            refine wpOp_go2 rfl rfl (fun K hK => ?_)
            go_simp
            exact hK _ _ ⟨_, _, _, _, _, _, _, _, rfl, g0, hidD (fun _ h => by simp [h8] at h), hidD (fun _ h => by simp [h8] at h), g3, g4, g5, hidD (fun _ h => by simp [h8] at h), hidD (fun _ => ⟨_, _, _, rfl, rfl⟩), hidD (fun _ => ⟨V0, a5, l5, c5, s5, a6, l6, c6, rfl, rfl, h5, h6, hq, fun h => by simp at h, fun _ => rfl⟩), hidD (fun h => by simp [h8] at h)⟩
        case fin =>
          rintro DD a2 V hDD ⟨t39, t40, t41, t42, t43, t44, t45, t46, rfl, g0, g1, g2, g3, g4, g5, g6, g7, g8, gq⟩
          obtain ⟨V0, a5, l5, c5, s5, a6, l6, c6, e5, e6, h5, h6, hq, _, hV⟩ := g8.out (hDD 8 (by decide))
          obtain rfl := hV (hDD 9 (by decide))
          clear g0 g1 g2 g3 g4 g5 g6 g7 g8 gq hDD hV e5 e6 HMI HOF
          go_wp2_with fail
          have b45 := p4.below hq
          have b55 := p5.below hq
          obtain ⟨z4, z5⟩ := box_two (.slice a5 l5 c5) (.bool s5) (.slice a6 l6 c6) (.bool false) b45 b55
          have z4a := z4.c0
          have z4b := z4.c1
          have z5a := z5.c0
          have z5b := z5.c1
          have b57 : Box2 ((V0.setCell ⟨w.heap.size + 1 + 1, 0, none⟩ (.slice a5 l5 c5)).setCell ⟨w.heap.size + 1 + 1, 1, none⟩ (.bool s5)) (w.heap.size + 1 + 1 + 1) 24 (.slice none 0 0) (.bool false) := (b55.far (by simp) _).far (by simp) _
          have hR5 := bigOf h6
          rw [HZ2.out] at hR5
          have hz1 := (h5.box b45 rfl rfl (x0 := .slice a5 l5 c5) (x1 := .bool s5)).box b57 rfl rfl (x0 := .slice a6 l6 c6) (x1 := .bool false)
          have hz2 := (hR5.box b45 rfl rfl (x0 := .slice a5 l5 c5) (x1 := .bool s5)).box b57 rfl rfl (x0 := .slice a6 l6 c6) (x1 := .bool false)
          have hB6 := hB3.trans (hq.mono hB3.size)
          exact bodyPost_ret (v := .tuple #[.agg #[.slice a5 l5 c5, .bool s5], .agg #[.slice a6 l6 c6, .bool false]]) (by simp [results, Tryz.results14, go_sem, z4a, z4b, z5a, z5b]) rfl ⟨_, _, rfl, hz1, hz2, (((hB6.setCell (p := ⟨_, 0, none⟩) (by simp only; omega) _).setCell (p := ⟨_, 1, none⟩) (by simp only; omega) _).setCell (p := ⟨_, 0, none⟩) (by simp only; omega) _).setCell (p := ⟨_, 1, none⟩) (by simp only; omega) _⟩
      | false =>
        have HSU := hidD (show ∀ (V : World) (u : Value), Below wc.heap.size wc V → IsBig V u 1 → Calls Tryz.prog 35 #[.agg #[.slice ua lq uc, .bool m8], u] V fun e w' => ∃ u, e = .returned u ∧ IsBig w' u z ∧ Below V.heap.size V w' from fun V u h hu => by
          have hx := HI4.out.below h
          rw [if_pos (by rfl)] at hx
          have h1 := rless_c _ u _ 1 V hx hu (by unfold szB; rw [Int.natAbs_neg, Int.natAbs_natCast, ← HLQ.out]; omega) (int_szB (by omega) (by omega))
          have h2 := HZ1.out
          rw [if_pos (by rfl)] at h2
          rw [show -((X / Y : Nat) : Int) - 1 = z from by rw [← h2]; push_cast; omega] at h1
          exact h1)
        clear HI4 HZ1 HN HP
        go_upto_region 7 with fail
        refine wp_region_tab hmx [[], [], [0, 1, 1], [], [3], [], [4, 5, 2], [6], [2, 6, 0, 1, 2], [7, 8, 0, 1, 2, 3, 4, 5, 6, 7, 8]] (by kernel_rfl) (by decide)
          (fun DD ac V => ∃ t47 t48 t49 t50 t51 t52 t53 t54 : Value, ac = { tmps := #[.agg #[.slice a la ca, .bool s], .agg #[.slice b lb cb, .bool false], .pointer (some ⟨w.heap.size, 0, none⟩), .pointer (some ⟨w.heap.size + 1, 0, none⟩), .pointer (some ⟨w.heap.size + 1 + 1, 0, none⟩), .pointer (some ⟨w.heap.size + 1 + 1 + 1, 0, none⟩), .slice ua lq uc, .slice va lr vc, .pointer (some ⟨B8, 0, none⟩), u9, u10, u11, u12, u13, u14, u15, u16, u17, u18, u19, u20, u21, u22, u23, u24, u25, u26, u27, u28, u29, u30, .bool false, u32, u33, u34, u35, u36, .pointer (some ⟨w.heap.size + 1, 1, none⟩), .bool false, u39, u40, u41, u42, u43, u44, u45, u46, t47, t48, t49, t50, t51, t52, t53, t54], defers := [] } ∧ Hid (DD 0 = true → t47 = .agg #[.slice ua lq uc, .bool m8]) ∧ Hid (DD 1 = true → DD 8 = false → IsBig V t48 1) ∧ Hid (DD 2 = true → DD 8 = false → ∃ a5 l5 c5 s5, t49 = .agg #[.slice a5 l5 c5, .bool s5] ∧ IsBig V t49 z) ∧ Hid (DD 3 = true → t50 = .pointer (some ⟨w.heap.size + 1, 0, none⟩)) ∧ Hid (DD 4 = true → t51 = .slice b lb cb) ∧ Hid (DD 5 = true → t52 = .slice va lr vc) ∧ Hid (DD 6 = true → DD 8 = false → ∃ a6 l6 c6, t53 = .slice a6 l6 c6 ∧ RN V t53 (Y - X % Y)) ∧ Hid (DD 7 = true → ∃ a6 l6 c6, t53 = .slice a6 l6 c6 ∧ t54 = .agg #[.slice a6 l6 c6, .bool false]) ∧ Hid (DD 8 = true → ∃ V0 a5 l5 c5 s5 a6 l6 c6, t49 = .agg #[.slice a5 l5 c5, .bool s5] ∧ t53 = .slice a6 l6 c6 ∧ IsBig V0 (.agg #[.slice a5 l5 c5, .bool s5]) z ∧ RN V0 (.slice a6 l6 c6) (Y - X % Y) ∧ Below wc.heap.size wc V0 ∧ (DD 9 = false → V = ((V0.setCell ⟨w.heap.size + 1 + 1, 0, none⟩ (.slice a5 l5 c5)).setCell ⟨w.heap.size + 1 + 1, 1, none⟩ (.bool s5))) ∧ (DD 9 = true → V = (((V0.setCell ⟨w.heap.size + 1 + 1, 0, none⟩ (.slice a5 l5 c5)).setCell ⟨w.heap.size + 1 + 1, 1, none⟩ (.bool s5)).setCell ⟨w.heap.size + 1 + 1 + 1, 0, none⟩ (.slice a6 l6 c6)).setCell ⟨w.heap.size + 1 + 1 + 1, 1, none⟩ (.bool false))) ∧ Hid (DD 8 = false → Below wc.heap.size wc V))
          ⟨_, _, _, _, _, _, _, _, rfl, hidD (fun h => by cases h), hidD (fun h => by cases h), hidD (fun h => by cases h), hidD (fun h => by cases h), hidD (fun h => by cases h), hidD (fun h => by cases h), hidD (fun h => by cases h), hidD (fun h => by cases h), hidD (fun h => by cases h), hidD (fun _ => (Below.refl _ wc).drew)⟩ ?step ?fin
        case step =>
          rintro DD a2 V i ds hcl2 hi2 hds hDi ⟨t47, t48, t49, t50, t51, t52, t53, t54, rfl, g0, g1, g2, g3, g4, g5, g6, g7, g8, gq⟩
          have hi10 : i < 10 := (List.getElem?_eq_some_iff.1 hi2).1
          obtain rfl | rfl | rfl | rfl | rfl | rfl | rfl | rfl | rfl | rfl : i = 0 ∨ i = 1 ∨ i = 2 ∨ i = 3 ∨ i = 4 ∨ i = 5 ∨ i = 6 ∨ i = 7 ∨ i = 8 ∨ i = 9 := by omega
          all_goals
            simp only [List.getElem?_cons_zero, List.getElem?_cons_succ, Option.some.injEq] at hi2
            subst hi2
            clear hi10
          · have hf8 : DD 8 = false := by
              cases h : DD 8 with
              | false => rfl
              | true => rw [hcl2 8 _ rfl h 0 (by simp)] at hDi; cases hDi
            have hq := gq.out hf8
            have k8 := (b8.below hq).c0
            have k9 := (b8.below hq).c1
            clear hds hcl2
            refine wpOp_go2 rfl rfl (fun K hK => ?_)
            go_simp
            exact hK _ _ ⟨_, _, _, _, _, _, _, _, rfl, hidD (fun _ => rfl), g1, g2, g3, g4, g5, g6, g7, hidD (fun h => by simp [hf8] at h), gq⟩
          · have hf8 : DD 8 = false := by
              cases h : DD 8 with
              | false => rfl
              | true => rw [hcl2 8 _ rfl h 1 (by simp)] at hDi; cases hDi
            have hf2 : DD 2 = false := by
              cases h : DD 2 with
              | false => rfl
              | true => rw [hcl2 2 _ rfl h 1 (by simp)] at hDi; cases hDi
            have hq := gq.out hf8
            clear hds hcl2
            refine wpOp_go2 rfl rfl (fun K hK => ?_)
            go_simp
            go_wp2_with (go_at_call 20; refine (HOF.out _).mono ?_; rintro e w5 ⟨u5, rfl, hu5, hb5⟩)
            exact ⟨_, _, _, _, _, _, _, _, rfl, g0, hidD (fun _ _ => hu5), hidD (fun h => by simp [hf2] at h), g3, g4, g5, hidD (fun h h2 => by obtain ⟨a6, l6, c6, e, q⟩ := g6.out h h2; exact ⟨a6, l6, c6, e, RN.below q hb5⟩), g7, hidD (fun h => by simp [hf8] at h), hidD (fun _ => hq.trans (hb5.mono hq.size))⟩
          · have hf8 : DD 8 = false := by
              cases h : DD 8 with
              | false => rfl
              | true => rw [hcl2 8 _ rfl h 2 (by simp)] at hDi; cases hDi
            have hq := gq.out hf8
            obtain rfl := g0.out (hds 0 (by simp))
            have h1 := g1.out (hds 1 (by simp)) hf8
            clear hds hcl2
            refine wpOp_go2 rfl rfl (fun K hK => ?_)
            go_simp
            go_wp2_with (go_at_call 35; refine (HSU.out _ _ hq h1).mono ?_; rintro e w5 ⟨u5, rfl, hu5, hb5⟩; obtain ⟨a5, l5, c5, rfl⟩ := hu5.form; obtain ⟨s5, hs5⟩ : ∃ q, decide (z < 0) = q := ⟨_, rfl⟩; rw [hs5] at hu5; rw [hs5]; clear hs5)
            exact ⟨_, _, _, _, _, _, _, _, rfl, hidD (fun _ => rfl), hidD (fun h h2 => (g1.out h h2).below hb5), hidD (fun _ _ => ⟨a5, l5, c5, s5, rfl, hu5⟩), g3, g4, g5, hidD (fun h h2 => by obtain ⟨a6, l6, c6, e, q⟩ := g6.out h h2; exact ⟨a6, l6, c6, e, RN.below q hb5⟩), g7, hidD (fun h => by simp [hf8] at h), hidD (fun _ => hq.trans (hb5.mono hq.size))⟩
          · clear hds hcl2
            refine wpOp_go2 rfl rfl (fun K hK => ?_)
            go_simp
            exact hK _ _ ⟨_, _, _, _, _, _, _, _, rfl, g0, g1, g2, hidD (fun _ => rfl), g4, g5, g6, g7, g8, gq⟩
          · have hf6 : DD 6 = false := by
              cases h : DD 6 with
              | false => rfl
              | true => rw [hcl2 6 _ rfl h 4 (by simp)] at hDi; cases hDi
            have hf8 : DD 8 = false := by
              cases h : DD 8 with
              | false => rfl
              | true => rw [hcl2 8 _ rfl h 6 (by simp)] at hf6; cases hf6
            have hq := gq.out hf8
            obtain rfl := g3.out (hds 3 (by simp))
            have k2 := (p1.below hq).c0
            clear hds hcl2
            refine wpOp_go2 rfl rfl (fun K hK => ?_)
            go_simp
            exact hK _ _ ⟨_, _, _, _, _, _, _, _, rfl, g0, g1, g2, hidD (fun _ => rfl), hidD (fun _ => rfl), g5, g6, g7, hidD (fun h => by simp [hf8] at h), gq⟩
          · clear hds hcl2
            refine wpOp_go2 rfl rfl (fun K hK => ?_)
            go_simp
            exact hK _ _ ⟨_, _, _, _, _, _, _, _, rfl, g0, g1, g2, g3, g4, hidD (fun _ => rfl), g6, g7, g8, gq⟩
          · have hf8 : DD 8 = false := by
              cases h : DD 8 with
              | false => rfl
              | true => rw [hcl2 8 _ rfl h 6 (by simp)] at hDi; cases hDi
            have hf7 : DD 7 = false := by
              cases h : DD 7 with
              | false => rfl
              | true => rw [hcl2 7 _ rfl h 6 (by simp)] at hDi; cases hDi
            have hq := gq.out hf8
            obtain rfl := g4.out (hds 4 (by simp))
            obtain rfl := g5.out (hds 5 (by simp))
            clear hds hcl2
            refine wpOp_go2 rfl rfl (fun K hK => ?_)
            go_simp
            go_wp2_with (go_at_call 34; refine (HMI.out _ hq).mono ?_; rintro e w5 ⟨u5, rfl, hu5, hb5⟩; obtain ⟨a6, c6, rfl⟩ := RN.form hu5)
            exact ⟨_, _, _, _, _, _, _, _, rfl, g0, hidD (fun h h2 => (g1.out h h2).below hb5), hidD (fun h h2 => by obtain ⟨a5, l5, c5, s5, e, q⟩ := g2.out h h2; exact ⟨a5, l5, c5, s5, e, q.below hb5⟩), g3, hidD (fun _ => rfl), hidD (fun _ => rfl), hidD (fun _ _ => ⟨_, _, _, rfl, hu5⟩), hidD (fun h => by simp [hf7] at h), hidD (fun h => by simp [hf8] at h), hidD (fun _ => hq.trans (hb5.mono hq.size))⟩
          · obtain ⟨a6, l6, c6, e6⟩ : ∃ a6 l6 c6, t53 = .slice a6 l6 c6 := by
              cases h8 : DD 8 with
              | false => obtain ⟨a6, l6, c6, e, _⟩ := g6.out (hds 6 (by simp)) h8; exact ⟨a6, l6, c6, e⟩
              | true => obtain ⟨_, _, _, _, _, a6, l6, c6, _, e, _⟩ := g8.out h8; exact ⟨a6, l6, c6, e⟩
            obtain rfl := e6
            clear hds hcl2
            refine wpOp_go2 rfl rfl (fun K hK => ?_)
            go_simp
            exact hK _ _ ⟨_, _, _, _, _, _, _, _, rfl, g0, g1, g2, g3, g4, g5, g6, hidD (fun _ => ⟨a6, l6, c6, rfl, rfl⟩), g8, gq⟩
          · have hf9 : DD 9 = false := by
              cases h : DD 9 with
              | false => rfl
              | true => rw [hcl2 9 _ rfl h 8 (by simp)] at hDi; cases hDi
            have hq := gq.out hDi
            obtain ⟨a5, l5, c5, s5, e5, h5⟩ := g2.out (hds 2 (by simp)) hDi
            obtain ⟨a6, l6, c6, e6, h6⟩ := g6.out (hds 6 (by simp)) hDi
            obtain rfl := e5
            obtain rfl := e6
            have q0 := (p4.below hq).c0
            have q1 := (p4.below hq).c1
            have f0 := (p4.below hq).f0
            have f1 := (p4.below hq).f1
            clear g1 g2 g6
            clear hds hcl2
            refine wpOp_go2 rfl rfl (fun K hK => ?_)
            go_simp
            exact hK _ _ ⟨_, _, _, _, _, _, _, _, rfl, g0, hidD (fun _ h => by simp at h), hidD (fun _ h => by simp at h), g3, g4, g5, hidD (fun _ h => by simp at h), g7, hidD (fun _ => ⟨V, a5, l5, c5, s5, a6, l6, c6, rfl, rfl, h5, h6, hq, fun _ => rfl, fun h => by simp [hf9] at h⟩), hidD (fun h => by simp at h)⟩
          · obtain ⟨V0, a5, l5, c5, s5, a6, l6, c6, e5, e6, h5, h6, hq, hV, _⟩ := g8.out (hds 8 (by simp))
            obtain rfl := hV hDi
            obtain ⟨a7, l7, c7, e7, e8⟩ := g7.out (hds 7 (by simp))
            obtain rfl := e8
            obtain rfl := e6
            cases e7
            obtain rfl := e5
            have bb := ((p5.below hq).far (p := ⟨w.heap.size + 1 + 1, 0, none⟩) (by simp) (.slice a5 l5 c5)).far (p := ⟨w.heap.size + 1 + 1, 1, none⟩) (by simp) (.bool s5)
            have q0 := bb.c0
            have q1 := bb.c1
            have f0 := bb.f0
            have f1 := bb.f1
            have h8 := hds 8 (by simp)
            clear hV
            clear hds hcl2
            refine wpOp_go2 rfl rfl (fun K hK => ?_)
            go_simp
            exact hK _ _ ⟨_, _, _, _, _, _, _, _, rfl, g0, hidD (fun _ h => by simp [h8] at h), hidD (fun _ h => by simp [h8] at h), g3, g4, g5, hidD (fun _ h => by simp [h8] at h), hidD (fun _ => ⟨_, _, _, rfl, rfl⟩), hidD (fun _ => ⟨V0, a5, l5, c5, s5, a6, l6, c6, rfl, rfl, h5, h6, hq, fun h => by simp at h, fun _ => rfl⟩), hidD (fun h => by simp [h8] at h)⟩
        case fin =>
          rintro DD a2 V hDD ⟨t47, t48, t49, t50, t51, t52, t53, t54, rfl, g0, g1, g2, g3, g4, g5, g6, g7, g8, gq⟩
          obtain ⟨V0, a5, l5, c5, s5, a6, l6, c6, e5, e6, h5, h6, hq, _, hV⟩ := g8.out (hDD 8 (by decide))
          obtain rfl := hV (hDD 9 (by decide))
          clear g0 g1 g2 g3 g4 g5 g6 g7 g8 gq hDD hV e5 e6 HMI HOF
          go_wp2_with fail
          have b45 := p4.below hq
          have b55 := p5.below hq
          obtain ⟨z4, z5⟩ := box_two (.slice a5 l5 c5) (.bool s5) (.slice a6 l6 c6) (.bool false) b45 b55
          have z4a := z4.c0
          have z4b := z4.c1
          have z5a := z5.c0
          have z5b := z5.c1
          have b57 : Box2 ((V0.setCell ⟨w.heap.size + 1 + 1, 0, none⟩ (.slice a5 l5 c5)).setCell ⟨w.heap.size + 1 + 1, 1, none⟩ (.bool s5)) (w.heap.size + 1 + 1 + 1) 24 (.slice none 0 0) (.bool false) := (b55.far (by simp) _).far (by simp) _
          have hR5 := bigOf h6
          rw [HZ2.out] at hR5
          have hz1 := (h5.box b45 rfl rfl (x0 := .slice a5 l5 c5) (x1 := .bool s5)).box b57 rfl rfl (x0 := .slice a6 l6 c6) (x1 := .bool false)
          have hz2 := (hR5.box b45 rfl rfl (x0 := .slice a5 l5 c5) (x1 := .bool s5)).box b57 rfl rfl (x0 := .slice a6 l6 c6) (x1 := .bool false)
          have hB6 := hB3.trans (hq.mono hB3.size)
          exact bodyPost_ret (v := .tuple #[.agg #[.slice a5 l5 c5, .bool s5], .agg #[.slice a6 l6 c6, .bool false]]) (by simp [results, Tryz.results14, go_sem, z4a, z4b, z5a, z5b]) rfl ⟨_, _, rfl, hz1, hz2, (((hB6.setCell (p := ⟨_, 0, none⟩) (by simp only; omega) _).setCell (p := ⟨_, 1, none⟩) (by simp only; omega) _).setCell (p := ⟨_, 0, none⟩) (by simp only; omega) _).setCell (p := ⟨_, 1, none⟩) (by simp only; omega) _⟩

/-- Quotient and rest of the reference. -/
theorem rsplit_c (va vb : Value) (x y : Int) (w : World) (ha : IsBig w va x) (hb : IsBig w vb y) (hy : y ≠ 0) (hlx : szB x ≤ 100000000) (hly : szB y ≤ 100000000) :
    Calls Tryz.prog 14 #[va, vb] w fun e w' => ∃ q o, e = .returned (.tuple #[q, o]) ∧ IsBig w' q (x / y) ∧ IsBig w' o (x % y) ∧ Below w.heap.size w w' := by
  obtain ⟨a, la, ca, rfl, hu⟩ := ha
  obtain ⟨b, lb, cb, rfl, hv⟩ := hb
  refine rsplit_v a la ca b lb cb x.natAbs y.natAbs _ _ (x / y) (x % y) w hu hv (by omega) (by rw [RN.len hu]; exact hlx) (by rw [RN.len hv]; exact hly) (fun hc => split_signs hy (fun h => hc ⟨decide_eq_true h.1, h.2⟩)) (fun hc => split_signs_n hy ⟨of_decide_eq_true hc.1, hc.2⟩)
end Go.Proofs.YtjmmnpfedhkjbaaGreatDoor
namespace Go.Proofs.YtjmmnpfedhkjbaaGreatDoor
open Go.RowKit Go.Shelf

attribute [local go_sem] Oper.semAt_some

set_option maxRecDepth 100000 in
set_option maxHeartbeats 1000000 in
theorem rsign_c (va : Value) (x : Int) (w : World) (ha : IsBig w va x) :
    Calls Tryz.prog 12 #[va] w fun e w' => e = .returned (.int .i64 x.sign) ∧ Below w.heap.size w w' := by
  obtain ⟨a, la, ca, rfl, ra⟩ := ha
  have hlen := RN.len ra
  have hk := (row_fn ra).2.2.2.1
  have hB0 : Below w.heap.size w (w.alloc (.cells #[.slice a la ca, .bool (decide (x < 0))] 24)) := (Below.refl _ w).alloc (Nat.le_refl _) _
  have b0 := Box2.new w 24 (.slice a la ca) (.bool (decide (x < 0)))
  have hz : la = 0 ↔ x = 0 := by
    rw [hlen]
    constructor
    · intro h
      have := (limbs_eq_nil (B := 10000) (by omega)).1 (List.eq_nil_of_length_eq_zero h)
      omega
    · intro h
      rw [h, Int.natAbs_zero, limbs_zero]; rfl
  have HZ := hidD hz
  obtain ⟨W0, hW0⟩ : ∃ W0, w.alloc (.cells #[.slice a la ca, .bool (decide (x < 0))] 24) = W0 := ⟨_, rfl⟩
  rw [hW0] at hB0 b0
  have HW0 := hidD hW0
  have k0 := b0.c0
  have k1 := b0.c1
  by_cases hx : x < 0
  · have hd : decide (x < 0) = true := decide_eq_true hx
    rw [hd] at HW0 k1 ⊢
    have HE := hidD (Int.sign_eq_neg_one_of_neg hx)
    clear hlen hz hW0 ra hd b0
    go_enter Tryz.func12, Tryz.ntmps12
    go_upto_region 1 with fail
    rw [HW0.out]
    go_wp2_with fail
    go_ret
    exact ⟨by rw [HE.out]; rfl, hB0⟩
  · have hd : decide (x < 0) = false := decide_eq_false hx
    rw [hd] at HW0 k1 ⊢
    clear hlen hz hW0 ra hd b0
    rcases Nat.eq_zero_or_pos la with h0 | h0
    · subst h0
      have HE := hidD (show x.sign = 0 by rw [HZ.out.1 rfl]; rfl)
      go_enter Tryz.func12, Tryz.ntmps12
      go_upto_region 1 with fail
      rw [HW0.out]
      go_wp2_with fail
      go_ret
      refine ⟨?_, hB0⟩
      rw [HE.out]
      first | rfl | (simp; done)
    · have HE := hidD (show x.sign = 1 from Int.sign_eq_one_of_pos (by
        have := HZ.out
        rcases Int.lt_trichotomy x 0 with h | h | h
        · omega
        · have := this.2 h; omega
        · exact h))
      have h1 : min (1 : Int) (la : Int) = 1 := by omega
      have h2 : (1 : Int) ≤ (la : Int) := by omega
      have h3 : ¬ ((la : Int) < 1) := by omega
      go_enter Tryz.func12, Tryz.ntmps12
      go_upto_region 1 with fail
      rw [HW0.out]
      go_wp2_with fail
      go_ret
      refine ⟨?_, hB0⟩
      rw [HE.out]
      first | rfl | (simp [h1]; done)
end Go.Proofs.YtjmmnpfedhkjbaaGreatDoor
namespace Go.Proofs.YtjmmnpfedhkjbaaGreatDoor
open Go.RowKit Go.Shelf

theorem sm_sz {z : Int} (h : Small z) : szB z ≤ 2000 := by
  have := good_size h.good.1 (B := 10000) (by omega)
  rw [h.good.2] at this
  unfold szB; exact this

theorem sm_words {z : Int} (h : Small z) : (limbs B64 z.natAbs).length ≤ 2000 := by
  have := good_size h.good.1 (B := B64) (by unfold B64; omega)
  rw [h.good.2] at this
  exact this

theorem szB_le {x z : Int} {k : Nat} (hx : szB x ≤ k) (h : z.natAbs ≤ x.natAbs) : szB z ≤ k := by
  unfold szB at *
  have := rlimbs_mono h
  omega

theorem gcd_sz {x y : Int} {k : Nat} (hx : szB x ≤ k) (hy : szB y ≤ k) : szB ((Int.gcd x y : Nat) : Int) ≤ k := by
  by_cases h0 : x = 0
  · refine szB_le hy ?_
    rw [h0, Int.natAbs_natCast, Int.gcd, Int.natAbs_zero, Nat.gcd_zero_left]
    exact Nat.le_refl _
  · refine szB_le hx ?_
    rw [Int.natAbs_natCast]
    exact Nat.gcd_le_left _ (by omega)

theorem div_sz {x y : Int} {k : Nat} (hx : szB x ≤ k) : szB (x / y) ≤ k := szB_le hx (Int.natAbs_ediv_le_natAbs x y)

theorem mod_sz {x y : Int} {k : Nat} (hy : szB y ≤ k) (h : y ≠ 0) : szB (x % y) ≤ k := by
  refine szB_le hy ?_
  have h1 := Int.emod_nonneg x h
  have h2 := Int.emod_lt x h
  omega

theorem int_zero (W : World) : IsInt W (.agg #[.bool false, .slice none 0 0]) 0 :=
  ⟨none, 0, 0, by simp, by unfold UN; rw [Int.natAbs_zero, limbs_zero]; exact Row.nil _ _⟩
end Go.Proofs.YtjmmnpfedhkjbaaGreatDoor
namespace Go.Proofs.YtjmmnpfedhkjbaaGreatDoor
open Go.RowKit Go.Shelf

/-- The memory of a law: boxes with numbers in them, no two of them one. -/
def MemI (w V : World) (bs : List (Nat × Int)) : Prop :=
  (∀ (i : Nat) B z, bs[i]? = some (B, z) → (∃ a l c, Box2 V B 29 (.bool (decide (z < 0))) (.slice a l c) ∧ UN V (.slice a l c) z.natAbs) ∧ w.heap.size ≤ B) ∧
  (∀ (i j : Nat) B z z', bs[i]? = some (B, z) → bs[j]? = some (B, z') → i = j) ∧ Below w.heap.size w V

theorem MemI.nil (w : World) : MemI w w [] := ⟨fun i B z h => by simp at h, fun i j B z z' h => by simp at h, Below.refl _ w⟩

theorem MemI.get {w V : World} {bs : List (Nat × Int)} (M : MemI w V bs) {i B : Nat} {z : Int} (h : bs[i]? = some (B, z)) : ∃ s a l c, Box2 V B 29 (.bool s) (.slice a l c) ∧ IsInt V (.agg #[.bool s, .slice a l c]) z := by
  obtain ⟨⟨a, l, c, hb, hu⟩, _⟩ := M.1 i B z h
  exact ⟨_, a, l, c, hb, a, l, c, rfl, hu⟩

theorem MemI.below {w V V' : World} {bs : List (Nat × Int)} (M : MemI w V bs) (hb : Below V.heap.size V V') : MemI w V' bs :=
  ⟨fun i B z h => by
    obtain ⟨⟨a, l, c, h1, h2⟩, h3⟩ := M.1 i B z h
    exact ⟨⟨a, l, c, h1.below hb, h2.below hb⟩, h3⟩, M.2.1, M.2.2.trans (hb.mono M.2.2.size)⟩

theorem MemI.take {w V : World} {bs : List (Nat × Int)} (M : MemI w V bs) (n : Nat) : MemI w V (bs.take n) := by
  have h : ∀ (i : Nat) B z, (bs.take n)[i]? = some (B, z) → bs[i]? = some (B, z) := fun i B z h => by
    rw [List.getElem?_take] at h
    split at h
    · exact h
    · cases h
  exact ⟨fun i B z h1 => M.1 i B z (h i B z h1), fun i j B z z' h1 h2 => M.2.1 i j B z z' (h i B z h1) (h j B z' h2), M.2.2⟩

theorem MemI.push {w V : World} {bs : List (Nat × Int)} (M : MemI w V bs) {s : Bool} {a : Option Addr} {l c : Nat} {z : Int} (hi : IsInt V (.agg #[.bool s, .slice a l c]) z) :
    MemI w (V.alloc (.cells #[.bool s, .slice a l c] 29)) (bs ++ [(V.heap.size, z)]) := by
  have hal : Below V.heap.size V (V.alloc (.cells #[.bool s, .slice a l c] 29)) := (Below.refl _ V).alloc (Nat.le_refl _) _
  obtain ⟨a', l', c', e, hu⟩ := hi
  simp only [Value.agg.injEq, Array.mk.injEq, List.cons.injEq, Value.slice.injEq, Value.bool.injEq, and_true] at e
  obtain ⟨rfl, rfl, rfl, rfl⟩ := e
  have M2 := M.below hal
  have hlt : ∀ (i : Nat) B z, bs[i]? = some (B, z) → B < V.heap.size := fun i B z h => by
    obtain ⟨⟨_, _, _, h1, _⟩, _⟩ := M.1 i B z h
    exact h1.lt
  refine ⟨fun i B z' h => ?_, fun i j B z1 z2 h1 h2 => ?_, M2.2.2⟩
  · by_cases hi : i < bs.length
    · rw [List.getElem?_append_left hi] at h
      exact M2.1 i B z' h
    · rw [List.getElem?_append_right (by omega)] at h
      obtain ⟨k, hk⟩ : ∃ k, i - bs.length = k := ⟨_, rfl⟩
      rw [hk] at h
      cases k with
      | zero =>
        simp at h
        obtain ⟨rfl, rfl⟩ := h
        exact ⟨⟨a, l, c, Box2.new V _ _ _, hu.below hal⟩, M.2.2.size⟩
      | succ k => simp at h
  · by_cases hi : i < bs.length <;> by_cases hj : j < bs.length
    · rw [List.getElem?_append_left hi] at h1
      rw [List.getElem?_append_left hj] at h2
      exact M.2.1 i j B z1 z2 h1 h2
    · rw [List.getElem?_append_left hi] at h1
      rw [List.getElem?_append_right (by omega)] at h2
      have := hlt i B z1 h1
      obtain ⟨k, hk⟩ : ∃ k, j - bs.length = k := ⟨_, rfl⟩
      rw [hk] at h2
      cases k with
      | zero => simp at h2; omega
      | succ k => simp at h2
    · rw [List.getElem?_append_left hj] at h2
      rw [List.getElem?_append_right (by omega)] at h1
      have := hlt j B z2 h2
      obtain ⟨k, hk⟩ : ∃ k, i - bs.length = k := ⟨_, rfl⟩
      rw [hk] at h1
      cases k with
      | zero => simp at h1; omega
      | succ k => simp at h1
    · rw [List.getElem?_append_right (by omega)] at h1 h2
      obtain ⟨k, hk⟩ : ∃ k, i - bs.length = k := ⟨_, rfl⟩
      obtain ⟨k2, hk2⟩ : ∃ k2, j - bs.length = k2 := ⟨_, rfl⟩
      rw [hk] at h1
      rw [hk2] at h2
      cases k with
      | zero =>
        cases k2 with
        | zero => omega
        | succ k2 => simp at h2
      | succ k => simp at h1

theorem MemI.put {w V : World} {bs : List (Nat × Int)} (M : MemI w V bs) {i B : Nat} {z : Int} (h : bs[i]? = some (B, z)) {s : Bool} {a : Option Addr} {l c : Nat} {z' : Int} (hi : IsInt V (.agg #[.bool s, .slice a l c]) z') :
    MemI w ((V.setCell ⟨B, 0, none⟩ (.bool s)).setCell ⟨B, 1, none⟩ (.slice a l c)) (bs.set i (B, z')) := by
  obtain ⟨⟨a0, l0, c0, hb0, hu0⟩, hw⟩ := M.1 i B z h
  have hlen : i < bs.length := (List.getElem?_eq_some_iff.1 h).1
  obtain ⟨a', l', c', e, hu⟩ := hi
  simp only [Value.agg.injEq, Array.mk.injEq, List.cons.injEq, Value.slice.injEq, Value.bool.injEq, and_true] at e
  obtain ⟨rfl, rfl, rfl, rfl⟩ := e
  have keep : ∀ {v : Value} {n : Nat}, UN V v n → UN ((V.setCell ⟨B, 0, none⟩ (.bool (decide (z' < 0)))).setCell ⟨B, 1, none⟩ (.slice a l c)) v n := fun hv => Row.set (Row.set hv hb0.c0 rfl _) (u0 := .slice a0 l0 c0) (hb0.set0 _).c1 rfl _
  refine ⟨fun j B' z1 hj => ?_, fun j k B' z1 z2 h1 h2 => ?_, (M.2.2.setCell (p := ⟨B, 0, none⟩) hw _).setCell (p := ⟨B, 1, none⟩) hw _⟩
  · by_cases hij : i = j
    · subst hij
      rw [List.getElem?_set_self hlen] at hj
      simp at hj
      obtain ⟨rfl, rfl⟩ := hj
      exact ⟨⟨a, l, c, (hb0.set0 _).set1 _, keep hu⟩, hw⟩
    · rw [List.getElem?_set_ne hij] at hj
      obtain ⟨⟨a1, l1, c1, hb1, hu1⟩, hw1⟩ := M.1 j B' z1 hj
      have hne : B' ≠ B := fun e => hij (by rw [e] at hj; exact M.2.1 i j B z z1 h hj)
      exact ⟨⟨a1, l1, c1, (hb1.far (p := ⟨B, 0, none⟩) hne _).far (p := ⟨B, 1, none⟩) hne _, keep hu1⟩, hw1⟩
  · have hget : ∀ (j : Nat) z1, (bs.set i (B, z'))[j]? = some (B', z1) → ∃ z3, bs[j]? = some (B', z3) := fun j z1 hj => by
      by_cases hij : i = j
      · subst hij
        rw [List.getElem?_set_self hlen] at hj
        simp at hj
        exact ⟨z, by rw [h, hj.1]⟩
      · rw [List.getElem?_set_ne hij] at hj
        exact ⟨z1, hj⟩
    obtain ⟨z3, g1⟩ := hget j z1 h1
    obtain ⟨z4, g2⟩ := hget k z2 h2
    exact M.2.1 j k B' z3 z4 g1 g2

theorem words_mul {x y : Int} {p q : Nat} (hx : (limbs B64 x.natAbs).length ≤ p) (hy : (limbs B64 y.natAbs).length ≤ q) : (limbs B64 (x * y).natAbs).length ≤ p + q := by
  have h1 := val_lt (dig_limbs two_le_B64 x.natAbs)
  have h2 := val_lt (dig_limbs two_le_B64 y.natAbs)
  rw [val_limbs two_le_B64] at h1 h2
  rw [Int.natAbs_mul]
  have h3 : x.natAbs * y.natAbs < B64 ^ (p + q) := by
    rw [Nat.pow_add]
    exact Nat.mul_lt_mul'' (Nat.lt_of_lt_of_le h1 (Nat.pow_le_pow_right (by unfold B64; omega) hx)) (Nat.lt_of_lt_of_le h2 (Nat.pow_le_pow_right (by unfold B64; omega) hy))
  exact limbs_length_le two_le_B64 h3

theorem words_le {x z : Int} {p : Nat} (hx : (limbs B64 x.natAbs).length ≤ p) (h : z.natAbs ≤ x.natAbs) : (limbs B64 z.natAbs).length ≤ p := Nat.le_trans (wlimbs_mono h) hx

theorem words_add {x y z : Int} {p q : Nat} (hx : (limbs B64 x.natAbs).length ≤ p) (hy : (limbs B64 y.natAbs).length ≤ q) (hz : z.natAbs ≤ x.natAbs + y.natAbs) : (limbs B64 z.natAbs).length ≤ p + q + 1 := by
  have h1 := val_lt (dig_limbs two_le_B64 x.natAbs)
  have h2 := val_lt (dig_limbs two_le_B64 y.natAbs)
  rw [val_limbs two_le_B64] at h1 h2
  have h3 : B64 ^ (limbs B64 x.natAbs).length ≤ B64 ^ (p + q) := Nat.pow_le_pow_right (by unfold B64; omega) (by omega)
  have h4 : B64 ^ (limbs B64 y.natAbs).length ≤ B64 ^ (p + q) := Nat.pow_le_pow_right (by unfold B64; omega) (by omega)
  have h6 : B64 ^ (p + q + 1) = B64 ^ (p + q) * B64 := Nat.pow_succ ..
  have h7 : B64 ^ (p + q) * 2 ≤ B64 ^ (p + q) * B64 := Nat.mul_le_mul_left _ two_le_B64
  exact limbs_length_le two_le_B64 (by rw [h6]; omega)

theorem cmpI_eq {x y : Int} (h : x = y) : cmpI x y = 0 := by
  subst h
  unfold cmpI
  rw [if_neg (by omega), if_neg (by omega)]
theorem cmpI_lt {x y : Int} (h : x < y) : cmpI x y = -1 := by
  unfold cmpI
  rw [if_pos h]
theorem cmpI_gt {x y : Int} (h : y < x) : cmpI x y = 1 := by
  unfold cmpI
  rw [if_neg (by omega), if_pos h]
end Go.Proofs.YtjmmnpfedhkjbaaGreatDoor
