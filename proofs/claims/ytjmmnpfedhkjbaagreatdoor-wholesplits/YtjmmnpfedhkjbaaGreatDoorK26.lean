import Derived.Test.YtjmmnpfedhkjbaaGreatDoorK22
import Derived.Test.YtjmmnpfedhkjbaaGreatDoorK24
import Derived.Test.YtjmmnpfedhkjbaaGreatDoorK20
import Derived.Test.YtjmmnpfedhkjbaaGreatDoorK25
import Derived.Deep.RegionWith
namespace Go.Proofs.YtjmmnpfedhkjbaaGreatDoor
open Go.RowKit Go.Shelf

attribute [local go_sem] Oper.semAt_some

/-- The number that a row of digits holds. -/
def rowValI (W : World) : Value → Nat
  | .slice (some p) l _ => val 10000 ((List.range l).map fun j => cellN W ⟨p.block, p.off + j, none⟩)
  | _ => 0

theorem RN.rowVal {W : World} {a : Option Addr} {l c n : Nat} (h : RN W (.slice a l c) n) : rowValI W (.slice a l c) = n := by
  obtain ⟨h1, _, _, _, h5⟩ := row_fn h
  rcases Nat.eq_zero_or_pos l with h0 | h0
  · subst h0
    have hn : n = 0 := (limbs_eq_nil (by omega)).1 (List.eq_nil_of_length_eq_zero h1.symm)
    subst hn
    cases a <;> rfl
  · obtain ⟨b, off, rfl, _, _⟩ := h5 0 h0
    show val 10000 ((List.range l).map fun j => cellN W ⟨b, off + j, none⟩) = n
    have e : (List.range l).map (fun j => cellN W ⟨b, off + j, none⟩) = limbs 10000 n := by
      refine List.ext_getElem (by rw [List.length_map, List.length_range]; exact h1) (fun j g1 g2 => ?_)
      obtain ⟨b', off', e, _, hc⟩ := h5 j (by omega)
      cases e
      rw [List.getElem_map, List.getElem_range, cellN, hc, List.getElem?_eq_getElem g2]
      rfl
    rw [e, val_limbs (by omega)]

theorem rlimbs_mono {m n : Nat} (h : n ≤ m) : (limbs 10000 n).length ≤ (limbs 10000 m).length := by
  rcases Nat.lt_or_ge (limbs 10000 m).length (limbs 10000 n).length with h1 | h1
  · have := limbs_lt_length (by omega) h1; omega
  · exact h1

set_option maxRecDepth 100000 in
set_option maxHeartbeats 2000000 in
theorem rgcd_c (va vb : Value) (x y : Int) (w : World) (ha : IsBig w va x) (hb : IsBig w vb y) (hma : szB x ≤ 100000000) (hmb : szB y ≤ 100000000) :
    Calls Tryz.prog 11 #[va, vb] w fun e w' => ∃ u, e = .returned u ∧ IsBig w' u (Int.gcd x y : Nat) ∧ Below w.heap.size w w' := by
  obtain ⟨a, la, ca, rfl, ra⟩ := ha
  obtain ⟨b, lb, cb, rfl, rb⟩ := hb
  obtain ⟨s, hs⟩ : ∃ s, decide (x < 0) = s := ⟨_, rfl⟩
  obtain ⟨t, ht⟩ : ∃ t, decide (y < 0) = t := ⟨_, rfl⟩
  rw [hs, ht]
  clear hs ht
  obtain ⟨W0, hW0⟩ : ∃ W0, ((w.alloc (.cells #[.slice a la ca, .bool s] 24)).alloc (.cells #[.slice b lb cb, .bool t] 24)).alloc (.cells #[.slice none 0 0, .bool false] 24) = W0 := ⟨_, rfl⟩
  have hB0 : Below w.heap.size w W0 := by rw [← hW0]; exact below_3 w _ _ _
  have b0 : Box2 W0 w.heap.size 24 (.slice a la ca) (.bool s) := by rw [← hW0]; exact ((Box2.new w _ _ _).alloc _).alloc _
  have b1 : Box2 W0 (w.heap.size + 1) 24 (.slice b lb cb) (.bool t) := by
    have h := (Box2.new (w.alloc (.cells #[.slice a la ca, .bool s] 24)) 24 (.slice b lb cb) (.bool t)).alloc (.cells #[.slice none 0 0, .bool false] 24)
    rw [World.size_alloc, hW0] at h; exact h
  have bR : Box2 W0 (w.heap.size + 1 + 1) 24 (.slice none 0 0) (.bool false) := by
    have h := Box2.new ((w.alloc (.cells #[.slice a la ca, .bool s] 24)).alloc (.cells #[.slice b lb cb, .bool t] 24)) 24 (.slice none 0 0) (.bool false)
    rw [World.size_alloc, World.size_alloc, hW0] at h; exact h
  have r0 := RN.below ra hB0
  have r1 := RN.below rb hB0
  have k0 := b0.c0
  have k2 := b1.c0
  have hla : la ≤ 100000000 := by rw [RN.len ra]; exact hma
  have hlb : lb ≤ 100000000 := by rw [RN.len rb]; exact hmb
  have HW0 := hidD hW0
  clear hW0 ra rb hma hmb
  go_enter Tryz.func11, Tryz.ntmps11
  go_upto_region 1 with fail
  rw [HW0.out]
  clear HW0
  go_wp2_with fail
  go_loopw [5, 6] (fun xv yv wr => ∃ (a0 : Option Addr) (l0 c0 X : Nat) (a1 : Option Addr) (l1 c1 Y : Nat), xv = .slice a0 l0 c0 ∧ yv = .slice a1 l1 c1 ∧ Hid (RN wr (.slice a0 l0 c0) X) ∧ Hid (RN wr (.slice a1 l1 c1) Y) ∧ Hid (Nat.gcd X Y = Int.gcd x y) ∧ (l0 ≤ 100000000 ∧ l1 ≤ 100000000) ∧ Below W0.heap.size W0 wr)
    (fun _ yv wr => rowValI wr yv)
  case atStart => exact ⟨a, la, ca, x.natAbs, b, lb, cb, y.natAbs, rfl, rfl, hidD r0, hidD r1, hidD rfl, ⟨hla, hlb⟩, Below.refl _ W0⟩
  case round =>
    clear r0 r1 hla hlb
    obtain ⟨a0, l0, c0, X, a1, l1, c1, Y, rfl, rfl, hX, hY, hG, ⟨hl0, hl1⟩, hB⟩ := hrel
    rcases Nat.eq_zero_or_pos l1 with h0 | h0
    · subst h0
      have hYz : Y = 0 := (limbs_eq_nil (by omega)).1 (List.eq_nil_of_length_eq_zero (RN.len hY.out).symm)
      have HE := hidD (show X = Int.gcd x y by rw [← hG.out, hYz, Nat.gcd_zero_right])
      have bRw := bR.below hB
      have q0 := bRw.c0
      have q1 := bRw.c1
      have f0 := bRw.f0
      have f1 := bRw.f1
      clear hYz
      go_wp2_with fail
      have hfin := (bigOf hX.out).box bRw rfl rfl (x0 := .slice a0 l0 c0) (x1 := .bool false)
      rw [HE.out] at hfin
      have hB2 := hB0.trans (hB.mono hB0.size)
      have z0 := ((bRw.set0 (.slice a0 l0 c0)).set1 (.bool false)).c0
      have z1 := ((bRw.set0 (.slice a0 l0 c0)).set1 (.bool false)).c1
      exact bodyPost_ret (v := .agg #[.slice a0 l0 c0, .bool false]) (by simp [results, Tryz.results11, go_sem, z0, z1]) rfl ⟨_, rfl, hfin, (hB2.setCell (p := ⟨_, 0, none⟩) (by simp only; omega) _).setCell (p := ⟨_, 1, none⟩) (by simp only; omega) _⟩
    · have hY0 : Y ≠ 0 := fun e => by
        have h := RN.len hY.out
        rw [e, limbs_zero] at h
        simp at h
        omega
      have HLG := hidD (rlong_c a0 l0 c0 a1 l1 c1 X Y wr hX.out hY.out hY0 hl0 hl1)
      have hmod := Nat.mod_lt X (show Y > 0 by omega)
      go_wp2_with (go_at_call 31; refine HLG.out.mono ?_; rintro e w2 ⟨u, v, rfl, hu, hv, hb2⟩; obtain ⟨ua, uc, rfl⟩ := RN.form hu; obtain ⟨va, vc, rfl⟩ := RN.form hv)
      have hY2 := RN.below hY.out hb2
      refine ⟨⟨a1, l1, c1, Y, va, _, vc, X % Y, rfl, rfl, hidD hY2, hidD hv, hidD (by rw [← hG.out, Nat.gcd_comm Y, ← Nat.gcd_rec, Nat.gcd_comm]), ⟨hl1, ?_⟩, hB.trans (hb2.mono hB.size)⟩, ?_⟩
      · have h1 := rlimbs_mono (Nat.le_of_lt hmod)
        rw [← RN.len hY.out] at h1
        omega
      · rw [RN.rowVal hv, RN.rowVal hY.out]
        exact hmod
end Go.Proofs.YtjmmnpfedhkjbaaGreatDoor
namespace Go.Proofs.YtjmmnpfedhkjbaaGreatDoor
open Go.RowKit Go.Shelf

attribute [local go_sem] Oper.semAt_some

theorem big_boxes (w : World) (o0 o1 o2 o3 : Value) (p0 p1 : Value) :
    Box2 ((((w.alloc (.cells #[o0, o1] 24)).alloc (.cells #[o2, o3] 24)).alloc (.cells #[p0, p1] 24)).alloc (.cells #[p0, p1] 24)) w.heap.size 24 o0 o1 ∧
    Box2 ((((w.alloc (.cells #[o0, o1] 24)).alloc (.cells #[o2, o3] 24)).alloc (.cells #[p0, p1] 24)).alloc (.cells #[p0, p1] 24)) (w.heap.size + 1) 24 o2 o3 ∧
    Box2 ((((w.alloc (.cells #[o0, o1] 24)).alloc (.cells #[o2, o3] 24)).alloc (.cells #[p0, p1] 24)).alloc (.cells #[p0, p1] 24)) (w.heap.size + 1 + 1) 24 p0 p1 ∧
    Box2 ((((w.alloc (.cells #[o0, o1] 24)).alloc (.cells #[o2, o3] 24)).alloc (.cells #[p0, p1] 24)).alloc (.cells #[p0, p1] 24)) (w.heap.size + 1 + 1 + 1) 24 p0 p1 := by
  refine ⟨(((Box2.new w _ _ _).alloc _).alloc _).alloc _, ?_, ?_, ?_⟩
  · have h := ((Box2.new (w.alloc (.cells #[o0, o1] 24)) 24 o2 o3).alloc (.cells #[p0, p1] 24)).alloc (.cells #[p0, p1] 24)
    rw [World.size_alloc] at h; exact h
  · have h := (Box2.new ((w.alloc (.cells #[o0, o1] 24)).alloc (.cells #[o2, o3] 24)) 24 p0 p1).alloc (.cells #[p0, p1] 24)
    rw [World.size_alloc, World.size_alloc] at h; exact h
  · have h := Box2.new (((w.alloc (.cells #[o0, o1] 24)).alloc (.cells #[o2, o3] 24)).alloc (.cells #[p0, p1] 24)) 24 p0 p1
    rw [World.size_alloc, World.size_alloc, World.size_alloc] at h; exact h

/-- A row with a sign, as the reference makes it. -/
theorem made_big {W : World} {a : Option Addr} {l c n : Nat} (h : RN W (.slice a l c) n) (m : Bool) : IsBig W (.agg #[.slice a l c, .bool (m && decide (0 < l))]) (if m = true then -(n : Int) else (n : Int)) := by
  have hl := RN.len h
  have hz : 0 < l ↔ n ≠ 0 := by
    rw [hl]
    constructor
    · intro h1 h2
      rw [h2, limbs_zero] at h1
      simp at h1
    · intro h1
      exact List.length_pos_iff.2 (fun e => h1 ((limbs_eq_nil (by omega)).1 e))
  cases m with
  | false =>
    refine ⟨a, l, c, ?_, by simp; exact h⟩
    have : decide ((n : Int) < 0) = false := decide_eq_false (by omega)
    simp [this]
  | true =>
    refine ⟨a, l, c, ?_, by simp; exact h⟩
    simp only [Bool.true_and, if_true]
    have : decide (0 < l) = decide (-(n : Int) < 0) := by
      by_cases hn : n = 0
      · rw [decide_eq_false (fun h1 => hz.1 h1 hn), decide_eq_false (by omega)]
      · rw [decide_eq_true (hz.2 hn), decide_eq_true (by omega)]
    rw [this]

set_option maxRecDepth 100000 in
set_option maxHeartbeats 4000000 in
theorem rsplit_v (a : Option Addr) (la ca : Nat) (b : Option Addr) (lb cb X Y : Nat) (s t : Bool) (z r : Int) (w : World) (hu : RN w (.slice a la ca) X) (hv : RN w (.slice b lb cb) Y) (hY : Y ≠ 0) (hla : la ≤ 100000000) (hlb : lb ≤ 100000000)
    (HP : Hid (¬ (s = true ∧ X % Y ≠ 0) → (if (!(s == t)) = true then -((X / Y : Nat) : Int) else ((X / Y : Nat) : Int)) = z ∧ ((X % Y : Nat) : Int) = r))
    (HN : Hid (s = true ∧ X % Y ≠ 0 → (if (!(s == t)) = true then -((X / Y + 1 : Nat) : Int) else ((X / Y + 1 : Nat) : Int)) = z ∧ ((Y - X % Y : Nat) : Int) = r)) :
    Calls Tryz.prog 14 #[.agg #[.slice a la ca, .bool s], .agg #[.slice b lb cb, .bool t]] w fun e w' => ∃ q o, e = .returned (.tuple #[q, o]) ∧ IsBig w' q z ∧ IsBig w' o r ∧ Below w.heap.size w w' := by
  have hmx : Tryz.prog.follows .mixedOrders = true := by kernel_rfl
  obtain ⟨b0, b1, b4, b5⟩ := big_boxes w (.slice a la ca) (.bool s) (.slice b lb cb) (.bool t) (.slice none 0 0) (.bool false)
  have hB0 := below_4 w (.cells #[.slice a la ca, .bool s] 24) (.cells #[.slice b lb cb, .bool t] 24) (.cells #[.slice none 0 0, .bool false] 24) (.cells #[.slice none 0 0, .bool false] 24)
  obtain ⟨W0, hW0⟩ : ∃ W0, (((w.alloc (.cells #[.slice a la ca, .bool s] 24)).alloc (.cells #[.slice b lb cb, .bool t] 24)).alloc (.cells #[.slice none 0 0, .bool false] 24)).alloc (.cells #[.slice none 0 0, .bool false] 24) = W0 := ⟨_, rfl⟩
  rw [hW0] at b0 b1 b4 b5 hB0
  have HW0 := hidD hW0
  have hu0 := RN.below hu hB0
  have hv0 := RN.below hv hB0
  have HLG := hidD (rlong_c a la ca b lb cb X Y W0 hu0 hv0 hY hla hlb)
  have HV0 := hidD hv0
  have HLA := hidD (RN.len hu).symm
  have k0 := b0.c0
  have k1 := b0.c1
  have k2 := b1.c0
  have k3 := b1.c1
  clear hW0 hu hv hu0 hv0
  go_enter Tryz.func14, Tryz.ntmps14
  go_upto_region 1 with fail
  rw [HW0.out]
  go_upto_region 2 with (go_at_call 31; refine HLG.out.mono ?_; rintro e w1 ⟨u1, v1, rfl, hu1, hv1, hb1⟩; obtain ⟨ua, uc, rfl⟩ := RN.form hu1; obtain ⟨va, vc, rfl⟩ := RN.form hv1)
  clear HLG HW0
  obtain ⟨lr, hlre⟩ : ∃ lr, (limbs 10000 (X % Y)).length = lr := ⟨_, rfl⟩
  obtain ⟨lq, hlqe⟩ : ∃ lq, (limbs 10000 (X / Y)).length = lq := ⟨_, rfl⟩
  have HLR := hidD (show lr = 0 ↔ X % Y = 0 by
    rw [← hlre]
    exact ⟨fun h => (limbs_eq_nil (by omega)).1 (List.eq_nil_of_length_eq_zero h), fun h => by rw [h, limbs_zero]; rfl⟩)
  rw [hlre] at hv1 ⊢
  rw [hlqe] at hu1 ⊢
  have hlq : lq ≤ 100000000 := by
    have h1 := rlimbs_mono (m := X) (n := X / Y) (Nat.div_le_self _ _)
    have h2 := HLA.out
    omega
  have HLQ := hidD hlqe.symm
  clear hlre hlqe
  have k0 := (b0.below hb1).c0
  have k1 := (b0.below hb1).c1
  have k2 := (b1.below hb1).c0
  have k3 := (b1.below hb1).c1
  have HMD := hidD (made_c ua lq uc (!(s == t)) w1)
  go_upto_region 3 with (go_at_call 33; refine HMD.out.mono ?_; rintro e w2 ⟨rfl, hb2⟩)
  obtain ⟨m8, hm8⟩ : ∃ m8 : Bool, ((!(s == t)) && decide (0 < lq)) = m8 := ⟨_, rfl⟩
  have hI := made_big (RN.below hu1 hb2) (!(s == t))
  rw [hm8] at hI ⊢
  obtain ⟨W3, hW3⟩ : ∃ W3, w2.alloc (.cells #[.slice ua lq uc, .bool m8] 24) = W3 := ⟨_, rfl⟩
  have hb23 : Below w2.heap.size w2 W3 := by rw [← hW3]; exact (Below.refl _ w2).alloc (Nat.le_refl _) _
  have b8 : Box2 W3 w2.heap.size 24 (.slice ua lq uc) (.bool m8) := by rw [← hW3]; exact Box2.new w2 _ _ _
  have hb13 : Below w1.heap.size w1 W3 := hb2.trans (hb23.mono hb2.size)
  have hb3 : Below W0.heap.size W0 W3 := hb1.trans (hb13.mono hb1.size)
  have hI3 := hI.below hb23
  have hR3 := RN.below hv1 hb13
  have hB3 := hB0.trans (hb3.mono hB0.size)
  obtain ⟨B8, hB8⟩ : ∃ B8, w2.heap.size = B8 := ⟨_, rfl⟩
  have hB8w : w.heap.size + 1 + 1 + 1 < B8 := by
    have h1 := (b5.below (hb1.trans (hb2.mono hb1.size))).lt
    omega
  rw [hW3]
  rw [hB8] at b8 ⊢
  clear hW3 hB8 hm8 hI HMD
  have p0 := b0.below hb3
  have p1 := b1.below hb3
  have p4 := b4.below hb3
  have p5 := b5.below hb3
  clear b0 b1 b4 b5 k0 k1 k2 k3
  have k0 := p0.c0
  have k1 := p0.c1
  have k2 := p1.c0
  have k3 := p1.c1
  have k8 := b8.c0
  have k9 := b8.c1
  have q0 := p4.c0
  have q1 := p4.c1
  have q2 := p5.c0
  have q3 := p5.c1
  have f0 := p4.f0
  have f1 := p4.f1
  have f2 := p5.f0
  have f3 := p5.f1
  obtain ⟨cd, hcd⟩ : ∃ cd : Bool, (!s || decide (lr = 0)) = cd := ⟨_, rfl⟩
  have HCD := hidD hcd
  clear hcd
  go_cut [31] (fun v w4 => v = .bool cd ∧ w4 = W3)
  case first =>
    cases s with
    | false =>
      have e5 : cd = true := by rw [← HCD.out]; rfl
      go_wp2_with fail
      go_meet
      case rel => exact ⟨by rw [e5], rfl⟩
    | true =>
      by_cases h5 : lr = 0
      · have e5 : cd = true := by rw [← HCD.out]; simp; omega
        have h6 : ((lr : Int) == 0) = true := by simp; omega
        clear h5
        go_wp2_with fail
        go_meet
        case rel => exact ⟨by rw [e5], rfl⟩
      · have e5 : cd = false := by rw [← HCD.out]; simp; omega
        have h6 : ((lr : Int) == 0) = false := by simp; omega
        clear h5
        go_wp2_with fail
        go_meet
        case rel => exact ⟨by rw [e5], rfl⟩
  case rest =>
    obtain ⟨rfl, rfl⟩ := hcut
    cases cd with
    | true =>
      have hc : ¬ (s = true ∧ X % Y ≠ 0) := fun ⟨h1, h2⟩ => by
        have h := HCD.out
        rw [h1] at h
        simp at h
        exact h2 (HLR.out.1 h)
      obtain ⟨z1, z2⟩ := HP.out hc
      rw [z1] at hI3
      have HMD := hidD (made_c va lr vc s)
      have hsl : (s && decide (0 < lr)) = false := by
        have h := HCD.out
        cases s with
        | false => rfl
        | true => simp at h; simp; omega
      rw [hsl] at HMD
      have HZ2 := hidD z2
      clear hsl z1 z2 hc
      go_wp2_with fail
      go_region_with (first
        | (go_at_call 33; refine (HMD.out _).mono ?_; rintro e w5 ⟨rfl, hb5⟩; have k8 := ((b8.drew).below hb5).c0; have k9 := ((b8.drew).below hb5).c1; have q0 := ((p4.drew).below hb5).c0; have q1 := ((p4.drew).below hb5).c1; have q2 := ((p5.drew).below hb5).c0; have q3 := ((p5.drew).below hb5).c1; have f0 := ((p4.drew).below hb5).f0; have f1 := ((p4.drew).below hb5).f1; have f2 := ((p5.drew).below hb5).f0; have f3 := ((p5.drew).below hb5).f1))
      all_goals
        go_wp2_with fail
        have hbc : Below wc.heap.size wc w5 := ((Below.refl _ wc).drew).trans (hb5.mono (Nat.le_refl _))
        have b45 := p4.below hbc
        have b55 := p5.below hbc
        obtain ⟨z4, z5⟩ := box_two (.slice ua lq uc) (.bool m8) (.slice va lr vc) (.bool false) b45 b55
        have z4a := z4.c0
        have z4b := z4.c1
        have z5a := z5.c0
        have z5b := z5.c1
        have b57 : Box2 ((w5.setCell ⟨w.heap.size + 1 + 1, 0, none⟩ (.slice ua lq uc)).setCell ⟨w.heap.size + 1 + 1, 1, none⟩ (.bool m8)) (w.heap.size + 1 + 1 + 1) 24 (.slice none 0 0) (.bool false) := (b55.far (by simp) _).far (by simp) _
        have hR5 := (bigOf hR3).below hbc
        rw [HZ2.out] at hR5
        have hz1 := ((hI3.below hbc).box b45 rfl rfl (x0 := .slice ua lq uc) (x1 := .bool m8)).box b57 rfl rfl (x0 := .slice va lr vc) (x1 := .bool false)
        have hz2 := (hR5.box b45 rfl rfl (x0 := .slice ua lq uc) (x1 := .bool m8)).box b57 rfl rfl (x0 := .slice va lr vc) (x1 := .bool false)
        have hB6 := hB3.trans (hbc.mono hB3.size)
        exact bodyPost_ret (v := .tuple #[.agg #[.slice ua lq uc, .bool m8], .agg #[.slice va lr vc, .bool false]]) (by simp [results, Tryz.results14, go_sem, z4a, z4b, z5a, z5b]) rfl ⟨_, _, rfl, hz1, hz2, (((hB6.setCell (p := ⟨_, 0, none⟩) (by simp only; omega) _).setCell (p := ⟨_, 1, none⟩) (by simp only; omega) _).setCell (p := ⟨_, 0, none⟩) (by simp only; omega) _).setCell (p := ⟨_, 1, none⟩) (by simp only; omega) _⟩
    | false =>
      have hc : s = true ∧ X % Y ≠ 0 := by
        have h := HCD.out
        simp at h
        exact ⟨h.1, fun e => h.2 (HLR.out.2 e)⟩
      obtain ⟨z1, z2⟩ := HN.out hc
      rw [hc.1] at z1
      have hI4 : IsBig wc (.agg #[.slice ua lq uc, .bool m8]) (if (!(true == t)) = true then -((X / Y : Nat) : Int) else ((X / Y : Nat) : Int)) := by have h := hI3; rw [hc.1] at h; exact h
      have HI4 := hidD hI4
      have HZ1 := hidD z1
      have HZ2 := hidD z2
      have hmod := Nat.mod_lt X (show Y > 0 by omega)
      have HOF := hidD (of_c 1 (by omega) (by omega))
      have HMI := hidD (fun (V : World) (h : Below wc.heap.size wc V) => minus_c _ _ Y (X % Y) V (RN.below (RN.below HV0.out hb3) h) (RN.below hR3 h) (by omega) (by rw [← RN.len HV0.out]; omega))
      clear hc hI4 z1 z2 hI3
      cases t with
      | true =>
        have HSU := hidD (show ∀ (V : World) (u : Value), Below wc.heap.size wc V → IsBig V u 1 → Calls Tryz.prog 21 #[.agg #[.slice ua lq uc, .bool m8], u] V fun e w' => ∃ u, e = .returned u ∧ IsBig w' u z ∧ Below V.heap.size V w' from fun V u h hu => by
          have hx := HI4.out.below h
          simp only [beq_self_eq_true, Bool.not_true, Bool.false_eq_true, if_false] at hx
          have h1 := sum_c _ u _ 1 V hx hu (by unfold szB; rw [Int.natAbs_natCast, ← HLQ.out]; omega) (int_szB (by omega) (by omega))
          have h2 := HZ1.out
          simp only [beq_self_eq_true, Bool.not_true, Bool.false_eq_true, if_false] at h2
          rw [show ((X / Y : Nat) : Int) + 1 = z from by rw [← h2]; push_cast; rfl] at h1
          exact h1)
        clear HI4 HZ1 HN HP
        go_upto_region 6 with fail
        refine wp_region_tab hmx [[], [], [0, 1, 1], [], [3], [], [4, 5, 2], [6], [2, 6, 0, 1, 2], [7, 8, 0, 1, 2, 3, 4, 5, 6, 7, 8]] (by kernel_rfl) (by decide)
          (fun DD ac V => ∃ t39 t40 t41 t42 t43 t44 t45 t46 : Value, ac = { tmps := #[.agg #[.slice a la ca, .bool s], .agg #[.slice b lb cb, .bool true], .pointer (some ⟨w.heap.size, 0, none⟩), .pointer (some ⟨w.heap.size + 1, 0, none⟩), .pointer (some ⟨w.heap.size + 1 + 1, 0, none⟩), .pointer (some ⟨w.heap.size + 1 + 1 + 1, 0, none⟩), .slice ua lq uc, .slice va lr vc, .pointer (some ⟨B8, 0, none⟩), u9, u10, u11, u12, u13, u14, u15, u16, u17, u18, u19, u20, u21, u22, u23, u24, u25, u26, u27, u28, u29, u30, .bool false, u32, u33, u34, u35, u36, .pointer (some ⟨w.heap.size + 1, 1, none⟩), .bool true, t39, t40, t41, t42, t43, t44, t45, t46, u47, u48, u49, u50, u51, u52, u53, u54], defers := [] } ∧ Hid (DD 0 = true → t39 = .agg #[.slice ua lq uc, .bool m8]) ∧ Hid (DD 1 = true → DD 8 = false → IsBig V t40 1) ∧ Hid (DD 2 = true → DD 8 = false → ∃ a5 l5 c5 s5, t41 = .agg #[.slice a5 l5 c5, .bool s5] ∧ IsBig V t41 z) ∧ Hid (DD 3 = true → t42 = .pointer (some ⟨w.heap.size + 1, 0, none⟩)) ∧ Hid (DD 4 = true → t43 = .slice b lb cb) ∧ Hid (DD 5 = true → t44 = .slice va lr vc) ∧ Hid (DD 6 = true → DD 8 = false → ∃ a6 l6 c6, t45 = .slice a6 l6 c6 ∧ RN V t45 (Y - X % Y)) ∧ Hid (DD 7 = true → ∃ a6 l6 c6, t45 = .slice a6 l6 c6 ∧ t46 = .agg #[.slice a6 l6 c6, .bool false]) ∧ Hid (DD 8 = true → ∃ V0 a5 l5 c5 s5 a6 l6 c6, t41 = .agg #[.slice a5 l5 c5, .bool s5] ∧ t45 = .slice a6 l6 c6 ∧ IsBig V0 (.agg #[.slice a5 l5 c5, .bool s5]) z ∧ RN V0 (.slice a6 l6 c6) (Y - X % Y) ∧ Below wc.heap.size wc V0 ∧ (DD 9 = false → V = ((V0.setCell ⟨w.heap.size + 1 + 1, 0, none⟩ (.slice a5 l5 c5)).setCell ⟨w.heap.size + 1 + 1, 1, none⟩ (.bool s5))) ∧ (DD 9 = true → V = (((V0.setCell ⟨w.heap.size + 1 + 1, 0, none⟩ (.slice a5 l5 c5)).setCell ⟨w.heap.size + 1 + 1, 1, none⟩ (.bool s5)).setCell ⟨w.heap.size + 1 + 1 + 1, 0, none⟩ (.slice a6 l6 c6)).setCell ⟨w.heap.size + 1 + 1 + 1, 1, none⟩ (.bool false))) ∧ Hid (DD 8 = false → Below wc.heap.size wc V))
          ⟨_, _, _, _, _, _, _, _, rfl, hidD (fun h => by cases h), hidD (fun h => by cases h), hidD (fun h => by cases h), hidD (fun h => by cases h), hidD (fun h => by cases h), hidD (fun h => by cases h), hidD (fun h => by cases h), hidD (fun h => by cases h), hidD (fun h => by cases h), hidD (fun _ => (Below.refl _ wc).drew)⟩ ?step ?fin
        case step =>
          rintro DD a2 V i ds hcl2 hi2 hds hDi ⟨t39, t40, t41, t42, t43, t44, t45, t46, rfl, g0, g1, g2, g3, g4, g5, g6, g7, g8, gq⟩
          have hi10 : i < 10 := (List.getElem?_eq_some_iff.1 hi2).1
          obtain rfl | rfl | rfl | rfl | rfl | rfl | rfl | rfl | rfl | rfl : i = 0 ∨ i = 1 ∨ i = 2 ∨ i = 3 ∨ i = 4 ∨ i = 5 ∨ i = 6 ∨ i = 7 ∨ i = 8 ∨ i = 9 := by omega
          all_goals
            simp only [List.getElem?_cons_zero, List.getElem?_cons_succ, Option.some.injEq] at hi2
            subst hi2
            clear hi10
          · have hf8 : DD 8 = false := by
              cases h : DD 8 with
              | false => rfl
              | true => rw [hcl2 8 _ rfl h 0 (by simp)] at hDi; cases hDi
            have hq := gq.out hf8
            have k8 := (b8.below hq).c0
            have k9 := (b8.below hq).c1
            clear hds hcl2
            refine wpOp_go2 rfl rfl (fun K hK => ?_)
            go_simp
            exact hK _ _ ⟨_, _, _, _, _, _, _, _, rfl, hidD (fun _ => rfl), g1, g2, g3, g4, g5, g6, g7, hidD (fun h => by simp [hf8] at h), gq⟩
          · have hf8 : DD 8 = false := by
              cases h : DD 8 with
              | false => rfl
              | true => rw [hcl2 8 _ rfl h 1 (by simp)] at hDi; cases hDi
            have hf2 : DD 2 = false := by
              cases h : DD 2 with
              | false => rfl
              | true => rw [hcl2 2 _ rfl h 1 (by simp)] at hDi; cases hDi
            have hq := gq.out hf8
            clear hds hcl2
            refine wpOp_go2 rfl rfl (fun K hK => ?_)
            go_simp
            go_wp2_with (go_at_call 20; refine (HOF.out _).mono ?_; rintro e w5 ⟨u5, rfl, hu5, hb5⟩)
            exact ⟨_, _, _, _, _, _, _, _, rfl, g0, hidD (fun _ _ => hu5), hidD (fun h => by simp [hf2] at h), g3, g4, g5, hidD (fun h h2 => by obtain ⟨a6, l6, c6, e, q⟩ := g6.out h h2; exact ⟨a6, l6, c6, e, RN.below q hb5⟩), g7, hidD (fun h => by simp [hf8] at h), hidD (fun _ => hq.trans (hb5.mono hq.size))⟩
          · have hf8 : DD 8 = false := by
              cases h : DD 8 with
              | false => rfl
              | true => rw [hcl2 8 _ rfl h 2 (by simp)] at hDi; cases hDi
            have hq := gq.out hf8
            obtain rfl := g0.out (hds 0 (by simp))
            have h1 := g1.out (hds 1 (by simp)) hf8
            clear hds hcl2
            refine wpOp_go2 rfl rfl (fun K hK => ?_)
            go_simp
            go_wp2_with (go_at_call 21; refine (HSU.out _ _ hq h1).mono ?_; rintro e w5 ⟨u5, rfl, hu5, hb5⟩; obtain ⟨a5, l5, c5, rfl⟩ := hu5.form; obtain ⟨s5, hs5⟩ : ∃ q, decide (z < 0) = q := ⟨_, rfl⟩; rw [hs5] at hu5; rw [hs5]; clear hs5)
            exact ⟨_, _, _, _, _, _, _, _, rfl, hidD (fun _ => rfl), hidD (fun h h2 => (g1.out h h2).below hb5), hidD (fun _ _ => ⟨a5, l5, c5, s5, rfl, hu5⟩), g3, g4, g5, hidD (fun h h2 => by obtain ⟨a6, l6, c6, e, q⟩ := g6.out h h2; exact ⟨a6, l6, c6, e, RN.below q hb5⟩), g7, hidD (fun h => by simp [hf8] at h), hidD (fun _ => hq.trans (hb5.mono hq.size))⟩
          · clear hds hcl2
            refine wpOp_go2 rfl rfl (fun K hK => ?_)
            go_simp
            exact hK _ _ ⟨_, _, _, _, _, _, _, _, rfl, g0, g1, g2, hidD (fun _ => rfl), g4, g5, g6, g7, g8, gq⟩
          · have hf6 : DD 6 = false := by
              cases h : DD 6 with
              | false => rfl
              | true => rw [hcl2 6 _ rfl h 4 (by simp)] at hDi; cases hDi
            have hf8 : DD 8 = false := by
              cases h : DD 8 with
              | false => rfl
              | true => rw [hcl2 8 _ rfl h 6 (by simp)] at hf6; cases hf6
            have hq := gq.out hf8
            obtain rfl := g3.out (hds 3 (by simp))
            have k2 := (p1.below hq).c0
            clear hds hcl2
            refine wpOp_go2 rfl rfl (fun K hK => ?_)
            go_simp
            exact hK _ _ ⟨_, _, _, _, _, _, _, _, rfl, g0, g1, g2, hidD (fun _ => rfl), hidD (fun _ => rfl), g5, g6, g7, hidD (fun h => by simp [hf8] at h), gq⟩
          · clear hds hcl2
            refine wpOp_go2 rfl rfl (fun K hK => ?_)
            go_simp
            exact hK _ _ ⟨_, _, _, _, _, _, _, _, rfl, g0, g1, g2, g3, g4, hidD (fun _ => rfl), g6, g7, g8, gq⟩
          · have hf8 : DD 8 = false := by
              cases h : DD 8 with
              | false => rfl
              | true => rw [hcl2 8 _ rfl h 6 (by simp)] at hDi; cases hDi
            have hf7 : DD 7 = false := by
              cases h : DD 7 with
              | false => rfl
              | true => rw [hcl2 7 _ rfl h 6 (by simp)] at hDi; cases hDi
            have hq := gq.out hf8
            obtain rfl := g4.out (hds 4 (by simp))
            obtain rfl := g5.out (hds 5 (by simp))
            clear hds hcl2
            refine wpOp_go2 rfl rfl (fun K hK => ?_)
            go_simp
            go_wp2_with (go_at_call 34; refine (HMI.out _ hq).mono ?_; rintro e w5 ⟨u5, rfl, hu5, hb5⟩; obtain ⟨a6, c6, rfl⟩ := RN.form hu5)
            exact ⟨_, _, _, _, _, _, _, _, rfl, g0, hidD (fun h h2 => (g1.out h h2).below hb5), hidD (fun h h2 => by obtain ⟨a5, l5, c5, s5, e, q⟩ := g2.out h h2; exact ⟨a5, l5, c5, s5, e, q.below hb5⟩), g3, hidD (fun _ => rfl), hidD (fun _ => rfl), hidD (fun _ _ => ⟨_, _, _, rfl, hu5⟩), hidD (fun h => by simp [hf7] at h), hidD (fun h => by simp [hf8] at h), hidD (fun _ => hq.trans (hb5.mono hq.size))⟩
          · obtain ⟨a6, l6, c6, e6⟩ : ∃ a6 l6 c6, t45 = .slice a6 l6 c6 := by
              cases h8 : DD 8 with
              | false => obtain ⟨a6, l6, c6, e, _⟩ := g6.out (hds 6 (by simp)) h8; exact ⟨a6, l6, c6, e⟩
              | true => obtain ⟨_, _, _, _, _, a6, l6, c6, _, e, _⟩ := g8.out h8; exact ⟨a6, l6, c6, e⟩
            obtain rfl := e6
            clear hds hcl2
            refine wpOp_go2 rfl rfl (fun K hK => ?_)
            go_simp
            exact hK _ _ ⟨_, _, _, _, _, _, _, _, rfl, g0, g1, g2, g3, g4, g5, g6, hidD (fun _ => ⟨a6, l6, c6, rfl, rfl⟩), g8, gq⟩
          · have hf9 : DD 9 = false := by
              cases h : DD 9 with
              | false => rfl
              | true => rw [hcl2 9 _ rfl h 8 (by simp)] at hDi; cases hDi
            have hq := gq.out hDi
            obtain ⟨a5, l5, c5, s5, e5, h5⟩ := g2.out (hds 2 (by simp)) hDi
            obtain ⟨a6, l6, c6, e6, h6⟩ := g6.out (hds 6 (by simp)) hDi
            obtain rfl := e5
            obtain rfl := e6
            have q0 := (p4.below hq).c0
            have q1 := (p4.below hq).c1
            have f0 := (p4.below hq).f0
            have f1 := (p4.below hq).f1
            clear g1 g2 g6
            clear hds hcl2
            refine wpOp_go2 rfl rfl (fun K hK => ?_)
            go_simp
            exact hK _ _ ⟨_, _, _, _, _, _, _, _, rfl, g0, hidD (fun _ h => by simp at h), hidD (fun _ h => by simp at h), g3, g4, g5, hidD (fun _ h => by simp at h), g7, hidD (fun _ => ⟨V, a5, l5, c5, s5, a6, l6, c6, rfl, rfl, h5, h6, hq, fun _ => rfl, fun h => by simp [hf9] at h⟩), hidD (fun h => by simp at h)⟩
          · obtain ⟨V0, a5, l5, c5, s5, a6, l6, c6, e5, e6, h5, h6, hq, hV, _⟩ := g8.out (hds 8 (by simp))
            obtain rfl := hV hDi
            obtain ⟨a7, l7, c7, e7, e8⟩ := g7.out (hds 7 (by simp))
            obtain rfl := e8
            obtain rfl := e6
            cases e7
            obtain rfl := e5
            have bb := ((p5.below hq).far (p := ⟨w.heap.size + 1 + 1, 0, none⟩) (by simp) (.slice a5 l5 c5)).far (p := ⟨w.heap.size + 1 + 1, 1, none⟩) (by simp) (.bool s5)
            have q0 := bb.c0
            have q1 := bb.c1
            have f0 := bb.f0
            have f1 := bb.f1
            have h8 := hds 8 (by simp)
            clear hV
            clear hds hcl2
            refine wpOp_go2 rfl rfl (fun K hK => ?_)
            go_simp
            exact hK _ _ ⟨_, _, _, _, _, _, _, _, rfl, g0, hidD (fun _ h => by simp [h8] at h), hidD (fun _ h => by simp [h8] at h), g3, g4, g5, hidD (fun _ h => by simp [h8] at h), hidD (fun _ => ⟨_, _, _, rfl, rfl⟩), hidD (fun _ => ⟨V0, a5, l5, c5, s5, a6, l6, c6, rfl, rfl, h5, h6, hq, fun h => by simp at h, fun _ => rfl⟩), hidD (fun h => by simp [h8] at h)⟩
        case fin =>
          rintro DD a2 V hDD ⟨t39, t40, t41, t42, t43, t44, t45, t46, rfl, g0, g1, g2, g3, g4, g5, g6, g7, g8, gq⟩
          obtain ⟨V0, a5, l5, c5, s5, a6, l6, c6, e5, e6, h5, h6, hq, _, hV⟩ := g8.out (hDD 8 (by decide))
          obtain rfl := hV (hDD 9 (by decide))
          clear g0 g1 g2 g3 g4 g5 g6 g7 g8 gq hDD hV e5 e6 HMI HOF
          go_wp2_with fail
          have b45 := p4.below hq
          have b55 := p5.below hq
          obtain ⟨z4, z5⟩ := box_two (.slice a5 l5 c5) (.bool s5) (.slice a6 l6 c6) (.bool false) b45 b55
          have z4a := z4.c0
          have z4b := z4.c1
          have z5a := z5.c0
          have z5b := z5.c1
          have b57 : Box2 ((V0.setCell ⟨w.heap.size + 1 + 1, 0, none⟩ (.slice a5 l5 c5)).setCell ⟨w.heap.size + 1 + 1, 1, none⟩ (.bool s5)) (w.heap.size + 1 + 1 + 1) 24 (.slice none 0 0) (.bool false) := (b55.far (by simp) _).far (by simp) _
          have hR5 := bigOf h6
          rw [HZ2.out] at hR5
          have hz1 := (h5.box b45 rfl rfl (x0 := .slice a5 l5 c5) (x1 := .bool s5)).box b57 rfl rfl (x0 := .slice a6 l6 c6) (x1 := .bool false)
          have hz2 := (hR5.box b45 rfl rfl (x0 := .slice a5 l5 c5) (x1 := .bool s5)).box b57 rfl rfl (x0 := .slice a6 l6 c6) (x1 := .bool false)
          have hB6 := hB3.trans (hq.mono hB3.size)
          exact bodyPost_ret (v := .tuple #[.agg #[.slice a5 l5 c5, .bool s5], .agg #[.slice a6 l6 c6, .bool false]]) (by simp [results, Tryz.results14, go_sem, z4a, z4b, z5a, z5b]) rfl ⟨_, _, rfl, hz1, hz2, (((hB6.setCell (p := ⟨_, 0, none⟩) (by simp only; omega) _).setCell (p := ⟨_, 1, none⟩) (by simp only; omega) _).setCell (p := ⟨_, 0, none⟩) (by simp only; omega) _).setCell (p := ⟨_, 1, none⟩) (by simp only; omega) _⟩
      | false =>
        have HSU := hidD (show ∀ (V : World) (u : Value), Below wc.heap.size wc V → IsBig V u 1 → Calls Tryz.prog 35 #[.agg #[.slice ua lq uc, .bool m8], u] V fun e w' => ∃ u, e = .returned u ∧ IsBig w' u z ∧ Below V.heap.size V w' from fun V u h hu => by
          have hx := HI4.out.below h
          rw [if_pos (by rfl)] at hx
          have h1 := rless_c _ u _ 1 V hx hu (by unfold szB; rw [Int.natAbs_neg, Int.natAbs_natCast, ← HLQ.out]; omega) (int_szB (by omega) (by omega))
          have h2 := HZ1.out
          rw [if_pos (by rfl)] at h2
          rw [show -((X / Y : Nat) : Int) - 1 = z from by rw [← h2]; push_cast; omega] at h1
          exact h1)
        clear HI4 HZ1 HN HP
        go_upto_region 7 with fail
        refine wp_region_tab hmx [[], [], [0, 1, 1], [], [3], [], [4, 5, 2], [6], [2, 6, 0, 1, 2], [7, 8, 0, 1, 2, 3, 4, 5, 6, 7, 8]] (by kernel_rfl) (by decide)
          (fun DD ac V => ∃ t47 t48 t49 t50 t51 t52 t53 t54 : Value, ac = { tmps := #[.agg #[.slice a la ca, .bool s], .agg #[.slice b lb cb, .bool false], .pointer (some ⟨w.heap.size, 0, none⟩), .pointer (some ⟨w.heap.size + 1, 0, none⟩), .pointer (some ⟨w.heap.size + 1 + 1, 0, none⟩), .pointer (some ⟨w.heap.size + 1 + 1 + 1, 0, none⟩), .slice ua lq uc, .slice va lr vc, .pointer (some ⟨B8, 0, none⟩), u9, u10, u11, u12, u13, u14, u15, u16, u17, u18, u19, u20, u21, u22, u23, u24, u25, u26, u27, u28, u29, u30, .bool false, u32, u33, u34, u35, u36, .pointer (some ⟨w.heap.size + 1, 1, none⟩), .bool false, u39, u40, u41, u42, u43, u44, u45, u46, t47, t48, t49, t50, t51, t52, t53, t54], defers := [] } ∧ Hid (DD 0 = true → t47 = .agg #[.slice ua lq uc, .bool m8]) ∧ Hid (DD 1 = true → DD 8 = false → IsBig V t48 1) ∧ Hid (DD 2 = true → DD 8 = false → ∃ a5 l5 c5 s5, t49 = .agg #[.slice a5 l5 c5, .bool s5] ∧ IsBig V t49 z) ∧ Hid (DD 3 = true → t50 = .pointer (some ⟨w.heap.size + 1, 0, none⟩)) ∧ Hid (DD 4 = true → t51 = .slice b lb cb) ∧ Hid (DD 5 = true → t52 = .slice va lr vc) ∧ Hid (DD 6 = true → DD 8 = false → ∃ a6 l6 c6, t53 = .slice a6 l6 c6 ∧ RN V t53 (Y - X % Y)) ∧ Hid (DD 7 = true → ∃ a6 l6 c6, t53 = .slice a6 l6 c6 ∧ t54 = .agg #[.slice a6 l6 c6, .bool false]) ∧ Hid (DD 8 = true → ∃ V0 a5 l5 c5 s5 a6 l6 c6, t49 = .agg #[.slice a5 l5 c5, .bool s5] ∧ t53 = .slice a6 l6 c6 ∧ IsBig V0 (.agg #[.slice a5 l5 c5, .bool s5]) z ∧ RN V0 (.slice a6 l6 c6) (Y - X % Y) ∧ Below wc.heap.size wc V0 ∧ (DD 9 = false → V = ((V0.setCell ⟨w.heap.size + 1 + 1, 0, none⟩ (.slice a5 l5 c5)).setCell ⟨w.heap.size + 1 + 1, 1, none⟩ (.bool s5))) ∧ (DD 9 = true → V = (((V0.setCell ⟨w.heap.size + 1 + 1, 0, none⟩ (.slice a5 l5 c5)).setCell ⟨w.heap.size + 1 + 1, 1, none⟩ (.bool s5)).setCell ⟨w.heap.size + 1 + 1 + 1, 0, none⟩ (.slice a6 l6 c6)).setCell ⟨w.heap.size + 1 + 1 + 1, 1, none⟩ (.bool false))) ∧ Hid (DD 8 = false → Below wc.heap.size wc V))
          ⟨_, _, _, _, _, _, _, _, rfl, hidD (fun h => by cases h), hidD (fun h => by cases h), hidD (fun h => by cases h), hidD (fun h => by cases h), hidD (fun h => by cases h), hidD (fun h => by cases h), hidD (fun h => by cases h), hidD (fun h => by cases h), hidD (fun h => by cases h), hidD (fun _ => (Below.refl _ wc).drew)⟩ ?step ?fin
        case step =>
          rintro DD a2 V i ds hcl2 hi2 hds hDi ⟨t47, t48, t49, t50, t51, t52, t53, t54, rfl, g0, g1, g2, g3, g4, g5, g6, g7, g8, gq⟩
          have hi10 : i < 10 := (List.getElem?_eq_some_iff.1 hi2).1
          obtain rfl | rfl | rfl | rfl | rfl | rfl | rfl | rfl | rfl | rfl : i = 0 ∨ i = 1 ∨ i = 2 ∨ i = 3 ∨ i = 4 ∨ i = 5 ∨ i = 6 ∨ i = 7 ∨ i = 8 ∨ i = 9 := by omega
          all_goals
            simp only [List.getElem?_cons_zero, List.getElem?_cons_succ, Option.some.injEq] at hi2
            subst hi2
            clear hi10
          · have hf8 : DD 8 = false := by
              cases h : DD 8 with
              | false => rfl
              | true => rw [hcl2 8 _ rfl h 0 (by simp)] at hDi; cases hDi
            have hq := gq.out hf8
            have k8 := (b8.below hq).c0
            have k9 := (b8.below hq).c1
            clear hds hcl2
            refine wpOp_go2 rfl rfl (fun K hK => ?_)
            go_simp
            exact hK _ _ ⟨_, _, _, _, _, _, _, _, rfl, hidD (fun _ => rfl), g1, g2, g3, g4, g5, g6, g7, hidD (fun h => by simp [hf8] at h), gq⟩
          · have hf8 : DD 8 = false := by
              cases h : DD 8 with
              | false => rfl
              | true => rw [hcl2 8 _ rfl h 1 (by simp)] at hDi; cases hDi
            have hf2 : DD 2 = false := by
              cases h : DD 2 with
              | false => rfl
              | true => rw [hcl2 2 _ rfl h 1 (by simp)] at hDi; cases hDi
            have hq := gq.out hf8
            clear hds hcl2
            refine wpOp_go2 rfl rfl (fun K hK => ?_)
            go_simp
            go_wp2_with (go_at_call 20; refine (HOF.out _).mono ?_; rintro e w5 ⟨u5, rfl, hu5, hb5⟩)
            exact ⟨_, _, _, _, _, _, _, _, rfl, g0, hidD (fun _ _ => hu5), hidD (fun h => by simp [hf2] at h), g3, g4, g5, hidD (fun h h2 => by obtain ⟨a6, l6, c6, e, q⟩ := g6.out h h2; exact ⟨a6, l6, c6, e, RN.below q hb5⟩), g7, hidD (fun h => by simp [hf8] at h), hidD (fun _ => hq.trans (hb5.mono hq.size))⟩
          · have hf8 : DD 8 = false := by
              cases h : DD 8 with
              | false => rfl
              | true => rw [hcl2 8 _ rfl h 2 (by simp)] at hDi; cases hDi
            have hq := gq.out hf8
            obtain rfl := g0.out (hds 0 (by simp))
            have h1 := g1.out (hds 1 (by simp)) hf8
            clear hds hcl2
            refine wpOp_go2 rfl rfl (fun K hK => ?_)
            go_simp
            go_wp2_with (go_at_call 35; refine (HSU.out _ _ hq h1).mono ?_; rintro e w5 ⟨u5, rfl, hu5, hb5⟩; obtain ⟨a5, l5, c5, rfl⟩ := hu5.form; obtain ⟨s5, hs5⟩ : ∃ q, decide (z < 0) = q := ⟨_, rfl⟩; rw [hs5] at hu5; rw [hs5]; clear hs5)
            exact ⟨_, _, _, _, _, _, _, _, rfl, hidD (fun _ => rfl), hidD (fun h h2 => (g1.out h h2).below hb5), hidD (fun _ _ => ⟨a5, l5, c5, s5, rfl, hu5⟩), g3, g4, g5, hidD (fun h h2 => by obtain ⟨a6, l6, c6, e, q⟩ := g6.out h h2; exact ⟨a6, l6, c6, e, RN.below q hb5⟩), g7, hidD (fun h => by simp [hf8] at h), hidD (fun _ => hq.trans (hb5.mono hq.size))⟩
          · clear hds hcl2
            refine wpOp_go2 rfl rfl (fun K hK => ?_)
            go_simp
            exact hK _ _ ⟨_, _, _, _, _, _, _, _, rfl, g0, g1, g2, hidD (fun _ => rfl), g4, g5, g6, g7, g8, gq⟩
          · have hf6 : DD 6 = false := by
              cases h : DD 6 with
              | false => rfl
              | true => rw [hcl2 6 _ rfl h 4 (by simp)] at hDi; cases hDi
            have hf8 : DD 8 = false := by
              cases h : DD 8 with
              | false => rfl
              | true => rw [hcl2 8 _ rfl h 6 (by simp)] at hf6; cases hf6
            have hq := gq.out hf8
            obtain rfl := g3.out (hds 3 (by simp))
            have k2 := (p1.below hq).c0
            clear hds hcl2
            refine wpOp_go2 rfl rfl (fun K hK => ?_)
            go_simp
            exact hK _ _ ⟨_, _, _, _, _, _, _, _, rfl, g0, g1, g2, hidD (fun _ => rfl), hidD (fun _ => rfl), g5, g6, g7, hidD (fun h => by simp [hf8] at h), gq⟩
          · clear hds hcl2
            refine wpOp_go2 rfl rfl (fun K hK => ?_)
            go_simp
            exact hK _ _ ⟨_, _, _, _, _, _, _, _, rfl, g0, g1, g2, g3, g4, hidD (fun _ => rfl), g6, g7, g8, gq⟩
          · have hf8 : DD 8 = false := by
              cases h : DD 8 with
              | false => rfl
              | true => rw [hcl2 8 _ rfl h 6 (by simp)] at hDi; cases hDi
            have hf7 : DD 7 = false := by
              cases h : DD 7 with
              | false => rfl
              | true => rw [hcl2 7 _ rfl h 6 (by simp)] at hDi; cases hDi
            have hq := gq.out hf8
            obtain rfl := g4.out (hds 4 (by simp))
            obtain rfl := g5.out (hds 5 (by simp))
            clear hds hcl2
            refine wpOp_go2 rfl rfl (fun K hK => ?_)
            go_simp
            go_wp2_with (go_at_call 34; refine (HMI.out _ hq).mono ?_; rintro e w5 ⟨u5, rfl, hu5, hb5⟩; obtain ⟨a6, c6, rfl⟩ := RN.form hu5)
            exact ⟨_, _, _, _, _, _, _, _, rfl, g0, hidD (fun h h2 => (g1.out h h2).below hb5), hidD (fun h h2 => by obtain ⟨a5, l5, c5, s5, e, q⟩ := g2.out h h2; exact ⟨a5, l5, c5, s5, e, q.below hb5⟩), g3, hidD (fun _ => rfl), hidD (fun _ => rfl), hidD (fun _ _ => ⟨_, _, _, rfl, hu5⟩), hidD (fun h => by simp [hf7] at h), hidD (fun h => by simp [hf8] at h), hidD (fun _ => hq.trans (hb5.mono hq.size))⟩
          · obtain ⟨a6, l6, c6, e6⟩ : ∃ a6 l6 c6, t53 = .slice a6 l6 c6 := by
              cases h8 : DD 8 with
              | false => obtain ⟨a6, l6, c6, e, _⟩ := g6.out (hds 6 (by simp)) h8; exact ⟨a6, l6, c6, e⟩
              | true => obtain ⟨_, _, _, _, _, a6, l6, c6, _, e, _⟩ := g8.out h8; exact ⟨a6, l6, c6, e⟩
            obtain rfl := e6
            clear hds hcl2
            refine wpOp_go2 rfl rfl (fun K hK => ?_)
            go_simp
            exact hK _ _ ⟨_, _, _, _, _, _, _, _, rfl, g0, g1, g2, g3, g4, g5, g6, hidD (fun _ => ⟨a6, l6, c6, rfl, rfl⟩), g8, gq⟩
          · have hf9 : DD 9 = false := by
              cases h : DD 9 with
              | false => rfl
              | true => rw [hcl2 9 _ rfl h 8 (by simp)] at hDi; cases hDi
            have hq := gq.out hDi
            obtain ⟨a5, l5, c5, s5, e5, h5⟩ := g2.out (hds 2 (by simp)) hDi
            obtain ⟨a6, l6, c6, e6, h6⟩ := g6.out (hds 6 (by simp)) hDi
            obtain rfl := e5
            obtain rfl := e6
            have q0 := (p4.below hq).c0
            have q1 := (p4.below hq).c1
            have f0 := (p4.below hq).f0
            have f1 := (p4.below hq).f1
            clear g1 g2 g6
            clear hds hcl2
            refine wpOp_go2 rfl rfl (fun K hK => ?_)
            go_simp
            exact hK _ _ ⟨_, _, _, _, _, _, _, _, rfl, g0, hidD (fun _ h => by simp at h), hidD (fun _ h => by simp at h), g3, g4, g5, hidD (fun _ h => by simp at h), g7, hidD (fun _ => ⟨V, a5, l5, c5, s5, a6, l6, c6, rfl, rfl, h5, h6, hq, fun _ => rfl, fun h => by simp [hf9] at h⟩), hidD (fun h => by simp at h)⟩
          · obtain ⟨V0, a5, l5, c5, s5, a6, l6, c6, e5, e6, h5, h6, hq, hV, _⟩ := g8.out (hds 8 (by simp))
            obtain rfl := hV hDi
            obtain ⟨a7, l7, c7, e7, e8⟩ := g7.out (hds 7 (by simp))
            obtain rfl := e8
            obtain rfl := e6
            cases e7
            obtain rfl := e5
            have bb := ((p5.below hq).far (p := ⟨w.heap.size + 1 + 1, 0, none⟩) (by simp) (.slice a5 l5 c5)).far (p := ⟨w.heap.size + 1 + 1, 1, none⟩) (by simp) (.bool s5)
            have q0 := bb.c0
            have q1 := bb.c1
            have f0 := bb.f0
            have f1 := bb.f1
            have h8 := hds 8 (by simp)
            clear hV
            clear hds hcl2
            refine wpOp_go2 rfl rfl (fun K hK => ?_)
            go_simp
            exact hK _ _ ⟨_, _, _, _, _, _, _, _, rfl, g0, hidD (fun _ h => by simp [h8] at h), hidD (fun _ h => by simp [h8] at h), g3, g4, g5, hidD (fun _ h => by simp [h8] at h), hidD (fun _ => ⟨_, _, _, rfl, rfl⟩), hidD (fun _ => ⟨V0, a5, l5, c5, s5, a6, l6, c6, rfl, rfl, h5, h6, hq, fun h => by simp at h, fun _ => rfl⟩), hidD (fun h => by simp [h8] at h)⟩
        case fin =>
          rintro DD a2 V hDD ⟨t47, t48, t49, t50, t51, t52, t53, t54, rfl, g0, g1, g2, g3, g4, g5, g6, g7, g8, gq⟩
          obtain ⟨V0, a5, l5, c5, s5, a6, l6, c6, e5, e6, h5, h6, hq, _, hV⟩ := g8.out (hDD 8 (by decide))
          obtain rfl := hV (hDD 9 (by decide))
          clear g0 g1 g2 g3 g4 g5 g6 g7 g8 gq hDD hV e5 e6 HMI HOF
          go_wp2_with fail
          have b45 := p4.below hq
          have b55 := p5.below hq
          obtain ⟨z4, z5⟩ := box_two (.slice a5 l5 c5) (.bool s5) (.slice a6 l6 c6) (.bool false) b45 b55
          have z4a := z4.c0
          have z4b := z4.c1
          have z5a := z5.c0
          have z5b := z5.c1
          have b57 : Box2 ((V0.setCell ⟨w.heap.size + 1 + 1, 0, none⟩ (.slice a5 l5 c5)).setCell ⟨w.heap.size + 1 + 1, 1, none⟩ (.bool s5)) (w.heap.size + 1 + 1 + 1) 24 (.slice none 0 0) (.bool false) := (b55.far (by simp) _).far (by simp) _
          have hR5 := bigOf h6
          rw [HZ2.out] at hR5
          have hz1 := (h5.box b45 rfl rfl (x0 := .slice a5 l5 c5) (x1 := .bool s5)).box b57 rfl rfl (x0 := .slice a6 l6 c6) (x1 := .bool false)
          have hz2 := (hR5.box b45 rfl rfl (x0 := .slice a5 l5 c5) (x1 := .bool s5)).box b57 rfl rfl (x0 := .slice a6 l6 c6) (x1 := .bool false)
          have hB6 := hB3.trans (hq.mono hB3.size)
          exact bodyPost_ret (v := .tuple #[.agg #[.slice a5 l5 c5, .bool s5], .agg #[.slice a6 l6 c6, .bool false]]) (by simp [results, Tryz.results14, go_sem, z4a, z4b, z5a, z5b]) rfl ⟨_, _, rfl, hz1, hz2, (((hB6.setCell (p := ⟨_, 0, none⟩) (by simp only; omega) _).setCell (p := ⟨_, 1, none⟩) (by simp only; omega) _).setCell (p := ⟨_, 0, none⟩) (by simp only; omega) _).setCell (p := ⟨_, 1, none⟩) (by simp only; omega) _⟩

/-- Quotient and rest of the reference. -/
theorem rsplit_c (va vb : Value) (x y : Int) (w : World) (ha : IsBig w va x) (hb : IsBig w vb y) (hy : y ≠ 0) (hlx : szB x ≤ 100000000) (hly : szB y ≤ 100000000) :
    Calls Tryz.prog 14 #[va, vb] w fun e w' => ∃ q o, e = .returned (.tuple #[q, o]) ∧ IsBig w' q (x / y) ∧ IsBig w' o (x % y) ∧ Below w.heap.size w w' := by
  obtain ⟨a, la, ca, rfl, hu⟩ := ha
  obtain ⟨b, lb, cb, rfl, hv⟩ := hb
  refine rsplit_v a la ca b lb cb x.natAbs y.natAbs _ _ (x / y) (x % y) w hu hv (by omega) (by rw [RN.len hu]; exact hlx) (by rw [RN.len hv]; exact hly) (fun hc => split_signs hy (fun h => hc ⟨decide_eq_true h.1, h.2⟩)) (fun hc => split_signs_n hy ⟨of_decide_eq_true hc.1, hc.2⟩)
end Go.Proofs.YtjmmnpfedhkjbaaGreatDoor
namespace Go.Proofs.YtjmmnpfedhkjbaaGreatDoor
open Go.RowKit Go.Shelf

attribute [local go_sem] Oper.semAt_some

set_option maxRecDepth 100000 in
set_option maxHeartbeats 1000000 in
theorem rsign_c (va : Value) (x : Int) (w : World) (ha : IsBig w va x) :
    Calls Tryz.prog 12 #[va] w fun e w' => e = .returned (.int .i64 x.sign) ∧ Below w.heap.size w w' := by
  obtain ⟨a, la, ca, rfl, ra⟩ := ha
  have hlen := RN.len ra
  have hk := (row_fn ra).2.2.2.1
  have hB0 : Below w.heap.size w (w.alloc (.cells #[.slice a la ca, .bool (decide (x < 0))] 24)) := (Below.refl _ w).alloc (Nat.le_refl _) _
  have b0 := Box2.new w 24 (.slice a la ca) (.bool (decide (x < 0)))
  have hz : la = 0 ↔ x = 0 := by
    rw [hlen]
    constructor
    · intro h
      have := (limbs_eq_nil (B := 10000) (by omega)).1 (List.eq_nil_of_length_eq_zero h)
      omega
    · intro h
      rw [h, Int.natAbs_zero, limbs_zero]; rfl
  have HZ := hidD hz
  obtain ⟨W0, hW0⟩ : ∃ W0, w.alloc (.cells #[.slice a la ca, .bool (decide (x < 0))] 24) = W0 := ⟨_, rfl⟩
  rw [hW0] at hB0 b0
  have HW0 := hidD hW0
  have k0 := b0.c0
  have k1 := b0.c1
  by_cases hx : x < 0
  · have hd : decide (x < 0) = true := decide_eq_true hx
    rw [hd] at HW0 k1 ⊢
    have HE := hidD (Int.sign_eq_neg_one_of_neg hx)
    clear hlen hz hW0 ra hd b0
    go_enter Tryz.func12, Tryz.ntmps12
    go_upto_region 1 with fail
    rw [HW0.out]
    go_wp2_with fail
    go_ret
    exact ⟨by rw [HE.out]; rfl, hB0⟩
  · have hd : decide (x < 0) = false := decide_eq_false hx
    rw [hd] at HW0 k1 ⊢
    clear hlen hz hW0 ra hd b0
    rcases Nat.eq_zero_or_pos la with h0 | h0
    · subst h0
      have HE := hidD (show x.sign = 0 by rw [HZ.out.1 rfl]; rfl)
      go_enter Tryz.func12, Tryz.ntmps12
      go_upto_region 1 with fail
      rw [HW0.out]
      go_wp2_with fail
      go_ret
      refine ⟨?_, hB0⟩
      rw [HE.out]
      first | rfl | (simp; done)
    · have HE := hidD (show x.sign = 1 from Int.sign_eq_one_of_pos (by
        have := HZ.out
        rcases Int.lt_trichotomy x 0 with h | h | h
        · omega
        · have := this.2 h; omega
        · exact h))
      have h1 : min (1 : Int) (la : Int) = 1 := by omega
      have h2 : (1 : Int) ≤ (la : Int) := by omega
      have h3 : ¬ ((la : Int) < 1) := by omega
      go_enter Tryz.func12, Tryz.ntmps12
      go_upto_region 1 with fail
      rw [HW0.out]
      go_wp2_with fail
      go_ret
      refine ⟨?_, hB0⟩
      rw [HE.out]
      first | rfl | (simp [h1]; done)
end Go.Proofs.YtjmmnpfedhkjbaaGreatDoor
namespace Go.Proofs.YtjmmnpfedhkjbaaGreatDoor
open Go.RowKit Go.Shelf

theorem sm_sz {z : Int} (h : Small z) : szB z ≤ 2000 := by
  have := good_size h.good.1 (B := 10000) (by omega)
  rw [h.good.2] at this
  unfold szB; exact this

theorem sm_words {z : Int} (h : Small z) : (limbs B64 z.natAbs).length ≤ 2000 := by
  have := good_size h.good.1 (B := B64) (by unfold B64; omega)
  rw [h.good.2] at this
  exact this

theorem szB_le {x z : Int} {k : Nat} (hx : szB x ≤ k) (h : z.natAbs ≤ x.natAbs) : szB z ≤ k := by
  unfold szB at *
  have := rlimbs_mono h
  omega

theorem gcd_sz {x y : Int} {k : Nat} (hx : szB x ≤ k) (hy : szB y ≤ k) : szB ((Int.gcd x y : Nat) : Int) ≤ k := by
  by_cases h0 : x = 0
  · refine szB_le hy ?_
    rw [h0, Int.natAbs_natCast, Int.gcd, Int.natAbs_zero, Nat.gcd_zero_left]
    exact Nat.le_refl _
  · refine szB_le hx ?_
    rw [Int.natAbs_natCast]
    exact Nat.gcd_le_left _ (by omega)

theorem div_sz {x y : Int} {k : Nat} (hx : szB x ≤ k) : szB (x / y) ≤ k := szB_le hx (Int.natAbs_ediv_le_natAbs x y)

theorem mod_sz {x y : Int} {k : Nat} (hy : szB y ≤ k) (h : y ≠ 0) : szB (x % y) ≤ k := by
  refine szB_le hy ?_
  have h1 := Int.emod_nonneg x h
  have h2 := Int.emod_lt x h
  omega

theorem int_zero (W : World) : IsInt W (.agg #[.bool false, .slice none 0 0]) 0 :=
  ⟨none, 0, 0, by simp, by unfold UN; rw [Int.natAbs_zero, limbs_zero]; exact Row.nil _ _⟩
end Go.Proofs.YtjmmnpfedhkjbaaGreatDoor
namespace Go.Proofs.YtjmmnpfedhkjbaaGreatDoor
open Go.RowKit Go.Shelf

attribute [local go_sem] Oper.semAt_some

set_option maxRecDepth 100000 in
set_option maxHeartbeats 4000000 in
theorem wholeSplits_c (s r : ByteArray) (hs : s.size ≤ 140737488351232) (hr : r.size ≤ 140737488351232) (w : World) (htab : Lib.TabIs Tryz.prog w "internal/strconv.uint64pow10" .u64 Lib.pow10Tab) :
    Calls Tryz.prog 3 #[.string s, .string r] w fun e w' => e = .returned (.bool true) ∧ Below w.heap.size w w' := by
  have HT := hidD htab
  clear htab
  have hB : Below w.heap.size w w := Below.refl _ w
  go_enter Tryz.func3, Tryz.ntmps3
  go_upto_region 2 with (go_at_call 5; refine (lread_c s hs _).mono ?_; rintro e w5 ⟨u, x, rfl, hu, hx, hb⟩; obtain ⟨a5, l5, c5, rfl⟩ := hu.form; obtain ⟨s5, hsg⟩ : ∃ b, decide (x < 0) = b := ⟨_, rfl⟩; rw [hsg] at hu; rw [hsg]; clear hsg)
  obtain ⟨V5, hV⟩ : ∃ V, w5.alloc (.cells #[.slice a5 l5 c5, .bool s5] 24) = V := ⟨_, rfl⟩
  have lift : Below w.heap.size w V5 := by rw [← hV]; exact hb.alloc hb.size _
  have n5 : Box2 V5 w5.heap.size 24 (.slice a5 l5 c5) (.bool s5) := by rw [← hV]; exact Box2.new _ _ _ _
  have i5 : IsBig V5 (.agg #[.slice a5 l5 c5, .bool s5]) (x) := by rw [← hV]; exact hu.alloc _
  obtain ⟨B5, hBk⟩ : ∃ B, B = w5.heap.size := ⟨_, rfl⟩
  rw [hV]
  rw [← hBk] at n5 ⊢
  replace hB := hB.trans (lift.mono hB.size)
  clear hV hBk hb hu lift
  have k5a := n5.c0
  have k5b := n5.c1
  go_upto_region 3 with (go_at_call 5; refine (lread_c r hr _).mono ?_; rintro e w6 ⟨u, y, rfl, hu, hy, hb⟩; obtain ⟨a6, l6, c6, rfl⟩ := hu.form; obtain ⟨s6, hsg⟩ : ∃ b, decide (y < 0) = b := ⟨_, rfl⟩; rw [hsg] at hu; rw [hsg]; clear hsg)
  obtain ⟨V6, hV⟩ : ∃ V, w6.alloc (.cells #[.slice a6 l6 c6, .bool s6] 24) = V := ⟨_, rfl⟩
  have lift : Below V5.heap.size V5 V6 := by rw [← hV]; exact hb.alloc hb.size _
  have n6 : Box2 V6 w6.heap.size 24 (.slice a6 l6 c6) (.bool s6) := by rw [← hV]; exact Box2.new _ _ _ _
  have i6 : IsBig V6 (.agg #[.slice a6 l6 c6, .bool s6]) (y) := by rw [← hV]; exact hu.alloc _
  obtain ⟨B6, hBk⟩ : ∃ B, B = w6.heap.size := ⟨_, rfl⟩
  rw [hV]
  rw [← hBk] at n6 ⊢
  replace hB := hB.trans (lift.mono hB.size)
  replace n5 := n5.below lift
  replace i5 := i5.below lift
  clear hV hBk hb hu lift
  replace k5a := n5.c0
  replace k5b := n5.c1
  have k6a := n6.c0
  have k6b := n6.c1
  go_upto_region 4 with (go_at_call 6; refine (given_c _ x _ i5 hx).mono ?_; rintro e w7 ⟨u, rfl, hu, hb⟩; obtain ⟨a7, l7, c7, rfl⟩ := hu.form; obtain ⟨s7, hsg⟩ : ∃ b, decide (x < 0) = b := ⟨_, rfl⟩; rw [hsg] at hu; rw [hsg]; clear hsg)
  obtain ⟨V7, hV⟩ : ∃ V, w7.alloc (.cells #[.bool s7, .slice a7 l7 c7] 29) = V := ⟨_, rfl⟩
  have lift : Below V6.heap.size V6 V7 := by rw [← hV]; exact hb.alloc hb.size _
  have n7 : Box2 V7 w7.heap.size 29 (.bool s7) (.slice a7 l7 c7) := by rw [← hV]; exact Box2.new _ _ _ _
  have i7 : IsInt V7 (.agg #[.bool s7, .slice a7 l7 c7]) (x) := by rw [← hV]; exact hu.alloc _
  obtain ⟨B7, hBk⟩ : ∃ B, B = w7.heap.size := ⟨_, rfl⟩
  rw [hV]
  rw [← hBk] at n7 ⊢
  replace hB := hB.trans (lift.mono hB.size)
  replace n5 := n5.below lift
  replace i5 := i5.below lift
  replace n6 := n6.below lift
  replace i6 := i6.below lift
  clear hV hBk hb hu lift
  replace k5a := n5.c0
  replace k5b := n5.c1
  replace k6a := n6.c0
  replace k6b := n6.c1
  have k7a := n7.c0
  have k7b := n7.c1
  go_upto_region 5 with (go_at_call 6; refine (given_c _ y _ i6 hy).mono ?_; rintro e w8 ⟨u, rfl, hu, hb⟩; obtain ⟨a8, l8, c8, rfl⟩ := hu.form; obtain ⟨s8, hsg⟩ : ∃ b, decide (y < 0) = b := ⟨_, rfl⟩; rw [hsg] at hu; rw [hsg]; clear hsg)
  obtain ⟨V8, hV⟩ : ∃ V, w8.alloc (.cells #[.bool s8, .slice a8 l8 c8] 29) = V := ⟨_, rfl⟩
  have lift : Below V7.heap.size V7 V8 := by rw [← hV]; exact hb.alloc hb.size _
  have n8 : Box2 V8 w8.heap.size 29 (.bool s8) (.slice a8 l8 c8) := by rw [← hV]; exact Box2.new _ _ _ _
  have i8 : IsInt V8 (.agg #[.bool s8, .slice a8 l8 c8]) (y) := by rw [← hV]; exact hu.alloc _
  obtain ⟨B8, hBk⟩ : ∃ B, B = w8.heap.size := ⟨_, rfl⟩
  rw [hV]
  rw [← hBk] at n8 ⊢
  replace hB := hB.trans (lift.mono hB.size)
  replace n5 := n5.below lift
  replace i5 := i5.below lift
  replace n6 := n6.below lift
  replace i6 := i6.below lift
  replace n7 := n7.below lift
  replace i7 := i7.below lift
  clear hV hBk hb hu lift
  replace k5a := n5.c0
  replace k5b := n5.c1
  replace k6a := n6.c0
  replace k6b := n6.c1
  replace k7a := n7.c0
  replace k7b := n7.c1
  have k8a := n8.c0
  have k8b := n8.c1
  by_cases hy0 : y = 0
  · have hl8 : l8 = 0 := by
      obtain ⟨a', l', c', e, hr8⟩ := i8
      simp only [Value.agg.injEq, Array.mk.injEq, List.cons.injEq, Value.slice.injEq, Value.bool.injEq, and_true] at e
      obtain ⟨_, _, rfl, _⟩ := e
      rw [UN.len hr8, hy0, Int.natAbs_zero, limbs_zero]; rfl
    have HSP := hidD (show Calls Tryz.prog 7 #[.agg #[.bool s7, .slice a7 l7 c7], .agg #[.bool s8, .slice a8 l8 c8]] V8 fun e w' => ∃ q o, e = .returned (.tuple #[q, o, .bool false]) ∧ IsInt w' q 0 ∧ IsInt w' o 0 ∧ Below V8.heap.size V8 w' from by
      rw [hl8]
      exact (isplit_0 _ x a8 c8 s8 V8 i7).mono (by rintro e w' ⟨rfl, hb⟩; exact ⟨_, _, rfl, int_zero _, int_zero _, hb⟩))
    clear hl8
    have HGC := hidD (fun (V : World) (h : Below V8.heap.size V8 V) => igcd_c _ _ x y V (i7.below h) (i8.below h) (by have := sm_words hx; omega) (by have := sm_words hy; omega))
    have HY := hidD hy0
    clear hy0
    go_upto_region 6 with (go_at_call 7; refine HSP.out.mono ?_; rintro e w9 ⟨u9, u10, rfl, hu9, hu10, hb⟩; obtain ⟨a9, l9, c9, rfl⟩ := hu9.form; obtain ⟨s9, hsg⟩ : ∃ b, decide ((0 : Int) < 0) = b := ⟨_, rfl⟩; rw [hsg] at hu9; rw [hsg]; clear hsg; obtain ⟨a10, l10, c10, rfl⟩ := hu10.form; obtain ⟨s10, hsg⟩ : ∃ b, decide ((0 : Int) < 0) = b := ⟨_, rfl⟩; rw [hsg] at hu10; rw [hsg]; clear hsg)
    obtain ⟨V9, hV⟩ : ∃ V, (w9.alloc (.cells #[.bool s9, .slice a9 l9 c9] 29)).alloc (.cells #[.bool s10, .slice a10 l10 c10] 29) = V := ⟨_, rfl⟩
    have lift : Below V8.heap.size V8 V9 := by rw [← hV]; exact (hb.alloc hb.size _).alloc (by have := hb.size; simp; omega) _
    have n9 : Box2 V9 w9.heap.size 29 (.bool s9) (.slice a9 l9 c9) := by rw [← hV]; exact (Box2.new _ _ _ _).alloc _
    have n10 : Box2 V9 (w9.heap.size + 1) 29 (.bool s10) (.slice a10 l10 c10) := by
      have h := Box2.new (w9.alloc (.cells #[.bool s9, .slice a9 l9 c9] 29)) 29 (.bool s10) (.slice a10 l10 c10)
      rw [World.size_alloc, hV] at h; exact h
    have i9 : IsInt V9 (.agg #[.bool s9, .slice a9 l9 c9]) 0 := by rw [← hV]; exact (hu9.alloc _).alloc _
    have i10 : IsInt V9 (.agg #[.bool s10, .slice a10 l10 c10]) 0 := by rw [← hV]; exact (hu10.alloc _).alloc _
    obtain ⟨B9, hBk⟩ : ∃ B, B = w9.heap.size := ⟨_, rfl⟩
    rw [hV]
    rw [← hBk] at n9 n10 ⊢
    obtain ⟨B10, hBj⟩ : ∃ B, B = B9 + 1 := ⟨_, rfl⟩
    rw [← hBj] at n10 ⊢
    replace hB := hB.trans (lift.mono hB.size)
    replace n5 := n5.below lift
    replace i5 := i5.below lift
    replace n6 := n6.below lift
    replace i6 := i6.below lift
    replace n7 := n7.below lift
    replace i7 := i7.below lift
    replace n8 := n8.below lift
    replace i8 := i8.below lift
    have hb89 := lift
    clear hV hBk hBj hb hu9 hu10 lift HSP
    replace k5a := n5.c0
    replace k5b := n5.c1
    replace k6a := n6.c0
    replace k6b := n6.c1
    replace k7a := n7.c0
    replace k7b := n7.c1
    replace k8a := n8.c0
    replace k8b := n8.c1
    have k9a := n9.c0
    have k9b := n9.c1
    have k10a := n10.c0
    have k10b := n10.c1
    go_upto_region 7 with (go_at_call 8; refine (HGC.out _ hb89).mono ?_; rintro e w12 ⟨u12, rfl, hu, hb⟩; obtain ⟨a12, l12, c12, rfl⟩ := hu.form; obtain ⟨s12, hsg⟩ : ∃ b, decide (((Int.gcd x y : Nat) : Int) < 0) = b := ⟨_, rfl⟩; rw [hsg] at hu; rw [hsg]; clear hsg)
    obtain ⟨V12, hV⟩ : ∃ V, w12.alloc (.cells #[.bool s12, .slice a12 l12 c12] 29) = V := ⟨_, rfl⟩
    have lift : Below V9.heap.size V9 V12 := by rw [← hV]; exact hb.alloc hb.size _
    have n12 : Box2 V12 w12.heap.size 29 (.bool s12) (.slice a12 l12 c12) := by rw [← hV]; exact Box2.new _ _ _ _
    have i12 : IsInt V12 (.agg #[.bool s12, .slice a12 l12 c12]) (Int.gcd x y : Nat) := by rw [← hV]; exact hu.alloc _
    obtain ⟨B12, hBk⟩ : ∃ B, B = w12.heap.size := ⟨_, rfl⟩
    rw [hV]
    rw [← hBk] at n12 ⊢
    replace hB := hB.trans (lift.mono hB.size)
    replace n5 := n5.below lift
    replace i5 := i5.below lift
    replace n6 := n6.below lift
    replace i6 := i6.below lift
    replace n7 := n7.below lift
    replace i7 := i7.below lift
    replace n8 := n8.below lift
    replace i8 := i8.below lift
    replace n9 := n9.below lift
    replace i9 := i9.below lift
    replace n10 := n10.below lift
    replace i10 := i10.below lift
    clear hV hBk hb hu lift HGC hb89
    replace k5a := n5.c0
    replace k5b := n5.c1
    replace k6a := n6.c0
    replace k6b := n6.c1
    replace k7a := n7.c0
    replace k7b := n7.c1
    replace k8a := n8.c0
    replace k8b := n8.c1
    replace k9a := n9.c0
    replace k9b := n9.c1
    replace k10a := n10.c0
    replace k10b := n10.c1
    have k12a := n12.c0
    have k12b := n12.c1
    obtain ⟨Sg, hSg⟩ : ∃ S : ByteArray, (⟨(decZ ((Int.gcd x y : Nat) : Int)).toArray⟩ : ByteArray) = S := ⟨_, rfl⟩
    have TI12 := hidD (fun (V : World) (h : Below V12.heap.size V12 V) => show Calls Tryz.prog 9 #[.agg #[.bool s12, .slice a12 l12 c12]] V fun e w' => e = .returned (.string Sg) ∧ Below V.heap.size V w' by
      have h1 := itext_c _ _ V (i12.below h) (tab_below HT.out (hB.trans (h.mono hB.size)))
      rw [hSg] at h1
      exact h1)
    have RG := hidD (fun (V : World) (h : Below V12.heap.size V12 V) => rgcd_c _ _ x y V (i5.below h) (i6.below h) (by have := sm_sz hx; omega) (by have := sm_sz hy; omega))
    have TRG := hidD (fun (V : World) (v : Value) (h : IsBig V v (Int.gcd x y : Nat)) => show Calls Tryz.prog 10 #[v] V fun e w' => e = .returned (.string Sg) ∧ Below V.heap.size V w' by
      have h1 := text_c v _ V h (by have := gcd_sz (sm_sz hx) (sm_sz hy); omega)
      rw [hSg] at h1
      exact h1)
    obtain ⟨sg, hsg⟩ : ∃ sg : Int, y.sign = sg := ⟨_, rfl⟩
    have RS := hidD (fun (V : World) (h : Below V12.heap.size V12 V) => show Calls Tryz.prog 12 #[.agg #[.slice a6 l6 c6, .bool s6]] V fun e w' => e = .returned (.int .i64 sg) ∧ Below V.heap.size V w' by
      have h1 := rsign_c _ y V (i6.below h)
      rw [hsg] at h1
      exact h1)
    have hs0 : (sg != 0) = false := by rw [← hsg, HY.out]; rfl
    clear hSg hsg
    have hq : Below V12.heap.size V12 V12.drew := (Below.refl _ V12).drew
    go_region_held3 (fun w' => w'.cell? ⟨B5, 0, none⟩ = some (.slice a5 l5 c5) ∧ w'.cell? ⟨B5, 1, none⟩ = some (.bool s5) ∧ w'.cell? ⟨B6, 0, none⟩ = some (.slice a6 l6 c6) ∧ w'.cell? ⟨B6, 1, none⟩ = some (.bool s6) ∧ w'.cell? ⟨B7, 0, none⟩ = some (.bool s7) ∧ w'.cell? ⟨B7, 1, none⟩ = some (.slice a7 l7 c7) ∧ w'.cell? ⟨B8, 0, none⟩ = some (.bool s8) ∧ w'.cell? ⟨B8, 1, none⟩ = some (.slice a8 l8 c8) ∧ w'.cell? ⟨B9, 0, none⟩ = some (.bool s9) ∧ w'.cell? ⟨B9, 1, none⟩ = some (.slice a9 l9 c9) ∧ w'.cell? ⟨B10, 0, none⟩ = some (.bool s10) ∧ w'.cell? ⟨B10, 1, none⟩ = some (.slice a10 l10 c10) ∧ w'.cell? ⟨B12, 0, none⟩ = some (.bool s12) ∧ w'.cell? ⟨B12, 1, none⟩ = some (.slice a12 l12 c12)) (exact ⟨k5a, k5b, k6a, k6b, k7a, k7b, k8a, k8b, k9a, k9b, k10a, k10b, k12a, k12b⟩)
      (first
        | (go_at_call 9; refine (TI12.out _ hq).mono ?_; clear TI12; rintro e w8 ⟨rfl, hb8⟩; clear k5a k5b k6a k6b k7a k7b k8a k8b k9a k9b k10a k10b k12a k12b; have hq := Below.then hq hb8; have k5a := (n5.below hq).c0; have k5b := (n5.below hq).c1; have k6a := (n6.below hq).c0; have k6b := (n6.below hq).c1; have k7a := (n7.below hq).c0; have k7b := (n7.below hq).c1; have k8a := (n8.below hq).c0; have k8b := (n8.below hq).c1; have k9a := (n9.below hq).c0; have k9b := (n9.below hq).c1; have k10a := (n10.below hq).c0; have k10b := (n10.below hq).c1; have k12a := (n12.below hq).c0; have k12b := (n12.below hq).c1)
        | (go_at_call 11; refine (RG.out _ hq).mono ?_; clear RG; rintro e w8 ⟨v8, rfl, h4, hb8⟩; obtain ⟨a4, l4, c4, rfl⟩ := h4.form; obtain ⟨s4, hs4⟩ : ∃ b, decide (((Int.gcd x y : Nat) : Int) < 0) = b := ⟨_, rfl⟩; rw [hs4] at h4; rw [hs4]; clear hs4; clear k5a k5b k6a k6b k7a k7b k8a k8b k9a k9b k10a k10b k12a k12b; have hq := Below.then hq hb8; have k5a := (n5.below hq).c0; have k5b := (n5.below hq).c1; have k6a := (n6.below hq).c0; have k6b := (n6.below hq).c1; have k7a := (n7.below hq).c0; have k7b := (n7.below hq).c1; have k8a := (n8.below hq).c0; have k8b := (n8.below hq).c1; have k9a := (n9.below hq).c0; have k9b := (n9.below hq).c1; have k10a := (n10.below hq).c0; have k10b := (n10.below hq).c1; have k12a := (n12.below hq).c0; have k12b := (n12.below hq).c1)
        | (go_at_call 10; refine (TRG.out _ _ h4).mono ?_; clear TRG; rintro e w8 ⟨rfl, hb8⟩; clear k5a k5b k6a k6b k7a k7b k8a k8b k9a k9b k10a k10b k12a k12b; have hq := Below.then hq hb8; have k5a := (n5.below hq).c0; have k5b := (n5.below hq).c1; have k6a := (n6.below hq).c0; have k6b := (n6.below hq).c1; have k7a := (n7.below hq).c0; have k7b := (n7.below hq).c1; have k8a := (n8.below hq).c0; have k8b := (n8.below hq).c1; have k9a := (n9.below hq).c0; have k9b := (n9.below hq).c1; have k10a := (n10.below hq).c0; have k10b := (n10.below hq).c1; have k12a := (n12.below hq).c0; have k12b := (n12.below hq).c1)
        | (go_at_call 12; refine (RS.out _ hq).mono ?_; clear RS; rintro e w8 ⟨rfl, hb8⟩; clear k5a k5b k6a k6b k7a k7b k8a k8b k9a k9b k10a k10b k12a k12b; have hq := Below.then hq hb8; have k5a := (n5.below hq).c0; have k5b := (n5.below hq).c1; have k6a := (n6.below hq).c0; have k6b := (n6.below hq).c1; have k7a := (n7.below hq).c0; have k7b := (n7.below hq).c1; have k8a := (n8.below hq).c0; have k8b := (n8.below hq).c1; have k9a := (n9.below hq).c0; have k9b := (n9.below hq).c1; have k10a := (n10.below hq).c0; have k10b := (n10.below hq).c1; have k12a := (n12.below hq).c0; have k12b := (n12.below hq).c1))
    replace hB := hB.trans (hq.mono hB.size)
    replace n5 := n5.below hq
    replace i5 := i5.below hq
    replace n6 := n6.below hq
    replace i6 := i6.below hq
    replace n7 := n7.below hq
    replace i7 := i7.below hq
    replace n8 := n8.below hq
    replace i8 := i8.below hq
    replace n9 := n9.below hq
    replace i9 := i9.below hq
    replace n10 := n10.below hq
    replace i10 := i10.below hq
    replace n12 := n12.below hq
    replace i12 := i12.below hq
    clear h4
    have TI9 := hidD (fun (V : World) (h : Below w8.heap.size w8 V) => show Calls Tryz.prog 9 #[.agg #[.bool s9, .slice a9 l9 c9]] V fun e w' => e = .returned (.string ⟨#[48]⟩) ∧ Below V.heap.size V w' from itext_c _ _ V (i9.below h) (tab_below HT.out (hB.trans (h.mono hB.size))))
    have TI10 := hidD (fun (V : World) (h : Below w8.heap.size w8 V) => show Calls Tryz.prog 9 #[.agg #[.bool s10, .slice a10 l10 c10]] V fun e w' => e = .returned (.string ⟨#[48]⟩) ∧ Below V.heap.size V w' from itext_c _ _ V (i10.below h) (tab_below HT.out (hB.trans (h.mono hB.size))))
    have AL := hidD (fun (V : World) (h : Below w8.heap.size w8 V) => alive_c V (tab_below HT.out (hB.trans (h.mono hB.size))))
    have hq0 : Below w8.heap.size w8 w8 := Below.refl _ _
    go_wp2_with (first
      | (go_at_call 9; refine (TI9.out _ hq0).mono ?_; clear TI9; rintro e w13 ⟨rfl, hb13⟩; have hq1 := hb13; have k10a := (n10.below hq1).c0; have k10b := (n10.below hq1).c1)
      | (go_at_call 9; refine (TI10.out _ hq1).mono ?_; clear TI10; rintro e w14 ⟨rfl, hb14⟩; have hq2 := Below.then hq1 hb14)
      | (go_at_call 13; refine (AL.out _ hq2).mono ?_; clear AL; rintro e w15 ⟨rfl, hb15⟩; have hq3 := Below.then hq2 hb15))
    go_ret
    exact ⟨rfl, hB.trans (hq3.mono hB.size)⟩
  · have HSP := hidD (isplit_c _ _ x y V8 i7 i8 hy0 (by have := sm_words hx; omega) (by have := sm_words hy; omega))
    have HGC := hidD (fun (V : World) (h : Below V8.heap.size V8 V) => igcd_c _ _ x y V (i7.below h) (i8.below h) (by have := sm_words hx; omega) (by have := sm_words hy; omega))
    have HY := hidD hy0
    clear hy0
    go_upto_region 6 with (go_at_call 7; refine HSP.out.mono ?_; rintro e w9 ⟨u9, u10, rfl, hu9, hu10, hb⟩; obtain ⟨a9, l9, c9, rfl⟩ := hu9.form; obtain ⟨s9, hsg⟩ : ∃ b, decide ((x / y) < 0) = b := ⟨_, rfl⟩; rw [hsg] at hu9; rw [hsg]; clear hsg; obtain ⟨a10, l10, c10, rfl⟩ := hu10.form; obtain ⟨s10, hsg⟩ : ∃ b, decide ((x % y) < 0) = b := ⟨_, rfl⟩; rw [hsg] at hu10; rw [hsg]; clear hsg)
    obtain ⟨V9, hV⟩ : ∃ V, (w9.alloc (.cells #[.bool s9, .slice a9 l9 c9] 29)).alloc (.cells #[.bool s10, .slice a10 l10 c10] 29) = V := ⟨_, rfl⟩
    have lift : Below V8.heap.size V8 V9 := by rw [← hV]; exact (hb.alloc hb.size _).alloc (by have := hb.size; simp; omega) _
    have n9 : Box2 V9 w9.heap.size 29 (.bool s9) (.slice a9 l9 c9) := by rw [← hV]; exact (Box2.new _ _ _ _).alloc _
    have n10 : Box2 V9 (w9.heap.size + 1) 29 (.bool s10) (.slice a10 l10 c10) := by
      have h := Box2.new (w9.alloc (.cells #[.bool s9, .slice a9 l9 c9] 29)) 29 (.bool s10) (.slice a10 l10 c10)
      rw [World.size_alloc, hV] at h; exact h
    have i9 : IsInt V9 (.agg #[.bool s9, .slice a9 l9 c9]) (x / y) := by rw [← hV]; exact (hu9.alloc _).alloc _
    have i10 : IsInt V9 (.agg #[.bool s10, .slice a10 l10 c10]) (x % y) := by rw [← hV]; exact (hu10.alloc _).alloc _
    obtain ⟨B9, hBk⟩ : ∃ B, B = w9.heap.size := ⟨_, rfl⟩
    rw [hV]
    rw [← hBk] at n9 n10 ⊢
    obtain ⟨B10, hBj⟩ : ∃ B, B = B9 + 1 := ⟨_, rfl⟩
    rw [← hBj] at n10 ⊢
    replace hB := hB.trans (lift.mono hB.size)
    replace n5 := n5.below lift
    replace i5 := i5.below lift
    replace n6 := n6.below lift
    replace i6 := i6.below lift
    replace n7 := n7.below lift
    replace i7 := i7.below lift
    replace n8 := n8.below lift
    replace i8 := i8.below lift
    have hb89 := lift
    clear hV hBk hBj hb hu9 hu10 lift HSP
    replace k5a := n5.c0
    replace k5b := n5.c1
    replace k6a := n6.c0
    replace k6b := n6.c1
    replace k7a := n7.c0
    replace k7b := n7.c1
    replace k8a := n8.c0
    replace k8b := n8.c1
    have k9a := n9.c0
    have k9b := n9.c1
    have k10a := n10.c0
    have k10b := n10.c1
    go_upto_region 7 with (go_at_call 8; refine (HGC.out _ hb89).mono ?_; rintro e w12 ⟨u12, rfl, hu, hb⟩; obtain ⟨a12, l12, c12, rfl⟩ := hu.form; obtain ⟨s12, hsg⟩ : ∃ b, decide (((Int.gcd x y : Nat) : Int) < 0) = b := ⟨_, rfl⟩; rw [hsg] at hu; rw [hsg]; clear hsg)
    obtain ⟨V12, hV⟩ : ∃ V, w12.alloc (.cells #[.bool s12, .slice a12 l12 c12] 29) = V := ⟨_, rfl⟩
    have lift : Below V9.heap.size V9 V12 := by rw [← hV]; exact hb.alloc hb.size _
    have n12 : Box2 V12 w12.heap.size 29 (.bool s12) (.slice a12 l12 c12) := by rw [← hV]; exact Box2.new _ _ _ _
    have i12 : IsInt V12 (.agg #[.bool s12, .slice a12 l12 c12]) (Int.gcd x y : Nat) := by rw [← hV]; exact hu.alloc _
    obtain ⟨B12, hBk⟩ : ∃ B, B = w12.heap.size := ⟨_, rfl⟩
    rw [hV]
    rw [← hBk] at n12 ⊢
    replace hB := hB.trans (lift.mono hB.size)
    replace n5 := n5.below lift
    replace i5 := i5.below lift
    replace n6 := n6.below lift
    replace i6 := i6.below lift
    replace n7 := n7.below lift
    replace i7 := i7.below lift
    replace n8 := n8.below lift
    replace i8 := i8.below lift
    replace n9 := n9.below lift
    replace i9 := i9.below lift
    replace n10 := n10.below lift
    replace i10 := i10.below lift
    clear hV hBk hb hu lift HGC hb89
    replace k5a := n5.c0
    replace k5b := n5.c1
    replace k6a := n6.c0
    replace k6b := n6.c1
    replace k7a := n7.c0
    replace k7b := n7.c1
    replace k8a := n8.c0
    replace k8b := n8.c1
    replace k9a := n9.c0
    replace k9b := n9.c1
    replace k10a := n10.c0
    replace k10b := n10.c1
    have k12a := n12.c0
    have k12b := n12.c1
    obtain ⟨Sg, hSg⟩ : ∃ S : ByteArray, (⟨(decZ ((Int.gcd x y : Nat) : Int)).toArray⟩ : ByteArray) = S := ⟨_, rfl⟩
    have TI12 := hidD (fun (V : World) (h : Below V12.heap.size V12 V) => show Calls Tryz.prog 9 #[.agg #[.bool s12, .slice a12 l12 c12]] V fun e w' => e = .returned (.string Sg) ∧ Below V.heap.size V w' by
      have h1 := itext_c _ _ V (i12.below h) (tab_below HT.out (hB.trans (h.mono hB.size)))
      rw [hSg] at h1
      exact h1)
    have RG := hidD (fun (V : World) (h : Below V12.heap.size V12 V) => rgcd_c _ _ x y V (i5.below h) (i6.below h) (by have := sm_sz hx; omega) (by have := sm_sz hy; omega))
    have TRG := hidD (fun (V : World) (v : Value) (h : IsBig V v (Int.gcd x y : Nat)) => show Calls Tryz.prog 10 #[v] V fun e w' => e = .returned (.string Sg) ∧ Below V.heap.size V w' by
      have h1 := text_c v _ V h (by have := gcd_sz (sm_sz hx) (sm_sz hy); omega)
      rw [hSg] at h1
      exact h1)
    obtain ⟨sg, hsg⟩ : ∃ sg : Int, y.sign = sg := ⟨_, rfl⟩
    have RS := hidD (fun (V : World) (h : Below V12.heap.size V12 V) => show Calls Tryz.prog 12 #[.agg #[.slice a6 l6 c6, .bool s6]] V fun e w' => e = .returned (.int .i64 sg) ∧ Below V.heap.size V w' by
      have h1 := rsign_c _ y V (i6.below h)
      rw [hsg] at h1
      exact h1)
    have hs0 : (sg != 0) = true := by
      rw [← hsg]
      have h := HY.out
      rcases Int.lt_trichotomy y 0 with h1 | h1 | h1
      · rw [Int.sign_eq_neg_one_of_neg h1]; rfl
      · exact absurd h1 h
      · rw [Int.sign_eq_one_of_pos h1]; rfl
    clear hSg hsg
    have hq : Below V12.heap.size V12 V12.drew := (Below.refl _ V12).drew
    go_region_held3 (fun w' => w'.cell? ⟨B5, 0, none⟩ = some (.slice a5 l5 c5) ∧ w'.cell? ⟨B5, 1, none⟩ = some (.bool s5) ∧ w'.cell? ⟨B6, 0, none⟩ = some (.slice a6 l6 c6) ∧ w'.cell? ⟨B6, 1, none⟩ = some (.bool s6) ∧ w'.cell? ⟨B7, 0, none⟩ = some (.bool s7) ∧ w'.cell? ⟨B7, 1, none⟩ = some (.slice a7 l7 c7) ∧ w'.cell? ⟨B8, 0, none⟩ = some (.bool s8) ∧ w'.cell? ⟨B8, 1, none⟩ = some (.slice a8 l8 c8) ∧ w'.cell? ⟨B9, 0, none⟩ = some (.bool s9) ∧ w'.cell? ⟨B9, 1, none⟩ = some (.slice a9 l9 c9) ∧ w'.cell? ⟨B10, 0, none⟩ = some (.bool s10) ∧ w'.cell? ⟨B10, 1, none⟩ = some (.slice a10 l10 c10) ∧ w'.cell? ⟨B12, 0, none⟩ = some (.bool s12) ∧ w'.cell? ⟨B12, 1, none⟩ = some (.slice a12 l12 c12)) (exact ⟨k5a, k5b, k6a, k6b, k7a, k7b, k8a, k8b, k9a, k9b, k10a, k10b, k12a, k12b⟩)
      (first
        | (go_at_call 9; refine (TI12.out _ hq).mono ?_; clear TI12; rintro e w8 ⟨rfl, hb8⟩; clear k5a k5b k6a k6b k7a k7b k8a k8b k9a k9b k10a k10b k12a k12b; have hq := Below.then hq hb8; have k5a := (n5.below hq).c0; have k5b := (n5.below hq).c1; have k6a := (n6.below hq).c0; have k6b := (n6.below hq).c1; have k7a := (n7.below hq).c0; have k7b := (n7.below hq).c1; have k8a := (n8.below hq).c0; have k8b := (n8.below hq).c1; have k9a := (n9.below hq).c0; have k9b := (n9.below hq).c1; have k10a := (n10.below hq).c0; have k10b := (n10.below hq).c1; have k12a := (n12.below hq).c0; have k12b := (n12.below hq).c1)
        | (go_at_call 11; refine (RG.out _ hq).mono ?_; clear RG; rintro e w8 ⟨v8, rfl, h4, hb8⟩; obtain ⟨a4, l4, c4, rfl⟩ := h4.form; obtain ⟨s4, hs4⟩ : ∃ b, decide (((Int.gcd x y : Nat) : Int) < 0) = b := ⟨_, rfl⟩; rw [hs4] at h4; rw [hs4]; clear hs4; clear k5a k5b k6a k6b k7a k7b k8a k8b k9a k9b k10a k10b k12a k12b; have hq := Below.then hq hb8; have k5a := (n5.below hq).c0; have k5b := (n5.below hq).c1; have k6a := (n6.below hq).c0; have k6b := (n6.below hq).c1; have k7a := (n7.below hq).c0; have k7b := (n7.below hq).c1; have k8a := (n8.below hq).c0; have k8b := (n8.below hq).c1; have k9a := (n9.below hq).c0; have k9b := (n9.below hq).c1; have k10a := (n10.below hq).c0; have k10b := (n10.below hq).c1; have k12a := (n12.below hq).c0; have k12b := (n12.below hq).c1)
        | (go_at_call 10; refine (TRG.out _ _ h4).mono ?_; clear TRG; rintro e w8 ⟨rfl, hb8⟩; clear k5a k5b k6a k6b k7a k7b k8a k8b k9a k9b k10a k10b k12a k12b; have hq := Below.then hq hb8; have k5a := (n5.below hq).c0; have k5b := (n5.below hq).c1; have k6a := (n6.below hq).c0; have k6b := (n6.below hq).c1; have k7a := (n7.below hq).c0; have k7b := (n7.below hq).c1; have k8a := (n8.below hq).c0; have k8b := (n8.below hq).c1; have k9a := (n9.below hq).c0; have k9b := (n9.below hq).c1; have k10a := (n10.below hq).c0; have k10b := (n10.below hq).c1; have k12a := (n12.below hq).c0; have k12b := (n12.below hq).c1)
        | (go_at_call 12; refine (RS.out _ hq).mono ?_; clear RS; rintro e w8 ⟨rfl, hb8⟩; clear k5a k5b k6a k6b k7a k7b k8a k8b k9a k9b k10a k10b k12a k12b; have hq := Below.then hq hb8; have k5a := (n5.below hq).c0; have k5b := (n5.below hq).c1; have k6a := (n6.below hq).c0; have k6b := (n6.below hq).c1; have k7a := (n7.below hq).c0; have k7b := (n7.below hq).c1; have k8a := (n8.below hq).c0; have k8b := (n8.below hq).c1; have k9a := (n9.below hq).c0; have k9b := (n9.below hq).c1; have k10a := (n10.below hq).c0; have k10b := (n10.below hq).c1; have k12a := (n12.below hq).c0; have k12b := (n12.below hq).c1))
    replace hB := hB.trans (hq.mono hB.size)
    replace n5 := n5.below hq
    replace i5 := i5.below hq
    replace n6 := n6.below hq
    replace i6 := i6.below hq
    replace n7 := n7.below hq
    replace i7 := i7.below hq
    replace n8 := n8.below hq
    replace i8 := i8.below hq
    replace n9 := n9.below hq
    replace i9 := i9.below hq
    replace n10 := n10.below hq
    replace i10 := i10.below hq
    replace n12 := n12.below hq
    replace i12 := i12.below hq
    clear h4
    have HRS := hidD (rsplit_c _ _ x y w8 i5 i6 HY.out (by have := sm_sz hx; omega) (by have := sm_sz hy; omega))
    go_wp2_with (go_at_call 14; refine HRS.out.mono ?_; clear HRS; rintro e w13 ⟨u13, u14, rfl, hu13, hu14, hb⟩; obtain ⟨a13, l13, c13, rfl⟩ := hu13.form; obtain ⟨s13, hsg⟩ : ∃ b, decide (x / y < 0) = b := ⟨_, rfl⟩; rw [hsg] at hu13; rw [hsg]; clear hsg; obtain ⟨a14, l14, c14, rfl⟩ := hu14.form; obtain ⟨s14, hsg⟩ : ∃ b, decide (x % y < 0) = b := ⟨_, rfl⟩; rw [hsg] at hu14; rw [hsg]; clear hsg)
    obtain ⟨V13, hV⟩ : ∃ V, (w13.alloc (.cells #[.slice a13 l13 c13, .bool s13] 24)).alloc (.cells #[.slice a14 l14 c14, .bool s14] 24) = V := ⟨_, rfl⟩
    have lift : Below w8.heap.size w8 V13 := by rw [← hV]; exact (hb.alloc hb.size _).alloc (by have := hb.size; simp; omega) _
    have n13 : Box2 V13 w13.heap.size 24 (.slice a13 l13 c13) (.bool s13) := by rw [← hV]; exact (Box2.new _ _ _ _).alloc _
    have n14 : Box2 V13 (w13.heap.size + 1) 24 (.slice a14 l14 c14) (.bool s14) := by
      have h := Box2.new (w13.alloc (.cells #[.slice a13 l13 c13, .bool s13] 24)) 24 (.slice a14 l14 c14) (.bool s14)
      rw [World.size_alloc, hV] at h; exact h
    have i13 : IsBig V13 (.agg #[.slice a13 l13 c13, .bool s13]) (x / y) := by rw [← hV]; exact (hu13.alloc _).alloc _
    have i14 : IsBig V13 (.agg #[.slice a14 l14 c14, .bool s14]) (x % y) := by rw [← hV]; exact (hu14.alloc _).alloc _
    obtain ⟨B13, hBk⟩ : ∃ B, B = w13.heap.size := ⟨_, rfl⟩
    try rw [hV]
    rw [← hBk] at n13 n14 ⊢
    obtain ⟨B14, hBj⟩ : ∃ B, B = B13 + 1 := ⟨_, rfl⟩
    rw [← hBj] at n14 ⊢
    replace hB := hB.trans (lift.mono hB.size)
    replace n9 := n9.below lift
    replace i9 := i9.below lift
    replace n10 := n10.below lift
    replace i10 := i10.below lift
    clear hV hBk hBj hb hu13 hu14 lift n5 n6 n7 n8 n12 i5 i6 i7 i8 i12 hq k5a k5b k6a k6b k7a k7b k8a k8b k12a k12b
    replace k9a := n9.c0
    replace k9b := n9.c1
    replace k10a := n10.c0
    replace k10b := n10.c1
    have k13a := n13.c0
    have k13b := n13.c1
    have k14a := n14.c0
    have k14b := n14.c1
    obtain ⟨Sq, hSq⟩ : ∃ S : ByteArray, (⟨(decZ (x / y)).toArray⟩ : ByteArray) = S := ⟨_, rfl⟩
    obtain ⟨So, hSo⟩ : ∃ S : ByteArray, (⟨(decZ (x % y)).toArray⟩ : ByteArray) = S := ⟨_, rfl⟩
    have TI9 := hidD (fun (V : World) (h : Below V13.heap.size V13 V) => show Calls Tryz.prog 9 #[.agg #[.bool s9, .slice a9 l9 c9]] V fun e w' => e = .returned (.string Sq) ∧ Below V.heap.size V w' by
      have h1 := itext_c _ _ V (i9.below h) (tab_below HT.out (hB.trans (h.mono hB.size)))
      rw [hSq] at h1
      exact h1)
    have TI10 := hidD (fun (V : World) (h : Below V13.heap.size V13 V) => show Calls Tryz.prog 9 #[.agg #[.bool s10, .slice a10 l10 c10]] V fun e w' => e = .returned (.string So) ∧ Below V.heap.size V w' by
      have h1 := itext_c _ _ V (i10.below h) (tab_below HT.out (hB.trans (h.mono hB.size)))
      rw [hSo] at h1
      exact h1)
    have TR13 := hidD (fun (V : World) (h : Below V13.heap.size V13 V) => show Calls Tryz.prog 10 #[.agg #[.slice a13 l13 c13, .bool s13]] V fun e w' => e = .returned (.string Sq) ∧ Below V.heap.size V w' by
      have h1 := text_c _ _ V (i13.below h) (by have := div_sz (y := y) (sm_sz hx); omega)
      rw [hSq] at h1
      exact h1)
    have TR14 := hidD (fun (V : World) (h : Below V13.heap.size V13 V) => show Calls Tryz.prog 10 #[.agg #[.slice a14 l14 c14, .bool s14]] V fun e w' => e = .returned (.string So) ∧ Below V.heap.size V w' by
      have h1 := text_c _ _ V (i14.below h) (by have := mod_sz (x := x) (sm_sz hy) HY.out; omega)
      rw [hSo] at h1
      exact h1)
    have AL := hidD (fun (V : World) (h : Below V13.heap.size V13 V) => alive_c V (tab_below HT.out (hB.trans (h.mono hB.size))))
    clear hSq hSo i9 i10 i13 i14
    have hq : Below V13.heap.size V13 V13.drew := (Below.refl _ V13).drew
    go_region_held3 (fun w' => w'.cell? ⟨B9, 0, none⟩ = some (.bool s9) ∧ w'.cell? ⟨B9, 1, none⟩ = some (.slice a9 l9 c9) ∧ w'.cell? ⟨B10, 0, none⟩ = some (.bool s10) ∧ w'.cell? ⟨B10, 1, none⟩ = some (.slice a10 l10 c10) ∧ w'.cell? ⟨B13, 0, none⟩ = some (.slice a13 l13 c13) ∧ w'.cell? ⟨B13, 1, none⟩ = some (.bool s13) ∧ w'.cell? ⟨B14, 0, none⟩ = some (.slice a14 l14 c14) ∧ w'.cell? ⟨B14, 1, none⟩ = some (.bool s14)) (exact ⟨k9a, k9b, k10a, k10b, k13a, k13b, k14a, k14b⟩)
      (first
        | (go_at_call 9; refine (TI9.out _ hq).mono ?_; clear TI9; rintro e w8 ⟨rfl, hb8⟩; clear k9a k9b k10a k10b k13a k13b k14a k14b; have hq := Below.then hq hb8; have k9a := (n9.below hq).c0; have k9b := (n9.below hq).c1; have k10a := (n10.below hq).c0; have k10b := (n10.below hq).c1; have k13a := (n13.below hq).c0; have k13b := (n13.below hq).c1; have k14a := (n14.below hq).c0; have k14b := (n14.below hq).c1)
        | (go_at_call 10; refine (TR13.out _ hq).mono ?_; clear TR13; rintro e w8 ⟨rfl, hb8⟩; clear k9a k9b k10a k10b k13a k13b k14a k14b; have hq := Below.then hq hb8; have k9a := (n9.below hq).c0; have k9b := (n9.below hq).c1; have k10a := (n10.below hq).c0; have k10b := (n10.below hq).c1; have k13a := (n13.below hq).c0; have k13b := (n13.below hq).c1; have k14a := (n14.below hq).c0; have k14b := (n14.below hq).c1)
        | (go_at_call 9; refine (TI10.out _ hq).mono ?_; clear TI10; rintro e w8 ⟨rfl, hb8⟩; clear k9a k9b k10a k10b k13a k13b k14a k14b; have hq := Below.then hq hb8; have k9a := (n9.below hq).c0; have k9b := (n9.below hq).c1; have k10a := (n10.below hq).c0; have k10b := (n10.below hq).c1; have k13a := (n13.below hq).c0; have k13b := (n13.below hq).c1; have k14a := (n14.below hq).c0; have k14b := (n14.below hq).c1)
        | (go_at_call 10; refine (TR14.out _ hq).mono ?_; clear TR14; rintro e w8 ⟨rfl, hb8⟩; clear k9a k9b k10a k10b k13a k13b k14a k14b; have hq := Below.then hq hb8; have k9a := (n9.below hq).c0; have k9b := (n9.below hq).c1; have k10a := (n10.below hq).c0; have k10b := (n10.below hq).c1; have k13a := (n13.below hq).c0; have k13b := (n13.below hq).c1; have k14a := (n14.below hq).c0; have k14b := (n14.below hq).c1)
        | (go_at_call 13; refine (AL.out _ hq).mono ?_; clear AL; rintro e w8 ⟨rfl, hb8⟩; clear k9a k9b k10a k10b k13a k13b k14a k14b; have hq := Below.then hq hb8; have k9a := (n9.below hq).c0; have k9b := (n9.below hq).c1; have k10a := (n10.below hq).c0; have k10b := (n10.below hq).c1; have k13a := (n13.below hq).c0; have k13b := (n13.below hq).c1; have k14a := (n14.below hq).c0; have k14b := (n14.below hq).c1))
    all_goals
      have hB9 := hB.trans (hq.mono hB.size)
      clear hq
      try go_wp2
      go_ret
      exact ⟨rfl, hB9⟩
end Go.Proofs.YtjmmnpfedhkjbaaGreatDoor
