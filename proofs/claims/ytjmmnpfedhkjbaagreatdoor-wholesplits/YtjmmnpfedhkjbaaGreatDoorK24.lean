import Derived.Test.YtjmmnpfedhkjbaaGreatDoorK23
import Derived.Test.YtjmmnpfedhkjbaaGreatDoorK01
import Derived.Test.YtjmmnpfedhkjbaaGreatDoorK12
import Derived.Test.YtjmmnpfedhkjbaaGreatDoorK06
import Derived.Deep.RegionHeld3
import Derived.BigRegion
namespace Go.Proofs.YtjmmnpfedhkjbaaGreatDoor
open Go.RowKit Go.Shelf

attribute [local go_sem] Oper.semAt_some

theorem stp_fin {W : World} {B : Nat} {t : TypeId} {v0 v1 u0 u1 : Value} (x0 x1 y0 y1 : Value) (h : Box2 W B t v0 v1) (k : Box2 W (B + 1) t u0 u1) :
    Box2 ((((W.setCell ⟨B, 0, none⟩ x0).setCell ⟨B, 1, none⟩ x1).setCell ⟨B + 1, 0, none⟩ y0).setCell ⟨B + 1, 1, none⟩ y1).drew B t x0 x1 ∧ Box2 ((((W.setCell ⟨B, 0, none⟩ x0).setCell ⟨B, 1, none⟩ x1).setCell ⟨B + 1, 0, none⟩ y0).setCell ⟨B + 1, 1, none⟩ y1).drew (B + 1) t y0 y1 :=
  ⟨((((h.set0 x0).set1 x1).far (by simp) y0).far (by simp) y1).drew, ((((k.far (by simp) x0).far (by simp) x1).set0 y0).set1 y1).drew⟩

set_option maxRecDepth 100000 in
set_option maxHeartbeats 4000000 in
theorem stepsOf_v (ab ao la k1 ca : Nat) (b : Option Addr) (lb cb x y d s H L : Nat) (w : World) (h1 : (la : Int) - 1 = k1) (hab : ab < w.heap.size)
    (ka : w.cell? ⟨ab, ao + k1, none⟩ = some (.int .u64 (d : Nat))) (hdB : d < B64) (hs : s ≤ 63) (HS : Hid ((64 : Int) - (Lib.bitLen d : Int) = (s : Int))) (hla : la ≤ 1099511627776) (hk1 : k1 < la)
    (HTA : Hid (∀ V : World, Below w.heap.size w V → Calls Tryz.prog 75 #[.slice (some ⟨ab, ao, none⟩) la ca, .int .i64 (la : Nat), .int .u64 (s : Nat)] V fun e w' => e = .returned (.int .u64 (H : Nat)) ∧ Below V.heap.size V w'))
    (HTB : Hid (∀ V : World, Below w.heap.size w V → Calls Tryz.prog 75 #[.slice b lb cb, .int .i64 (la : Nat), .int .u64 (s : Nat)] V fun e w' => e = .returned (.int .u64 (L : Nat)) ∧ Below V.heap.size V w'))
    (hH : H < B64) (hLH : L ≤ H) (HLO : Hid (∀ sg h l na nb xa xb, LehAt H L sg h l na nb xa xb → xb ≤ l → nb + xb ≤ h - l → LehOut x y na nb xa xb)) :
    Calls Tryz.prog 55 #[.slice (some ⟨ab, ao, none⟩) la ca, .slice b lb cb] w fun e w' => ∃ pa pb na nb : Nat, e = .returned (.tuple #[.agg #[.int .u64 (pa : Nat), .int .u64 (pb : Nat)], .agg #[.int .u64 (na : Nat), .int .u64 (nb : Nat)]]) ∧ (pa < B64 ∧ pb < B64 ∧ na < B64 ∧ nb < B64) ∧ (pb = 0 ∨ LehOut x y pa pb na nb) ∧ Below w.heap.size w w' := by
  have hmx : Tryz.prog.follows .mixedOrders = true := by kernel_rfl
  have i1 : IntKind.i64.wrap ((la : Int) - 1) = (k1 : Int) := by rw [h1]; exact IntWalk.i64_in _ (by omega)
  have i3 : IntKind.i64.wrap (k1 : Int) = (k1 : Int) := IntWalk.i64_in _ (by omega)
  have isw : IntKind.u64.wrap (s : Int) = (s : Int) := IntWalk.u64_in _ (by omega)
  obtain ⟨W0, hW0⟩ : ∃ W0, (w.alloc (.cells #[.int .u64 0, .int .u64 0] 79)).alloc (.cells #[.int .u64 0, .int .u64 0] 79) = W0 := ⟨_, rfl⟩
  have hB0 : Below w.heap.size w W0 := by rw [← hW0]; exact ((Below.refl _ w).alloc (Nat.le_refl _) _).alloc (by simp) _
  have b4 : Box2 W0 w.heap.size 79 (.int .u64 0) (.int .u64 0) := by rw [← hW0]; exact (Box2.new w _ _ _).alloc _
  have b5 : Box2 W0 (w.heap.size + 1) 79 (.int .u64 0) (.int .u64 0) := by
    have h := Box2.new (w.alloc (.cells #[.int .u64 0, .int .u64 0] 79)) 79 (.int .u64 0) (.int .u64 0)
    rw [World.size_alloc, hW0] at h; exact h
  have ka0 := (hB0.cell (p := ⟨ab, ao + k1, none⟩) hab).trans ka
  have HW0 := hidD hW0
  have HLZ := hidD (show ∀ V : World, Calls Tryz.prog 48 #[.int .u64 (d : Nat)] V fun e w' => e = .returned (.int .i64 (s : Nat)) ∧ w' = V from fun V => by
    have h := Tryz.bits_LeadingZeros64 (d : Nat) V (by omega) (by unfold B64 at hdB; omega)
    rw [Int.toNat_natCast, HS.out] at h
    exact h)
  clear hW0 ka HS
  go_enter Tryz.func55, Tryz.ntmps55
  go_upto_region 1 with fail
  try rw [HW0.out]
  go_upto_region 2 with (go_at_call 48; refine (HLZ.out _).mono ?_; rintro e w' ⟨rfl, e1⟩; have e2 := e1.symm; subst e2; clear e1)
  have hq : Below w.heap.size w W0 := hB0
  go_upto_region 3 with (first
    | (go_at_call 75; refine (HTA.out _ hq).mono ?_; clear HTA; rintro e w1 ⟨rfl, hb1⟩; have hq := hq.trans (hb1.mono hq.size))
    | (go_at_call 75; refine (HTB.out _ hq).mono ?_; clear HTB; rintro e w2 ⟨rfl, hb2⟩; have hq := hq.trans (hb2.mono hq.size)))
  go_wp2_with fail
  obtain ⟨W3, hW3⟩ : ∃ W3, ((w2.alloc (.cells #[.int .u64 0, .int .u64 0] 79)).alloc (.cells #[.int .u64 1, .int .u64 0] 79)).alloc (.cells #[.int .u64 0, .int .u64 1] 79) = W3 := ⟨_, rfl⟩
  have hB3 : Below w.heap.size w W3 := by rw [← hW3]; exact ((hq.alloc hq.size _).alloc (by have := hq.size; simp; omega) _).alloc (by have := hq.size; simp; omega) _
  have m9 : Box2 W3 w2.heap.size 79 (.int .u64 (0 : Nat)) (.int .u64 (0 : Nat)) := by rw [← hW3]; exact ((Box2.new w2 _ _ _).alloc _).alloc _
  have m10 : Box2 W3 (w2.heap.size + 1) 79 (.int .u64 (1 : Nat)) (.int .u64 (0 : Nat)) := by
    have h := (Box2.new (w2.alloc (.cells #[.int .u64 0, .int .u64 0] 79)) 79 (.int .u64 1) (.int .u64 0)).alloc (.cells #[.int .u64 0, .int .u64 1] 79)
    rw [World.size_alloc, hW3] at h; exact h
  have m11 : Box2 W3 (w2.heap.size + 1 + 1) 79 (.int .u64 (0 : Nat)) (.int .u64 (1 : Nat)) := by
    have h := Box2.new ((w2.alloc (.cells #[.int .u64 0, .int .u64 0] 79)).alloc (.cells #[.int .u64 1, .int .u64 0] 79)) 79 (.int .u64 0) (.int .u64 1)
    rw [World.size_alloc, World.size_alloc, hW3] at h; exact h
  have hb2w : Below W0.heap.size W0 w2 := hb1.trans (hb2.mono hb1.size)
  have m4 : Box2 W3 w.heap.size 79 (.int .u64 0) (.int .u64 0) := by rw [← hW3]; exact (((b4.below hb2w).alloc _).alloc _).alloc _
  have m5 : Box2 W3 (w.heap.size + 1) 79 (.int .u64 0) (.int .u64 0) := by rw [← hW3]; exact (((b5.below hb2w).alloc _).alloc _).alloc _
  have hsz : w.heap.size + 1 < w2.heap.size := by have := (b5.below hb2w).lt; exact this
  rw [hW3]
  obtain ⟨B9, hB9⟩ : ∃ B9, w2.heap.size = B9 := ⟨_, rfl⟩
  rw [hB9] at m9 m10 m11 hsz ⊢
  clear hW3 hb2w b4 b5 hb1 hb2 hq hB0 hB9 ka0 HLZ HW0
  go_loopw [7, 8] (fun hv lv wr => ∃ h l pa pb na nb xa xb : Nat, hv = .int .u64 (h : Nat) ∧ lv = .int .u64 (l : Nat) ∧ Hid (∃ sg, LehAt H L sg h l na nb xa xb) ∧ Hid (pb = 0 ∨ LehOut x y pa pb na nb) ∧ (h < B64 ∧ pa < B64 ∧ pb < B64 ∧ na < B64 ∧ nb < B64 ∧ xa < B64 ∧ xb < B64) ∧
      Box2 wr B9 79 (.int .u64 (pa : Nat)) (.int .u64 (pb : Nat)) ∧ Box2 wr (B9 + 1) 79 (.int .u64 (na : Nat)) (.int .u64 (nb : Nat)) ∧ Box2 wr (B9 + 1 + 1) 79 (.int .u64 (xa : Nat)) (.int .u64 (xb : Nat)) ∧ Box2 wr w.heap.size 79 (.int .u64 0) (.int .u64 0) ∧ Box2 wr (w.heap.size + 1) 79 (.int .u64 0) (.int .u64 0) ∧ Below w.heap.size w wr)
    (fun _ lv _ => (intOf lv).toNat)
  case atStart => exact ⟨H, L, 0, 0, 1, 0, 0, 1, rfl, rfl, ⟨1, LehAt.start hLH⟩, Or.inl rfl, ⟨hH, by unfold B64; omega, by unfold B64; omega, by unfold B64; omega, by unfold B64; omega, by unfold B64; omega, by unfold B64; omega⟩, m9, m10, m11, m4, m5, hB3⟩
  case round =>
    clear m9 m10 m11 m4 m5 hB3
    obtain ⟨h, l, pa, pb, na, nb, xa, xb, rfl, rfl, HLE, HO, ⟨z1, z2, z3, z4, z5, z6, z7⟩, m9, m10, m11, m4, m5, hB⟩ := hrel
    obtain ⟨sg, hle⟩ := HLE.out
    have hlh : l ≤ h := hle.2.2.2.2.2.2.2
    have hxb1 : 1 ≤ xb := hle.2.2.2.2.2.2.1
    have k9a := m9.c0
    have k9b := m9.c1
    have k10a := m10.c0
    have k10b := m10.c1
    have k11a := m11.c0
    have k11b := m11.c1
    by_cases c1 : xb ≤ l
    · obtain ⟨y1, y2⟩ := hle.small (by omega)
      obtain ⟨e, he⟩ : ∃ e : Nat, (h : Int) - (l : Int) = (e : Int) := ⟨h - l, by omega⟩
      obtain ⟨f, hf⟩ : ∃ f : Nat, (nb : Int) + (xb : Int) = (f : Int) := ⟨nb + xb, by omega⟩
      have we : IntKind.u64.wrap (e : Int) = (e : Int) := IntWalk.u64_in _ (by unfold B64 at z1; omega)
      have wf : IntKind.u64.wrap (f : Int) = (f : Int) := IntWalk.u64_in _ (by unfold B64 at hH; omega)
      by_cases c2 : f ≤ e
      · have HOUT := hidD (HLO.out _ _ _ _ _ _ _ hle c1 (by omega))
        have hst := hle.step (show 1 ≤ l by omega)
        have HST := hidD hst
        obtain ⟨q, hq⟩ : ∃ q, h / l = q := ⟨_, rfl⟩
        obtain ⟨r, hr⟩ : ∃ r, h % l = r := ⟨_, rfl⟩
        rw [hq, hr] at hst HST
        have hrl : r < l := by rw [← hr]; exact Nat.mod_lt _ (by omega)
        have hqi : (h : Int) / (l : Int) = (q : Int) := by rw [← hq]; exact (Int.natCast_ediv h l).symm
        have hri : (h : Int) % (l : Int) = (r : Int) := by rw [← hr]; exact (Int.natCast_emod h l).symm
        have hNA : na + q * xa ≤ L := by
          have h1 := hst.2.2.1
          have h2 := Nat.le_mul_of_pos_right (na + q * xa) (show 0 < l by omega)
          omega
        have hNB : nb + q * xb ≤ H := by
          have h1 := hst.2.1
          have h2 := Nat.le_mul_of_pos_right (nb + q * xb) (show 0 < l by omega)
          omega
        obtain ⟨P, hP⟩ : ∃ P, q * xa = P := ⟨_, rfl⟩
        obtain ⟨P2, hP2⟩ : ∃ P2, q * xb = P2 := ⟨_, rfl⟩
        rw [hP] at hNA HST
        rw [hP2] at hNB HST
        obtain ⟨NA, hNA2⟩ : ∃ NA, na + P = NA := ⟨_, rfl⟩
        obtain ⟨NB, hNB2⟩ : ∃ NB, nb + P2 = NB := ⟨_, rfl⟩
        rw [hNA2] at hNA HST
        rw [hNB2] at hNB HST
        have p1 : (q : Int) * (xa : Int) = (P : Int) := by rw [← hP]; exact (Int.natCast_mul q xa).symm
        have p2 : (q : Int) * (xb : Int) = (P2 : Int) := by rw [← hP2]; exact (Int.natCast_mul q xb).symm
        have p3 : (na : Int) + (P : Int) = (NA : Int) := by omega
        have p4 : (nb : Int) + (P2 : Int) = (NB : Int) := by omega
        have v1 : IntKind.u64.wrap (P : Int) = (P : Int) := IntWalk.u64_in _ (by unfold B64 at hH; omega)
        have v2 : IntKind.u64.wrap (P2 : Int) = (P2 : Int) := IntWalk.u64_in _ (by unfold B64 at hH; omega)
        have v3 : IntKind.u64.wrap (NA : Int) = (NA : Int) := IntWalk.u64_in _ (by unfold B64 at hH; omega)
        have v4 : IntKind.u64.wrap (NB : Int) = (NB : Int) := IntWalk.u64_in _ (by unfold B64 at hH; omega)
        have hqh : q ≤ h := by rw [← hq]; exact Nat.div_le_self _ _
        have v5 : IntKind.u64.wrap (q : Int) = (q : Int) := IntWalk.u64_in _ (by unfold B64 at z1; omega)
        have hl0 : ¬ (l = 0) := by omega
        have f9a := m9.f0
        have f9b := m9.f1
        have f10a := m10.f0
        have f10b := m10.f1
        have f11a := m11.f0
        have f11b := m11.f1
        clear hst hle hP hP2 hNA2 hNB2 hq hr y1 y2 HLE HO
        go_upto_region 6 with fail
        go_quiet (fail)
        go_wp2_with fail
        go_region
        go_wp2_with fail
        have g9 : Box2 (wr.drewN (nq + 1)) B9 79 (.int .u64 (pa : Nat)) (.int .u64 (pb : Nat)) := m9
        have g10 : Box2 (wr.drewN (nq + 1)) (B9 + 1) 79 (.int .u64 (na : Nat)) (.int .u64 (nb : Nat)) := m10
        have g11 : Box2 (wr.drewN (nq + 1)) (B9 + 1 + 1) 79 (.int .u64 (xa : Nat)) (.int .u64 (xb : Nat)) := m11
        have g4 : Box2 (wr.drewN (nq + 1)) w.heap.size 79 (.int .u64 0) (.int .u64 0) := m4
        have g5 : Box2 (wr.drewN (nq + 1)) (w.heap.size + 1) 79 (.int .u64 0) (.int .u64 0) := m5
        have gB : Below w.heap.size w (wr.drewN (nq + 1)) := below_dn hB _
        rw [hri]
        refine ⟨⟨l, r, na, nb, xa, xb, NA, NB, rfl, rfl, ⟨_, HST.out⟩, Or.inr HOUT.out, ⟨by omega, z4, z5, z6, z7, by omega, by omega⟩, ?_, ?_, ?_, ?_, ?_, ?_⟩, by simp [intOf]; omega⟩
        · exact (((((g9.set0 _).set1 _).far (by simp) _).far (by simp) _).far (by simp only; omega) _).far (by simp only; omega) _
        · exact (((((g10.far (by simp) _).far (by simp) _).set0 _).set1 _).far (by simp) _).far (by simp) _
        · exact (((((g11.far (by simp only; omega) _).far (by simp only; omega) _).far (by simp) _).far (by simp) _).set0 _).set1 _
        · exact (((((g4.far (by simp only; omega) _).far (by simp only; omega) _).far (by simp only; omega) _).far (by simp only; omega) _).far (by simp only; omega) _).far (by simp only; omega) _
        · exact (((((g5.far (by simp only; omega) _).far (by simp only; omega) _).far (by simp only; omega) _).far (by simp only; omega) _).far (by simp only; omega) _).far (by simp only; omega) _
        · exact (((((gB.setCell (p := ⟨_, 0, none⟩) (by simp only; omega) _).setCell (p := ⟨_, 1, none⟩) (by simp only; omega) _).setCell (p := ⟨_, 0, none⟩) (by simp only; omega) _).setCell (p := ⟨_, 1, none⟩) (by simp only; omega) _).setCell (p := ⟨_, 0, none⟩) (by simp only; omega) _).setCell (p := ⟨_, 1, none⟩) (by simp only; omega) _
      · clear hle
        have r4a := m4.c0
        have r4b := m4.c1
        have r5a := m5.c0
        have r5b := m5.c1
        have f4a := m4.f0
        have f4b := m4.f1
        have f5a := m5.f0
        have f5b := m5.f1
        have n1 : ¬ (w.heap.size + 1 = w.heap.size) := by omega
        have n2 : ¬ (B9 = w.heap.size) := by omega
        have n3 : ¬ (B9 + 1 = w.heap.size) := by omega
        have n4 : ¬ (B9 = w.heap.size + 1) := by omega
        have n5 : ¬ (B9 + 1 = w.heap.size + 1) := by omega
        go_wp2_with fail
        go_region
        go_wp2_with fail
        obtain ⟨q4, q5⟩ := stp_fin (.int .u64 (pa : Nat)) (.int .u64 (pb : Nat)) (.int .u64 (na : Nat)) (.int .u64 (nb : Nat)) m4 m5
        have q4a := q4.c0
        have q4b := q4.c1
        have q5a := q5.c0
        have q5b := q5.c1
        exact bodyPost_ret (v := .tuple #[.agg #[.int .u64 (pa : Nat), .int .u64 (pb : Nat)], .agg #[.int .u64 (na : Nat), .int .u64 (nb : Nat)]]) (by simp [results, Tryz.results55, go_sem, q4a, q4b, q5a, q5b]) rfl ⟨pa, pb, na, nb, rfl, ⟨z2, z3, z4, z5⟩, HO.out, ((((hB.setCell (p := ⟨_, 0, none⟩) (by simp only; omega) _).setCell (p := ⟨_, 1, none⟩) (by simp only; omega) _).setCell (p := ⟨_, 0, none⟩) (by simp only; omega) _).setCell (p := ⟨_, 1, none⟩) (by simp only; omega) _).drew⟩
    · clear hle
      have r4a := m4.c0
      have r4b := m4.c1
      have r5a := m5.c0
      have r5b := m5.c1
      have f4a := m4.f0
      have f4b := m4.f1
      have f5a := m5.f0
      have f5b := m5.f1
      have n1 : ¬ (w.heap.size + 1 = w.heap.size) := by omega
      have n2 : ¬ (B9 = w.heap.size) := by omega
      have n3 : ¬ (B9 + 1 = w.heap.size) := by omega
      have n4 : ¬ (B9 = w.heap.size + 1) := by omega
      have n5 : ¬ (B9 + 1 = w.heap.size + 1) := by omega
      go_wp2_with fail
      go_region
      go_wp2_with fail
      obtain ⟨q4, q5⟩ := stp_fin (.int .u64 (pa : Nat)) (.int .u64 (pb : Nat)) (.int .u64 (na : Nat)) (.int .u64 (nb : Nat)) m4 m5
      have q4a := q4.c0
      have q4b := q4.c1
      have q5a := q5.c0
      have q5b := q5.c1
      exact bodyPost_ret (v := .tuple #[.agg #[.int .u64 (pa : Nat), .int .u64 (pb : Nat)], .agg #[.int .u64 (na : Nat), .int .u64 (nb : Nat)]]) (by simp [results, Tryz.results55, go_sem, q4a, q4b, q5a, q5b]) rfl ⟨pa, pb, na, nb, rfl, ⟨z2, z3, z4, z5⟩, HO.out, ((((hB.setCell (p := ⟨_, 0, none⟩) (by simp only; omega) _).setCell (p := ⟨_, 1, none⟩) (by simp only; omega) _).setCell (p := ⟨_, 0, none⟩) (by simp only; omega) _).setCell (p := ⟨_, 1, none⟩) (by simp only; omega) _).drew⟩
end Go.Proofs.YtjmmnpfedhkjbaaGreatDoor
namespace Go.Proofs.YtjmmnpfedhkjbaaGreatDoor
open Go.RowKit Go.Shelf

/-- The steps of two rows. -/
theorem stepsOf_w (a : Option Addr) (la ca : Nat) (b : Option Addr) (lb cb x y : Nat) (w : World) (ra : Row .u64 w (.slice a la ca) (limbs B64 x)) (rb : Row .u64 w (.slice b lb cb) (limbs B64 y)) (hyx : y ≤ x) (hlb : 2 ≤ lb) :
    Calls Tryz.prog 55 #[.slice a la ca, .slice b lb cb] w fun e w' => ∃ pa pb na nb : Nat, e = .returned (.tuple #[.agg #[.int .u64 (pa : Nat), .int .u64 (pb : Nat)], .agg #[.int .u64 (na : Nat), .int .u64 (nb : Nat)]]) ∧ (pa < B64 ∧ pb < B64 ∧ na < B64 ∧ nb < B64) ∧ (pb = 0 ∨ LehOut x y pa pb na nb) ∧ Below w.heap.size w w' := by
  obtain ⟨hl1, hc1, hm1, hk1, hf1⟩ := row_fn ra
  obtain ⟨hl2, hc2, hm2, hk2, hf2⟩ := row_fn rb
  have hlab : lb ≤ la := by rw [hl1, hl2]; exact wlimbs_mono hyx
  obtain ⟨k, hk⟩ : ∃ k, la = k + 2 := ⟨la - 2, by omega⟩
  obtain ⟨ab, ao, rfl, hab, ka⟩ := hf1 (k + 1) (by omega)
  have xa := dig_limbs two_le_B64 x
  have hl1' : (limbs B64 x).length = k + 2 := by omega
  have hd : (limbs B64 x)[k + 1]?.getD 0 ≠ 0 := by
    intro e
    have h3 := val_take_succ B64 (limbs B64 x) (k + 1)
    rw [List.take_of_length_le (by omega), e, Nat.mul_zero, Nat.add_zero, val_limbs two_le_B64] at h3
    have h4 := val_take_lt xa (k + 1)
    have h5 := pow_le_val_top two_le_B64 hl1' (by omega)
    rw [show k + 2 - 1 = k + 1 from rfl] at h5
    omega
  have hdB : (limbs B64 x)[k + 1]?.getD 0 < B64 := xa.getD (by unfold B64; omega) _
  obtain ⟨d, hde⟩ : ∃ d, (limbs B64 x)[k + 1]?.getD 0 = d := ⟨_, rfl⟩
  rw [hde] at ka hd hdB
  obtain ⟨e1, e2, e3⟩ := bitLen_spec d hd (by rw [← B64_pow]; exact hdB)
  have hL : Lib.bitLen d ≤ 64 := by
    rcases Nat.lt_or_ge 64 (Lib.bitLen d) with h | h
    · exfalso
      have h5 : 2 ^ 64 ≤ 2 ^ (Lib.bitLen d - 1) := Nat.pow_le_pow_right (by omega) (by omega)
      rw [B64_pow] at hdB
      omega
    · exact h
  obtain ⟨s, hs⟩ : ∃ s, s = 64 - Lib.bitLen d := ⟨_, rfl⟩
  obtain ⟨v1, v2⟩ := norm_val (s := s) xa hl1' hde e2 e3 e1 hL hs
  rw [val_limbs two_le_B64] at v1 v2
  have hd64 : d < 2 ^ (64 - s) := by rw [hs, show 64 - (64 - Lib.bitLen d) = Lib.bitLen d from by omega]; exact e3
  have hS : 0 < B64 ^ k * 2 ^ (64 - s) := Nat.mul_pos (Nat.pow_pos (by unfold B64; omega)) (Nat.two_pow_pos _)
  have hH : topOf x k s < B64 := by
    unfold topOf
    rw [Nat.div_lt_iff_lt_mul hS]
    have hp := pow_split (s := s) (by omega)
    have e4 : B64 * (B64 ^ k * 2 ^ (64 - s)) * 2 ^ s = B64 ^ (k + 2) := by
      rw [Nat.mul_assoc, Nat.mul_assoc, Nat.mul_comm (2 ^ (64 - s)), hp, Nat.pow_succ, Nat.pow_succ, Nat.mul_comm B64, Nat.mul_assoc]
    rw [← e4] at v1
    exact Nat.lt_of_mul_lt_mul_right v1
  have HT := fun (V : World) (h : Below w.heap.size w V) => top_c (some ⟨ab, ao, none⟩) la ca (limbs B64 x) k (k + 1) la s V (Row.below ra h) xa hk (by omega) (by omega) (by omega) (Nat.le_refl _) hk1 (fun _ => by rw [hde]; exact hd64)
  have HU := fun (V : World) (h : Below w.heap.size w V) => top_c b lb cb (limbs B64 y) k (k + 1) la s V (Row.below rb h) (dig_limbs two_le_B64 y) hk (by omega) (by omega) (by omega) hlab hk1 (fun e => by
    have hlt := val_take_lt (dig_limbs two_le_B64 y) (k + 1)
    have h6 := val_take_succ B64 (limbs B64 y) (k + 1)
    rw [List.take_of_length_le (by omega), val_limbs two_le_B64] at h6
    have h7 := val_take_succ B64 (limbs B64 x) (k + 1)
    rw [List.take_of_length_le (by omega), val_limbs two_le_B64, hde] at h7
    have h8 := val_take_lt xa (k + 1)
    have h9 : (limbs B64 y)[k + 1]?.getD 0 ≤ d := by
      rcases Nat.lt_or_ge d ((limbs B64 y)[k + 1]?.getD 0) with h | h
      · exfalso
        have := Nat.mul_le_mul_left (B64 ^ (k + 1)) (show d + 1 ≤ (limbs B64 y)[k + 1]?.getD 0 from h)
        rw [Nat.mul_add, Nat.mul_one] at this
        omega
      · exact h
    omega)
  rw [val_limbs two_le_B64] at HT HU
  refine stepsOf_v ab ao la (k + 1) ca b lb cb x y d s (topOf x k s) (topOf y k s) w (by omega) hab ka hdB (by omega) (show _ = _ by omega) hk1 (by omega) HT HU hH (Nat.div_le_div_right hyx) ?_
  intro sg h l na nb xa xb hle h1 h2
  refine hle.out (S := B64 ^ k * 2 ^ (64 - s)) (al := x % (B64 ^ k * 2 ^ (64 - s))) (be := y % (B64 ^ k * 2 ^ (64 - s))) ?_ ?_ (Nat.mod_lt _ hS) (Nat.mod_lt _ hS) h1 h2
  · unfold topOf; rw [Nat.mul_comm]; exact (Nat.div_add_mod x _).symm
  · unfold topOf; rw [Nat.mul_comm]; exact (Nat.div_add_mod y _).symm
end Go.Proofs.YtjmmnpfedhkjbaaGreatDoor
namespace Go.Proofs.YtjmmnpfedhkjbaaGreatDoor
open Go.RowKit Go.Shelf

attribute [local go_sem] Oper.semAt_some

def cellN (W : World) (p : Addr) : Nat := match W.cell? p with | some (.int _ z) => z.toNat | _ => 0

/-- The number that a row of words holds. -/
def rowVal (W : World) : Value → Nat
  | .slice (some p) l _ => val B64 ((List.range l).map fun j => cellN W ⟨p.block, p.off + j, none⟩)
  | _ => 0

theorem UN.rowVal {W : World} {a : Option Addr} {l c n : Nat} (h : UN W (.slice a l c) n) : rowVal W (.slice a l c) = n := by
  obtain ⟨h1, _, _, _, h5⟩ := row_fn h
  rcases Nat.eq_zero_or_pos l with h0 | h0
  · subst h0
    have hn : n = 0 := (limbs_eq_nil two_le_B64).1 (List.eq_nil_of_length_eq_zero h1.symm)
    subst hn
    cases a <;> rfl
  · obtain ⟨b, off, rfl, _, _⟩ := h5 0 h0
    show val B64 ((List.range l).map fun j => cellN W ⟨b, off + j, none⟩) = n
    have e : (List.range l).map (fun j => cellN W ⟨b, off + j, none⟩) = limbs B64 n := by
      refine List.ext_getElem (by rw [List.length_map, List.length_range]; exact h1) (fun j g1 g2 => ?_)
      obtain ⟨b', off', e, _, hc⟩ := h5 j (by omega)
      cases e
      rw [List.getElem_map, List.getElem_range, cellN, hc, List.getElem?_eq_getElem g2]
      rfl
    rw [e, val_limbs two_le_B64]

set_option maxRecDepth 100000 in
set_option maxHeartbeats 4000000 in
theorem mgcd_w (a : Option Addr) (la ca : Nat) (b : Option Addr) (lb cb x y : Nat) (w : World) (ra : Row .u64 w (.slice a la ca) (limbs B64 x)) (rb : Row .u64 w (.slice b lb cb) (limbs B64 y)) (hla : la < 1000000000000) (hlb : lb < 1000000000000) :
    Calls Tryz.prog 29 #[.slice a la ca, .slice b lb cb] w fun e w' => ∃ u, e = .returned u ∧ UN w' u (Nat.gcd x y) ∧ Below w.heap.size w w' := by
  have hmx : Tryz.prog.follows .mixedOrders = true := by kernel_rfl
  have HO := hidD (morder_c _ _ (limbs B64 x) (limbs B64 y) w ra rb (dig_limbs two_le_B64 x) (dig_limbs two_le_B64 y) (top_limbs two_le_B64 x) (top_limbs two_le_B64 y))
  rw [val_limbs two_le_B64, val_limbs two_le_B64] at HO
  obtain ⟨cm, hcm⟩ : ∃ cm : Int, cmpN x y = cm := ⟨_, rfl⟩
  rw [hcm] at HO
  have HCM := hidD hcm
  have HRA := hidD ra
  have HRB := hidD rb
  clear hcm ra rb
  go_enter Tryz.func29, Tryz.ntmps29
  go_upto_if 14 with (go_at_call 37; refine HO.out.mono ?_; rintro e w1 ⟨rfl, hb1⟩)
  go_cut [0, 1] (fun rv bv wr => ∃ (a0 : Option Addr) (l0 c0 X : Nat) (a1 : Option Addr) (l1 c1 Y : Nat), rv = .slice a0 l0 c0 ∧ bv = .slice a1 l1 c1 ∧ Hid (UN wr (.slice a0 l0 c0) X) ∧ Hid (UN wr (.slice a1 l1 c1) Y) ∧ Hid (Y ≤ X ∧ Nat.gcd X Y = Nat.gcd x y) ∧ l0 < 1000000000000 ∧ Below w.heap.size w wr)
  case first =>
    by_cases hlt : cm < 0
    · have hxy : x < y := by
        have h := HCM.out
        unfold cmpN at h
        split at h
        · assumption
        · split at h <;> omega
      go_wp2_with fail
      go_meet
      case rel => exact ⟨_, _, _, y, _, _, _, x, rfl, rfl, hidD (UN.below HRB.out hb1), hidD (UN.below HRA.out hb1), hidD ⟨by omega, Nat.gcd_comm _ _⟩, hlb, hb1⟩
    · have hxy : ¬ (x < y) := fun h => by
        have h1 := HCM.out
        rw [cmpN_lt h] at h1
        omega
      go_wp2_with fail
      go_meet
      case rel => exact ⟨_, _, _, x, _, _, _, y, rfl, rfl, hidD (UN.below HRA.out hb1), hidD (UN.below HRB.out hb1), hidD ⟨by omega, rfl⟩, hla, hb1⟩
  case rest =>
    obtain ⟨a0, l0, c0, X, a1, l1, c1, Y, rfl, rfl, h1, h2, h3, h4, h5⟩ := hcut
    clear HO HCM HRA HRB hb1
    go_wp2_with fail
    go_loopw [0, 1] (fun rv bv wr => ∃ (a0 : Option Addr) (l0 c0 X : Nat) (a1 : Option Addr) (l1 c1 Y : Nat), rv = .slice a0 l0 c0 ∧ bv = .slice a1 l1 c1 ∧ Hid (UN wr (.slice a0 l0 c0) X) ∧ Hid (UN wr (.slice a1 l1 c1) Y) ∧ Hid (Y ≤ X ∧ Nat.gcd X Y = Nat.gcd x y) ∧ l0 < 1000000000000 ∧ Below w.heap.size w wr)
      (fun rv bv wr => rowVal wr rv + rowVal wr bv)
    case atStart => exact ⟨a0, l0, c0, X, a1, l1, c1, Y, rfl, rfl, h1, h2, h3, h4, h5⟩
    case round =>
      clear h1 h2 h3 h4 h5
      obtain ⟨a0, l0, c0, X, a1, l1, c1, Y, rfl, rfl, hX, hY, hG, hl0, hB⟩ := hrel
      have hll : l1 ≤ l0 := by rw [UN.len hX.out, UN.len hY.out]; exact wlimbs_mono hG.out.1
      by_cases hlen : 1 < l1
      · have hlt : (1 : Int) < (l1 : Int) := by omega
        have hY0 : Y ≠ 0 := fun e => by
          have h := UN.len hY.out
          rw [e, limbs_zero] at h
          simp at h
          omega
        have HST := hidD (stepsOf_w a0 l0 c0 a1 l1 c1 X Y _ hX.out hY.out hG.out.1 (by omega))
        go_upto_region 5 with (go_at_call 55; refine HST.out.mono ?_; rintro e w2 ⟨pa, pb, na, nb, rfl, ⟨b1, b2, b3, b4⟩, hout, hb2⟩)
        obtain ⟨W3, hW3⟩ : ∃ W3, (w2.alloc (.cells #[.int .u64 (pa : Nat), .int .u64 (pb : Nat)] 79)).alloc (.cells #[.int .u64 (na : Nat), .int .u64 (nb : Nat)] 79) = W3 := ⟨_, rfl⟩
        have hB2 : Below w.heap.size w w2 := hB.trans (hb2.mono hB.size)
        have hb3 : Below wr.heap.size wr W3 := by rw [← hW3]; exact (hb2.alloc hb2.size _).alloc (by have := hb2.size; simp; omega) _
        have hB3 : Below w.heap.size w W3 := hB.trans (hb3.mono hB.size)
        have m5 : Box2 W3 w2.heap.size 79 (.int .u64 (pa : Nat)) (.int .u64 (pb : Nat)) := by rw [← hW3]; exact (Box2.new w2 _ _ _).alloc _
        have m6 : Box2 W3 (w2.heap.size + 1) 79 (.int .u64 (na : Nat)) (.int .u64 (nb : Nat)) := by
          have h := Box2.new (w2.alloc (.cells #[.int .u64 (pa : Nat), .int .u64 (pb : Nat)] 79)) 79 (.int .u64 (na : Nat)) (.int .u64 (nb : Nat))
          rw [World.size_alloc, hW3] at h; exact h
        have hX3 := UN.below hX.out hb3
        have hY3 := UN.below hY.out hb3
        rw [hW3]
        clear hW3 HST hb2 hB2
        have k0 := m5.c0
        have k1 := m5.c1
        have k2 := m6.c0
        have k3 := m6.c1
        by_cases hpb : pb = 0
        · subst hpb
          have HSP := hidD (msplit_w a0 l0 c0 a1 l1 c1 X Y W3 hX3 hY3 hY0 (by omega))
          clear hout
          go_wp2_with (go_at_call 25; refine HSP.out.mono ?_; rintro e w4 ⟨u, v, rfl, hu, hv, hb4⟩; obtain ⟨ua, uc, rfl⟩ := UN.form hu; obtain ⟨va, vc, rfl⟩ := UN.form hv)
          have hmod := Nat.mod_lt X (show Y > 0 by omega)
          have hY4 := UN.below hY3 hb4
          refine ⟨⟨a1, l1, c1, Y, va, _, vc, X % Y, rfl, rfl, hidD hY4, hidD hv, hidD ⟨by omega, by rw [← hG.out.2, Nat.gcd_comm Y, ← Nat.gcd_rec, Nat.gcd_comm]⟩, by omega, hB3.trans (hb4.mono hB3.size)⟩, ?_⟩
          rw [UN.rowVal hY4, UN.rowVal hv, UN.rowVal hX.out, UN.rowVal hY.out]
          have := hG.out.1
          omega
        · have hL := hout.resolve_left hpb
          have hnb : nb * Y ≠ 0 := by
            have := hL.2.2.2
            exact Nat.mul_ne_zero (by omega) hY0
          have HM1 := hidD (fun (V : World) (h : Below W3.heap.size W3 V) => mixof_w pa pb a0 l0 c0 a1 l1 c1 X Y V (UN.below hX3 h) (UN.below hY3 h) b1 b2 (by omega) (by omega) (Nat.mul_ne_zero hpb hY0))
          have HM2 := hidD (fun (V : World) (h : Below W3.heap.size W3 V) => mixof_w na nb a0 l0 c0 a1 l1 c1 X Y V (UN.below hX3 h) (UN.below hY3 h) b3 b4 (by omega) (by omega) hnb)
          have HLess := hidD (hL.less hpb (by omega))
          have HGcd := hidD hL.gcd
          have HOrd := hidD hL.2.2.1
          have HXle := hidD (show dist (pa * X) (pb * Y) ≤ X by
            have e1 := hL.1
            have e2 := Nat.le_mul_of_pos_left (dist (pa * X) (pb * Y)) hL.2.2.2
            omega)
          clear hL hout hnb
          generalize dist (pa * X) (pb * Y) = D1 at *
          generalize dist (na * X) (nb * Y) = D2 at *
          have hq : Below W3.heap.size W3 W3.drew := (Below.refl _ W3).drew
          go_upto_region 6 with fail
          go_region_held3 (fun w' => w'.cell? ⟨w2.heap.size, 0, none⟩ = some (.int .u64 (pa : Nat)) ∧ w'.cell? ⟨w2.heap.size, 1, none⟩ = some (.int .u64 (pb : Nat)) ∧ w'.cell? ⟨w2.heap.size + 1, 0, none⟩ = some (.int .u64 (na : Nat)) ∧ w'.cell? ⟨w2.heap.size + 1, 1, none⟩ = some (.int .u64 (nb : Nat))) (exact ⟨k0, k1, k2, k3⟩)
            (first
              | (go_at_call 56; refine (HM1.out _ hq).mono ?_; clear HM1; rintro e w4 ⟨u4, rfl, hu4, hb4⟩; obtain ⟨xa, xc, rfl⟩ := UN.form hu4; have hq := hq.trans (hb4.mono hq.size); have k0 := (m5.below hq).c0; have k1 := (m5.below hq).c1; have k2 := (m6.below hq).c0; have k3 := (m6.below hq).c1)
              | (go_at_call 56; refine (HM2.out _ hq).mono ?_; clear HM2; rintro e w5 ⟨u5, rfl, hu5, hb5⟩; obtain ⟨ya, yc, rfl⟩ := UN.form hu5; have hq := hq.trans (hb5.mono hq.size); have k0 := (m5.below hq).c0; have k1 := (m5.below hq).c1; have k2 := (m6.below hq).c0; have k3 := (m6.below hq).c1))
          all_goals go_wp2_with fail
          have hu4' := UN.below hu4 hb5
          refine ⟨⟨xa, _, xc, D1, ya, _, yc, D2, rfl, rfl, hidD hu4', hidD hu5, hidD ⟨Nat.le_of_lt HOrd.out, HGcd.out.trans hG.out.2⟩, ?_, hB3.trans (hq.mono hB3.size)⟩, ?_⟩
          · have h1 := wlimbs_mono HXle.out
            rw [← UN.len hX.out] at h1
            omega
          · rw [UN.rowVal hu4', UN.rowVal hu5, UN.rowVal hX.out, UN.rowVal hY.out]
            exact HLess.out
      · rcases Nat.eq_zero_or_pos l1 with h0 | h0
        · subst h0
          have hYz : Y = 0 := (limbs_eq_nil two_le_B64).1 (List.eq_nil_of_length_eq_zero (UN.len hY.out).symm)
          have HC := hidD (clone_un a0 l0 c0 _ wr hX.out)
          have HE := hidD (show X = Nat.gcd x y by rw [← hG.out.2, hYz, Nat.gcd_zero_right])
          clear hYz
          go_wp2_with (go_at_call 45; refine HC.out.mono ?_; rintro e w2 ⟨za, zc, rfl, hz, hb2⟩)
          go_ret
          exact ⟨_, rfl, by rw [← HE.out]; exact hz, hB.trans (hb2.mono hB.size)⟩
        · obtain rfl : l1 = 1 := by omega
          obtain ⟨hn1, hn2, hn3⟩ := limbs_single (UN.len hY.out).symm
          obtain ⟨bb, bo, rfl, hbb, kb⟩ := (row_fn hY.out).2.2.2.2 0 (by omega)
          rw [hn1] at kb
          have kb0 : wr.cell? ⟨bb, bo, none⟩ = some (.int .u64 (Y : Nat)) := kb
          have HSP := hidD (msplit_w a0 l0 c0 (some ⟨bb, bo, none⟩) 1 c1 X Y wr hX.out hY.out (by omega) (by omega))
          have hmod := Nat.mod_lt X (show Y > 0 by omega)
          have HE := hidD (show Nat.gcd Y (X % Y) = Nat.gcd x y by rw [← hG.out.2, Nat.gcd_comm Y, ← Nat.gcd_rec, Nat.gcd_comm])
          have HWG := hidD (show ∀ (V : World) (v : Option Addr) (l c : Nat), UN V (.slice v l c) (X % Y) → Calls Tryz.prog 57 #[.slice (some ⟨V.heap.size, 0, none⟩) 1 1, .slice v l c] (V.alloc (.cells #[.int .u64 (Y : Nat)] 53)) fun e w' => ∃ u, e = .returned u ∧ UN w' u (Nat.gcd x y) ∧ Below (V.alloc (.cells #[.int .u64 (Y : Nat)] 53)).heap.size (V.alloc (.cells #[.int .u64 (Y : Nat)] 53)) w' from fun V v l c h => by
            have h1 := (Arr.made (xs := [Y]) (World.alloc_heap_new V (.cells #[.int .u64 (Y : Nat)] 53))).row 0 1 1 (by simp) (by omega) (by omega) (by omega)
            have h2 : Row .u64 (V.alloc (.cells #[.int .u64 (Y : Nat)] 53)) (.slice (some ⟨V.heap.size, 0, none⟩) 1 1) (limbs B64 Y) := by rw [hn1]; exact h1
            have h3 := wordGCD_w (some ⟨V.heap.size, 0, none⟩) 1 v l c Y (X % Y) _ h2 (UN.below h ((Below.refl _ V).alloc (Nat.le_refl _) _)) (by omega)
            rw [HE.out] at h3
            exact h3)
          clear kb hn1
          go_upto_region 12 with (go_at_call 25; refine HSP.out.mono ?_; rintro e w2 ⟨u, v, rfl, hu, hv, hb2⟩; obtain ⟨ua, uc, rfl⟩ := UN.form hu; obtain ⟨va, vc, rfl⟩ := UN.form hv)
          have kb2 := (hb2.cell (p := ⟨bb, bo, none⟩) hbb).trans kb0
          go_wp2_with (go_at_call 57; refine (HWG.out _ _ _ _ hv).mono ?_; rintro e w3 ⟨u3, rfl, hu3, hb3⟩; obtain ⟨ta, tc, rfl⟩ := UN.form hu3)
          go_ret
          have hB2 : Below w.heap.size w w2 := hB.trans (hb2.mono hB.size)
          exact ⟨_, rfl, hu3, below_at hB2 hb3⟩
end Go.Proofs.YtjmmnpfedhkjbaaGreatDoor
