import Derived.Test.YtjmmnpfedhkjbaaGreatDoorK16
import Derived.Test.YtjmmnpfedhkjbaaGreatDoorK09
import Derived.BigQuiet
import Derived.Deep.RegionHeld3
import Derived.Test.YtjmmnpfedhkjbaaGreatDoorK05
import Derived.Test.YtjmmnpfedhkjbaaGreatDoorK17
import Derived.Test.YtjmmnpfedhkjbaaGreatDoorK06
import Derived.Test.YtjmmnpfedhkjbaaGreatDoorK01
import Derived.Test.YtjmmnpfedhkjbaaGreatDoorK12
namespace Go.Proofs.YtjmmnpfedhkjbaaGreatDoor
open Go.RowKit Go.Shelf

/-- The words of a row by their places. -/
theorem val_top2 {ds : List Nat} {n : Nat} (h : ds.length = n + 2) : val B64 ds = (ds[n + 1]?.getD 0 * B64 + ds[n]?.getD 0) * B64 ^ n + val B64 (ds.take n) := by
  have h1 := val_take_succ B64 ds (n + 1)
  rw [List.take_of_length_le (by omega), val_take_succ, Nat.pow_succ] at h1
  rw [h1]
  grind

theorem val_top3 {ds : List Nat} {n : Nat} (h : ds.length = n + 3) : val B64 ds = ((ds[n + 2]?.getD 0 * B64 + ds[n + 1]?.getD 0) * B64 + ds[n]?.getD 0) * B64 ^ n + val B64 (ds.take n) := by
  have h1 := val_take_succ B64 ds (n + 2)
  rw [List.take_of_length_le (by omega), val_take_succ, val_take_succ, Nat.pow_succ, Nat.pow_succ] at h1
  rw [h1]
  grind

theorem val_take_lt {ds : List Nat} (h : Dig B64 ds) (n : Nat) : val B64 (ds.take n) < B64 ^ n := by
  have := val_lt (h.take n)
  refine Nat.lt_of_lt_of_le this (Nat.pow_le_pow_right (by unfold B64; omega) ?_)
  rw [List.length_take]; omega

theorem below_dn {B : Nat} {a w : World} (h : Below B a w) (n : Nat) : Below B a (w.drewN n) := h.trans ⟨rfl, rfl, rfl, Nat.le_refl _, fun _ _ => rfl⟩

theorem mul_le_of {q d0 r u0 : Nat} (hu : u0 < B64) (h : mulHi q d0 < r ∨ mulHi q d0 = r ∧ mulLo q d0 ≤ u0) : q * d0 ≤ r * B64 + u0 := by
  unfold mulHi mulLo at h
  generalize q * d0 = p at *
  unfold B64 at *
  omega

theorem mul_gt_of {q d0 r u0 : Nat} (hu : u0 < B64) (h : ¬ (mulHi q d0 < r)) (h2 : ¬ (mulHi q d0 = r ∧ mulLo q d0 ≤ u0)) : r * B64 + u0 < q * d0 := by
  unfold mulHi at h h2
  unfold mulLo at h2
  generalize q * d0 = p at *
  unfold B64 at *
  omega

theorem guess_top {R V u2 u1 u0 d1 d0 E R0 V0 : Nat} (hR : R = ((u2 * B64 + u1) * B64 + u0) * E + R0) (hV : V = (d1 * B64 + d0) * E + V0) (hV0 : V0 < E) (hd : B64 ≤ 2 * d1) (hd0 : d0 < B64) (hRV : R < V * B64) (h : d1 ≤ u2) : Near R V (B64 - 1) := by
  have hlo : d0 * E + V0 < B64 * E := by
    have := Nat.mul_le_mul_right E (show d0 + 1 ≤ B64 from hd0)
    rw [Nat.add_mul, Nat.one_mul] at this
    omega
  refine near_top (d1 := d1) (E := B64 * E) (lo := (u2 - d1) * (B64 * (B64 * E)) + (u1 * B64 + u0) * E + R0) (lo2 := d0 * E + V0) ?_ ?_ hlo hd hRV two_le_B64
  · obtain ⟨t, rfl⟩ : ∃ t, u2 = d1 + t := ⟨u2 - d1, by omega⟩
    rw [hR, Nat.add_sub_cancel_left]
    grind
  · rw [hV]
    grind

theorem guess_fine {R V U u0 d1 d0 E R0 V0 q : Nat} (hR : R = (U * B64 + u0) * E + R0) (hV : V = (d1 * B64 + d0) * E + V0) (hR0 : R0 < E) (hV0 : V0 < E) (hd : B64 ≤ 2 * d1) (hq : q < B64) (h : q = (U * B64 + u0) / (d1 * B64 + d0)) : Near R V q := by
  rw [h]
  have hp : 0 < d1 := by unfold B64 at hd; omega
  have hb : B64 ≤ d1 * B64 := Nat.le_mul_of_pos_left B64 hp
  exact near_three hR hV hR0 hV0 (by rw [← h]; omega) (by omega)

set_option maxRecDepth 100000 in
set_option maxHeartbeats 2000000 in
theorem guess_v (l l1 l2 : Nat) (h1 : (l : Int) - 1 = l1) (h2 : (l : Int) - 2 = l2) (ab ao bb bo ca cb u2 u1 u0 d1 d0 R V : Nat) (w : World) (hl : l ≤ 1099511627776)
    (ka : w.cell? ⟨ab, ao + l, none⟩ = some (.int .u64 (u2 : Nat))) (ka1 : w.cell? ⟨ab, ao + l1, none⟩ = some (.int .u64 (u1 : Nat))) (ka0 : w.cell? ⟨ab, ao + l2, none⟩ = some (.int .u64 (u0 : Nat)))
    (kb : w.cell? ⟨bb, bo + l1, none⟩ = some (.int .u64 (d1 : Nat))) (kb0 : w.cell? ⟨bb, bo + l2, none⟩ = some (.int .u64 (d0 : Nat))) (hab : ab < w.heap.size)
    (hu1 : u1 < B64) (hu0 : u0 < B64) (hd1 : d1 < B64) (hd0 : d0 < B64) (hdp : 0 < d1)
    (HT : Hid (d1 ≤ u2 → Near R V (B64 - 1))) (HF : Hid (∀ q : Nat, q < B64 → q = ((u2 * B64 + u1) * B64 + u0) / (d1 * B64 + d0) → Near R V q)) :
    Calls Tryz.prog 71 #[.slice (some ⟨ab, ao, none⟩) (l + 1) ca, .slice (some ⟨bb, bo, none⟩) l cb] w fun e w' => ∃ g, e = .returned (.int .u64 (g : Nat)) ∧ g < B64 ∧ Near R V g ∧ Below w.heap.size w w' := by
  have i1 : IntKind.i64.wrap ((l : Int) - 1) = (l1 : Int) := by rw [h1]; exact IntWalk.i64_in _ (by omega)
  have i2 : IntKind.i64.wrap ((l : Int) - 2) = (l2 : Int) := by rw [h2]; exact IntWalk.i64_in _ (by omega)
  have j1 : (l1 : Int) < (l : Int) := by omega
  have j2 : (l2 : Int) < (l : Int) := by omega
  have j3 : (l1 : Int) < (l : Int) + 1 := by omega
  have j4 : (l2 : Int) < (l : Int) + 1 := by omega
  have i3 : IntKind.i64.wrap (l1 : Int) = (l1 : Int) := IntWalk.i64_in _ (by omega)
  have j5 : l1 < l := by omega
  have j11 : l1 < l + 1 := by omega
  have j12 : l1 ≤ l := by omega
  have j13 : (l1 : Int) ≤ (l : Int) := by omega
  have j7 : (l : Int) < (l : Int) + 1 := by omega
  have j8 : (0 : Int) ≤ (l : Int) := by omega
  have j9 : (0 : Int) ≤ (l1 : Int) := by omega
  have j10 : (0 : Int) ≤ (l2 : Int) := by omega
  have j6 : l2 < l := by omega
  go_enter Tryz.func71, Tryz.ntmps71
  go_upto_region 2 with fail
  go_quiet (fail)
  by_cases hge : d1 ≤ u2
  · go_wp2_with fail
    go_ret
    exact ⟨B64 - 1, rfl, by unfold B64; omega, HT.out hge, below_dn (Below.refl _ w) _⟩
  · have hG := guessB_start (B := B64) (u := u2 * B64 + u1) (u1 := u0) (d1 := d1) (d0 := d0) hdp hd1 hu0 (by
      have := Nat.mul_le_mul_right B64 (show u2 + 1 ≤ d1 by omega)
      rw [Nat.add_mul, Nat.one_mul] at this
      omega)
    have hdv := hidD (fun V => div64_c u2 u1 d1 (by omega) hu1 hd1 V)
    have hq0 := hG.2.2.1
    have hr0 := hG.2.2.2
    have HG := hidD hG
    clear hG HT
    generalize hX : (u2 * B64 + u1) / d1 = q0 at *
    generalize hY : (u2 * B64 + u1) % d1 = r0 at *
    generalize hZ : u2 * B64 + u1 = U at *
    clear hX hY hZ
    go_wp2_with fail
    have hq : Below w.heap.size w (w.drewN (nq + 1)) := below_dn (Below.refl _ w) _
    go_region_held3 (fun w' => w'.cell? ⟨ab, ao + l, none⟩ = some (.int .u64 (u2 : Nat)) ∧ w'.cell? ⟨ab, ao + l1, none⟩ = some (.int .u64 (u1 : Nat))) (refine ⟨?_, ?_⟩ <;> (first | (go_keep; done) | (simp [*]; done)))
      (first | (go_at_call 68; refine (hdv.out _).mono ?_; rintro e w1 ⟨rfl, hb1⟩; have kw2 := (hb1.cell (p := ⟨ab, ao + l, none⟩) (show ab < w.heap.size from hab)).trans ka; have kw1 := (hb1.cell (p := ⟨ab, ao + l1, none⟩) (show ab < w.heap.size from hab)).trans ka1; have kw0 := (hb1.cell (p := ⟨ab, ao + l2, none⟩) (show ab < w.heap.size from hab)).trans ka0))
    have hq : Below w.heap.size w w1 := hq.trans (hb1.mono hq.size)
    go_wp2_with fail
    go_loopw [8, 9] (fun qv rv wr => ∃ (q r : Nat), qv = .int .u64 (q : Nat) ∧ rv = .int .u64 (r : Nat) ∧ q < B64 ∧ r < B64 ∧ Hid (GuessB B64 U u0 d1 d0 q r) ∧ wr = w1)
      (fun qv _ _ => (intOf qv).toNat)
    case atStart => exact ⟨q0, r0, rfl, rfl, hq0, hr0, HG, rfl⟩
    case round =>
      clear hdv HG
      obtain ⟨q, r, rfl, rfl, hqB, hrB, HG, rfl⟩ := hrel
      have hdB : 0 < d1 * B64 := Nat.mul_pos hdp (by unfold B64; omega)
      by_cases c1 : mulHi q d0 < r
      · have HE := hidD (HF.out q hqB (guessB_exit HG.out.1 HG.out.2.1 hdB (mul_le_of hu0 (Or.inl c1))))
        clear hdB
        go_wp2_with (first
          | (go_at_call 86; refine (mul64_c _ _ hqB hd0 _).mono ?_; rintro e w' ⟨rfl, rfl⟩))
        go_ret
        exact ⟨q, rfl, hqB, HE.out, hq⟩
      · by_cases c2 : mulHi q d0 = r ∧ mulLo q d0 ≤ u0
        · have HE := hidD (HF.out q hqB (guessB_exit HG.out.1 HG.out.2.1 hdB (mul_le_of hu0 (Or.inr c2))))
          obtain ⟨c2, c3⟩ := c2
          subst c2
          clear hdB
          go_wp2_with (first
            | (go_at_call 86; refine (mul64_c _ _ hqB hd0 _).mono ?_; rintro e w' ⟨rfl, rfl⟩))
          go_ret
          exact ⟨q, rfl, hqB, HE.out, hq⟩
        · obtain ⟨g1, g2, g3, g4⟩ := guessB_step HG.out hdB (mul_gt_of hu0 c1 c2)
          obtain ⟨p, hp⟩ : ∃ p : Nat, q - 1 = p := ⟨_, rfl⟩
          rw [hp] at g2 g3 g4
          have hp2 : (q : Int) - 1 = (p : Int) := by omega
          have hpq : p < q := by omega
          have hpw : IntKind.u64.wrap (p : Int) = (p : Int) := by rw [IntKind.wrap_u64]; unfold B64 at hqB; omega
          clear hp g1 HG
          have a1 := add64_0 r d1
          have HEX := hidD (HF.out p)
          clear HF
          by_cases hov : r + d1 < B64
          · have v1 : addLo r d1 0 = r + d1 := by unfold addLo; rw [Nat.add_zero, Nat.mod_eq_of_lt hov]
            have v2 : addHi r d1 0 = 0 := by unfold addHi; rw [Nat.add_zero, Nat.div_eq_of_lt hov]
            rw [v1, v2] at a1
            have HST := hidD (show GuessB B64 U u0 d1 d0 p (r + d1) from ⟨g2, g3, g4, hov⟩)
            clear g2 g3 v1 v2 hdB HEX
            obtain ⟨s, hs⟩ : ∃ s, r + d1 = s := ⟨_, rfl⟩
            rw [hs] at a1 HST hov
            clear hs
            by_cases c3 : mulHi q d0 = r
            · have c4 : ¬ (mulLo q d0 ≤ u0) := fun h => c2 ⟨c3, h⟩
              clear c2
              go_wp2_with (first
                | (go_at_call 86; refine (mul64_c _ _ hqB hd0 _).mono ?_; rintro e w' ⟨rfl, rfl⟩))
              exact ⟨⟨p, s, rfl, rfl, g4, hov, HST, by first | trivial | rfl⟩, by simp [intOf]; omega⟩
            · clear c2
              go_wp2_with (first
                | (go_at_call 86; refine (mul64_c _ _ hqB hd0 _).mono ?_; rintro e w' ⟨rfl, rfl⟩))
              exact ⟨⟨p, s, rfl, rfl, g4, hov, HST, by first | trivial | rfl⟩, by simp [intOf]; omega⟩
          · have HE := hidD (HEX.out g4 (guessB_break g2 g3 g4 hd0 hdB (by omega)))
            have v2 : addHi r d1 0 = 1 := by unfold addHi; unfold B64 at *; omega
            rw [v2] at a1
            generalize addLo r d1 0 = s at *
            clear g2 g3 v2 hdB HEX hov
            by_cases c3 : mulHi q d0 = r
            · have c4 : ¬ (mulLo q d0 ≤ u0) := fun h => c2 ⟨c3, h⟩
              clear c2
              go_wp2_with (first
                | (go_at_call 86; refine (mul64_c _ _ hqB hd0 _).mono ?_; rintro e w' ⟨rfl, rfl⟩))
              go_ret
              exact ⟨p, rfl, g4, HE.out, hq⟩
            · clear c2
              go_wp2_with (first
                | (go_at_call 86; refine (mul64_c _ _ hqB hd0 _).mono ?_; rintro e w' ⟨rfl, rfl⟩))
              go_ret
              exact ⟨p, rfl, g4, HE.out, hq⟩

theorem guess_w (a b : Option Addr) (n ca cb : Nat) (us bs : List Nat) (w : World) (ra : Row .u64 w (.slice a (n + 3) ca) us) (rb : Row .u64 w (.slice b (n + 2) cb) bs) (xu : Dig B64 us) (xb : Dig B64 bs)
    (hd : B64 ≤ 2 * bs[n + 1]?.getD 0) (hRV : val B64 us < val B64 bs * B64) :
    Calls Tryz.prog 71 #[.slice a (n + 3) ca, .slice b (n + 2) cb] w fun e w' => ∃ g, e = .returned (.int .u64 (g : Nat)) ∧ g < B64 ∧ Near (val B64 us) (val B64 bs) g ∧ Below w.heap.size w w' := by
  obtain ⟨hl1, hc1, hm1, hk1, hf1⟩ := row_fn ra
  obtain ⟨hl2, hc2, hm2, hk2, hf2⟩ := row_fn rb
  obtain ⟨ab, ao, rfl, hab, ka⟩ := hf1 (n + 2) (by omega)
  obtain ⟨_, _, e1, _, ka1⟩ := hf1 (n + 1) (by omega)
  cases e1
  obtain ⟨_, _, e1, _, ka0⟩ := hf1 n (by omega)
  cases e1
  obtain ⟨bb, bo, rfl, hbb, kb⟩ := hf2 (n + 1) (by omega)
  obtain ⟨_, _, e1, _, kb0⟩ := hf2 n (by omega)
  cases e1
  have hB : 0 < B64 := by unfold B64; omega
  have hV3 := val_top3 hl1.symm
  have hV2 := val_top2 hl2.symm
  exact guess_v (n + 2) (n + 1) n (by omega) (by omega) ab ao bb bo ca cb _ _ _ _ _ _ _ w (by omega) ka ka1 ka0 kb kb0 hab (xu.getD hB _) (xu.getD hB _) (xb.getD hB _) (xb.getD hB _) (by unfold B64 at hd; omega)
    (fun h => guess_top hV3 hV2 (val_take_lt xb n) hd (xb.getD hB _) hRV h) (fun q hq h => guess_fine hV3 hV2 (val_take_lt xu n) (val_take_lt xb n) hd hq h)
end Go.Proofs.YtjmmnpfedhkjbaaGreatDoor
namespace Go.Proofs.YtjmmnpfedhkjbaaGreatDoor
open Go.RowKit Go.Shelf

/-- A window of a row is a row. -/
theorem Arr.win {W : World} {b : Nat} {xs : List Nat} (h : Arr W b xs) (off len cap : Nat) (h1 : off + len ≤ xs.length) (h2 : len ≤ cap) (h3 : cap ≤ 9223372036854775807) (h4 : len ≤ 1099511627776) : Row .u64 W (.slice (some ⟨b, off, none⟩) len cap) ((xs.drop off).take len) :=
  h.row off len cap h1 h2 h3 h4

theorem mid_drop_take {xs q : List Nat} {ro len : Nat} (hq : q.length = len) (h : ro + len ≤ xs.length) : ((mid xs ro len q).drop ro).take len = q := by
  rw [mid, List.drop_append_of_le_length (by rw [List.length_take]; omega), List.drop_eq_nil_of_le (by rw [List.length_take]; omega), List.nil_append, List.take_append_of_le_length (by omega), List.take_of_length_le (by omega)]

theorem mid_mid {xs p q : List Nat} {ro len : Nat} (hp : p.length = len) (h : ro + len ≤ xs.length) : mid (mid xs ro len p) ro len q = mid xs ro len q := by
  have h1 : (xs.take ro).length = ro := by rw [List.length_take]; omega
  rw [mid, mid, mid, List.take_append_of_le_length (by omega), List.take_of_length_le (by omega), List.drop_append, h1, show ro + len - ro = len from by omega, List.drop_eq_nil_of_le (by omega), List.nil_append, List.drop_append, hp, Nat.sub_self, List.drop_eq_nil_of_le (by omega), List.nil_append, List.drop_zero]

theorem dig_mid {xs q : List Nat} {ro len : Nat} (hx : Dig B64 xs) (hq : Dig B64 q) : Dig B64 (mid xs ro len q) := by
  intro x hx'
  rw [mid] at hx'
  rcases List.mem_append.1 hx' with h | h
  · exact (hx.take ro) x h
  · rcases List.mem_append.1 h with h | h
    · exact hq x h
    · exact (hx.drop _) x h

set_option maxRecDepth 100000 in
set_option maxHeartbeats 2000000 in
theorem splitOff_w (br ro n cap : Nat) (xs : List Nat) (a : Option Addr) (cb : Nat) (bs : List Nat) (w : World)
    (hA : Arr w br xs) (hx : Dig B64 xs) (hro : ro + (n + 3) ≤ xs.length) (hlc : n + 3 ≤ cap) (hcm : cap ≤ 9223372036854775807) (hn : n + 3 ≤ 1099511627776) (hb : Row .u64 w (.slice a (n + 2) cb) bs) (hbs : Dig B64 bs) (hne : ∀ p, a = some p → 0 < n + 2 → p.block ≠ br)
    (hd : B64 ≤ 2 * bs[n + 1]?.getD 0) (hRV : val B64 ((xs.drop ro).take (n + 3)) < val B64 bs * B64) :
    Calls Tryz.prog 51 #[.slice (some ⟨br, ro, none⟩) (n + 3) cap, .slice a (n + 2) cb] w fun e w' =>
      ∃ q, e = .returned (.int .u64 ((val B64 ((xs.drop ro).take (n + 3)) / val B64 bs : Nat) : Int)) ∧ (q.length = n + 3 ∧ Dig B64 q ∧ val B64 q = val B64 ((xs.drop ro).take (n + 3)) % val B64 bs) ∧ Arr w' br (mid xs ro (n + 3) q) ∧ w.grownBy w' (some br) := by
  have hra := hA.win ro (n + 3) cap hro hlc hcm hn
  have HG := hidD (guess_w _ a n cap cb _ bs w hra hb ((hx.drop ro).take _) hbs hd hRV)
  have hbl := (row_fn hb).1
  have hVlt : val B64 bs < B64 ^ (n + 2) := by have := val_lt hbs; rwa [← hbl] at this
  have hVP : val B64 bs < B64 ^ (n + 3) := Nat.lt_of_lt_of_le hVlt (Nat.pow_le_pow_right (by unfold B64; omega) (by omega))
  have HVP := hidD hVP
  have HB := hidD hb
  have HNE := hidD hne
  have HX := hidD hx
  have HXB := hidD hbs
  have HA := hidD hA
  have HRO := hidD hro
  have HBL := hidD hbl
  clear hra hd hRV hbl hVlt hVP hb hne hx hbs hA
  go_enter Tryz.func51, Tryz.ntmps51
  go_upto_region 2 with (go_at_call 71; refine HG.out.mono ?_; rintro e w1 ⟨g, rfl, hg, hN, hb1⟩; have HN := hidD hN; clear hN HG)
  have HTT := hidD (takeOffTimes_w br ro (n + 2) cap xs a cb bs g w1 (HA.out.below hb1) HX.out HRO.out hlc (Row.below HB.out hb1) HXB.out HNE.out hg)
  go_upto_if 13 with (go_at_call 72; refine HTT.out.mono ?_; rintro e w2 ⟨c, q, rfl, ⟨hc, hqq⟩, hA2, hg2⟩; have HQ := hidD hqq; clear hqq HTT)
  obtain rfl | rfl : c = 0 ∨ c = 1 := by omega
  · have HF := hidD (near_fits HN.out (by have := HQ.out.2.2; rw [Nat.mul_zero, Nat.add_zero] at this; exact this))
    have HE := hidD HF.out.1
    have HM := hidD HF.out.2
    clear HF HN
    go_wp2_with fail
    go_ret
    exact ⟨q, by rw [← HE.out]; rfl, ⟨HQ.out.1, HQ.out.2.1, HM.out⟩, hA2, grown_trans (grown_below hb1 _) hg2⟩
  · have HAD := hidD (add_w br ro (n + 3) cap (mid xs ro (n + 3) q) a (n + 2) cb bs w2 hA2 (dig_mid HX.out HQ.out.2.1) (by rw [mid_length HQ.out.1 HRO.out]; exact HRO.out) hlc (by omega) (by omega) (Row.grown (Row.below HB.out hb1) hg2 HNE.out) HXB.out HNE.out)
    have hg1 : 1 ≤ g := by
      rcases Nat.eq_zero_or_pos g with h | h
      · exfalso
        have h1 := HQ.out.2.2
        have h2 := val_lt HQ.out.2.1
        rw [HQ.out.1] at h2
        rw [h, Nat.mul_zero, Nat.mul_one] at h1
        omega
      · exact h
    obtain ⟨p, hp⟩ : ∃ p : Nat, g - 1 = p := ⟨_, rfl⟩
    have hp2 : (g : Int) - 1 = (p : Int) := by omega
    have hpw : IntKind.u64.wrap (p : Int) = (p : Int) := by rw [IntKind.wrap_u64]; unfold B64 at hg; omega
    have HP := hidD hp
    clear hp hg1
    go_wp2_with (go_at_call 53; refine HAD.out.mono ?_; rintro e w3 ⟨c3, q3, rfl, hq3, hA3, hg3⟩; have HQ3 := hidD hq3; clear hq3 HAD)
    go_ret
    have hk := near_over HN.out (P := B64 ^ (n + 3)) (by have := HQ.out.2.2; rw [Nat.mul_one] at this; exact this) (by have := val_lt HQ.out.2.1; rw [HQ.out.1] at this; exact this) (q2 := val B64 q3) (c2 := c3)
      (by
        have h4 := HQ3.out.2.2.2
        rw [mid_drop_take HQ.out.1 HRO.out, List.take_of_length_le (show bs.length ≤ n + 3 by rw [← HBL.out]; omega)] at h4
        exact h4)
      (by have := val_lt HQ3.out.2.1; rw [HQ3.out.1] at this; exact this) HQ3.out.2.2.1
    rw [HP.out] at hk
    rw [mid_mid HQ.out.1 HRO.out] at hA3
    exact ⟨q3, by rw [← hk.2.1]; rfl, ⟨HQ3.out.1, HQ3.out.2.1, hk.2.2⟩, hA3, grown_trans (grown_trans (grown_below hb1 _) hg2) hg3⟩
end Go.Proofs.YtjmmnpfedhkjbaaGreatDoor
namespace Go.Proofs.YtjmmnpfedhkjbaaGreatDoor
open Go.RowKit Go.Shelf

attribute [local go_sem] Oper.semAt_some

/-- A divisor whose top word is shifted up to its highest bit. -/
theorem norm_val {bs : List Nat} {l d L s : Nat} (xb : Dig B64 bs) (hl : bs.length = l + 2) (hd : bs[l + 1]?.getD 0 = d) (h1 : 2 ^ (L - 1) ≤ d) (h2 : d < 2 ^ L) (hL1 : 1 ≤ L) (hL : L ≤ 64) (hs : s = 64 - L) :
    val B64 bs * 2 ^ s < B64 ^ (l + 2) ∧ 2 ^ 63 * B64 ^ (l + 1) ≤ val B64 bs * 2 ^ s := by
  have hv : val B64 bs = val B64 (bs.take (l + 1)) + B64 ^ (l + 1) * d := by
    have h := val_take_succ B64 bs (l + 1)
    rwa [List.take_of_length_le (by omega), hd] at h
  have ht := val_take_lt xb (l + 1)
  have p1 : 2 ^ L * 2 ^ s = B64 := by rw [← Nat.pow_add, B64_pow]; congr 1; omega
  have p2 : 2 ^ (L - 1) * 2 ^ s = 2 ^ 63 := by rw [← Nat.pow_add]; congr 1; omega
  constructor
  · have e1 : val B64 bs + 1 ≤ B64 ^ (l + 1) * 2 ^ L := by
      have := Nat.mul_le_mul_left (B64 ^ (l + 1)) (show d + 1 ≤ 2 ^ L from h2)
      rw [Nat.mul_add, Nat.mul_one] at this
      omega
    have e2 := Nat.mul_le_mul_right (2 ^ s) e1
    rw [Nat.mul_assoc, p1, ← Nat.pow_succ, Nat.add_mul, Nat.one_mul] at e2
    exact Nat.lt_of_lt_of_le (Nat.lt_add_of_pos_right (Nat.two_pow_pos s)) e2
  · have e1 : B64 ^ (l + 1) * 2 ^ (L - 1) ≤ val B64 bs := by
      have := Nat.mul_le_mul_left (B64 ^ (l + 1)) h1
      omega
    have e2 := Nat.mul_le_mul_right (2 ^ s) e1
    rw [Nat.mul_assoc, p2, Nat.mul_comm] at e2
    exact e2

theorem norm_top {Z : List Nat} {l V : Nat} (xz : Dig B64 Z) (hl : Z.length = l + 3) (hv : val B64 Z = V) (h1 : V < B64 ^ (l + 2)) (h2 : 2 ^ 63 * B64 ^ (l + 1) ≤ V) :
    val B64 (Z.take (l + 2)) = V ∧ B64 ≤ 2 * (Z.take (l + 2))[l + 1]?.getD 0 := by
  have hz := val_drop_zero (B := B64) (k := l + 2) (D := Z) (by omega) (by rw [hv]; exact h1)
  have e1 : val B64 (Z.take (l + 2)) = V := by
    have h := val_append B64 (Z.take (l + 2)) (Z.drop (l + 2))
    rw [List.take_append_drop, hz, Nat.mul_zero, Nat.add_zero, hv] at h
    exact h.symm
  refine ⟨e1, ?_⟩
  rw [List.getElem?_take_of_lt (by omega)]
  have h3 := val_take_succ B64 Z (l + 1)
  have h4 := val_take_lt xz (l + 1)
  rw [show l + 1 + 1 = l + 2 from rfl, e1] at h3
  rcases Nat.lt_or_ge (Z[l + 1]?.getD 0) (2 ^ 63) with h | h
  · exfalso
    have h5 := Nat.mul_le_mul_left (B64 ^ (l + 1)) (show Z[l + 1]?.getD 0 + 1 ≤ 2 ^ 63 from h)
    rw [Nat.mul_add, Nat.mul_one, Nat.mul_comm _ (2 ^ 63)] at h5
    omega
  · rw [B64_pow]; omega

theorem norm_long {m n s l la : Nat} (hm : m < B64 ^ la) (hn : B64 ^ (l + 1) ≤ n) (hl : l + 1 ≤ la) : m * 2 ^ s < n * 2 ^ s * B64 ^ (la - (l + 1)) := by
  have h1 : B64 ^ (l + 1) * B64 ^ (la - (l + 1)) = B64 ^ la := by rw [← Nat.pow_add]; congr 1; omega
  have h2 := Nat.mul_le_mul_right (B64 ^ (la - (l + 1))) hn
  rw [h1] at h2
  rw [Nat.mul_right_comm]
  exact Nat.mul_lt_mul_of_pos_right (Nat.lt_of_lt_of_le hm h2) (Nat.two_pow_pos s)

theorem wpOp_go2 {P : Program} {ops : Array Oper} {Q : Exit → Act → World → Prop} {i : Nat} {o : Oper} {K : Act → World → Prop} {a : Act} {w : World} (ho : ops[i]? = some o) (hgd : o.guard = none)
    (h : ∀ K' : Act → World → Prop, (∀ a w, K a w → K' a w) → o.wp P a w K' Q) : wpOp P ops Q i K a w := by
  unfold wpOp
  rw [ho]
  simp only [Region.wanted, hgd, if_true]
  exact Or.inl (h K (fun _ _ h => h))

/-- A row, shifted up into memory of its own. -/
def IsUp (V : World) (base : Nat) (v : Value) (g len val' : Nat) (Z : List Nat) : Prop :=
  v = .slice (some ⟨g, 0, none⟩) len len ∧ Arr V g Z ∧ Z.length = len ∧ Dig B64 Z ∧ val B64 Z = val' ∧ base ≤ g

theorem IsUp.below {V V' : World} {base g len val' : Nat} {v : Value} {Z : List Nat} (h : IsUp V base v g len val' Z) (hb : Below V.heap.size V V') : IsUp V' base v g len val' Z :=
  ⟨h.1, h.2.1.below hb, h.2.2⟩

theorem IsUp.box {V : World} {base g len val' B : Nat} {v u : Value} {Z : List Nat} (h : IsUp V base v g len val' Z) (hl : 0 < len) (hB : Boxed V B 27 (.slice none 0 0)) : IsUp (V.setCell ⟨B, 0, none⟩ u) base v g len val' Z :=
  ⟨h.1, h.2.1.far (by
    intro e
    simp only at e
    obtain ⟨tl, ht⟩ := h.2.1
    rw [e, show V.heap[B]? = _ from hB] at ht
    obtain ⟨z, Z', rfl⟩ : ∃ z Z', Z = z :: Z' := by
      cases Z with
      | nil => have := h.2.2.1; simp at this; omega
      | cons z Z' => exact ⟨z, Z', rfl⟩
    simp [cellsOf] at ht) u, h.2.2⟩

theorem IsUp.ne_box {V : World} {base g len val' B : Nat} {v : Value} {Z : List Nat} {b : Option Addr} {lx cx : Nat} (h : IsUp V base v g len val' Z) (hl : 0 < len) (hB : Boxed V B 27 (.slice b lx cx)) : g ≠ B := by
  intro e
  obtain ⟨tl, ht⟩ := h.2.1
  rw [e, show V.heap[B]? = _ from hB] at ht
  obtain ⟨z, Z', rfl⟩ : ∃ z Z', Z = z :: Z' := by
    cases Z with
    | nil => have := h.2.2.1; simp at this; omega
    | cons z Z' => exact ⟨z, Z', rfl⟩
  simp [cellsOf] at ht
end Go.Proofs.YtjmmnpfedhkjbaaGreatDoor
namespace Go.Proofs.YtjmmnpfedhkjbaaGreatDoor
open Go.RowKit Go.Shelf

/-- What stays while a long division goes on: the boxes of its variables, and where its rows lie. -/
structure SplC where
  w : World
  bs : Value
  rs : Value
  ds : Value
  qs : Value
  B9 : Nat
  B10 : Nat
  B11 : Nat
  B12 : Nat
  gR : Nat
  gZ : Nat
  gQ : Nat
  Zb : List Nat

/-- No two of them are one. -/
structure SplC.Apart (c : SplC) : Prop where
  r0 : c.gR ≠ c.w.heap.size
  r9 : c.gR ≠ c.B9
  r10 : c.gR ≠ c.B10
  r11 : c.gR ≠ c.B11
  r12 : c.gR ≠ c.B12
  rz : c.gR ≠ c.gZ
  rq : c.gR ≠ c.gQ
  q0 : c.gQ ≠ c.w.heap.size
  q9 : c.gQ ≠ c.B9
  q10 : c.gQ ≠ c.B10
  q11 : c.gQ ≠ c.B11
  q12 : c.gQ ≠ c.B12
  qz : c.gQ ≠ c.gZ
  lr : c.w.heap.size ≤ c.gR
  lq : c.w.heap.size ≤ c.gQ

/-- What the memory holds of it, but for the two rows that turn. -/
structure SplC.Holds (c : SplC) (W : World) : Prop where
  b0 : Boxed W c.w.heap.size 27 c.bs
  b9 : Boxed W c.B9 27 c.rs
  b10 : Boxed W c.B10 27 c.ds
  b11 : Boxed W c.B11 27 c.qs
  b12 : Boxed W c.B12 27 c.qs
  z : Arr W c.gZ c.Zb
  B : Below c.w.heap.size c.w W

theorem SplC.Holds.kept {c : SplC} {W W' : World} {g : Nat} (h : c.Holds W) (hg : W.grownBy W' (some g)) (e0 : g ≠ c.w.heap.size) (e9 : g ≠ c.B9) (e10 : g ≠ c.B10) (e11 : g ≠ c.B11) (e12 : g ≠ c.B12) (ez : g ≠ c.gZ) (hl : c.w.heap.size ≤ g) : c.Holds W' :=
  ⟨h.b0.kept hg (fun e => by injection e with e; exact e0 e.symm), h.b9.kept hg (fun e => by injection e with e; exact e9 e.symm), h.b10.kept hg (fun e => by injection e with e; exact e10 e.symm), h.b11.kept hg (fun e => by injection e with e; exact e11 e.symm),
    h.b12.kept hg (fun e => by injection e with e; exact e12 e.symm), h.z.kept hg (fun e => by injection e with e; exact ez e.symm), below_grown h.B hg hl⟩

theorem SplC.Holds.drew {c : SplC} {W : World} (h : c.Holds W) : c.Holds W.drew :=
  ⟨h.b0, h.b9, h.b10, h.b11, h.b12, h.z, h.B.drew⟩

theorem SplC.own (c : SplC) {B : Nat} (hB : c.w.heap.size ≤ B) : OwnFrom B (fun (_ : Nat) W => c.Holds W) := fun k W W' row hs hg hr =>
  ⟨boxed_kept hs.b0 hg hr, boxed_kept hs.b9 hg hr, boxed_kept hs.b10 hg hr, boxed_kept hs.b11 hg hr, boxed_kept hs.b12 hg hr, arr_kept hs.z hg hr, own_below_u hB k W W' row hs.B hg hr⟩

/-- What the rounds keep. -/
def SplI (c : SplC) (R0 V n K : Nat) (k : Nat) (W : World) : Prop :=
  c.Holds W ∧ ∃ D Q, Arr W c.gR D ∧ Arr W c.gQ Q ∧ LongAt R0 V n K (K - k) D Q

theorem splI_own (c : SplC) (R0 V n K : Nat) {B : Nat} (hB : c.w.heap.size ≤ B) : OwnFrom B (SplI c R0 V n K) :=
  OwnFrom.and (c.own hB) (fun _ _ _ _ hs hg hr => by obtain ⟨D, Q, h1, h2, h3⟩ := hs; exact ⟨D, Q, arr_kept h1 hg hr, arr_kept h2 hg hr, h3⟩)

/-- A round's memory: e: the window is divided, f: its quotient is stored. -/
structure SplM (c : SplC) (W0 : World) (D D' Q Q' : List Nat) (e f : Bool) (W : World) : Prop where
  k : KeepsOthers W0 W
  h : c.Holds W
  r : Arr W c.gR (bif e then D' else D)
  q : Arr W c.gQ (bif f then Q' else Q)

theorem SplM.drew {c : SplC} {W0 W : World} {D D' Q Q' : List Nat} {e f : Bool} (h : SplM c W0 D D' Q Q' e f W) : SplM c W0 D D' Q Q' e f W.drew :=
  ⟨h.k.trans (KeepsOthers.drew W), h.h.drew, h.r, h.q⟩

theorem keeps_grown {W W' : World} {g : Nat} {xs : List Nat} (hA : Arr W g xs) (hg : W.grownBy W' (some g)) : KeepsOthers W W' :=
  KeepsOthers.of_grownBy hg fun j o ej hj => by cases ej; exact hA.other hj

theorem SplM.any {c : SplC} {W0 W : World} {D D' Q Q' : List Nat} {f : Bool} (h : SplM c W0 D D' Q Q' false f W) (D3 : List Nat) : SplM c W0 D D3 Q Q' false f W := ⟨h.k, h.h, h.r, h.q⟩

theorem SplM.split {c : SplC} {W0 W W' : World} {D D' Q Q' : List Nat} {f : Bool} (h : SplM c W0 D D' Q Q' false f W) (ha : c.Apart) (hg : W.grownBy W' (some c.gR)) (hA : Arr W' c.gR D') : SplM c W0 D D' Q Q' true f W' :=
  ⟨h.k.trans (keeps_grown h.r hg), h.h.kept hg ha.r0 ha.r9 ha.r10 ha.r11 ha.r12 ha.rz ha.lr, hA, h.q.kept hg (fun e => by injection e with e; exact ha.rq e.symm)⟩

theorem SplM.store {c : SplC} {W0 W : World} {D D' Q Q' : List Nat} {e : Bool} (h : SplM c W0 D D' Q Q' e false W) (ha : c.Apart) {j v : Nat} (hQ : Q.set j v = Q') : SplM c W0 D D' Q Q' e true (W.setCell ⟨c.gQ, j, none⟩ (.int .u64 (v : Nat))) :=
  have gs := grown_set W c.gQ j (.int .u64 (v : Nat))
  ⟨h.k.trans (KeepsOthers.setCell _ _ _), h.h.kept gs ha.q0 ha.q9 ha.q10 ha.q11 ha.q12 ha.qz ha.lq, h.r.kept gs (fun e => by injection e with e; exact ha.rq e), by have := h.q.set j v; rw [cond_false, hQ] at this; exact this⟩
end Go.Proofs.YtjmmnpfedhkjbaaGreatDoor
namespace Go.Proofs.YtjmmnpfedhkjbaaGreatDoor
open Go.RowKit Go.Shelf

attribute [local go_sem] Oper.semAt_some

set_option maxRecDepth 100000 in
set_option maxHeartbeats 4000000 in
theorem msplit_c (a : Option Addr) (la ca : Nat) (bb bo l lb l1 cb m n d s : Nat) (w : World) (hlb : lb = l + 2) (h2 : (lb : Int) - 1 = l1) (hbb : bb < w.heap.size)
    (ra : Row .u64 w (.slice a la ca) (limbs B64 m)) (rb : Row .u64 w (.slice (some ⟨bb, bo, none⟩) lb cb) (limbs B64 n))
    (kb : w.cell? ⟨bb, bo + l1, none⟩ = some (.int .u64 (d : Nat))) (hdB : d < B64) (hs : s ≤ 63) (HS : Hid ((64 : Int) - (Lib.bitLen d : Int) = (s : Int))) (hll : lb ≤ la) (hla : la < 1099511627776)
    (HV1 : Hid (n * 2 ^ s < B64 ^ (l + 2))) (HV2 : Hid (2 ^ 63 * B64 ^ (l + 1) ≤ n * 2 ^ s)) (HV3 : Hid (m * 2 ^ s < n * 2 ^ s * B64 ^ (la - (l + 1)))) :
    Calls Tryz.prog 25 #[.slice a la ca, .slice (some ⟨bb, bo, none⟩) lb cb] w fun e w' => ∃ u v, e = .returned (.tuple #[u, v]) ∧ UN w' u (m / n) ∧ UN w' v (m % n) ∧ Below w.heap.size w w' := by
  have hmx : Tryz.prog.follows .mixedOrders = true := by kernel_rfl
  have HLB := hidD hlb
  have i1 : IntKind.i64.wrap ((lb : Int) - 1) = (l1 : Int) := by rw [h2]; exact IntWalk.i64_in _ (by omega)
  have i3 : IntKind.i64.wrap (l1 : Int) = (l1 : Int) := IntWalk.i64_in _ (by omega)
  have j1 : (l1 : Int) < (lb : Int) := by omega
  have j9 : (0 : Int) ≤ (l1 : Int) := by omega
  have j2 : l1 < lb := by omega
  have hn1 : ¬ (lb = 1) := by omega
  have hB0 : Below w.heap.size w (w.alloc (.cells #[.slice (some ⟨bb, bo, none⟩) lb cb] 27)) := (Below.refl _ w).alloc (Nat.le_refl _) _
  have hbx := Boxed.new w 27 (.slice (some ⟨bb, bo, none⟩) lb cb)
  obtain ⟨W0, hW0⟩ : ∃ W0, w.alloc (.cells #[.slice (some ⟨bb, bo, none⟩) lb cb] 27) = W0 := ⟨_, rfl⟩
  have hN0 : W0.heap.size = w.heap.size + 1 := by rw [← hW0]; simp
  rw [hW0] at hB0 hbx
  have hbc := hbx.cell
  have kb0 := (hB0.cell (p := ⟨bb, bo + l1, none⟩) hbb).trans kb
  have HUR := hidD (fun (V : World) (h : Below W0.heap.size W0 V) => up_w a la ca (limbs B64 m) s V hs (Row.below (Row.below ra hB0) h) (dig_limbs two_le_B64 m) hla)
  have HUB := hidD (fun (V : World) (h : Below W0.heap.size W0 V) => up_w (some ⟨bb, bo, none⟩) lb cb (limbs B64 n) s V hs (Row.below (Row.below rb hB0) h) (dig_limbs two_le_B64 n) (by omega))
  rw [val_limbs two_le_B64] at HUR HUB
  have HW0 := hidD hW0
  have HLZ := hidD (show ∀ V : World, Calls Tryz.prog 48 #[.int .u64 (d : Nat)] V fun e w' => e = .returned (.int .i64 (s : Nat)) ∧ w' = V from fun V => by
    have h := Tryz.bits_LeadingZeros64 (d : Nat) V (by omega) (by unfold B64 at hdB; omega)
    rw [Int.toNat_natCast, HS.out] at h
    exact h)
  have isw : IntKind.u64.wrap (s : Int) = (s : Int) := IntWalk.u64_in _ (by omega)
  have HN0 := hidD hN0
  have HH2 := hidD h2
  clear hW0 hlb ra rb kb HS
  refine (callsIn_wide (n := 3)).1 ?_
  refine callsIn_of_wp_marks Tryz.func25 rfl trivial ?_ rfl
  simp only [Tryz.ntmps25, List.size_toArray, List.length_cons, List.length_nil, Nat.reduceAdd, Nat.reduceSub, Array.replicate_succ, Array.replicate_zero, List.push_toArray, List.append_toArray, List.nil_append, List.cons_append]
  refine wpIn_wide.2 ?_
  go_upto_region 1 with fail
  rw [HW0.out]
  clear HW0 hN0
  go_upto_region 8 with (go_at_call 48; refine (HLZ.out _).mono ?_; rintro e w' ⟨rfl, e1⟩; have e2 := e1.symm; subst e2; clear e1)
  refine wp_region_tab hmx [[], [], [0, 1], [], [], [3, 4, 2], [], [6], [5, 7], [], [], [9, 2, 5, 0, 1, 2, 9, 10], [10, 8, 11, 0, 1, 2, 3, 4, 5, 6, 7, 8, 9, 10, 11]] (by kernel_rfl) (by decide)
    (fun D ac V => ∃ t9 t10 t43 t44 t45 t46 t47 t48 t49 t50 t51 : Value, ac = { tmps := #[.slice a la ca, .slice (some ⟨bb, bo, none⟩) lb cb, undef, .pointer (some ⟨w.heap.size, 0, none⟩), .slice none 0 0, .slice none 0 0, undef, undef, .int .u64 (s : Nat), t9, t10, undef, undef, .slice a la ca, .int .i64 (la : Nat), .slice (some ⟨bb, bo, none⟩) lb cb, .int .i64 (lb : Nat), .bool false, undef, undef, .slice (some ⟨bb, bo, none⟩) lb cb, .int .i64 (lb : Nat), .bool false, undef, undef, undef, undef, undef, undef, undef, undef, undef, undef, undef, undef, .slice (some ⟨bb, bo, none⟩) lb cb, .slice (some ⟨bb, bo, none⟩) lb cb, .int .i64 (lb : Nat), .int .i64 (l1 : Nat), .pointer (some ⟨bb, bo + l1, none⟩), .int .u64 (d : Nat), .int .i64 (s : Nat), .int .u64 (s : Nat), t43, t44, t45, t46, t47, t48, t49, t50, t51, undef, undef, undef, undef, undef, undef, undef, undef, undef, undef, undef, undef, undef, undef, undef, undef, undef, undef, undef, undef, undef, undef, undef, undef, undef, undef, undef, undef], defers := [] } ∧ Hid (D 0 = true → t43 = .slice a la ca) ∧ Hid (D 1 = true → t44 = .int .u64 (s : Nat)) ∧ Hid (D 2 = true → ∃ g Z, IsUp V W0.heap.size t45 g (la + 1) (m * 2 ^ s) Z) ∧ Hid (D 3 = true → t46 = .slice (some ⟨bb, bo, none⟩) lb cb) ∧ Hid (D 4 = true → t47 = .int .u64 (s : Nat)) ∧ Hid (D 5 = true → ∃ gR Zr gZ Zb, IsUp V W0.heap.size t45 gR (la + 1) (m * 2 ^ s) Zr ∧ IsUp V W0.heap.size t48 gZ (lb + 1) (n * 2 ^ s) Zb ∧ gR ≠ gZ) ∧ Hid (D 6 = true → t49 = .slice (some ⟨bb, bo, none⟩) lb cb) ∧ Hid (D 7 = true → t50 = .int .i64 (lb : Nat)) ∧ Hid (D 8 = true → ∃ gZ, t48 = .slice (some ⟨gZ, 0, none⟩) (lb + 1) (lb + 1) ∧ t51 = .slice (some ⟨gZ, 0, none⟩) lb (lb + 1)) ∧ Hid (D 9 = true → D 11 = false → ∃ B, t9 = .pointer (some ⟨B, 0, none⟩) ∧ Boxed V B 27 (.slice none 0 0) ∧ W0.heap.size ≤ B) ∧ Hid (D 10 = true → D 12 = false → ∃ B, t10 = .pointer (some ⟨B, 0, none⟩) ∧ Boxed V B 27 (.slice none 0 0) ∧ W0.heap.size ≤ B) ∧ Hid (D 9 = true → D 10 = true → t9 ≠ t10) ∧ Hid (D 11 = true → ∃ B, t9 = .pointer (some ⟨B, 0, none⟩) ∧ Boxed V B 27 t45 ∧ W0.heap.size ≤ B) ∧ Hid (D 12 = true → ∃ B, t10 = .pointer (some ⟨B, 0, none⟩) ∧ Boxed V B 27 t51 ∧ W0.heap.size ≤ B) ∧ Below W0.heap.size W0 V)
    ⟨_, _, _, _, _, _, _, _, _, _, _, rfl, hidD (fun h => by cases h), hidD (fun h => by cases h), hidD (fun h => by cases h), hidD (fun h => by cases h), hidD (fun h => by cases h), hidD (fun h => by cases h), hidD (fun h => by cases h), hidD (fun h => by cases h), hidD (fun h => by cases h), hidD (fun h => by cases h), hidD (fun h => by cases h), hidD (fun h => by cases h), hidD (fun h => by cases h), hidD (fun h => by cases h), (Below.refl _ W0).drew⟩ ?step8 ?fin8
  case step8 =>
    rintro D a2 V i ds hcl2 hi2 hds hDi ⟨t9, t10, t43, t44, t45, t46, t47, t48, t49, t50, t51, rfl, g0, g1, g2, g3, g4, g5, g6, g7, g8, g9, g10, gx, g11, g12, hq⟩
    have hi13 : i < 13 := (List.getElem?_eq_some_iff.1 hi2).1
    obtain rfl | rfl | rfl | rfl | rfl | rfl | rfl | rfl | rfl | rfl | rfl | rfl | rfl : i = 0 ∨ i = 1 ∨ i = 2 ∨ i = 3 ∨ i = 4 ∨ i = 5 ∨ i = 6 ∨ i = 7 ∨ i = 8 ∨ i = 9 ∨ i = 10 ∨ i = 11 ∨ i = 12 := by omega
    all_goals
      simp only [List.getElem?_cons_zero, List.getElem?_cons_succ, Option.some.injEq] at hi2
      subst hi2
      clear hi13
    · clear hds hcl2
      refine wpOp_go2 rfl rfl (fun K hK => ?_)
      go_simp
      exact hK _ _ ⟨_, _, _, _, _, _, _, _, _, _, _, rfl, hidD (fun _ => rfl), g1, g2, g3, g4, g5, g6, g7, g8, g9, g10, gx, g11, g12, hq⟩
    · clear hds hcl2
      refine wpOp_go2 rfl rfl (fun K hK => ?_)
      go_simp
      exact hK _ _ ⟨_, _, _, _, _, _, _, _, _, _, _, rfl, g0, hidD (fun _ => rfl), g2, g3, g4, g5, g6, g7, g8, g9, g10, gx, g11, g12, hq⟩
    · have hf5 : D 5 = false := by
        cases h : D 5 with
        | false => rfl
        | true => rw [hcl2 5 _ rfl h 2 (by simp)] at hDi; cases hDi
      have hf11 : D 11 = false := by
        cases h : D 11 with
        | false => rfl
        | true => rw [hcl2 11 _ rfl h 2 (by simp)] at hDi; cases hDi
      have hf12 : D 12 = false := by
        cases h : D 12 with
        | false => rfl
        | true => rw [hcl2 12 _ rfl h 2 (by simp)] at hDi; cases hDi
      obtain rfl := g0.out (hds 0 (by simp))
      obtain rfl := g1.out (hds 1 (by simp))
      clear hds hcl2
      refine wpOp_go2 rfl rfl (fun K hK => ?_)
      go_simp
      go_wp2_with (go_at_call 49; refine (HUR.out _ hq).mono ?_; rintro e w5 ⟨g5, Z5, rfl, ⟨hZ1, hZ2, hZ3⟩, hA5, hg5, hb5⟩)
      exact ⟨_, _, _, _, _, _, _, _, _, _, _, rfl, hidD (fun _ => rfl), hidD (fun _ => rfl), hidD (fun _ => ⟨g5, Z5, rfl, hA5, hZ1, hZ2, hZ3, Nat.le_trans hq.size hg5⟩), g3, g4, hidD (fun h => by simp [hf5] at h), g6, g7, g8, hidD (fun h h2 => by obtain ⟨B, e, q, q2⟩ := g9.out h h2; exact ⟨B, e, boxed_below q hb5, q2⟩), hidD (fun h h2 => by obtain ⟨B, e, q, q2⟩ := g10.out h h2; exact ⟨B, e, boxed_below q hb5, q2⟩), gx, hidD (fun h => by simp [hf11] at h), hidD (fun h => by simp [hf12] at h), hq.trans (hb5.mono hq.size)⟩
    · have k0 := (boxed_below hbx hq).cell
      clear hds hcl2
      refine wpOp_go2 rfl rfl (fun K hK => ?_)
      go_simp
      exact hK _ _ ⟨_, _, _, _, _, _, _, _, _, _, _, rfl, g0, g1, g2, hidD (fun _ => rfl), g4, g5, g6, g7, g8, g9, g10, gx, g11, g12, hq⟩
    · clear hds hcl2
      refine wpOp_go2 rfl rfl (fun K hK => ?_)
      go_simp
      exact hK _ _ ⟨_, _, _, _, _, _, _, _, _, _, _, rfl, g0, g1, g2, g3, hidD (fun _ => rfl), g5, g6, g7, g8, g9, g10, gx, g11, g12, hq⟩
    · have hf8 : D 8 = false := by
        cases h : D 8 with
        | false => rfl
        | true => rw [hcl2 8 _ rfl h 5 (by simp)] at hDi; cases hDi
      have hf11 : D 11 = false := by
        cases h : D 11 with
        | false => rfl
        | true => rw [hcl2 11 _ rfl h 5 (by simp)] at hDi; cases hDi
      have hf12 : D 12 = false := by
        cases h : D 12 with
        | false => rfl
        | true => rw [hcl2 12 _ rfl h 5 (by simp)] at hDi; cases hDi
      obtain rfl := g3.out (hds 3 (by simp))
      obtain rfl := g4.out (hds 4 (by simp))
      obtain ⟨gR, Zr, hR⟩ := g2.out (hds 2 (by simp))
      have hRl := hR.2.1.lt
      clear hds hcl2
      refine wpOp_go2 rfl rfl (fun K hK => ?_)
      go_simp
      go_wp2_with (go_at_call 49; refine (HUB.out _ hq).mono ?_; rintro e w5 ⟨g5, Z5, rfl, ⟨hZ1, hZ2, hZ3⟩, hA5, hg5, hb5⟩)
      exact ⟨_, _, _, _, _, _, _, _, _, _, _, rfl, g0, g1, hidD (fun _ => ⟨gR, Zr, hR.below hb5⟩), hidD (fun _ => rfl), hidD (fun _ => rfl), hidD (fun _ => ⟨gR, Zr, g5, Z5, hR.below hb5, ⟨rfl, hA5, hZ1, hZ2, hZ3, Nat.le_trans hq.size hg5⟩, by omega⟩), g6, g7, hidD (fun h => by simp [hf8] at h), hidD (fun h h2 => by obtain ⟨B, e, q, q2⟩ := g9.out h h2; exact ⟨B, e, boxed_below q hb5, q2⟩), hidD (fun h h2 => by obtain ⟨B, e, q, q2⟩ := g10.out h h2; exact ⟨B, e, boxed_below q hb5, q2⟩), gx, hidD (fun h => by simp [hf11] at h), hidD (fun h => by simp [hf12] at h), hq.trans (hb5.mono hq.size)⟩
    · have k0 := (boxed_below hbx hq).cell
      clear hds hcl2
      refine wpOp_go2 rfl rfl (fun K hK => ?_)
      go_simp
      exact hK _ _ ⟨_, _, _, _, _, _, _, _, _, _, _, rfl, g0, g1, g2, g3, g4, g5, hidD (fun _ => rfl), g7, g8, g9, g10, gx, g11, g12, hq⟩
    · obtain rfl := g6.out (hds 6 (by simp))
      clear hds hcl2
      refine wpOp_go2 rfl rfl (fun K hK => ?_)
      go_simp
      exact hK _ _ ⟨_, _, _, _, _, _, _, _, _, _, _, rfl, g0, g1, g2, g3, g4, g5, hidD (fun _ => rfl), hidD (fun _ => rfl), g8, g9, g10, gx, g11, g12, hq⟩
    · have hf12 : D 12 = false := by
        cases h : D 12 with
        | false => rfl
        | true => rw [hcl2 12 _ rfl h 8 (by simp)] at hDi; cases hDi
      obtain ⟨gR, Zr, gZ, Zb, hR, hZ, hne⟩ := g5.out (hds 5 (by simp))
      obtain rfl := hZ.1
      obtain rfl := g7.out (hds 7 (by simp))
      have b1 : (0 : Int) ≤ (lb : Int) := by omega
      have b2 : (lb : Int) ≤ (lb : Int) + 1 := by omega
      have b3 : lb ≤ lb + 1 := by omega
      have b4 : ¬ ((lb : Int) + 1 < (lb : Int)) := by omega
      clear hds hcl2
      refine wpOp_go2 rfl rfl (fun K hK => ?_)
      go_simp
      exact hK _ _ ⟨_, _, _, _, _, _, _, _, _, _, _, rfl, g0, g1, g2, g3, g4, hidD (fun _ => ⟨gR, Zr, gZ, Zb, hR, hZ, hne⟩), g6, hidD (fun _ => rfl), hidD (fun _ => ⟨gZ, rfl, rfl⟩), g9, g10, gx, g11, hidD (fun h => by simp [hf12] at h), hq⟩
    · have hf11 : D 11 = false := by
        cases h : D 11 with
        | false => rfl
        | true => rw [hcl2 11 _ rfl h 9 (by simp)] at hDi; cases hDi
      have hf12 : D 12 = false := by
        cases h : D 12 with
        | false => rfl
        | true => rw [hcl2 12 _ rfl h 9 (by simp)] at hDi; cases hDi
      clear hds hcl2
      refine wpOp_go2 rfl rfl (fun K hK => ?_)
      go_simp
      exact hK _ _ ⟨_, _, _, _, _, _, _, _, _, _, _, rfl, g0, g1, hidD (fun h => by obtain ⟨g, Z, q⟩ := g2.out h; exact ⟨g, Z, q.below ((Below.refl _ V).alloc (Nat.le_refl _) _)⟩), g3, g4, hidD (fun h => by obtain ⟨gR, Zr, gZ, Zb, q1, q2, q3⟩ := g5.out h; exact ⟨gR, Zr, gZ, Zb, q1.below ((Below.refl _ V).alloc (Nat.le_refl _) _), q2.below ((Below.refl _ V).alloc (Nat.le_refl _) _), q3⟩), g6, g7, g8, hidD (fun _ _ => ⟨_, rfl, Boxed.new _ _ _, hq.size⟩), hidD (fun h h2 => by obtain ⟨B, e, q, q2⟩ := g10.out h h2; exact ⟨B, e, q.alloc _, q2⟩), hidD (fun _ h e => by obtain ⟨B, e2, q, q2⟩ := g10.out (by simpa using h) hf12; have := q.lt; rw [e2] at e; cases e; omega), hidD (fun h => by simp [hf11] at h), hidD (fun h => by simp [hf12] at h), hq.alloc hq.size _⟩
    · have hf11 : D 11 = false := by
        cases h : D 11 with
        | false => rfl
        | true => rw [hcl2 11 _ rfl h 10 (by simp)] at hDi; cases hDi
      have hf12 : D 12 = false := by
        cases h : D 12 with
        | false => rfl
        | true => rw [hcl2 12 _ rfl h 10 (by simp)] at hDi; cases hDi
      clear hds hcl2
      refine wpOp_go2 rfl rfl (fun K hK => ?_)
      go_simp
      exact hK _ _ ⟨_, _, _, _, _, _, _, _, _, _, _, rfl, g0, g1, hidD (fun h => by obtain ⟨g, Z, q⟩ := g2.out h; exact ⟨g, Z, q.below ((Below.refl _ V).alloc (Nat.le_refl _) _)⟩), g3, g4, hidD (fun h => by obtain ⟨gR, Zr, gZ, Zb, q1, q2, q3⟩ := g5.out h; exact ⟨gR, Zr, gZ, Zb, q1.below ((Below.refl _ V).alloc (Nat.le_refl _) _), q2.below ((Below.refl _ V).alloc (Nat.le_refl _) _), q3⟩), g6, g7, g8, hidD (fun h h2 => by obtain ⟨B, e, q, q2⟩ := g9.out h h2; exact ⟨B, e, q.alloc _, q2⟩), hidD (fun _ _ => ⟨_, rfl, Boxed.new _ _ _, hq.size⟩), hidD (fun h _ e => by obtain ⟨B, e2, q, q2⟩ := g9.out (by simpa using h) hf11; have := q.lt; rw [e2] at e; cases e; omega), hidD (fun h => by simp [hf11] at h), hidD (fun h => by simp [hf12] at h), hq.alloc hq.size _⟩
    · have hf12 : D 12 = false := by
        cases h : D 12 with
        | false => rfl
        | true => rw [hcl2 12 _ rfl h 11 (by simp)] at hDi; cases hDi
      obtain ⟨B, rfl, hbB, hwB⟩ := g9.out (hds 9 (by simp)) hDi
      obtain ⟨gR, Zr, gZ, Zb, hR, hZ, hne⟩ := g5.out (hds 5 (by simp))
      have k0 := hbB.cell
      have f0 := hbB.frozen
      obtain ⟨B2, hB2, hb2, hw2⟩ := g10.out (hds 10 (by simp)) hf12
      have hne2 : B ≠ B2 := fun e => gx.out (hds 9 (by simp)) (hds 10 (by simp)) (by rw [hB2, e])
      obtain rfl := hB2
      obtain rfl := hR.1
      clear g9 g11
      clear hds hcl2
      refine wpOp_go2 rfl rfl (fun K hK => ?_)
      go_simp
      exact hK _ _ ⟨_, _, _, _, _, _, _, _, _, _, _, rfl, g0, g1, hidD (fun _ => ⟨gR, Zr, hR.box (by omega) hbB⟩), g3, g4, hidD (fun _ => ⟨gR, Zr, gZ, Zb, hR.box (by omega) hbB, hZ.box (by omega) hbB, hne⟩), g6, g7, g8, hidD (fun _ h => by simp at h), hidD (fun _ _ => ⟨B2, rfl, hb2.kept (grownBy_setCell' _ B _) (fun e => by injection e; omega), hw2⟩), gx, hidD (fun _ => ⟨B, rfl, hbB.set _, hwB⟩), hidD (fun h => by simp [hf12] at h), hq.setCell (p := ⟨B, 0, none⟩) hwB _⟩
    · obtain ⟨B, rfl, hbB, hwB⟩ := g10.out (hds 10 (by simp)) hDi
      obtain ⟨gR, Zr, gZ, Zb, hR, hZ, hne⟩ := g5.out (hds 5 (by simp))
      obtain ⟨gZ2, e48, e51⟩ := g8.out (hds 8 (by simp))
      have k0 := hbB.cell
      have f0 := hbB.frozen
      obtain ⟨B2, hB2, hb2, hw2⟩ := g11.out (hds 11 (by simp))
      have hne2 : B ≠ B2 := fun e => gx.out (hds 9 (by simp)) (hds 10 (by simp)) (by rw [hB2, e])
      obtain rfl := e51
      obtain rfl := e48
      obtain rfl := hB2
      have hD11 := hds 11 (by simp)
      clear g10 g12
      clear hds hcl2
      refine wpOp_go2 rfl rfl (fun K hK => ?_)
      go_simp
      exact hK _ _ ⟨_, _, _, _, _, _, _, _, _, _, _, rfl, g0, g1, hidD (fun _ => ⟨gR, Zr, hR.box (by omega) hbB⟩), g3, g4, hidD (fun _ => ⟨gR, Zr, gZ, Zb, hR.box (by omega) hbB, hZ.box (by omega) hbB, hne⟩), g6, g7, hidD (fun _ => ⟨gZ2, rfl, rfl⟩), hidD (fun _ h => by simp [hD11] at h), hidD (fun _ h => by simp at h), gx, hidD (fun _ => ⟨B2, rfl, hb2.kept (grownBy_setCell' _ B _) (fun e => by injection e; omega), hw2⟩), hidD (fun _ => ⟨B, rfl, hbB.set _, hwB⟩), hq.setCell (p := ⟨B, 0, none⟩) hwB _⟩
  rintro D a2 V8 hDD ⟨t9, t10, t43, t44, t45, t46, t47, t48, t49, t50, t51, rfl, g0, g1, g2, g3, g4, g5, g6, g7, g8, g9, g10, gx, g11, g12, hq⟩
  obtain ⟨gR, Zr, gZ, Zb, hR, hZ, hne⟩ := g5.out (hDD 5 (by decide))
  obtain ⟨gZ2, e48, e51⟩ := g8.out (hDD 8 (by decide))
  obtain ⟨B9, rfl, hb9, hw9⟩ := g11.out (hDD 11 (by decide))
  obtain ⟨B10, rfl, hb10, hw10⟩ := g12.out (hDD 12 (by decide))
  obtain rfl := e51
  obtain rfl := hR.1
  have e0 := hZ.1
  rw [e48] at e0
  cases e0
  obtain rfl := e48
  clear g0 g1 g2 g3 g4 g5 g6 g7 g8 g9 g10 gx g11 g12 hDD HUR HUB HLZ
  obtain ⟨K, hK⟩ : ∃ K : Nat, (la : Int) + 1 - (lb : Int) = (K : Int) := ⟨la + 1 - lb, by omega⟩
  have hKw : IntKind.i64.wrap (K : Int) = (K : Int) := IntWalk.i64_in _ (by omega)
  have hmk := make_row K (by omega) V8
  have k9 := hb9.cell
  have k10 := hb10.cell
  have hKK : K + lb = la + 1 := by omega
  have HKK := hidD hKK
  clear hKK
  go_wp2_with (go_at_call 50; refine ((callsIn_wide (n := 2)).1 (bwd_in Fence.wide _ trivial rfl _ _ _ _)).mono ?_; rintro e w' ⟨rfl, rfl⟩)
  refine (wpIn_wide (n := 3)).1 ?_
  obtain ⟨WQ, hWQ⟩ : ∃ WQ, ((V8.alloc (.cells (cellsOf .u64 (List.replicate K 0)).toArray 53)).alloc (.cells #[.slice (some ⟨V8.heap.size, 0, none⟩) K K] 27)).alloc (.cells #[.slice (some ⟨V8.heap.size, 0, none⟩) K K] 27) = WQ := ⟨_, rfl⟩
  have hNQ : WQ.heap.size = V8.heap.size + 1 + 1 + 1 := by rw [← hWQ]; simp
  have hq8 : Below w.heap.size w V8 := hB0.trans (hq.mono hB0.size)
  have hN0 := HN0.out
  have hqQ : Below w.heap.size w WQ := by rw [← hWQ]; exact ((hq8.alloc hq8.size _).alloc (by have := hq8.size; simp; omega) _).alloc (by have := hq8.size; simp; omega) _
  have lR := hR.2.1.lt
  have lZ := hZ.2.1.lt
  have l9 := hb9.lt
  have l10 := hb10.lt
  have n9 : gR ≠ B9 := fun e => hR.ne_box (by omega) hb9 e
  have n10 : gR ≠ B10 := fun e => hR.ne_box (by omega) hb10 e
  have gR0 := hR.2.2.2.2.2
  have gZ0 := hZ.2.2.2.2.2
  obtain ⟨c, hc⟩ : ∃ c : SplC, c = ⟨w, .slice (some ⟨bb, bo, none⟩) lb cb, .slice (some ⟨gR, 0, none⟩) (la + 1) (la + 1), .slice (some ⟨gZ, 0, none⟩) lb (lb + 1), .slice (some ⟨V8.heap.size, 0, none⟩) K K, B9, B10, V8.heap.size + 1, V8.heap.size + 1 + 1, gR, gZ, V8.heap.size, Zb⟩ := ⟨_, rfl⟩
  have hap : c.Apart := by
    rw [hc]
    constructor <;> (simp only; omega)
  have hho : c.Holds WQ := by
    rw [hc, ← hWQ]
    have q11 := (Boxed.new (V8.alloc (.cells (cellsOf .u64 (List.replicate K 0)).toArray 53)) 27 (.slice (some ⟨V8.heap.size, 0, none⟩) K K)).alloc (.cells #[.slice (some ⟨V8.heap.size, 0, none⟩) K K] 27)
    have q12 := Boxed.new ((V8.alloc (.cells (cellsOf .u64 (List.replicate K 0)).toArray 53)).alloc (.cells #[.slice (some ⟨V8.heap.size, 0, none⟩) K K] 27)) 27 (.slice (some ⟨V8.heap.size, 0, none⟩) K K)
    simp only [World.size_alloc] at q11 q12
    exact ⟨(((boxed_below hbx hq).alloc _).alloc _).alloc _, ((hb9.alloc _).alloc _).alloc _, ((hb10.alloc _).alloc _).alloc _, q11, q12, ((hZ.2.1.alloc _).alloc _).alloc _, by rw [hWQ]; exact hqQ⟩
  have hrr : Arr WQ gR Zr := by rw [← hWQ]; exact ((hR.2.1.alloc _).alloc _).alloc _
  have hqq : Arr WQ V8.heap.size (List.replicate K 0) := by rw [← hWQ]; exact ((Arr.made (World.alloc_heap_new V8 _)).alloc _).alloc _
  have hlo : LongAt (m * 2 ^ s) (n * 2 ^ s) lb K K Zr (List.replicate K 0) := LongAt.start (by have := HKK.out; rw [hR.2.2.1]; omega) hR.2.2.2.1 hR.2.2.2.2.1 (by
    have h := HV3.out
    rwa [show la - (l + 1) = K from by have := HKK.out; have := HLB.out; omega] at h)
  obtain ⟨ht1, ht2⟩ := norm_top hZ.2.2.2.1 (by rw [hZ.2.2.1, HLB.out]) hZ.2.2.2.2.1 HV1.out HV2.out
  have hV0 : 0 < n * 2 ^ s := by
    have h := HV2.out
    have := Nat.mul_pos (Nat.two_pow_pos 63) (Nat.pow_pos (n := l + 1) (show 0 < B64 by unfold B64; omega))
    omega
  have hVlb : n * 2 ^ s < B64 ^ lb := by rw [HLB.out]; exact HV1.out
  have hZd := hZ.2.2.2.1
  have hZl := hZ.2.2.1
  rw [hWQ]
  clear hWQ hmk hb9 hb10 hbx hbc k9 k10 hR hZ hq hq8 kb0
  refine wpIn_rangeN rfl (by omega) (gf := 70) (lb := #[.pointer (some ⟨V8.heap.size + 1 + 1, 0, none⟩)]) rfl trivial (enters_of Tryz.func70 (by kernel_rfl) rfl)
    (bwd1_seq Fence.wide _ trivial rfl (by omega) (V8.heap.size + 1 + 1) (some ⟨V8.heap.size, 0, none⟩) K K (fun _ => 0) (by omega)) (fun _ => rfl)
    (SplI c (m * 2 ^ s) (n * 2 ^ s) lb K) (fun _ _ _ => False) (splI_own c _ _ _ _ (by rw [hc, hNQ]; simp only; omega)) (fun c _ _ _ _ h _ _ => h.elim)
    ⟨hho, Zr, List.replicate K 0, by rw [hc]; exact hrr, by rw [hc]; exact hqq, by rw [Nat.sub_zero]; exact hlo⟩ ?rd
    (fun k => { tmps := #[.slice a la ca, .slice (some ⟨bb, bo, none⟩) lb cb, undef, .pointer (some ⟨w.heap.size, 0, none⟩), .slice none 0 0, .slice none 0 0, undef, undef, .int .u64 (s : Nat), .pointer (some ⟨B9, 0, none⟩), .pointer (some ⟨B10, 0, none⟩), .pointer (some ⟨V8.heap.size + 1, 0, none⟩), .int .i64 ((K : Int) - 1 - k), .slice a la ca, .int .i64 (la : Nat), .slice (some ⟨bb, bo, none⟩) lb cb, .int .i64 (lb : Nat), .bool false, undef, undef, .slice (some ⟨bb, bo, none⟩) lb cb, .int .i64 (lb : Nat), .bool false, undef, undef, undef, undef, undef, undef, undef, undef, undef, undef, undef, undef, .slice (some ⟨bb, bo, none⟩) lb cb, .slice (some ⟨bb, bo, none⟩) lb cb, .int .i64 (lb : Nat), .int .i64 (l1 : Nat), .pointer (some ⟨bb, bo + l1, none⟩), .int .u64 (d : Nat), .int .i64 (s : Nat), .int .u64 (s : Nat), t43, t44, .slice (some ⟨gR, 0, none⟩) (la + 1) (la + 1), t46, t47, .slice (some ⟨gZ, 0, none⟩) (lb + 1) (lb + 1), t49, t50, .slice (some ⟨gZ, 0, none⟩) lb (lb + 1), .slice (some ⟨gR, 0, none⟩) (la + 1) (la + 1), .int .i64 ((la : Int) + 1), .slice (some ⟨gZ, 0, none⟩) lb (lb + 1), .int .i64 (lb : Nat), .int .i64 (K : Nat), .slice (some ⟨V8.heap.size, 0, none⟩) K K, .slice (some ⟨V8.heap.size, 0, none⟩) K K, .func (.func 70) #[] #[.pointer (some ⟨V8.heap.size + 1 + 1, 0, none⟩)], .int .i64 ((K : Int) - 1 - k), .int .u64 0, undef, undef, undef, undef, undef, undef, undef, undef, undef, undef, undef, undef, undef, undef, undef, undef, undef, undef], defers := [] }) ?assign ?body ?done ?stop
  case rd =>
    rintro k W ⟨hh, D, Q, _, hQ, hL⟩
    have h12 := hh.b12
    rw [hc] at h12 hQ
    refine ⟨h12.cell, fun hk => ⟨V8.heap.size, 0, rfl, ?_⟩⟩
    rw [Nat.zero_add, hQ.cell (j := K - 1 - k) (by rw [hL.2.2.1]; omega), hL.2.2.2.2.2.2 (K - 1 - k) (by omega)]
  case assign =>
    intro l k W K hK
    unfold bwdArgs
    gi_wp2
    exact hK
  case stop =>
    rintro D c k W _ _ h _
    exact h.elim
  case body =>
    rintro l' k W ⟨hh, D, Q, hD, hQ, hL⟩ hk hsz
    have hKi : K - k = K - 1 - k + 1 := by omega
    rw [hKi] at hL
    have e1 : ((K : Int) - 1 - k) = ((K - 1 - k : Nat) : Int) := by omega
    have HI := hidD (show K - (k + 1) = K - 1 - k by omega)
    have hiK : K - 1 - k < K := by omega
    rw [e1]
    obtain ⟨i, hi⟩ : ∃ i, K - 1 - k = i := ⟨_, rfl⟩
    rw [hi] at hL hiK HI ⊢
    clear hKi e1 hi
    obtain ⟨w1, w2, w3⟩ := hL.win hiK hVlb
    have hDl := hL.1
    have hQl := hL.2.2.1
    have HSO := hidD (show ∀ (V : World) (nn : Nat), Arr V gR D → Arr V gZ Zb → CallsIn (Fence.wide.inRound l') nn Tryz.prog 51 #[.slice (some ⟨gR, i, none⟩) (lb + 1) (la + 1 - i), .slice (some ⟨gZ, 0, none⟩) lb (lb + 1)] V fun e w' =>
      ∃ q, e = .returned (.int .u64 ((val B64 ((D.drop i).take (lb + 1)) / (n * 2 ^ s) : Nat) : Int)) ∧ (q.length = lb + 1 ∧ Dig B64 q ∧ val B64 q = val B64 ((D.drop i).take (lb + 1)) % (n * 2 ^ s)) ∧ Arr w' gR (mid D i (lb + 1) q) ∧ V.grownBy w' (some gR) from fun V nn h1 h2 => by
      have hKK := HKK.out
      have hz := h2.row 0 lb (lb + 1) (by omega) (by omega) (by omega) (by omega)
      have hso := splitOff_w gR i l (la + 1 - i) D (some ⟨gZ, 0, none⟩) (lb + 1) (Zb.take (l + 2)) V h1 hL.2.1 (by rw [hDl]; have := HLB.out; omega) (by have := HLB.out; omega) (by omega) (by have := HLB.out; omega)
        (by rw [List.drop_zero, HLB.out] at hz; rw [HLB.out]; exact hz) (hZd.take _) (fun p e _ => by cases e; exact fun h => hne h.symm) ht2 (by rw [ht1]; have := w1; rw [HLB.out] at this; exact this)
      rw [ht1] at hso
      have e3 : l + 3 = lb + 1 := by rw [HLB.out]
      have e2 : l + 2 = lb := HLB.out.symm
      rw [e3, e2] at hso
      exact CallsIn.inRound l' ((callsIn_wide (n := nn)).2 hso))
    have HST := hidD (fun (q : List Nat) (h1 : q.length = lb + 1) (h2 : Dig B64 q) (h3 : val B64 q = val B64 ((D.drop i).take (lb + 1)) % (n * 2 ^ s)) => hL.step hiK hVlb h1 h2 h3 hV0)
    obtain ⟨qd, hqd⟩ : ∃ qd, val B64 ((D.drop i).take (lb + 1)) / (n * 2 ^ s) = qd := ⟨_, rfl⟩
    rw [hqd] at HST HSO
    clear hqd w1 w2 w3 hL ht1 ht2 hlo
    obtain ⟨H1, hH1⟩ : ∃ H1 : Nat, (i : Int) + (lb : Int) = (H1 : Int) := ⟨i + lb, by omega⟩
    obtain ⟨H, hH⟩ : ∃ H : Nat, (H1 : Int) + 1 = (H : Int) := ⟨H1 + 1, by omega⟩
    have hHi : H - i = lb + 1 := by omega
    have hHl : H ≤ la + 1 := by have := HKK.out; omega
    have hil : i ≤ H := by omega
    have y1 : (i : Int) ≤ (H : Int) := by omega
    have y2 : (H : Int) ≤ (la : Int) + 1 := by omega
    have y3 : (0 : Int) ≤ (i : Int) := by omega
    have y4 : (i : Int) < (K : Int) := by omega
    have y5 : IntKind.i64.wrap (H1 : Int) = (H1 : Int) := IntWalk.i64_in _ (by omega)
    have y6 : IntKind.i64.wrap (H : Int) = (H : Int) := IntWalk.i64_in _ (by omega)
    gi_wp2_with fail
    refine wpIn_region_tab hmx [[], [], [], [], [], [], [5], [4, 6], [7], [2, 3, 8], [], [9, 10], [0, 1, 0, 1, 2, 3, 4, 5, 6, 7, 8, 9, 10, 11], [12, 11, 11, 0, 1, 2, 3, 4, 5, 6, 7, 8, 9, 10, 11]] (by kernel_rfl) (by decide)
      (fun DD ac V => ∃ t62 t63 t64 t65 t66 t67 t68 t69 t70 t71 t72 t73 t74 : Value, ac = { tmps := #[.slice a la ca, .slice (some ⟨bb, bo, none⟩) lb cb, undef, .pointer (some ⟨w.heap.size, 0, none⟩), .slice none 0 0, .slice none 0 0, undef, undef, .int .u64 (s : Nat), .pointer (some ⟨B9, 0, none⟩), .pointer (some ⟨B10, 0, none⟩), .pointer (some ⟨V8.heap.size + 1, 0, none⟩), .int .i64 (i : Nat), .slice a la ca, .int .i64 (la : Nat), .slice (some ⟨bb, bo, none⟩) lb cb, .int .i64 (lb : Nat), .bool false, undef, undef, .slice (some ⟨bb, bo, none⟩) lb cb, .int .i64 (lb : Nat), .bool false, undef, undef, undef, undef, undef, undef, undef, undef, undef, undef, undef, undef, .slice (some ⟨bb, bo, none⟩) lb cb, .slice (some ⟨bb, bo, none⟩) lb cb, .int .i64 (lb : Nat), .int .i64 (l1 : Nat), .pointer (some ⟨bb, bo + l1, none⟩), .int .u64 (d : Nat), .int .i64 (s : Nat), .int .u64 (s : Nat), t43, t44, .slice (some ⟨gR, 0, none⟩) (la + 1) (la + 1), t46, t47, .slice (some ⟨gZ, 0, none⟩) (lb + 1) (lb + 1), t49, t50, .slice (some ⟨gZ, 0, none⟩) lb (lb + 1), .slice (some ⟨gR, 0, none⟩) (la + 1) (la + 1), .int .i64 ((la : Int) + 1), .slice (some ⟨gZ, 0, none⟩) lb (lb + 1), .int .i64 (lb : Nat), .int .i64 (K : Nat), .slice (some ⟨V8.heap.size, 0, none⟩) K K, .slice (some ⟨V8.heap.size, 0, none⟩) K K, .func (.func 70) #[] #[.pointer (some ⟨V8.heap.size + 1 + 1, 0, none⟩)], .int .i64 (i : Nat), .int .u64 0, t62, t63, t64, t65, t66, t67, t68, t69, t70, t71, t72, t73, t74, undef, undef, undef, undef, undef], defers := [] } ∧ Hid (DD 0 = true → t62 = .slice (some ⟨V8.heap.size, 0, none⟩) K K) ∧ Hid (DD 1 = true → t63 = .int .i64 (i : Nat)) ∧ Hid (DD 2 = true → t64 = .slice (some ⟨gR, 0, none⟩) (la + 1) (la + 1)) ∧ Hid (DD 3 = true → t65 = .int .i64 (i : Nat)) ∧ Hid (DD 4 = true → t66 = .int .i64 (i : Nat)) ∧ Hid (DD 5 = true → t67 = .slice (some ⟨bb, bo, none⟩) lb cb) ∧ Hid (DD 6 = true → t68 = .int .i64 (lb : Nat)) ∧ Hid (DD 7 = true → t69 = .int .i64 (H1 : Nat)) ∧ Hid (DD 8 = true → t70 = .int .i64 (H : Nat)) ∧ Hid (DD 9 = true → t71 = .slice (some ⟨gR, i, none⟩) (lb + 1) (la + 1 - i)) ∧ Hid (DD 10 = true → t72 = .slice (some ⟨gZ, 0, none⟩) lb (lb + 1)) ∧ Hid (DD 11 = true → t73 = .int .u64 (qd : Nat)) ∧ Hid (DD 12 = true → t74 = .pointer (some ⟨V8.heap.size, i, none⟩)) ∧ ∃ D2, Hid (DD 11 = true → ∃ q, (q.length = lb + 1 ∧ Dig B64 q ∧ val B64 q = val B64 ((D.drop i).take (lb + 1)) % (n * 2 ^ s)) ∧ D2 = mid D i (lb + 1) q) ∧ SplM c W D D2 Q (Q.set i qd) (DD 11) (DD 13) V)
      ⟨_, _, _, _, _, _, _, _, _, _, _, _, _, rfl, hidD (fun h => by cases h), hidD (fun h => by cases h), hidD (fun h => by cases h), hidD (fun h => by cases h), hidD (fun h => by cases h), hidD (fun h => by cases h), hidD (fun h => by cases h), hidD (fun h => by cases h), hidD (fun h => by cases h), hidD (fun h => by cases h), hidD (fun h => by cases h), hidD (fun h => by cases h), hidD (fun h => by cases h), D, hidD (fun h => by cases h), SplM.drew ⟨KeepsOthers.refl _, hh, hD, hQ⟩⟩ ?step ?fin
    case fin =>
      rintro DD ac V hDD ⟨t62, t63, t64, t65, t66, t67, t68, t69, t70, t71, t72, t73, t74, rfl, g0, g1, g2, g3, g4, g5, g6, g7, g8, g9, g10, g11, g12, D2, gd, hV⟩
      rw [hDD 11 (by decide), hDD 13 (by decide)] at hV
      obtain ⟨q, ⟨hq1, hq2, hq3⟩, rfl⟩ := gd.out (hDD 11 (by decide))
      refine ⟨hV.k.from _, hV.h, mid D i (lb + 1) q, Q.set i qd, hV.r, hV.q, ?_⟩
      rw [HI.out]
      exact HST.out q hq1 hq2 hq3
    case step =>
      rintro DD ac V j ds hcl hj hds hDi ⟨t62, t63, t64, t65, t66, t67, t68, t69, t70, t71, t72, t73, t74, rfl, g0, g1, g2, g3, g4, g5, g6, g7, g8, g9, g10, g11, g12, D2, gd, hV⟩
      have hj14 : j < 14 := (List.getElem?_eq_some_iff.1 hj).1
      obtain rfl | rfl | rfl | rfl | rfl | rfl | rfl | rfl | rfl | rfl | rfl | rfl | rfl | rfl : j = 0 ∨ j = 1 ∨ j = 2 ∨ j = 3 ∨ j = 4 ∨ j = 5 ∨ j = 6 ∨ j = 7 ∨ j = 8 ∨ j = 9 ∨ j = 10 ∨ j = 11 ∨ j = 12 ∨ j = 13 := by omega
      all_goals
        simp only [List.getElem?_cons_zero, List.getElem?_cons_succ, Option.some.injEq] at hj
        subst hj
        clear hj14
      · have b11 : Boxed V (V8.heap.size + 1) 27 (.slice (some ⟨V8.heap.size, 0, none⟩) K K) := by have := hV.h.b11; rw [hc] at this; exact this
        have k0 := b11.cell
        clear hds hcl
        refine wpOpIn_step rfl (fun K2 hK2 => ?_)
        go_simp
        exact hK2 _ _ ⟨_, _, _, _, _, _, _, _, _, _, _, _, _, rfl, hidD (fun _ => rfl), g1, g2, g3, g4, g5, g6, g7, g8, g9, g10, g11, g12, D2, gd, hV⟩
      · clear hds hcl
        refine wpOpIn_step rfl (fun K2 hK2 => ?_)
        go_simp
        exact hK2 _ _ ⟨_, _, _, _, _, _, _, _, _, _, _, _, _, rfl, g0, hidD (fun _ => rfl), g2, g3, g4, g5, g6, g7, g8, g9, g10, g11, g12, D2, gd, hV⟩
      · have b9 : Boxed V B9 27 (.slice (some ⟨gR, 0, none⟩) (la + 1) (la + 1)) := by have := hV.h.b9; rw [hc] at this; exact this
        have k0 := b9.cell
        clear hds hcl
        refine wpOpIn_step rfl (fun K2 hK2 => ?_)
        go_simp
        exact hK2 _ _ ⟨_, _, _, _, _, _, _, _, _, _, _, _, _, rfl, g0, g1, hidD (fun _ => rfl), g3, g4, g5, g6, g7, g8, g9, g10, g11, g12, D2, gd, hV⟩
      · clear hds hcl
        refine wpOpIn_step rfl (fun K2 hK2 => ?_)
        go_simp
        exact hK2 _ _ ⟨_, _, _, _, _, _, _, _, _, _, _, _, _, rfl, g0, g1, g2, hidD (fun _ => rfl), g4, g5, g6, g7, g8, g9, g10, g11, g12, D2, gd, hV⟩
      · clear hds hcl
        refine wpOpIn_step rfl (fun K2 hK2 => ?_)
        go_simp
        exact hK2 _ _ ⟨_, _, _, _, _, _, _, _, _, _, _, _, _, rfl, g0, g1, g2, g3, hidD (fun _ => rfl), g5, g6, g7, g8, g9, g10, g11, g12, D2, gd, hV⟩
      · have b0 : Boxed V w.heap.size 27 (.slice (some ⟨bb, bo, none⟩) lb cb) := by have := hV.h.b0; rw [hc] at this; exact this
        have k0 := b0.cell
        clear hds hcl
        refine wpOpIn_step rfl (fun K2 hK2 => ?_)
        go_simp
        exact hK2 _ _ ⟨_, _, _, _, _, _, _, _, _, _, _, _, _, rfl, g0, g1, g2, g3, g4, hidD (fun _ => rfl), g6, g7, g8, g9, g10, g11, g12, D2, gd, hV⟩
      · obtain rfl := g5.out (hds 5 (by simp))
        clear hds hcl
        refine wpOpIn_step rfl (fun K2 hK2 => ?_)
        go_simp
        exact hK2 _ _ ⟨_, _, _, _, _, _, _, _, _, _, _, _, _, rfl, g0, g1, g2, g3, g4, hidD (fun _ => rfl), hidD (fun _ => rfl), g7, g8, g9, g10, g11, g12, D2, gd, hV⟩
      · obtain rfl := g4.out (hds 4 (by simp))
        obtain rfl := g6.out (hds 6 (by simp))
        clear hds hcl
        refine wpOpIn_step rfl (fun K2 hK2 => ?_)
        go_simp
        exact hK2 _ _ ⟨_, _, _, _, _, _, _, _, _, _, _, _, _, rfl, g0, g1, g2, g3, hidD (fun _ => rfl), g5, hidD (fun _ => rfl), hidD (fun _ => rfl), g8, g9, g10, g11, g12, D2, gd, hV⟩
      · obtain rfl := g7.out (hds 7 (by simp))
        clear hds hcl
        refine wpOpIn_step rfl (fun K2 hK2 => ?_)
        go_simp
        exact hK2 _ _ ⟨_, _, _, _, _, _, _, _, _, _, _, _, _, rfl, g0, g1, g2, g3, g4, g5, g6, hidD (fun _ => rfl), hidD (fun _ => rfl), g9, g10, g11, g12, D2, gd, hV⟩
      · obtain rfl := g2.out (hds 2 (by simp))
        obtain rfl := g3.out (hds 3 (by simp))
        obtain rfl := g8.out (hds 8 (by simp))
        have hn9 : ¬ (la + 1 = i) := by omega
        clear hds hcl
        refine wpOpIn_step rfl (fun K2 hK2 => ?_)
        go_simp
        exact hK2 _ _ ⟨_, _, _, _, _, _, _, _, _, _, _, _, _, rfl, g0, g1, hidD (fun _ => rfl), hidD (fun _ => rfl), g4, g5, g6, g7, hidD (fun _ => rfl), hidD (fun _ => rfl), g10, g11, g12, D2, gd, hV⟩
      · have b10 : Boxed V B10 27 (.slice (some ⟨gZ, 0, none⟩) lb (lb + 1)) := by have := hV.h.b10; rw [hc] at this; exact this
        have k0 := b10.cell
        clear hds hcl
        refine wpOpIn_step rfl (fun K2 hK2 => ?_)
        go_simp
        exact hK2 _ _ ⟨_, _, _, _, _, _, _, _, _, _, _, _, _, rfl, g0, g1, g2, g3, g4, g5, g6, g7, g8, g9, hidD (fun _ => rfl), g11, g12, D2, gd, hV⟩
      · obtain rfl := g9.out (hds 9 (by simp))
        obtain rfl := g10.out (hds 10 (by simp))
        rw [hDi] at hV
        have hr : Arr V gR D := by have := hV.r; rw [hc] at this; exact this
        have hz : Arr V gZ Zb := by have := hV.h.z; rw [hc] at this; exact this
        have HV := hidD hV
        clear hV
        clear hds hcl
        refine wpOpIn_step rfl (fun K2 hK2 => ?_)
        go_simp
        gi_wp2_with (refine ⟨trivial, ?_⟩; gi_at_call 51; refine (HSO.out _ _ hr hz).mono ?_; rintro e w5 ⟨q, rfl, ⟨hq1, hq2, hq3⟩, hA5, hg5⟩)
        exact ⟨_, _, _, _, _, _, _, _, _, _, _, _, _, rfl, g0, g1, g2, g3, g4, g5, g6, g7, g8, hidD (fun _ => rfl), hidD (fun _ => rfl), hidD (fun _ => rfl), g12, mid D i (lb + 1) q, hidD (fun _ => ⟨q, ⟨hq1, hq2, hq3⟩, rfl⟩), SplM.split (HV.out.any _) hap (by rw [hc]; exact hg5) (by rw [hc]; exact hA5)⟩
      · obtain rfl := g0.out (hds 0 (by simp))
        obtain rfl := g1.out (hds 1 (by simp))
        clear hds hcl
        refine wpOpIn_step rfl (fun K2 hK2 => ?_)
        go_simp
        exact hK2 _ _ ⟨_, _, _, _, _, _, _, _, _, _, _, _, _, rfl, hidD (fun _ => rfl), hidD (fun _ => rfl), g2, g3, g4, g5, g6, g7, g8, g9, g10, g11, hidD (fun _ => rfl), D2, gd, hV⟩
      · obtain rfl := g11.out (hds 11 (by simp))
        obtain rfl := g12.out (hds 12 (by simp))
        rw [hDi] at hV
        have hqa : Arr V V8.heap.size Q := by have := hV.q; rw [hc] at this; exact this
        have k0 := hqa.cell (j := i) (by omega)
        have f0 := hqa.frozen i
        have hst2 : SplM c W D D2 Q (Q.set i qd) (DD 11) true (V.setCell ⟨V8.heap.size, i, none⟩ (.int .u64 (qd : Nat))) := by have := hV.store hap (j := i) (v := qd) rfl; rw [hc] at this ⊢; exact this
        have HST2 := hidD hst2
        clear hst2 hV
        clear hds hcl
        refine wpOpIn_step rfl (fun K2 hK2 => ?_)
        go_simp
        exact hK2 _ _ ⟨_, _, _, _, _, _, _, _, _, _, _, _, _, rfl, g0, g1, g2, g3, g4, g5, g6, g7, g8, g9, g10, hidD (fun _ => rfl), hidD (fun _ => rfl), D2, gd, HST2.out⟩
  case done =>
    rintro D W hD ⟨hh, D2, Q2, hDD, hQQ, hL⟩ hK2
    rw [Nat.sub_self] at hL
    obtain ⟨f1, f2⟩ := hL.fin rfl rfl
    have b11 : Boxed W (V8.heap.size + 1) 27 (.slice (some ⟨V8.heap.size, 0, none⟩) K K) := by have := hh.b11; rw [hc] at this; exact this
    have b9 : Boxed W B9 27 (.slice (some ⟨gR, 0, none⟩) (la + 1) (la + 1)) := by have := hh.b9; rw [hc] at this; exact this
    have hBW : Below w.heap.size w W := by have := hh.B; rw [hc] at this; exact this
    have hr : Arr W gR D2 := by have := hDD; rw [hc] at this; exact this
    have hqa : Arr W V8.heap.size Q2 := by have := hQQ; rw [hc] at this; exact this
    have hKK := HKK.out
    have hrowQ : Row .u64 W (.slice (some ⟨V8.heap.size, 0, none⟩) K K) Q2 := by
      have h1 := hqa.row 0 K K (by rw [hL.2.2.1]; omega) (Nat.le_refl _) (by omega) (by omega)
      rwa [List.drop_zero, List.take_of_length_le (by rw [hL.2.2.1]; exact Nat.le_refl _)] at h1
    have hrowR : Row .u64 W (.slice (some ⟨gR, 0, none⟩) (la + 1) (la + 1)) D2 := by
      have h1 := hr.row 0 (la + 1) (la + 1) (by rw [hL.1]; omega) (Nat.le_refl _) (by omega) (by omega)
      rwa [List.drop_zero, List.take_of_length_le (by rw [hL.1]; omega)] at h1
    have HT := hidD (show ∀ V : World, Below W.heap.size W V → Calls Tryz.prog 47 #[.slice (some ⟨V8.heap.size, 0, none⟩) K K] V fun e w' => ∃ u, e = .returned u ∧ UN w' u (m / n) ∧ Below V.heap.size V w' from fun V h => by
      have h1 := trimmed_c _ Q2 V (Row.below hrowQ h)
      rw [f1] at h1
      exact h1)
    have HDN := hidD (show ∀ V : World, Below W.heap.size W V → Calls Tryz.prog 52 #[.slice (some ⟨gR, 0, none⟩) (la + 1) (la + 1), .int .u64 (s : Nat)] V fun e w' => ∃ u, e = .returned u ∧ UN w' u (m % n) ∧ Below V.heap.size V w' from fun V h => by
      have h1 := down_w _ _ _ D2 s V hs (Row.below hrowR h) hL.2.1
      rw [f2, Nat.mul_div_cancel _ (Nat.two_pow_pos s)] at h1
      exact h1)
    have l11 := b11.lt
    have l9 := b9.lt
    have k11 := b11.cell
    have k9 := b9.cell
    clear hL f1 f2 hrowQ hrowR hr hqa hh hDD hQQ hho hrr hqq hlo hKK
    go_upto_region 13 with fail
    have hq : Below W.heap.size W W.drew := (Below.refl _ W).drew
    go_region_held3 (fun w' => w'.cell? ⟨V8.heap.size + 1, 0, none⟩ = some (.slice (some ⟨V8.heap.size, 0, none⟩) K K) ∧ w'.cell? ⟨B9, 0, none⟩ = some (.slice (some ⟨gR, 0, none⟩) (la + 1) (la + 1))) (refine ⟨?_, ?_⟩ <;> (first | (go_keep; done) | (simp [*]; done)))
      (first
        | (go_at_call 47; refine (HT.out _ hq).mono ?_; rintro e w5 ⟨u5, rfl, hu5, hb5⟩; obtain ⟨ua, uc, rfl⟩ := UN.form hu5; have hq := hq.trans (hb5.mono hq.size); have k11 := (boxed_below b11 hq).cell; have k9 := (boxed_below b9 hq).cell)
        | (go_at_call 52; refine (HDN.out _ hq).mono ?_; rintro e w6 ⟨u6, rfl, hu6, hb6⟩; obtain ⟨va, vc, rfl⟩ := UN.form hu6; have hq := hq.trans (hb6.mono hq.size); have k11 := (boxed_below b11 hq).cell; have k9 := (boxed_below b9 hq).cell))
    all_goals go_wp2_with fail
    have hK6 : w6.heap[D]? = some (.deferred (some [])) := (hq.block D (Array.getElem?_eq_some_iff.1 hK2).1).trans hK2
    refine ⟨by simp, .inl ⟨_, _, rfl, run_takeDeferred hK6, ?_⟩⟩
    refine ⟨.tuple #[.slice ua (limbs B64 (m / n)).length uc, .slice va (limbs B64 (m % n)).length vc], by simp [results, Tryz.results25, go_sem], _, _, rfl, row_putD (UN.below hu5 hb6) hK6, row_putD hu6 hK6, ?_⟩
    exact below_grown (hBW.trans (hq.mono hBW.size)) (grownBy_putObj' _ D (.deferred none)) (by have := hqQ.size; omega)
end Go.Proofs.YtjmmnpfedhkjbaaGreatDoor
namespace Go.Proofs.YtjmmnpfedhkjbaaGreatDoor
open Go.RowKit Go.Shelf

/-- Quotient and rest of two rows. -/
theorem msplit_w (a : Option Addr) (la ca : Nat) (b : Option Addr) (lb cb m n : Nat) (w : World) (ra : Row .u64 w (.slice a la ca) (limbs B64 m)) (rb : Row .u64 w (.slice b lb cb) (limbs B64 n)) (hn : n ≠ 0) (hla : la < 1099511627776) :
    Calls Tryz.prog 25 #[.slice a la ca, .slice b lb cb] w fun e w' => ∃ u v, e = .returned (.tuple #[u, v]) ∧ UN w' u (m / n) ∧ UN w' v (m % n) ∧ Below w.heap.size w w' := by
  obtain ⟨hl1, hc1, hm1, hk1, hf1⟩ := row_fn ra
  obtain ⟨hl2, hc2, hm2, hk2, hf2⟩ := row_fn rb
  have hlb : lb ≠ 0 := fun e => hn ((limbs_eq_nil two_le_B64).1 (List.eq_nil_of_length_eq_zero (by rw [← hl2, e])))
  by_cases h1 : la < lb
  · exact msplit_a a la ca b lb cb m n w ra rb h1
  · by_cases h2 : lb = 1
    · subst h2
      exact msplit_b a la ca b cb m n w ra rb (by omega)
    · obtain ⟨l, rfl⟩ : ∃ l, lb = l + 2 := ⟨lb - 2, by omega⟩
      obtain ⟨bb, bo, rfl, hbb, kb⟩ := hf2 (l + 1) (by omega)
      have xb := dig_limbs two_le_B64 n
      have hd : (limbs B64 n)[l + 1]?.getD 0 ≠ 0 := by
        intro e
        have h3 := val_take_succ B64 (limbs B64 n) (l + 1)
        rw [List.take_of_length_le (by omega), e, Nat.mul_zero, Nat.add_zero, val_limbs two_le_B64] at h3
        have h4 := val_take_lt xb (l + 1)
        have h5 := pow_le_val_top two_le_B64 hl2.symm (by omega)
        rw [show l + 2 - 1 = l + 1 from rfl] at h5
        omega
      have hdB : (limbs B64 n)[l + 1]?.getD 0 < B64 := xb.getD (by unfold B64; omega) _
      obtain ⟨d, hde⟩ : ∃ d, (limbs B64 n)[l + 1]?.getD 0 = d := ⟨_, rfl⟩
      rw [hde] at kb hd hdB
      obtain ⟨e1, e2, e3⟩ := bitLen_spec d hd (by rw [← B64_pow]; exact hdB)
      have hL : Lib.bitLen d ≤ 64 := by
        rcases Nat.lt_or_ge 64 (Lib.bitLen d) with h | h
        · exfalso
          have h5 : 2 ^ 64 ≤ 2 ^ (Lib.bitLen d - 1) := Nat.pow_le_pow_right (by omega) (by omega)
          rw [B64_pow] at hdB
          omega
        · exact h
      obtain ⟨v1, v2⟩ := norm_val (s := 64 - Lib.bitLen d) xb hl2.symm hde e2 e3 e1 hL rfl
      rw [val_limbs two_le_B64] at v1 v2
      have hm : m < B64 ^ la := by
        have := val_lt (dig_limbs two_le_B64 m)
        rwa [val_limbs two_le_B64, ← hl1] at this
      have hnn : B64 ^ (l + 1) ≤ n := pow_le_val_top two_le_B64 hl2.symm (by omega)
      exact msplit_c a la ca bb bo l (l + 2) (l + 1) cb m n d (64 - Lib.bitLen d) w rfl (by omega) hbb ra rb kb hdB (by omega) (show _ = _ by omega) (by omega) hla v1 v2 (norm_long hm hnn (by omega))
end Go.Proofs.YtjmmnpfedhkjbaaGreatDoor
namespace Go.Proofs.YtjmmnpfedhkjbaaGreatDoor
open Go.RowKit Go.Shelf

theorem limbs_small {p : Nat} (h0 : p ≠ 0) (h : p < B64) : limbs B64 p = [p] := by
  rw [limbs_pos two_le_B64 h0, Nat.mod_eq_of_lt h, Nat.div_eq_of_lt h, limbs_zero]

set_option maxRecDepth 100000 in
set_option maxHeartbeats 2000000 in
theorem wordGCD_w (a : Option Addr) (ca : Nat) (b : Option Addr) (lb cb x y : Nat) (w : World) (ra : Row .u64 w (.slice a 1 ca) (limbs B64 x)) (rb : Row .u64 w (.slice b lb cb) (limbs B64 y)) (hy : y < B64) :
    Calls Tryz.prog 57 #[.slice a 1 ca, .slice b lb cb] w fun e w' => ∃ u, e = .returned u ∧ UN w' u (Nat.gcd x y) ∧ Below w.heap.size w w' := by
  obtain ⟨hl1, hc1, hm1, hk1, hf1⟩ := row_fn ra
  obtain ⟨hl2, hc2, hm2, hk2, hf2⟩ := row_fn rb
  obtain ⟨hn1, hn2, hn3⟩ := limbs_single hl1.symm
  rcases Nat.eq_zero_or_pos lb with h0 | h0
  · subst h0
    have hy0 : y = 0 := (limbs_eq_nil two_le_B64).1 (List.eq_nil_of_length_eq_zero hl2.symm)
    subst hy0
    have HR := hidD ra
    clear hf1 hf2 hl1 hl2 ra rb hn1
    go_enter Tryz.func57, Tryz.ntmps57
    go_wp2_with fail
    go_ret
    exact ⟨_, rfl, by rw [Nat.gcd_zero_right]; exact HR.out, Below.refl _ w⟩
  · have hy0 : y ≠ 0 := fun e => by rw [e, limbs_zero] at hl2; simp at hl2; omega
    have hly := limbs_small hy0 hy
    obtain rfl : lb = 1 := by rw [hl2, hly]; rfl
    obtain ⟨ab, ao, rfl, hab, ka⟩ := hf1 0 (by omega)
    obtain ⟨bb, bo, rfl, hbb, kb⟩ := hf2 0 (by omega)
    rw [hn1] at ka
    rw [hly] at kb
    have ka0 : w.cell? ⟨ab, ao, none⟩ = some (.int .u64 (x : Nat)) := ka
    have kb0 : w.cell? ⟨bb, bo, none⟩ = some (.int .u64 (y : Nat)) := kb
    clear hf1 hf2 hl1 hl2 ra rb hn1 hly ka kb
    go_enter Tryz.func57, Tryz.ntmps57
    go_upto_region 3 with fail
    go_quiet (fail)
    go_wp2_with fail
    go_loopw [5, 6] (fun xv yv wr => ∃ (p q j : Nat), xv = .int .u64 (p : Nat) ∧ yv = .int .u64 (q : Nat) ∧ p < B64 ∧ q < B64 ∧ p ≠ 0 ∧ Hid (Nat.gcd p q = Nat.gcd x y) ∧ wr = w.drewN j)
      (fun _ yv _ => (intOf yv).toNat)
    case atStart => exact ⟨x, y, _, rfl, rfl, hn3, hy, by omega, hidD rfl, rfl⟩
    case round =>
      obtain ⟨p, q, j, rfl, rfl, hp, hq, hp0, HG, rfl⟩ := hrel
      by_cases hq0 : q = 0
      · subst hq0
        have HE := hidD (show p = Nat.gcd x y by rw [← HG.out, Nat.gcd_zero_right])
        have HL := hidD (limbs_small hp0 hp)
        clear HG
        go_wp2_with fail
        go_ret
        refine ⟨.slice (some ⟨w.heap.size, 0, none⟩) 1 1, rfl, ?_, (below_dn (Below.refl _ w) _).alloc (Nat.le_refl _) _⟩
        unfold UN
        rw [← HE.out, HL.out]
        exact (Arr.made (xs := [p]) (World.alloc_heap_new (w.drewN j) (.cells #[.int .u64 (p : Nat)] 53))).row 0 1 1 (by simp) (by omega) (by omega) (by omega)
      · have HE := hidD (show Nat.gcd q (p % q) = Nat.gcd x y by rw [← HG.out, Nat.gcd_comm q, ← Nat.gcd_rec, Nat.gcd_comm])
        have hlt := Nat.mod_lt p (show q > 0 by omega)
        go_upto_region 5 with fail
        go_quiet (fail)
        go_wp2_with fail
        exact ⟨⟨q, p % q, j + nq, rfl, by simp, hq, by omega, hq0, HE, by simp⟩, by simp [intOf]; omega⟩
end Go.Proofs.YtjmmnpfedhkjbaaGreatDoor
namespace Go.Proofs.YtjmmnpfedhkjbaaGreatDoor
open Go.RowKit Go.Shelf

attribute [local go_sem] Oper.semAt_some

/-- A row in memory of its own. -/
def OwnU (W : World) (base : Nat) (u : Value) (g l rc P : Nat) (zs : List Nat) : Prop :=
  u = .slice (some ⟨g, 0, none⟩) l rc ∧ Arr W g zs ∧ Dig B64 zs ∧ l ≤ zs.length ∧ l ≤ rc ∧ rc ≤ 9223372036854775807 ∧ l ≤ 1099511627776 ∧ zs.take l = limbs B64 P ∧ base ≤ g

theorem OwnU.below {W W' : World} {base g l rc P : Nat} {u : Value} {zs : List Nat} (h : OwnU W base u g l rc P zs) (hb : Below W.heap.size W W') : OwnU W' base u g l rc P zs :=
  ⟨h.1, h.2.1.below hb, h.2.2⟩

theorem OwnU.un {W : World} {base g l rc P : Nat} {u : Value} {zs : List Nat} (h : OwnU W base u g l rc P zs) : UN W u P := by
  obtain ⟨rfl, h1, h2, h3, h4, h5, h6, h7, h8⟩ := h
  have := h1.row 0 l rc (by omega) h4 h5 h6
  rw [List.drop_zero, h7] at this
  exact this

theorem take_of_cells {W : World} {g l rc : Nat} {zs ds : List Nat} (hA : Arr W g zs) (hr : Row .u64 W (.slice (some ⟨g, 0, none⟩) l rc) ds) (hl : l ≤ zs.length) : zs.take l = ds := by
  obtain ⟨h1, _, _, _, h5⟩ := row_fn hr
  apply List.ext_getElem?
  intro j
  by_cases hj : j < l
  · obtain ⟨b, off, e, _, hc⟩ := h5 j hj
    cases e
    rw [Nat.zero_add, hA.cell (by omega)] at hc
    rw [List.getElem?_take_of_lt hj, List.getElem?_eq_getElem (show j < zs.length by omega), List.getElem?_eq_getElem (show j < ds.length by omega)]
    rw [List.getElem?_eq_getElem (show j < zs.length by omega), List.getElem?_eq_getElem (show j < ds.length by omega)] at hc
    simp only [Option.getD_some, Option.some.injEq, Value.int.injEq, true_and] at hc
    congr 1
    omega
  · rw [List.getElem?_eq_none (by rw [List.length_take]; omega), List.getElem?_eq_none (by omega)]

set_option maxRecDepth 100000 in
set_option maxHeartbeats 1000000 in
theorem mtimes_g (a : Option Addr) (la ca : Nat) (b : Option Addr) (lb cb : Nat) (us vs : List Nat) (w : World) (xa : Dig B64 us) (xb : Dig B64 vs) (hlen : la + lb ≤ 1099511627776)
    (ra : Row .u64 w (.slice a la ca) us) (rb : Row .u64 w (.slice b lb cb) vs) :
    Calls Tryz.prog 36 #[.slice a la ca, .slice b lb cb] w fun e w' => ∃ u, e = .returned u ∧ UN w' u (val B64 us * val B64 vs) ∧ (val B64 us * val B64 vs ≠ 0 → ∃ g l rc zs, OwnU w' w.heap.size u g l rc (val B64 us * val B64 vs) zs) ∧ Below w.heap.size w w' := by
  have hmk := make_row (la + lb) (by omega) w
  rw [show ((la + lb : Nat) : Int) = (la : Int) + (lb : Int) from by omega] at hmk
  obtain ⟨W1, hW1⟩ : ∃ W1, W1 = w.alloc (.cells (cellsOf .u64 (List.replicate (la + lb) 0)).toArray 53) := ⟨_, rfl⟩
  have hB1 : Below w.heap.size w W1 := by rw [hW1]; exact (Below.refl _ w).alloc (Nat.le_refl _) _
  have hA1 : Arr W1 w.heap.size (List.replicate (la + lb) 0) := by rw [hW1]; exact Arr.made (World.alloc_heap_new w _)
  rw [← hW1] at hmk
  have HP := hidD (product_g w.heap.size (la + lb) (la + lb) (List.replicate (la + lb) 0) a la ca b lb cb us vs W1 xa xb hA1 (fun x hx => by rw [List.eq_of_mem_replicate hx]; unfold B64; omega) (by rw [List.length_replicate]; exact Nat.le_refl _) (Nat.le_refl _) (by omega) hlen (Row.below ra hB1) (Row.below rb hB1)
    (fun p e h0 => by have := row_lt ra e h0; omega) (fun p e h0 => by have := row_lt rb e h0; omega))
  have hl1 := (row_fn ra).2.1
  have hl2 := (row_fn ra).2.2.1
  have hl3 := (row_fn rb).2.1
  have hl4 := (row_fn rb).2.2.1
  clear hW1 hA1 ra rb
  go_enter Tryz.func36, Tryz.ntmps36
  go_wp2_with (go_at_call 64; refine HP.out.mono ?_; rintro e w5 ⟨u, rfl, ⟨hu, hg5⟩, hform, zs, hAz, hDz, hLz⟩; obtain ⟨ua, uc, rfl⟩ := UN.form hu)
  go_ret
  refine ⟨_, rfl, hu, fun h0 => ?_, below_grown hB1 hg5 (Nat.le_refl _)⟩
  have hlp : (limbs B64 (val B64 us * val B64 vs)).length ≠ 0 := fun e => h0 ((limbs_eq_nil two_le_B64).1 (List.eq_nil_of_length_eq_zero e))
  rcases hform with e | ⟨l, e⟩
  · injection e with e1 e2 e3
    exact absurd e2 hlp
  · injection e with e1 e2 e3
    subst e1
    subst e3
    rw [List.length_replicate] at hLz
    have hl : (limbs B64 (val B64 us * val B64 vs)).length ≤ zs.length := by rw [hLz]; exact (row_fn hu).2.1
    exact ⟨_, _, _, zs, rfl, hAz, hDz, hl, (row_fn hu).2.1, (row_fn hu).2.2.1, (row_fn hu).2.2.2.1, take_of_cells hAz hu hl, Nat.le_refl _⟩

/-- The lesser one of two is taken off the other one, in its place. -/
theorem takeOff_own {W : World} {base g l rc P Q : Nat} {u : Value} {zs : List Nat} (h : OwnU W base u g l rc P zs) (b : Option Addr) (lb cb : Nat) (rb : UN W (.slice b lb cb) Q) (hQ : Q ≤ P) (hne : ∀ p, b = some p → 0 < lb → p.block ≠ g) :
    Calls Tryz.prog 54 #[u, .slice b lb cb] W fun e w' => ∃ c q, e = .returned (.int .u64 (c : Nat)) ∧ (Row .u64 w' u q ∧ trimL q = limbs B64 (P - Q)) ∧ W.grownBy w' (some g) := by
  obtain ⟨rfl, h1, h2, h3, h4, h5, h6, h7, h8⟩ := h
  have hl : l = (limbs B64 P).length := by rw [← h7, List.length_take]; omega
  have hlb := (row_fn rb).1
  refine (takeOff_w g 0 l rc zs b lb cb (limbs B64 Q) W h1 h2 (by omega) h4 (by omega) (by rw [hl, hlb]; exact wlimbs_mono hQ) rb (dig_limbs two_le_B64 Q) hne).mono ?_
  rintro e w' ⟨c, q, rfl, hq, hA, hg⟩
  have hm : mid zs 0 l q = q ++ zs.drop l := by rw [mid, List.take_zero, List.nil_append, Nat.zero_add]
  have hq1 := hq.1
  refine ⟨c, q, rfl, ⟨?_, ?_⟩, hg⟩
  · have h9 := hA.row 0 l rc (by rw [mid_length hq1 (by omega)]; omega) h4 h5 h6
    rwa [hm, List.drop_zero, List.take_append_of_le_length (by omega), List.take_of_length_le (by omega)] at h9
  · have hs : SubAt (limbs B64 P) (limbs B64 Q) 0 l c q := by
      refine ⟨hq1, hq.2.1, hq.2.2.1, ?_⟩
      have := hq.2.2.2
      rw [List.drop_zero, h7] at this
      rw [List.drop_zero, List.take_of_length_le (show (limbs B64 P).length ≤ l by omega)]
      exact this
    exact sub_val hs rfl rfl hl (by rw [hl]; exact wlimbs_mono hQ) hQ
end Go.Proofs.YtjmmnpfedhkjbaaGreatDoor
namespace Go.Proofs.YtjmmnpfedhkjbaaGreatDoor
open Go.RowKit Go.Shelf

attribute [local go_sem] Oper.semAt_some

theorem below_at {w V w1 : World} {o : Obj} (h : Below w.heap.size w V) (k : Below (V.alloc o).heap.size (V.alloc o) w1) : Below w.heap.size w w1 := (h.alloc h.size o).trans (k.mono (h.alloc h.size o).size)

theorem val_one (x : Nat) : val B64 [x] = x := by rw [val_cons, val_nil, Nat.mul_zero, Nat.add_zero]

set_option maxRecDepth 100000 in
set_option maxHeartbeats 4000000 in
theorem mixof_w (ma mb : Nat) (a : Option Addr) (la ca : Nat) (b : Option Addr) (lb cb A B : Nat) (w : World) (ra : Row .u64 w (.slice a la ca) (limbs B64 A)) (rb : Row .u64 w (.slice b lb cb) (limbs B64 B)) (hma : ma < B64) (hmb : mb < B64) (hla : la < 1099511627776) (hlb : lb < 1099511627776) (h0 : mb * B ≠ 0) :
    Calls Tryz.prog 56 #[.agg #[.int .u64 (ma : Nat), .int .u64 (mb : Nat)], .slice a la ca, .slice b lb cb] w fun e w' => ∃ u, e = .returned u ∧ UN w' u (dist (ma * A) (mb * B)) ∧ Below w.heap.size w w' := by
  have hmx : Tryz.prog.follows .mixedOrders = true := by kernel_rfl
  obtain ⟨W0, hW0⟩ : ∃ W0, w.alloc (.cells #[.int .u64 (ma : Nat), .int .u64 (mb : Nat)] 79) = W0 := ⟨_, rfl⟩
  have hB0 : Below w.heap.size w W0 := by rw [← hW0]; exact (Below.refl _ w).alloc (Nat.le_refl _) _
  have bx : Box2 W0 w.heap.size 79 (.int .u64 (ma : Nat)) (.int .u64 (mb : Nat)) := by rw [← hW0]; exact Box2.new w _ _ _
  have HT1 := hidD (show ∀ (V : World) (g : Nat), Below W0.heap.size W0 V → Arr V g [ma] → Calls Tryz.prog 36 #[.slice a la ca, .slice (some ⟨g, 0, none⟩) 1 1] V fun e w' => ∃ u, e = .returned u ∧ UN w' u (ma * A) ∧ (ma * A ≠ 0 → ∃ g l rc zs, OwnU w' V.heap.size u g l rc (ma * A) zs) ∧ Below V.heap.size V w' from fun V g h hA => by
    have h1 := mtimes_g a la ca (some ⟨g, 0, none⟩) 1 1 (limbs B64 A) [ma] V (dig_limbs two_le_B64 A) (Dig.cons hma (Dig.nil _)) (by omega) (Row.below (Row.below ra hB0) h) (hA.row 0 1 1 (by simp) (by omega) (by omega) (by omega))
    rw [val_one, val_limbs two_le_B64, Nat.mul_comm A ma] at h1
    exact h1)
  have HT2 := hidD (show ∀ (V : World) (g : Nat), Below W0.heap.size W0 V → Arr V g [mb] → Calls Tryz.prog 36 #[.slice b lb cb, .slice (some ⟨g, 0, none⟩) 1 1] V fun e w' => ∃ u, e = .returned u ∧ UN w' u (mb * B) ∧ (mb * B ≠ 0 → ∃ g l rc zs, OwnU w' V.heap.size u g l rc (mb * B) zs) ∧ Below V.heap.size V w' from fun V g h hA => by
    have h1 := mtimes_g b lb cb (some ⟨g, 0, none⟩) 1 1 (limbs B64 B) [mb] V (dig_limbs two_le_B64 B) (Dig.cons hmb (Dig.nil _)) (by omega) (Row.below (Row.below rb hB0) h) (hA.row 0 1 1 (by simp) (by omega) (by omega) (by omega))
    rw [val_one, val_limbs two_le_B64, Nat.mul_comm B mb] at h1
    exact h1)
  have HW0 := hidD hW0
  clear hW0 ra rb
  generalize ma * A = P1 at *
  generalize mb * B = P2 at *
  go_enter Tryz.func56, Tryz.ntmps56
  go_upto_region 1 with fail
  rw [HW0.out]
  refine wp_region_tab hmx [[], [], [1], [2], [0, 3], [], [], [6], [7], [5, 8, 4], [4, 9, 0, 1, 2, 3, 4], [9, 10, 0, 1, 2, 3, 4, 5, 6, 7, 8, 9, 10]] (by kernel_rfl) (by decide)
    (fun DD ac V => ∃ t7 t8 t9 t10 t11 t12 t13 t14 t15 t16 t17 t18 : Value, ac = { tmps := #[.agg #[.int .u64 (ma : Nat), .int .u64 (mb : Nat)], .slice a la ca, .slice b lb cb, .pointer (some ⟨w.heap.size, 0, none⟩), undef, undef, .slice none 0 0, t7, t8, t9, t10, t11, t12, t13, t14, t15, t16, t17, t18, undef, undef, undef, undef, undef, undef, undef, undef, undef, undef, undef], defers := [] } ∧ Hid (DD 0 = true → t9 = .slice a la ca) ∧ Hid (DD 1 = true → t10 = .pointer (some ⟨w.heap.size, 0, none⟩)) ∧ Hid (DD 2 = true → t11 = .int .u64 (ma : Nat)) ∧ Hid (DD 3 = true → ∃ g, t12 = .slice (some ⟨g, 0, none⟩) 1 1 ∧ Arr V g [ma]) ∧ Hid (DD 4 = true → UN V t13 P1 ∧ (P1 ≠ 0 → ∃ g1 l1 rc1 zs1, OwnU V W0.heap.size t13 g1 l1 rc1 P1 zs1)) ∧ Hid (DD 5 = true → t14 = .slice b lb cb) ∧ Hid (DD 6 = true → t15 = .pointer (some ⟨w.heap.size, 1, none⟩)) ∧ Hid (DD 7 = true → t16 = .int .u64 (mb : Nat)) ∧ Hid (DD 8 = true → ∃ g, t17 = .slice (some ⟨g, 0, none⟩) 1 1 ∧ Arr V g [mb]) ∧ Hid (DD 9 = true → ∃ g2 l2 rc2 zs2, OwnU V W0.heap.size t18 g2 l2 rc2 P2 zs2 ∧ UN V t13 P1 ∧ (P1 ≠ 0 → ∃ g1 l1 rc1 zs1, OwnU V W0.heap.size t13 g1 l1 rc1 P1 zs1 ∧ g1 ≠ g2)) ∧ Hid (DD 10 = true → t7 = t13) ∧ Hid (DD 11 = true → t8 = t18) ∧ Below W0.heap.size W0 V)
    ⟨_, _, _, _, _, _, _, _, _, _, _, _, rfl, hidD (fun h => by cases h), hidD (fun h => by cases h), hidD (fun h => by cases h), hidD (fun h => by cases h), hidD (fun h => by cases h), hidD (fun h => by cases h), hidD (fun h => by cases h), hidD (fun h => by cases h), hidD (fun h => by cases h), hidD (fun h => by cases h), hidD (fun h => by cases h), hidD (fun h => by cases h), (Below.refl _ W0).drew⟩ ?step1 ?fin1
  case step1 =>
    rintro DD a2 V i ds hcl2 hi2 hds hDi ⟨t7, t8, t9, t10, t11, t12, t13, t14, t15, t16, t17, t18, rfl, g0, g1, g2, g3, g4, g5, g6, g7, g8, g9, g10, g11, hq⟩
    have hi12 : i < 12 := (List.getElem?_eq_some_iff.1 hi2).1
    obtain rfl | rfl | rfl | rfl | rfl | rfl | rfl | rfl | rfl | rfl | rfl | rfl : i = 0 ∨ i = 1 ∨ i = 2 ∨ i = 3 ∨ i = 4 ∨ i = 5 ∨ i = 6 ∨ i = 7 ∨ i = 8 ∨ i = 9 ∨ i = 10 ∨ i = 11 := by omega
    all_goals
      simp only [List.getElem?_cons_zero, List.getElem?_cons_succ, Option.some.injEq] at hi2
      subst hi2
      clear hi12
    · clear hds hcl2
      refine wpOp_go2 rfl rfl (fun K hK => ?_)
      go_simp
      exact hK _ _ ⟨_, _, _, _, _, _, _, _, _, _, _, _, rfl, hidD (fun _ => rfl), g1, g2, g3, g4, g5, g6, g7, g8, g9, g10, g11, hq⟩
    · clear hds hcl2
      refine wpOp_go2 rfl rfl (fun K hK => ?_)
      go_simp
      exact hK _ _ ⟨_, _, _, _, _, _, _, _, _, _, _, _, rfl, g0, hidD (fun _ => rfl), g2, g3, g4, g5, g6, g7, g8, g9, g10, g11, hq⟩
    · obtain rfl := g1.out (hds 1 (by simp))
      have k0 := (bx.below hq).c0
      clear hds hcl2
      refine wpOp_go2 rfl rfl (fun K hK => ?_)
      go_simp
      exact hK _ _ ⟨_, _, _, _, _, _, _, _, _, _, _, _, rfl, g0, hidD (fun _ => rfl), hidD (fun _ => rfl), g3, g4, g5, g6, g7, g8, g9, g10, g11, hq⟩
    · have hf4 : DD 4 = false := by
        cases h : DD 4 with
        | false => rfl
        | true => rw [hcl2 4 _ rfl h 3 (by simp)] at hDi; cases hDi
      obtain rfl := g2.out (hds 2 (by simp))
      clear hds hcl2
      refine wpOp_go2 rfl rfl (fun K hK => ?_)
      go_simp
      exact hK _ _ ⟨_, _, _, _, _, _, _, _, _, _, _, _, rfl, g0, g1, hidD (fun _ => rfl), hidD (fun _ => ⟨_, rfl, Arr.made (xs := [ma]) (World.alloc_heap_new V _)⟩), hidD (fun h => by simp [hf4] at h), g5, g6, g7, hidD (fun h => by obtain ⟨g, e, q⟩ := g8.out h; exact ⟨g, e, q.below ((Below.refl _ V).alloc (Nat.le_refl _) _)⟩), hidD (fun h => by obtain ⟨g2, l2, rc2, zs2, q1, q2, q3⟩ := g9.out h; exact ⟨g2, l2, rc2, zs2, q1.below ((Below.refl _ V).alloc (Nat.le_refl _) _), q2.below ((Below.refl _ V).alloc (Nat.le_refl _) _), fun h1 => by obtain ⟨g1, l1, rc1, zs1, q, q4⟩ := q3 h1; exact ⟨g1, l1, rc1, zs1, q.below ((Below.refl _ V).alloc (Nat.le_refl _) _), q4⟩⟩), g10, g11, hq.alloc hq.size _⟩
    · have hf9 : DD 9 = false := by
        cases h : DD 9 with
        | false => rfl
        | true => rw [hcl2 9 _ rfl h 4 (by simp)] at hDi; cases hDi
      have hf10 : DD 10 = false := by
        cases h : DD 10 with
        | false => rfl
        | true => rw [hcl2 10 _ rfl h 4 (by simp)] at hDi; cases hDi
      obtain rfl := g0.out (hds 0 (by simp))
      obtain ⟨gm, rfl, hgm⟩ := g3.out (hds 3 (by simp))
      clear hds hcl2
      refine wpOp_go2 rfl rfl (fun K hK => ?_)
      go_simp
      go_wp2_with (go_at_call 36; refine (HT1.out _ _ hq hgm).mono ?_; rintro e w5 ⟨u5, rfl, hu5, ho5, hb5⟩)
      exact ⟨_, _, _, _, _, _, _, _, _, _, _, _, rfl, hidD (fun _ => rfl), g1, g2, hidD (fun _ => ⟨gm, rfl, hgm.below hb5⟩), hidD (fun _ => ⟨hu5, fun h1 => by obtain ⟨g1, l1, rc1, zs1, q⟩ := ho5 h1; exact ⟨g1, l1, rc1, zs1, q.1, q.2.1, q.2.2.1, q.2.2.2.1, q.2.2.2.2.1, q.2.2.2.2.2.1, q.2.2.2.2.2.2.1, q.2.2.2.2.2.2.2.1, Nat.le_trans hq.size q.2.2.2.2.2.2.2.2⟩⟩), g5, g6, g7, hidD (fun h => by obtain ⟨g, e, q⟩ := g8.out h; exact ⟨g, e, q.below (hb5)⟩), hidD (fun h => by simp [hf9] at h), hidD (fun h => by simp [hf10] at h), g11, hq.trans (hb5.mono hq.size)⟩
    · clear hds hcl2
      refine wpOp_go2 rfl rfl (fun K hK => ?_)
      go_simp
      exact hK _ _ ⟨_, _, _, _, _, _, _, _, _, _, _, _, rfl, g0, g1, g2, g3, g4, hidD (fun _ => rfl), g6, g7, g8, g9, g10, g11, hq⟩
    · clear hds hcl2
      refine wpOp_go2 rfl rfl (fun K hK => ?_)
      go_simp
      exact hK _ _ ⟨_, _, _, _, _, _, _, _, _, _, _, _, rfl, g0, g1, g2, g3, g4, g5, hidD (fun _ => rfl), g7, g8, g9, g10, g11, hq⟩
    · obtain rfl := g6.out (hds 6 (by simp))
      have k0 := (bx.below hq).c1
      clear hds hcl2
      refine wpOp_go2 rfl rfl (fun K hK => ?_)
      go_simp
      exact hK _ _ ⟨_, _, _, _, _, _, _, _, _, _, _, _, rfl, g0, g1, g2, g3, g4, g5, hidD (fun _ => rfl), hidD (fun _ => rfl), g8, g9, g10, g11, hq⟩
    · have hf9 : DD 9 = false := by
        cases h : DD 9 with
        | false => rfl
        | true => rw [hcl2 9 _ rfl h 8 (by simp)] at hDi; cases hDi
      obtain rfl := g7.out (hds 7 (by simp))
      clear hds hcl2
      refine wpOp_go2 rfl rfl (fun K hK => ?_)
      go_simp
      exact hK _ _ ⟨_, _, _, _, _, _, _, _, _, _, _, _, rfl, g0, g1, g2, hidD (fun h => by obtain ⟨g, e, q⟩ := g3.out h; exact ⟨g, e, q.below ((Below.refl _ V).alloc (Nat.le_refl _) _)⟩), hidD (fun h => by obtain ⟨q1, q2⟩ := g4.out h; exact ⟨q1.below ((Below.refl _ V).alloc (Nat.le_refl _) _), fun h1 => by obtain ⟨g1, l1, rc1, zs1, q⟩ := q2 h1; exact ⟨g1, l1, rc1, zs1, q.below ((Below.refl _ V).alloc (Nat.le_refl _) _)⟩⟩), g5, g6, hidD (fun _ => rfl), hidD (fun _ => ⟨_, rfl, Arr.made (xs := [mb]) (World.alloc_heap_new V _)⟩), hidD (fun h => by simp [hf9] at h), g10, g11, hq.alloc hq.size _⟩
    · have hf11 : DD 11 = false := by
        cases h : DD 11 with
        | false => rfl
        | true => rw [hcl2 11 _ rfl h 9 (by simp)] at hDi; cases hDi
      obtain rfl := g5.out (hds 5 (by simp))
      obtain ⟨gm, rfl, hgm⟩ := g8.out (hds 8 (by simp))
      obtain ⟨p1, p2⟩ := g4.out (hds 4 (by simp))
      clear hds hcl2
      refine wpOp_go2 rfl rfl (fun K hK => ?_)
      go_simp
      go_wp2_with (go_at_call 36; refine (HT2.out _ _ hq hgm).mono ?_; rintro e w5 ⟨u5, rfl, hu5, ho5, hb5⟩)
      exact ⟨_, _, _, _, _, _, _, _, _, _, _, _, rfl, g0, g1, g2, hidD (fun h => by obtain ⟨g, e, q⟩ := g3.out h; exact ⟨g, e, q.below (hb5)⟩), hidD (fun h => by obtain ⟨q1, q2⟩ := g4.out h; exact ⟨q1.below (hb5), fun h1 => by obtain ⟨g1, l1, rc1, zs1, q⟩ := q2 h1; exact ⟨g1, l1, rc1, zs1, q.below (hb5)⟩⟩), hidD (fun _ => rfl), g6, g7, hidD (fun _ => ⟨gm, rfl, hgm.below hb5⟩), hidD (fun _ => by obtain ⟨g2, l2, rc2, zs2, q⟩ := ho5 h0; exact ⟨g2, l2, rc2, zs2, ⟨q.1, q.2.1, q.2.2.1, q.2.2.2.1, q.2.2.2.2.1, q.2.2.2.2.2.1, q.2.2.2.2.2.2.1, q.2.2.2.2.2.2.2.1, Nat.le_trans hq.size q.2.2.2.2.2.2.2.2⟩, p1.below hb5, fun h1 => by obtain ⟨g1, l1, rc1, zs1, r⟩ := p2 h1; exact ⟨g1, l1, rc1, zs1, r.below hb5, by have := r.2.1.lt; have := q.2.2.2.2.2.2.2.2; omega⟩⟩), g10, hidD (fun h => by simp [hf11] at h), hq.trans (hb5.mono hq.size)⟩
    · clear hds hcl2
      refine wpOp_go2 rfl rfl (fun K hK => ?_)
      go_simp
      exact hK _ _ ⟨_, _, _, _, _, _, _, _, _, _, _, _, rfl, g0, g1, g2, g3, g4, g5, g6, g7, g8, g9, hidD (fun _ => rfl), g11, hq⟩
    · clear hds hcl2
      refine wpOp_go2 rfl rfl (fun K hK => ?_)
      go_simp
      exact hK _ _ ⟨_, _, _, _, _, _, _, _, _, _, _, _, rfl, g0, g1, g2, g3, g4, g5, g6, g7, g8, g9, g10, hidD (fun _ => rfl), hq⟩
  rintro DD a2x V1 hDD ⟨t7, t8, t9, t10, t11, t12, t13, t14, t15, t16, t17, t18, rfl, g0, g1, g2, g3, g4, g5, g6, g7, g8, g9, g10, g11, hq⟩
  obtain ⟨gB, l2, rc2, zs2, o2, hu1, o1⟩ := g9.out (hDD 9 (by decide))
  obtain rfl := g10.out (hDD 10 (by decide))
  obtain rfl := g11.out (hDD 11 (by decide))
  obtain ⟨a1, c1, rfl⟩ := UN.form hu1
  have hu2 := o2.un
  obtain ⟨a2, c2, rfl⟩ := UN.form hu2
  clear g0 g1 g2 g3 g4 g5 g6 g7 g8 g9 g10 g11 hDD HT1 HT2
  have hne : ∀ p, a1 = some p → 0 < (limbs B64 P1).length → p.block ≠ gB := fun p e h1 => by
    have hp : P1 ≠ 0 := fun e0 => by rw [e0, limbs_zero] at h1; simp at h1
    obtain ⟨g1, l1, rc1, zs1, r, r2⟩ := o1 hp
    have := r.1
    injection this with e1 e2 e3
    rw [e1] at e
    cases e
    exact r2
  have HO := hidD (morder_c _ _ (limbs B64 P1) (limbs B64 P2) V1 hu1 hu2 (dig_limbs two_le_B64 P1) (dig_limbs two_le_B64 P2) (top_limbs two_le_B64 P1) (top_limbs two_le_B64 P2))
  rw [val_limbs two_le_B64, val_limbs two_le_B64] at HO
  have hB1 : Below w.heap.size w V1 := hB0.trans (hq.mono hB0.size)
  have hle1 : W0.heap.size ≤ gB := o2.2.2.2.2.2.2.2.2
  by_cases hlt : P1 < P2
  · have hcm := cmpN_lt hlt
    rw [hcm] at HO
    have HTO := hidD (fun (V : World) (h : Below V1.heap.size V1 V) => takeOff_own (o2.below h) a1 (limbs B64 P1).length c1 (hu1.below h) (by omega) hne)
    have HD := hidD (show P2 - P1 = dist P1 P2 by unfold dist; omega)
    clear hcm hu1 hu2 o1 hne
    go_upto_region 4 with (go_at_call 37; refine HO.out.mono ?_; rintro e w2 ⟨rfl, hb2⟩)
    go_upto_region 5 with (go_at_call 54; refine (HTO.out _ hb2).mono ?_; rintro e w3 ⟨c, q, rfl, ⟨hr, hq3⟩, hg3⟩)
    have HTR := hidD (trimmed_c _ q _ hr)
    rw [hq3, HD.out] at HTR
    clear HTO HO
    go_wp2_with (go_at_call 47; refine HTR.out.mono ?_; rintro e w4 ⟨u, rfl, hu, hb4⟩; obtain ⟨ua, uc, rfl⟩ := UN.form hu)
    go_ret
    have hB3 : Below w.heap.size w w3 := below_grown (hB1.trans (hb2.mono hB1.size)) hg3 (Nat.le_trans hB0.size hle1)
    exact ⟨_, rfl, hu, hB3.trans (hb4.mono hB3.size)⟩
  · obtain ⟨cm, hcm, hc0⟩ : ∃ cm : Int, cmpN P1 P2 = cm ∧ ¬ (cm < 0) := ⟨_, rfl, by unfold cmpN; rw [if_neg hlt]; split <;> omega⟩
    rw [hcm] at HO
    obtain ⟨g1, l1, rc1, zs1, r, r2⟩ := o1 (by omega)
    have hle2 : W0.heap.size ≤ g1 := r.2.2.2.2.2.2.2.2
    have HTO := hidD (fun (V : World) (h : Below V1.heap.size V1 V) => takeOff_own (r.below h) a2 (limbs B64 P2).length c2 (hu2.below h) (by omega) (fun p e _ => by
      have := o2.1
      injection this with e1 e2 e3
      rw [e1] at e
      cases e
      exact fun h => r2 h.symm))
    have HD := hidD (show P1 - P2 = dist P1 P2 by unfold dist; omega)
    clear hcm hu1 hu2 o1 hne
    go_upto_region 4 with (go_at_call 37; refine HO.out.mono ?_; rintro e w2 ⟨rfl, hb2⟩)
    go_upto_region 5 with (go_at_call 54; refine (HTO.out _ hb2).mono ?_; rintro e w3 ⟨c, q, rfl, ⟨hr, hq3⟩, hg3⟩)
    have HTR := hidD (trimmed_c _ q _ hr)
    rw [hq3, HD.out] at HTR
    clear HTO HO
    go_wp2_with (go_at_call 47; refine HTR.out.mono ?_; rintro e w4 ⟨u, rfl, hu, hb4⟩; obtain ⟨ua, uc, rfl⟩ := UN.form hu)
    go_ret
    have hB3 : Below w.heap.size w w3 := below_grown (hB1.trans (hb2.mono hB1.size)) hg3 (Nat.le_trans hB0.size hle2)
    exact ⟨_, rfl, hu, hB3.trans (hb4.mono hB3.size)⟩
end Go.Proofs.YtjmmnpfedhkjbaaGreatDoor
namespace Go.Proofs.YtjmmnpfedhkjbaaGreatDoor
open Go.RowKit Go.Shelf

/-- The highest word of x, shifted up by s, as if it had k + 2 words. -/
def topOf (x k s : Nat) : Nat := x / (B64 ^ k * 2 ^ (64 - s))

theorem topOf_full {us : List Nat} {k s : Nat} (hl : us.length = k + 2) (xu : Dig B64 us) (hs : s ≤ 63) (ht : us[k + 1]?.getD 0 < 2 ^ (64 - s)) :
    topOf (val B64 us) k s = shl (us[k + 1]?.getD 0) s + shr (us[k]?.getD 0) (64 - s) ∧ shl (us[k + 1]?.getD 0) s ||| shr (us[k]?.getD 0) (64 - s) = shl (us[k + 1]?.getD 0) s + shr (us[k]?.getD 0) (64 - s) := by
  have hv := val_top2 hl
  have hlo := val_take_lt xu k
  have hx := xu.getD (show 0 < B64 by unfold B64; omega) k
  have hp := pow_split (s := s) (by omega)
  have e1 : shl (us[k + 1]?.getD 0) s = us[k + 1]?.getD 0 * 2 ^ s := by rw [shl_eq (by omega), Nat.mod_eq_of_lt ht]
  rw [e1]
  have hsr : shr (us[k]?.getD 0) (64 - s) < 2 ^ s := by
    unfold shr
    rw [Nat.div_lt_iff_lt_mul (Nat.two_pow_pos _), hp]; exact hx
  refine ⟨?_, by rw [Nat.mul_comm, ← Nat.two_pow_add_eq_or_of_lt hsr]⟩
  unfold topOf shr
  rw [hv, ← Nat.div_div_eq_div_mul, Nat.mul_comm _ (B64 ^ k), Nat.mul_add_div (Nat.pow_pos (by unfold B64; omega)), Nat.div_eq_of_lt hlo, Nat.add_zero, ← hp, ← Nat.mul_assoc, Nat.add_comm, Nat.add_mul_div_right _ _ (Nat.two_pow_pos _)]
  omega

theorem topOf_less {us : List Nat} {k s : Nat} (hl : us.length = k + 1) (xu : Dig B64 us) : topOf (val B64 us) k s = shr (us[k]?.getD 0) (64 - s) := by
  have hv := val_take_succ B64 us k
  rw [List.take_of_length_le (by omega)] at hv
  have hlo := val_take_lt xu k
  unfold topOf shr
  rw [hv, ← Nat.div_div_eq_div_mul, Nat.add_comm, Nat.mul_add_div (Nat.pow_pos (by unfold B64; omega)), Nat.div_eq_of_lt hlo, Nat.add_zero]

theorem topOf_none {us : List Nat} {k s : Nat} (hl : us.length ≤ k) (xu : Dig B64 us) : topOf (val B64 us) k s = 0 := by
  unfold topOf
  apply Nat.div_eq_of_lt
  have h1 := val_lt xu
  have h2 : B64 ^ us.length ≤ B64 ^ k := Nat.pow_le_pow_right (by unfold B64; omega) hl
  have h3 := Nat.le_mul_of_pos_right (B64 ^ k) (Nat.two_pow_pos (64 - s))
  omega

set_option maxRecDepth 100000 in
set_option maxHeartbeats 2000000 in
theorem top_c (a : Option Addr) (la ca : Nat) (us : List Nat) (k k1 nn s : Nat) (w : World) (ra : Row .u64 w (.slice a la ca) us) (xu : Dig B64 us) (hnn : nn = k + 2) (h1 : (nn : Int) - 1 = k1) (h2 : (nn : Int) - 2 = k) (hs : s ≤ 63) (hln : la ≤ nn) (hn : nn ≤ 1099511627776) (ht : la = nn → us[k + 1]?.getD 0 < 2 ^ (64 - s)) :
    Calls Tryz.prog 75 #[.slice a la ca, .int .i64 (nn : Nat), .int .u64 (s : Nat)] w fun e w' => e = .returned (.int .u64 (topOf (val B64 us) k s : Nat)) ∧ Below w.heap.size w w' := by
  obtain ⟨hl, hc, hm, hk, hf⟩ := row_fn ra
  have i1 : IntKind.i64.wrap ((nn : Int) - 1) = (k1 : Int) := by rw [h1]; exact IntWalk.i64_in _ (by omega)
  have i2 : IntKind.i64.wrap ((nn : Int) - 2) = (k : Int) := by rw [h2]; exact IntWalk.i64_in _ (by omega)
  have i3 : IntKind.i64.wrap (k1 : Int) = (k1 : Int) := IntWalk.i64_in _ (by omega)
  have i4 : IntKind.i64.wrap (k : Int) = (k : Int) := IntWalk.i64_in _ (by omega)
  have i5 : IntKind.u64.wrap ((64 : Int) - s) = ((64 - s : Nat) : Int) := by rw [IntKind.wrap_u64]; omega
  have e1 := shl_int (us[k + 1]?.getD 0) s
  have e2 := shr_int (us[k]?.getD 0) (64 - s)
  have hx1 := xu.getD (show 0 < B64 by unfold B64; omega) k
  have e3 := or_int (show shl (us[k + 1]?.getD 0) s < B64 by unfold shl; exact Nat.mod_lt _ (by unfold B64; omega)) (show shr (us[k]?.getD 0) (64 - s) < B64 from Nat.lt_of_le_of_lt (Nat.div_le_self _ _) hx1)
  obtain rfl | hne := Decidable.em (la = nn)
  · obtain ⟨b, off, rfl, hbb, c1⟩ := hf (k + 1) (by omega)
    obtain ⟨_, _, ee, _, c0⟩ := hf k (by omega)
    cases ee
    obtain ⟨t1, t2⟩ := topOf_full (by omega) xu hs (ht rfl)
    rw [t2] at e3
    have HT := hidD t1
    have hk1 : k1 = k + 1 := by omega
    rw [← hk1] at c1 e1 e3 HT
    have j1 : (k1 : Int) < (la : Int) := by omega
    have j2 : (k : Int) < (la : Int) := by omega
    have j3 : (0 : Int) ≤ (k1 : Int) := by omega
    have j4 : (0 : Int) ≤ (k : Int) := by omega
    have j5 : k1 < la := by omega
    have j6 : k < la := by omega
    clear hk1 hf ra t1 t2 ht hl hnn hx1
    generalize us[k1]?.getD 0 = x1 at *
    generalize us[k]?.getD 0 = x0 at *
    go_enter Tryz.func75, Tryz.ntmps75
    go_upto_region 3 with fail
    go_quiet (fail)
    go_wp2_with fail
    go_ret
    refine ⟨?_, below_dn (Below.refl _ w) _⟩
    rw [HT.out]
    first | rfl | (simp; done)
  · by_cases h3 : la = k1
    · subst h3
      obtain ⟨b, off, rfl, hbb, c0⟩ := hf k (by omega)
      have HT := hidD (topOf_less (s := s) (show us.length = k + 1 by omega) xu)
      have j6 : k < la := by omega
      have hni : ¬ ((la : Int) = (nn : Int)) := by omega
      clear hf ra ht hl hnn hx1 e3 e1
      generalize us[k]?.getD 0 = x0 at *
      go_enter Tryz.func75, Tryz.ntmps75
      go_wp2_with fail
      go_ret
      refine ⟨?_, Below.refl _ w⟩
      rw [HT.out]
      first | rfl | (simp; done)
    · have HT := hidD (topOf_none (s := s) (show us.length ≤ k by omega) xu)
      have hni : ¬ ((la : Int) = (nn : Int)) := by omega
      have hni2 : ¬ ((la : Int) = (k1 : Int)) := by omega
      clear hf ra ht hl hnn hx1 e1 e2 e3
      go_enter Tryz.func75, Tryz.ntmps75
      go_wp2_with fail
      go_ret
      refine ⟨?_, Below.refl _ w⟩
      rw [HT.out]
      first | rfl | (simp; done)
end Go.Proofs.YtjmmnpfedhkjbaaGreatDoor
