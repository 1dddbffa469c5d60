import Derived.Test.YteldjhhjnchdeaaGreatDoorK24
import Derived.Test.YteldjhhjnchdeaaGreatDoorK04
import Derived.Test.YteldjhhjnchdeaaGreatDoorK09
import Derived.Lib.BitFns
namespace Go.Proofs.YteldjhhjnchdeaaGreatDoor
open Go.RowKit Go.Shelf

attribute [local go_sem] Oper.semAt_some

theorem bigOf {W : World} {a : Option Addr} {l c n : Nat} (h : RN W (.slice a l c) n) : IsBig W (.agg #[.slice a l c, .bool false]) (n : Int) := by
  refine ⟨a, l, c, ?_, by rw [Int.natAbs_natCast]; exact h⟩
  have : decide ((n : Int) < 0) = false := decide_eq_false (by omega)
  rw [this]

theorem rnOf {W : World} {a : Option Addr} {l c : Nat} {q : Bool} {n : Nat} {z : Int} (h : IsBig W (.agg #[.slice a l c, .bool q]) z) (hz : z = (n : Int)) : RN W (.slice a l c) n ∧ q = false := by
  obtain ⟨a', l', c', e, hr⟩ := h
  simp only [Value.agg.injEq, Array.mk.injEq, List.cons.injEq, Value.slice.injEq, Value.bool.injEq, and_true] at e
  obtain ⟨⟨rfl, rfl, rfl⟩, e2⟩ := e
  rw [hz, Int.natAbs_natCast] at hr
  refine ⟨hr, ?_⟩
  rw [e2, hz]
  exact decide_eq_false (by omega)

set_option maxRecDepth 100000 in
set_option maxHeartbeats 2000000 in
theorem rdigit_c (a : Option Addr) (la ca : Nat) (b : Option Addr) (lb cb m n : Nat) (w : World) (ra : RN w (.slice a la ca) m) (rb : RN w (.slice b lb cb) n) (hmn : m < n * 10000) (hlb : lb ≤ 1000000000) :
    Calls Tryz.prog 162 #[.slice a la ca, .slice b lb cb] w fun e w' => e = .returned (.int .i64 ((m / n : Nat) : Int)) ∧ Below w.heap.size w w' := by
  have hsz : szB (n : Int) ≤ 1000000000 := by unfold szB; rw [Int.natAbs_natCast, ← (row_fn rb).1]; exact hlb
  have HSZ := hidD hsz
  have HRA := hidD ra
  have HRB := hidD rb
  have HMN := hidD hmn
  clear ra rb hmn hsz
  go_enter Tryz.func162, Tryz.ntmps162
  go_wp2_with fail
  go_loopw [5, 6] (fun lv hv wr => ∃ lo hi : Nat, lv = .int .i64 (lo : Nat) ∧ hv = .int .i64 (hi : Nat) ∧ lo < hi ∧ hi ≤ 10000 ∧ Hid (n * lo ≤ m ∧ m < n * hi) ∧ Below w.heap.size w wr)
    (fun lv hv _ => (intOf hv - intOf lv).toNat)
  case atStart => exact ⟨0, 10000, rfl, rfl, by omega, by omega, hidD ⟨by omega, HMN.out⟩, Below.refl _ w⟩
  case round =>
    obtain ⟨lo, hi, rfl, rfl, h1, h2, HI, hB⟩ := hrel
    obtain ⟨df, hdf⟩ : ∃ df : Nat, (hi : Int) - (lo : Int) = (df : Int) := ⟨hi - lo, by omega⟩
    have w1 : IntKind.i64.wrap (df : Int) = (df : Int) := IntWalk.i64_in _ (by omega)
    by_cases hgo : 1 < df
    · obtain ⟨sm, hsm⟩ : ∃ sm : Nat, (lo : Int) + (hi : Int) = (sm : Int) := ⟨lo + hi, by omega⟩
      have w2 : IntKind.i64.wrap (sm : Int) = (sm : Int) := IntWalk.i64_in _ (by omega)
      obtain ⟨md, hmd⟩ : ∃ md : Nat, (sm : Int) / 2 = (md : Int) := ⟨sm / 2, by omega⟩
      have w3 : IntKind.i64.wrap (md : Int) = (md : Int) := IntWalk.i64_in _ (by omega)
      have h3 : lo < md ∧ md < hi := by omega
      have HOF := hidD (of_c (md : Nat) (by omega) (by omega) wr)
      have HTM := hidD (fun (V : World) (u : Value) (h : Below wr.heap.size wr V) (hu : IsBig V u (md : Nat)) => rtimes_c (.agg #[.slice b lb cb, .bool false]) u (n : Nat) (md : Nat) V (bigOf (RN.below (RN.below HRB.out hB) h)) hu HSZ.out (int_szB (by omega) (by omega)))
      obtain ⟨cm, hcm⟩ : ∃ cm : Int, cmpN (n * md) m = cm := ⟨_, rfl⟩
      have HOR := hidD (show ∀ (V : World) (u : Value), Below wr.heap.size wr V → RN V u (n * md) → Calls Tryz.prog 114 #[u, .slice a la ca] V fun e w' => e = .returned (.int .i64 cm) ∧ Below V.heap.size V w' from fun V u h hu => by
        have h1 := order_c 10000 (by omega) u (.slice a la ca) (limbs 10000 (n * md)) (limbs 10000 m) V hu (RN.below (RN.below HRA.out hB) h) (dig_limbs (by omega) _) (dig_limbs (by omega) _) (top_limbs (by omega) _) (top_limbs (by omega) _)
        rw [val_limbs (by omega), val_limbs (by omega), hcm] at h1
        exact h1)
      have HCM := hidD hcm
      clear hcm
      go_upto_region 6 with (first
        | (go_at_call 79; refine HOF.out.mono ?_; rintro e w5 ⟨u5, rfl, hu5, hb5⟩; obtain ⟨a5, l5, c5, rfl⟩ := hu5.form; obtain ⟨s5, hs5⟩ : ∃ q, decide (((md : Nat) : Int) < 0) = q := ⟨_, rfl⟩; rw [hs5] at hu5; rw [hs5]; clear hs5)
        | (go_at_call 82; refine (HTM.out _ _ hb5 hu5).mono ?_; rintro e w6 ⟨u6, rfl, hu6, hb6⟩; obtain ⟨a6, l6, c6, rfl⟩ := hu6.form; obtain ⟨s6, hs6⟩ : ∃ q, decide (((n : Nat) : Int) * ((md : Nat) : Int) < 0) = q := ⟨_, rfl⟩; rw [hs6] at hu6; rw [hs6]; clear hs6))
      obtain ⟨hr6, rfl⟩ := rnOf (n := n * md) hu6 (by rw [Int.natCast_mul])
      have bx := Box2.new w6 83 (.slice a6 l6 c6) (.bool false)
      obtain ⟨W7, hW7⟩ : ∃ W7, w6.alloc (.cells #[.slice a6 l6 c6, .bool false] 83) = W7 := ⟨_, rfl⟩
      have hb7 : Below wr.heap.size wr W7 := by rw [← hW7]; exact ((hb5.trans (hb6.mono hb5.size)).alloc (hb5.trans (hb6.mono hb5.size)).size _)
      have hr7 : RN W7 (.slice a6 l6 c6) (n * md) := by rw [← hW7]; exact RN.below hr6 ((Below.refl _ w6).alloc (Nat.le_refl _) _)
      rw [hW7] at bx ⊢
      have k0 := bx.c0
      have k1 := bx.c1
      clear hW7 HOF HTM hu5 hu6 hr6
      have hB7 : Below w.heap.size w W7 := hB.trans (hb7.mono hB.size)
      by_cases hle : cm ≤ 0
      · have hle2 : n * md ≤ m := by
          have h := HCM.out
          unfold cmpN at h
          split at h
          · omega
          · split at h <;> omega
        go_wp2_with (go_at_call 114; refine (HOR.out _ _ hb7 hr7).mono ?_; rintro e w8 ⟨rfl, hb8⟩)
        exact ⟨⟨md, hi, rfl, rfl, by omega, h2, hidD ⟨hle2, HI.out.2⟩, hB7.trans (hb8.mono hB7.size)⟩, by simp [intOf]; omega⟩
      · have hle2 : m < n * md := by
          have h := HCM.out
          unfold cmpN at h
          split at h
          · omega
          · split at h
            · assumption
            · omega
        go_wp2_with (go_at_call 114; refine (HOR.out _ _ hb7 hr7).mono ?_; rintro e w8 ⟨rfl, hb8⟩)
        exact ⟨⟨lo, md, rfl, rfl, by omega, by omega, hidD ⟨HI.out.1, hle2⟩, hB7.trans (hb8.mono hB7.size)⟩, by simp [intOf]; omega⟩
    · have HE := hidD (show m / n = lo by
        obtain ⟨e1, e2⟩ := HI.out
        have e3 : hi = lo + 1 := by omega
        rw [e3, Nat.mul_add, Nat.mul_one] at e2
        apply Nat.le_antisymm
        · apply Nat.le_of_lt_succ
          rw [Nat.div_lt_iff_lt_mul (by omega), Nat.succ_mul, Nat.mul_comm lo]
          exact e2
        · rw [Nat.le_div_iff_mul_le (by omega), Nat.mul_comm]
          exact e1)
      go_wp2_with fail
      go_ret
      exact ⟨by rw [HE.out]; rfl, hB⟩
end Go.Proofs.YteldjhhjnchdeaaGreatDoor
namespace Go.Proofs.YteldjhhjnchdeaaGreatDoor
open Go.RowKit Go.Shelf

attribute [local go_sem] Oper.semAt_some

end Go.Proofs.YteldjhhjnchdeaaGreatDoor
namespace Go.Proofs.YteldjhhjnchdeaaGreatDoor
open Go.RowKit Go.Shelf

attribute [local go_sem] Oper.semAt_some

theorem bits_top : ∀ k : Fin 201, k.val ≠ 0 → k.val / 2 ^ (Lib.bitLen k.val - 1) = 1 ∧ 1 ≤ Lib.bitLen k.val ∧ Lib.bitLen k.val ≤ 8 := by decide +kernel

theorem pow_words {m e la : Nat} (h : la = (limbs B64 m).length) : (limbs B64 (m ^ e)).length ≤ la * e + 1 := by
  have h1 := val_lt (dig_limbs two_le_B64 m)
  rw [val_limbs two_le_B64, ← h] at h1
  have h2 : m ^ e ≤ B64 ^ (la * e) := by
    rw [Nat.pow_mul]
    exact Nat.pow_le_pow_left (Nat.le_of_lt h1) e
  have h3 : B64 ^ (la * e) < B64 ^ (la * e + 1) := Nat.pow_lt_pow_right (by unfold B64; omega) (by omega)
  exact limbs_length_le two_le_B64 (Nat.lt_of_le_of_lt h2 h3)

theorem pow_words1 {m e la : Nat} (h : la = (limbs B64 m).length) (he : 0 < e) : (limbs B64 (m ^ e)).length ≤ la * e := by
  have h1 := val_lt (dig_limbs two_le_B64 m)
  rw [val_limbs two_le_B64, ← h] at h1
  have h2 : m ^ e < B64 ^ (la * e) := by
    rw [Nat.pow_mul]
    exact Nat.pow_lt_pow_left h1 (by omega)
  exact limbs_length_le two_le_B64 h2

theorem clone_row (a : Option Addr) (la ca : Nat) (us : List Nat) (w : World) (ra : Row .u64 w (.slice a la ca) us) :
    Calls Tryz.prog 147 #[.slice a la ca] w fun e w' => ∃ za zc, e = .returned (.slice za la zc) ∧ Row .u64 w' (.slice za la zc) us ∧ (∀ p, za = some p → 0 < la → w.heap.size ≤ p.block ∧ p.block < w'.heap.size) ∧ Below w.heap.size w w' := by
  obtain ⟨hl, hc, hm, hk, hf⟩ := row_fn ra
  rcases Nat.eq_zero_or_pos la with h0 | h0
  · subst h0
    obtain rfl : us = [] := List.eq_nil_of_length_eq_zero hl.symm
    cases a with
    | none =>
      refine (clone_nil 0 ca w).mono ?_
      rintro e w' ⟨rfl, rfl⟩
      exact ⟨none, 0, rfl, ⟨none, 0, rfl, Nat.le_refl _, by omega, by omega, Or.inl rfl⟩, fun p e _ => (by cases e), Below.refl _ _⟩
    | some p =>
      refine (clone_some p ca [] w (by simp) (fun j hj => by simp at hj)).mono ?_
      rintro e w' ⟨v', rfl, ho, hb⟩
      rcases ho.2 with ⟨ev, _⟩ | ⟨g, cap, cur, ev, _, _, h4, h5, _⟩
      · subst ev
        exact ⟨none, 0, rfl, ⟨none, 0, rfl, Nat.le_refl _, by omega, by omega, Or.inl rfl⟩, fun p e _ => (by cases e), hb⟩
      · subst ev
        exact ⟨_, cap, rfl, ⟨_, cap, rfl, Nat.zero_le _, h5, by simp, Or.inl rfl⟩, fun p _ h => by simp at h, hb⟩
  · obtain ⟨ab, ao, rfl, _, _⟩ := hf 0 h0
    have h1 := clone_some ⟨ab, ao, none⟩ ca us w (by omega) (fun j hj => by
      obtain ⟨b', o', e, hlt, hcell⟩ := hf j (by omega)
      cases e
      rw [addr_plain]
      exact hcell)
    rw [← hl] at h1
    refine h1.mono ?_
    rintro e w' ⟨v', rfl, ho, hb⟩
    rcases ho.2 with ⟨_, ev⟩ | ⟨g, cap, cur, ev, h2, h3, h4, h5, _⟩
    · omega
    · subst ev
      have hA := Arr.owns ho
      have hr := hA.row 0 la cap (by omega) h4 h5 hk
      rw [List.drop_zero, List.take_of_length_le (by omega)] at hr
      exact ⟨_, cap, rfl, hr, fun p e _ => by cases e; exact ⟨h2, hA.lt⟩, hb⟩
end Go.Proofs.YteldjhhjnchdeaaGreatDoor
namespace Go.Proofs.YteldjhhjnchdeaaGreatDoor
open Go.RowKit Go.Shelf

attribute [local go_sem] Oper.semAt_some

theorem and_one : ∀ f : Fin 201, bits BinOp.and IntKind.u64 (f.val : Int) 1 = ((f.val % 2 : Nat) : Int) := by decide +kernel

end Go.Proofs.YteldjhhjnchdeaaGreatDoor
namespace Go.Proofs.YteldjhhjnchdeaaGreatDoor
open Go.RowKit Go.Shelf

attribute [local go_sem] Oper.semAt_some

theorem pow_sign (x : Int) (k : Nat) : (if (decide (x < 0) && decide (k % 2 = 1)) = true then -((x.natAbs ^ k : Nat) : Int) else ((x.natAbs ^ k : Nat) : Int)) = x ^ k := by
  by_cases hx : x < 0
  · obtain ⟨n, rfl⟩ : ∃ n : Nat, x = -(n : Int) := ⟨x.natAbs, by omega⟩
    rw [Int.natAbs_neg, Int.natAbs_natCast]
    by_cases hk : k % 2 = 1
    · simp only [hx, hk, decide_true, Bool.and_self, if_true]
      have : (-(n : Int)) ^ k = -((n : Int) ^ k) := by
        obtain ⟨j, rfl⟩ : ∃ j, k = 2 * j + 1 := ⟨k / 2, by omega⟩
        rw [Int.pow_succ, Int.pow_succ, Int.pow_mul, Int.pow_mul, show (-(n : Int)) ^ 2 = (n : Int) ^ 2 from by rw [Int.pow_succ, Int.pow_succ, Int.pow_succ, Int.pow_succ, Int.pow_zero]; simp; exact Int.neg_mul_neg _ _]
        exact Int.mul_neg _ _
      rw [this, Int.natCast_pow]
    · simp only [hx, hk, decide_true, decide_false, Bool.and_false, Bool.false_eq_true, if_false]
      have : (-(n : Int)) ^ k = (n : Int) ^ k := by
        obtain ⟨j, rfl⟩ : ∃ j, k = 2 * j := ⟨k / 2, by omega⟩
        rw [Int.pow_mul, Int.pow_mul, show (-(n : Int)) ^ 2 = (n : Int) ^ 2 from by rw [Int.pow_succ, Int.pow_succ, Int.pow_succ, Int.pow_succ, Int.pow_zero]; simp; exact Int.neg_mul_neg _ _]
      rw [this, Int.natCast_pow]
  · simp only [hx, decide_false, Bool.false_and, Bool.false_eq_true, if_false]
    rw [Int.natCast_pow]
    congr 1
    omega

end Go.Proofs.YteldjhhjnchdeaaGreatDoor
namespace Go.Proofs.YteldjhhjnchdeaaGreatDoor
open Go.RowKit Go.Shelf

attribute [local go_sem] Oper.semAt_some

theorem szB_pow_le (x : Int) (j : Nat) : szB (x ^ j) ≤ szB x * j + 1 := by
  unfold szB
  have h1 := val_lt (dig_limbs (B := 10000) (by omega) x.natAbs)
  rw [val_limbs (by omega)] at h1
  have h2 : x.natAbs ^ j ≤ 10000 ^ ((limbs 10000 x.natAbs).length * j) := by
    rw [Nat.pow_mul]
    exact Nat.pow_le_pow_left (Nat.le_of_lt h1) j
  have h3 : (10000 : Nat) ^ ((limbs 10000 x.natAbs).length * j) < 10000 ^ ((limbs 10000 x.natAbs).length * j + 1) := Nat.pow_lt_pow_right (by omega) (by omega)
  rw [Int.natAbs_pow]
  exact limbs_length_le (by omega) (Nat.lt_of_le_of_lt h2 h3)

end Go.Proofs.YteldjhhjnchdeaaGreatDoor
