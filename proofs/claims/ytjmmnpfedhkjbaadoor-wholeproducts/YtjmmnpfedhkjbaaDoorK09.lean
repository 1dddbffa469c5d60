import Derived.Test.YtjmmnpfedhkjbaaDoorK08
import Derived.Lib.BitFns
namespace Go.Proofs.YtjmmnpfedhkjbaaDoor
open Go.RowKit Go.Shelf

theorem bitLen_spec (x : Nat) (h0 : x ≠ 0) (hx : x < 2 ^ 64) : 1 ≤ Lib.bitLen x ∧ 2 ^ (Lib.bitLen x - 1) ≤ x ∧ x < 2 ^ Lib.bitLen x := by
  induction x using Nat.strongRecOn with
  | ind x ih =>
    have e := Lib.bitLen_half x h0 hx
    by_cases h1 : x / 2 = 0
    · have h2 : x = 1 := by omega
      subst h2
      rw [e]
      have : Lib.bitLen (1 / 2) = 0 := by decide
      rw [this]
      decide
    · obtain ⟨i1, i2, i3⟩ := ih (x / 2) (by omega) h1 (by omega)
      rw [e]
      refine ⟨by omega, ?_, ?_⟩
      · rw [show 1 + Lib.bitLen (x / 2) - 1 = Lib.bitLen (x / 2) - 1 + 1 from by omega, Nat.pow_succ]
        omega
      · rw [Nat.add_comm, Nat.pow_succ]
        omega

theorem div_shift {lo s : Nat} (hs : s ≤ 63) (hlo : lo < 2 ^ 64) : lo / 2 ^ (64 - s) < 2 ^ s := by
  rw [Nat.div_lt_iff_lt_mul (Nat.two_pow_pos _), ← Nat.pow_add, show s + (64 - s) = 64 from by omega]
  exact hlo

theorem half_join (U L : Nat) : (U * 4294967296 + L / 4294967296) * 4294967296 + L % 4294967296 = U * 18446744073709551616 + L := by
  have h := Nat.div_add_mod L 4294967296
  rw [Nat.add_mul, Nat.mul_assoc, Nat.add_assoc, Nat.mul_comm (L / 4294967296), h]

theorem div64_c (hi lo y : Nat) (hhi : hi < y) (hlo : lo < B64) (hy : y < B64) (w : World) :
    Calls Tryd.prog 63 #[.int .u64 (hi : Nat), .int .u64 (lo : Nat), .int .u64 (y : Nat)] w fun e w' => e = .returned (.tuple #[.int .u64 (((hi * B64 + lo) / y : Nat) : Int), .int .u64 (((hi * B64 + lo) % y : Nat) : Int)]) ∧ Below w.heap.size w w' := by
  have hb : B64 = 2 ^ 64 := by unfold B64; decide
  by_cases h0 : hi = 0
  · subst h0
    rw [Nat.zero_mul, Nat.zero_add]
    unfold B64 at hlo hy
    exact div64_0 lo y hlo hhi hy w
  · rw [hb] at hlo hy
    have hy0 : y ≠ 0 := by omega
    obtain ⟨l1, l2, l3⟩ := bitLen_spec y hy0 hy
    have l4 : Lib.bitLen y ≤ 64 := Lib.bitLen_le y 64 (by omega) hy
    obtain ⟨s, hs⟩ : ∃ s, s = 64 - Lib.bitLen y := ⟨_, rfl⟩
    have hs63 : s ≤ 63 := by omega
    have hp := Nat.two_pow_pos s
    have y1 : y * 2 ^ s < 2 ^ 64 := by
      have h1 : y * 2 ^ s < 2 ^ Lib.bitLen y * 2 ^ s := Nat.mul_lt_mul_of_pos_right l3 hp
      rw [← Nat.pow_add, show Lib.bitLen y + s = 64 from by omega] at h1
      exact h1
    have y2 : 2 ^ 63 ≤ y * 2 ^ s := by
      have h1 : 2 ^ (Lib.bitLen y - 1) * 2 ^ s ≤ y * 2 ^ s := Nat.mul_le_mul_right _ l2
      rw [← Nat.pow_add, show Lib.bitLen y - 1 + s = 63 from by omega] at h1
      exact h1
    have hh : hi * 2 ^ s + 2 ^ s ≤ y * 2 ^ s := by
      have h1 : (hi + 1) * 2 ^ s ≤ y * 2 ^ s := Nat.mul_le_mul_right _ hhi
      rw [Nat.add_mul, Nat.one_mul] at h1
      exact h1
    have hd := div_shift hs63 hlo
    have hnum : (2 : Nat) ^ 64 = 18446744073709551616 := by decide
    have hnum3 : (2 : Nat) ^ 63 = 9223372036854775808 := by decide
    obtain ⟨Y, hY⟩ : ∃ Y, Y = y * 2 ^ s := ⟨_, rfl⟩
    obtain ⟨U, hU⟩ : ∃ U, U = hi * 2 ^ s + lo / 2 ^ (64 - s) := ⟨_, rfl⟩
    obtain ⟨L, hL⟩ : ∃ L, L = lo * 2 ^ s % 18446744073709551616 := ⟨_, rfl⟩
    have hL64 : L < 18446744073709551616 := by rw [hL]; exact Nat.mod_lt _ (by decide)
    have hUY : U < Y := by rw [hU, hY]; omega
    rw [← hY] at y1 y2
    have pw : ((2 : Int) ^ s) = ((2 ^ s : Nat) : Int) := by simp
    have pw2 : ((2 : Int) ^ (64 - s)) = ((2 ^ (64 - s) : Nat) : Int) := by simp
    have hUL : U * 18446744073709551616 + L = (hi * B64 + lo) * 2 ^ s := by
      have e1 : lo * 2 ^ s / 18446744073709551616 = lo / 2 ^ (64 - s) := by
        rw [← hnum, show (2 : Nat) ^ 64 = 2 ^ (64 - s) * 2 ^ s from by rw [← Nat.pow_add]; congr 1; omega]
        exact Nat.mul_div_mul_right _ _ hp
      have e2 := Nat.div_add_mod (lo * 2 ^ s) 18446744073709551616
      rw [e1, ← hL] at e2
      rw [hU, Nat.add_mul, Nat.add_mul, ← e2]
      unfold B64
      rw [Nat.mul_right_comm]
      generalize hi * 18446744073709551616 * 2 ^ s = a1
      omega
    have e3 := half_join U L
    refine (div64_w hi lo y s Y (Y / 4294967296) (Y % 4294967296) U L (L / 4294967296) (L % 4294967296) hhi (by omega) (by omega) w h0 ?_ hs63 ?_ ?_ ?_ ?_ ?_ ?_ ?_ (by omega) (by omega) (by omega) (by omega) (by omega) (by omega) ?_ hY ?_).mono ?_
    · show IntKind.u64.wrap _ = _
      rw [IntKind.wrap_u64, hs]; omega
    · show IntKind.u64.wrap _ = _
      rw [pw, Mul64.mulN, ← hY, Mul64.wrapN _ (by omega)]
    · exact Mul64.divN Y
    · exact Mul64.maskN Y (by omega)
    · show bits .or .u64 _ _ = _
      rw [pw, pw2, Mul64.mulN, ← Int.natCast_ediv, Mul64.wrapN _ (by omega), u64_or_nat _ _ (by omega) (by omega), or_add hd, hU]
    · show IntKind.u64.wrap _ = _
      rw [pw, Mul64.mulN, Mul64.wrapM, hL]
    · exact Mul64.divN L
    · exact Mul64.maskN L hL64
    · show Y = _
      omega
    · exact e3.trans hUL
    · rintro e w' ⟨rfl, rfl⟩
      exact ⟨rfl, Below.refl _ _⟩
end Go.Proofs.YtjmmnpfedhkjbaaDoor
