import Init
namespace Go.Proofs.YtahpgnkhophgpaaDoor

/-- What a guessed quotient of one half word knows: u is the dividend's upper part, u1 its next half word, the divisor is d = d1 * 2^32 + d0. -/
def GuessAt (u u1 d1 d0 q r : Nat) : Prop :=
  q * d1 + r = u ∧ (u * 4294967296 + u1) / (d1 * 4294967296 + d0) ≤ q ∧ q ≤ 4294967297 ∧ r < 4294967296

theorem guess_start {u u1 d1 d0 : Nat} (h1 : 2147483648 ≤ d1) (h1' : d1 < 4294967296) (h0 : d0 < 4294967296) (hu1 : u1 < 4294967296) (hu : u < d1 * 4294967296 + d0) :
    GuessAt u u1 d1 d0 (u / d1) (u % d1) := by
  have hm := Nat.div_add_mod u d1
  have hr : u % d1 < d1 := Nat.mod_lt _ (by omega)
  have hc : d1 * (u / d1) = u / d1 * d1 := Nat.mul_comm _ _
  refine ⟨by omega, ?_, ?_, by omega⟩
  · apply Nat.le_of_lt_succ
    rw [Nat.div_lt_iff_lt_mul (by omega)]
    have h3 : (u / d1 + 1) * (d1 * 4294967296 + d0) = u / d1 * d1 * 4294967296 + d1 * 4294967296 + (u / d1 + 1) * d0 := by
      rw [Nat.mul_add, ← Nat.mul_assoc, Nat.add_mul (u / d1) 1 d1, Nat.one_mul, Nat.add_mul (u / d1 * d1) d1]
    rw [Nat.succ_eq_add_one, h3]
    generalize u / d1 * d1 = p at *
    generalize (u / d1 + 1) * d0 = z
    omega
  · apply Nat.le_of_lt_succ
    rw [Nat.div_lt_iff_lt_mul (by omega)]
    omega

theorem guess_exit {u u1 d1 d0 q r : Nat} (h : GuessAt u u1 d1 d0 q r) (hd : 0 < d1) (hc : q * d0 ≤ 4294967296 * r + u1) : q = (u * 4294967296 + u1) / (d1 * 4294967296 + d0) := by
  obtain ⟨h1, h2, _, _⟩ := h
  apply Nat.le_antisymm _ h2
  rw [Nat.le_div_iff_mul_le (by omega), Nat.mul_add, ← Nat.mul_assoc]
  generalize q * d1 = p at *
  generalize q * d0 = z at *
  omega

theorem guess_step {u u1 d1 d0 q r : Nat} (h : GuessAt u u1 d1 d0 q r) (hd : 2147483648 ≤ d1) (hu1 : u1 < 4294967296) (hu : u < d1 * 4294967296 + d0) (hc : 4294967296 ≤ q ∨ 4294967296 * r + u1 < q * d0) :
    1 ≤ q ∧ (q - 1) * d1 + (r + d1) = u ∧ (u * 4294967296 + u1) / (d1 * 4294967296 + d0) ≤ q - 1 ∧ q - 1 ≤ 4294967296 := by
  obtain ⟨h1, h2, h3, h4⟩ := h
  have hq : 1 ≤ q := by
    rcases hc with hc | hc
    · omega
    · rcases Nat.eq_zero_or_pos q with h0 | h0
      · rw [h0] at hc; omega
      · exact h0
  have e : (q - 1) * d1 + d1 = q * d1 := by
    conv => rhs; rw [show q = q - 1 + 1 from by omega, Nat.add_mul, Nat.one_mul]
  refine ⟨hq, by omega, ?_, by omega⟩
  apply Nat.le_of_lt_succ
  rw [Nat.succ_eq_add_one, Nat.sub_add_cancel hq, Nat.div_lt_iff_lt_mul (by omega)]
  rcases hc with hc | hc
  · have h5 : 4294967296 * (d1 * 4294967296 + d0) ≤ q * (d1 * 4294967296 + d0) := Nat.mul_le_mul_right _ hc
    omega
  · rw [Nat.mul_add, ← Nat.mul_assoc]
    generalize q * d1 = p at *
    generalize q * d0 = z at *
    omega

theorem guess_break {u u1 d1 d0 q r : Nat} (h1 : q * d1 + r = u) (h2 : (u * 4294967296 + u1) / (d1 * 4294967296 + d0) ≤ q) (h3 : q ≤ 4294967296) (h0 : d0 < 4294967296) (hd : 0 < d1) (hr : 4294967296 ≤ r) : q = (u * 4294967296 + u1) / (d1 * 4294967296 + d0) := by
  apply Nat.le_antisymm _ h2
  rw [Nat.le_div_iff_mul_le (by omega), Nat.mul_add, ← Nat.mul_assoc]
  have h5 : q * d0 ≤ 4294967296 * d0 := Nat.mul_le_mul_right _ h3
  generalize q * d1 = p at *
  generalize q * d0 = z at *
  omega

/-- Both half words together. -/
theorem halves {t k un0 d : Nat} (h0 : 0 < d) : t / d * k + (t % d * k + un0) / d = (t * k + un0) / d ∧ (t % d * k + un0) % d = (t * k + un0) % d := by
  have hm := Nat.div_add_mod t d
  have e : t * k + un0 = d * (t / d * k) + (t % d * k + un0) := by
    conv => lhs; rw [← hm, Nat.add_mul, Nat.mul_assoc]
    omega
  rw [e, Nat.mul_add_div h0, Nat.mul_add_mod]
  exact ⟨rfl, rfl⟩

/-- What is shifted gives the same quotient. -/
theorem shift_div {a y s : Nat} : (a * 2 ^ s) / (y * 2 ^ s) = a / y ∧ (a * 2 ^ s) % (y * 2 ^ s) = a % y * 2 ^ s :=
  ⟨Nat.mul_div_mul_right _ _ (Nat.two_pow_pos s), Nat.mul_mod_mul_right _ _ _⟩

end Go.Proofs.YtahpgnkhophgpaaDoor
