import Derived.Test.YtahpgnkhophgpaaDoorMath
namespace Go.Proofs.YtahpgnkhophgpaaDoor

/-- A digit's sign in a text. -/
def chr (d : Nat) : UInt8 := UInt8.ofNat (48 + d)

/-- The text of decimal digits, the lowest one first. -/
def txt (ds : List Nat) : List UInt8 := (ds.map chr).reverse

/-- The decimal text of a number. -/
def decN (n : Nat) : List UInt8 := if n = 0 then [48] else txt (limbs 10 n)

/-- The decimal text of a whole number. -/
def decZ (z : Int) : List UInt8 := if z < 0 then 45 :: decN z.natAbs else decN z.natAbs

theorem txt_snoc (ds : List Nat) (d : Nat) : txt (ds ++ [d]) = chr d :: txt ds := by simp [txt]
theorem txt_length (ds : List Nat) : (txt ds).length = ds.length := by simp [txt]

/-- What the loops of a text know: i digits of base 10000 are written, and k places of the next. -/
def TextAt (ds : List Nat) (i k n : Nat) (D : List Nat) : Prop :=
  D.length = 4 * i + k ∧ Dig 10 D ∧ k ≤ 4 ∧ n = ds[i]?.getD 0 / 10 ^ k ∧ val 10 D + 10 ^ (4 * i + k) * n = val 10000 (ds.take i) + 10000 ^ i * ds[i]?.getD 0 ∧ (i + 1 < ds.length ∨ k = 0 ∨ 10 ^ (k - 1) ≤ ds[i]?.getD 0)

theorem pow4 (i : Nat) : (10 : Nat) ^ (4 * i) = 10000 ^ i := by rw [Nat.pow_mul]

theorem TextAt.start {ds : List Nat} {i : Nat} {D : List Nat} (hl : D.length = 4 * i) (hd : Dig 10 D) (hv : val 10 D = val 10000 (ds.take i)) : TextAt ds i 0 (ds[i]?.getD 0) D := by
  refine ⟨by omega, hd, by omega, by simp, ?_, Or.inr (Or.inl rfl)⟩
  rw [Nat.add_zero, pow4, hv]

theorem TextAt.step {ds : List Nat} {i k n : Nat} {D : List Nat} (h : TextAt ds i k n D) (hk : k < 4) (hgo : 0 < n ∨ i + 1 < ds.length) : TextAt ds i (k + 1) (n / 10) (D ++ [n % 10]) := by
  obtain ⟨h1, h2, h3, h4, h5, h6⟩ := h
  refine ⟨by simp; omega, h2.append (Dig.cons (Nat.mod_lt _ (by omega)) (Dig.nil _)), by omega, ?_, ?_, ?_⟩
  · rw [h4, Nat.div_div_eq_div_mul, ← Nat.pow_succ]
  · rw [val_snoc, h1, ← h5, Nat.add_assoc (4 * i) k 1 |>.symm, Nat.pow_succ, Nat.mul_assoc, Nat.add_assoc, ← Nat.mul_add, Nat.mod_add_div]
  · rcases hgo with h | h
    · right; right
      rw [Nat.add_sub_cancel]
      rw [h4] at h
      have := Nat.div_pos_iff.1 h
      exact this.2
    · exact Or.inl h

/-- A digit of base 10000 is written whole. -/
theorem TextAt.next {ds : List Nat} {i n : Nat} {D : List Nat} (h : TextAt ds i 4 n D) (hd : Dig 10000 ds) : D.length = 4 * (i + 1) ∧ Dig 10 D ∧ val 10 D = val 10000 (ds.take (i + 1)) := by
  obtain ⟨h1, h2, h3, h4, h5, h6⟩ := h
  have h7 := hd.getD (by omega) i
  have h0 : n = 0 := by rw [h4]; exact Nat.div_eq_of_lt (by simpa using h7)
  subst h0
  refine ⟨by omega, h2, ?_⟩
  rw [val_take_succ, ← h5]
  simp

theorem TextAt.last {ds : List Nat} {i k : Nat} {D : List Nat} (h : TextAt ds i k 0 D) (hi : i + 1 = ds.length) : D.length ≤ 4 * ds.length ∧ Dig 10 D ∧ val 10 D = val 10000 ds ∧ (val 10000 ds ≠ 0 → Top ds → D = limbs 10 (val 10000 ds)) := by
  obtain ⟨h1, h2, h3, h4, h5, h6⟩ := h
  have e : val 10 D = val 10000 ds := by
    have := val_take_succ 10000 ds i
    rw [List.take_of_length_le (by omega)] at this
    rw [this, ← h5]; simp
  refine ⟨by omega, h2, e, fun hn ht => ?_⟩
  rw [← e]
  refine (limbs_val_top (by omega) h2 (top_of_pow (by omega) h2 ?_)).symm
  have hne : ds[i]?.getD 0 ≠ 0 := by
    intro h0
    have h8 : ds = ds.take i ++ [0] := by
      conv => lhs; rw [← List.take_append_drop i ds, List.drop_eq_getElem_cons (by omega : i < ds.length)]
      rw [List.drop_eq_nil_of_le (by omega)]
      rw [List.getElem?_eq_getElem (by omega)] at h0
      have h0' : ds[i] = 0 := h0
      rw [h0']
    have h9 : (trimL ds).length ≤ i := by
      rw [h8, trimL_snoc_zero]
      have := trimL_length (ds.take i)
      rw [List.length_take] at this
      omega
    rw [ht] at h9
    omega
  right
  rw [h1, e]
  have hk0 : k ≠ 0 := by
    intro hk
    subst hk
    simp at h4
    omega
  rcases h6 with h6 | h6 | h6
  · omega
  · omega
  · have := val_take_succ 10000 ds i
    rw [List.take_of_length_le (by omega)] at this
    rw [this]
    have h10 : (10 : Nat) ^ (4 * i + k - 1) = 10000 ^ i * 10 ^ (k - 1) := by
      rw [← pow4, ← Nat.pow_add]; congr 1; omega
    rw [h10]
    have := Nat.mul_le_mul_left (10000 ^ i) h6
    omega

theorem decN_pos {n : Nat} (h : n ≠ 0) : decN n = txt (limbs 10 n) := by simp [decN, h]

end Go.Proofs.YtahpgnkhophgpaaDoor
