import Derived.Test.YtahpgnkhophgpaaDoorRefP
import Derived.Test.YtahpgnkhophgpaaDoorRefT
import Derived.Test.YtahpgnkhophgpaaDoorDec2
import Derived.Deep.DeepCutAuto
import Derived.Lib.Strings
namespace Go.Proofs.YtahpgnkhophgpaaDoor
open Go.RowKit Go.Shelf

/-- What a text's loop knows: k groups of four digits are read, from the text's end on. -/
def ParseAt (tl : List UInt8) (k : Nat) (acc : List Nat) : Prop :=
  acc.length = k ∧ Dig 10000 acc ∧ val 10000 acc = num (tl.drop (tl.length - 4 * k)) ∧ (tl.drop (tl.length - 4 * k)).all isD = true

theorem ParseAt.start (tl : List UInt8) : ParseAt tl 0 [] := ⟨rfl, Dig.nil _, by simp [num, dgs, val], by simp⟩

/-- What the inner loop knows: the digits from lo on up to i are read. -/
def GroupAt (tl : List UInt8) (lo i d : Nat) : Prop := d = num ((tl.take i).drop lo) ∧ ((tl.take i).drop lo).all isD = true

theorem group_start (tl : List UInt8) (lo : Nat) : GroupAt tl lo lo 0 := by
  have h : (tl.take lo).drop lo = [] := List.drop_eq_nil_of_le (by rw [List.length_take]; omega)
  exact ⟨by rw [h]; simp [num, dgs, val], by rw [h]; rfl⟩

theorem group_step {tl : List UInt8} {lo i d : Nat} (h : GroupAt tl lo i d) (hlo : lo ≤ i) (hi : i < tl.length) (hd : isD tl[i] = true) : GroupAt tl lo (i + 1) (10 * d + tl[i].toNat - 48) := by
  obtain ⟨h1, h2⟩ := h
  have e : (tl.take (i + 1)).drop lo = (tl.take i).drop lo ++ [tl[i]] := by
    rw [List.take_succ_eq_append_getElem hi, List.drop_append_of_le_length (by rw [List.length_take]; omega)]
  have hb := isD_bounds hd
  refine ⟨?_, ?_⟩
  · rw [e, num_snoc, ← h1]; omega
  · rw [e, List.all_append, h2]; simp [hd]

theorem group_lt {tl : List UInt8} {lo i d : Nat} (h : GroupAt tl lo i d) (hi : i ≤ lo + 4) : d < 10000 := by
  obtain ⟨h1, h2⟩ := h
  rw [h1]
  have h3 := val_lt (dig_dgs h2)
  rw [dgs_length] at h3
  have h4 : ((tl.take i).drop lo).length ≤ 4 := by rw [List.length_drop, List.length_take]; omega
  have h5 : (10 : Nat) ^ ((tl.take i).drop lo).length ≤ 10 ^ 4 := Nat.pow_le_pow_right (by omega) h4
  exact Nat.lt_of_lt_of_le h3 h5

theorem drop_mid (tl : List UInt8) (p q : Nat) (hpq : p ≤ q) (hq : q ≤ tl.length) : tl.drop p = (tl.take q).drop p ++ tl.drop q := by
  conv => lhs; rw [← List.take_append_drop q tl]
  rw [List.drop_append_of_le_length (by rw [List.length_take]; omega)]

theorem ParseAt.step {tl : List UInt8} {k : Nat} {acc : List Nat} (h : ParseAt tl k acc) (hk : 4 * k < tl.length) {d : Nat} (hg : GroupAt tl (tl.length - 4 * k - 4) (tl.length - 4 * k) d) : ParseAt tl (k + 1) (acc ++ [d]) := by
  obtain ⟨h1, h2, h3, h4⟩ := h
  have hd := group_lt hg (by omega)
  have e : tl.drop (tl.length - 4 * (k + 1)) = (tl.take (tl.length - 4 * k)).drop (tl.length - 4 * k - 4) ++ tl.drop (tl.length - 4 * k) := by
    rw [show tl.length - 4 * (k + 1) = tl.length - 4 * k - 4 from by omega]
    exact drop_mid tl _ _ (by omega) (by omega)
  obtain ⟨g1, g2⟩ := hg
  refine ⟨by simp; omega, h2.append (Dig.cons hd (Dig.nil _)), ?_, ?_⟩
  · rw [e, num_append, val_snoc, h3, h1, ← g1, List.length_drop, show tl.length - (tl.length - 4 * k) = 4 * k from by omega, pow4]
  · rw [e, List.all_append, g2, h4]; rfl

theorem ParseAt.done {tl : List UInt8} {k : Nat} {acc : List Nat} (h : ParseAt tl k acc) (hk : tl.length ≤ 4 * k) : trimL acc = limbs 10000 (num tl) ∧ tl.all isD = true := by
  obtain ⟨h1, h2, h3, h4⟩ := h
  rw [show tl.length - 4 * k = 0 from by omega, List.drop_zero] at h3 h4
  exact ⟨by rw [← limbs_val (by omega) h2, h3], h4⟩

end Go.Proofs.YtahpgnkhophgpaaDoor
