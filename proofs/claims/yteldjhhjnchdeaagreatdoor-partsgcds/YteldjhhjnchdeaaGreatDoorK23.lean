import Derived.Test.YteldjhhjnchdeaaGreatDoorK04
import Derived.Test.YteldjhhjnchdeaaGreatDoorK02
import Derived.Deep.DeepCutAuto
import Derived.Lib.Strings
namespace Go.Proofs.YteldjhhjnchdeaaGreatDoor
open Go.RowKit Go.Shelf

/-- What a text's loop knows: k groups of four digits are read, from the text's end on. -/
def ParseAt (tl : List UInt8) (k : Nat) (acc : List Nat) : Prop :=
  acc.length = k ∧ Dig 10000 acc ∧ val 10000 acc = num (tl.drop (tl.length - 4 * k)) ∧ (tl.drop (tl.length - 4 * k)).all isD = true

theorem ParseAt.start (tl : List UInt8) : ParseAt tl 0 [] := ⟨rfl, Dig.nil _, by simp [num, dgs, val], by simp⟩

/-- What the inner loop knows: the digits from lo on up to i are read. -/
def GroupAt (tl : List UInt8) (lo i d : Nat) : Prop := d = num ((tl.take i).drop lo) ∧ ((tl.take i).drop lo).all isD = true

theorem group_start (tl : List UInt8) (lo : Nat) : GroupAt tl lo lo 0 := by
  have h : (tl.take lo).drop lo = [] := List.drop_eq_nil_of_le (by rw [List.length_take]; omega)
  exact ⟨by rw [h]; simp [num, dgs, val], by rw [h]; rfl⟩

theorem group_step {tl : List UInt8} {lo i d : Nat} (h : GroupAt tl lo i d) (hlo : lo ≤ i) (hi : i < tl.length) (hd : isD tl[i] = true) : GroupAt tl lo (i + 1) (10 * d + tl[i].toNat - 48) := by
  obtain ⟨h1, h2⟩ := h
  have e : (tl.take (i + 1)).drop lo = (tl.take i).drop lo ++ [tl[i]] := by
    rw [List.take_succ_eq_append_getElem hi, List.drop_append_of_le_length (by rw [List.length_take]; omega)]
  have hb := isD_bounds hd
  refine ⟨?_, ?_⟩
  · rw [e, num_snoc, ← h1]; omega
  · rw [e, List.all_append, h2]; simp [hd]

theorem group_lt {tl : List UInt8} {lo i d : Nat} (h : GroupAt tl lo i d) (hi : i ≤ lo + 4) : d < 10000 := by
  obtain ⟨h1, h2⟩ := h
  rw [h1]
  have h3 := val_lt (dig_dgs h2)
  rw [dgs_length] at h3
  have h4 : ((tl.take i).drop lo).length ≤ 4 := by rw [List.length_drop, List.length_take]; omega
  have h5 : (10 : Nat) ^ ((tl.take i).drop lo).length ≤ 10 ^ 4 := Nat.pow_le_pow_right (by omega) h4
  exact Nat.lt_of_lt_of_le h3 h5

theorem drop_mid (tl : List UInt8) (p q : Nat) (hpq : p ≤ q) (hq : q ≤ tl.length) : tl.drop p = (tl.take q).drop p ++ tl.drop q := by
  conv => lhs; rw [← List.take_append_drop q tl]
  rw [List.drop_append_of_le_length (by rw [List.length_take]; omega)]

theorem ParseAt.step {tl : List UInt8} {k : Nat} {acc : List Nat} (h : ParseAt tl k acc) (hk : 4 * k < tl.length) {d : Nat} (hg : GroupAt tl (tl.length - 4 * k - 4) (tl.length - 4 * k) d) : ParseAt tl (k + 1) (acc ++ [d]) := by
  obtain ⟨h1, h2, h3, h4⟩ := h
  have hd := group_lt hg (by omega)
  have e : tl.drop (tl.length - 4 * (k + 1)) = (tl.take (tl.length - 4 * k)).drop (tl.length - 4 * k - 4) ++ tl.drop (tl.length - 4 * k) := by
    rw [show tl.length - 4 * (k + 1) = tl.length - 4 * k - 4 from by omega]
    exact drop_mid tl _ _ (by omega) (by omega)
  obtain ⟨g1, g2⟩ := hg
  refine ⟨by simp; omega, h2.append (Dig.cons hd (Dig.nil _)), ?_, ?_⟩
  · rw [e, num_append, val_snoc, h3, h1, ← g1, List.length_drop, show tl.length - (tl.length - 4 * k) = 4 * k from by omega, pow4]
  · rw [e, List.all_append, g2, h4]; rfl

theorem ParseAt.done {tl : List UInt8} {k : Nat} {acc : List Nat} (h : ParseAt tl k acc) (hk : tl.length ≤ 4 * k) : trimL acc = limbs 10000 (num tl) ∧ tl.all isD = true := by
  obtain ⟨h1, h2, h3, h4⟩ := h
  rw [show tl.length - 4 * k = 0 from by omega, List.drop_zero] at h3 h4
  exact ⟨by rw [← limbs_val (by omega) h2, h3], h4⟩

end Go.Proofs.YteldjhhjnchdeaaGreatDoor
namespace Go.Proofs.YteldjhhjnchdeaaGreatDoor
open Go.RowKit Go.Shelf

/-- The list of a text's bytes. -/
def lst (s : ByteArray) : List UInt8 := s.data.toList

theorem lst_length (s : ByteArray) : (lst s).length = s.size := Array.length_toList

theorem lst_get (s : ByteArray) (i : Nat) (h : i < s.size) : (lst s)[i]'(by rw [lst_length]; exact h) = s[i] := rfl

/-- The value that a text gives that is no number. -/
def noBig : Value := .tuple #[.agg #[.slice none 0 0, .bool false], .bool false]

/-- What a call of Parse leaves, where the text's head is in order. -/
def ParsePost (l : List UInt8) (sg : Bool) (w : World) (e : Ending) (w' : World) : Prop :=
  (l.all isD = true → ∃ u, e = .returned (.tuple #[u, .bool true]) ∧ IsBig w' u (if sg then -(num l : Int) else num l)) ∧ (l.all isD = false → e = .returned noBig) ∧ Below w.heap.size w w'

theorem ParsePost.no {l : List UInt8} {sg : Bool} {w w' : World} (h : l.all isD = false) (hB : Below w.heap.size w w') : ParsePost l sg w (.returned noBig) w' :=
  ⟨fun h' => (by rw [h] at h'; cases h'), fun _ => rfl, hB⟩

theorem ParsePost.yes {l : List UInt8} {sg : Bool} {w w' : World} {u : Value} (h : l.all isD = true) (hu : IsBig w' u (if sg then -(num l : Int) else num l)) (hB : Below w.heap.size w w') : ParsePost l sg w (.returned (.tuple #[u, .bool true])) w' :=
  ⟨fun _ => ⟨u, rfl, hu⟩, fun h' => (by rw [h] at h'; cases h'), hB⟩

theorem minus_true {n : Nat} (h : n ≠ 0) : decide ((if true = true then -(n : Int) else n) < 0) = true := by
  simp; omega

theorem not_empty {s : ByteArray} (h0 : 0 < s.size) : s.toList.isEmpty = false := by
  rw [Lib.toList_data]
  have := lst_length s
  cases h : s.data.toList with
  | nil => rw [lst, h] at this; simp at this; omega
  | cons x l => rfl

end Go.Proofs.YteldjhhjnchdeaaGreatDoor
namespace Go.Proofs.YteldjhhjnchdeaaGreatDoor
open Go.RowKit Go.Shelf

end Go.Proofs.YteldjhhjnchdeaaGreatDoor
namespace Go.Proofs.YteldjhhjnchdeaaGreatDoor
open Go.RowKit Go.Shelf

end Go.Proofs.YteldjhhjnchdeaaGreatDoor
namespace Go.Proofs.YteldjhhjnchdeaaGreatDoor
open Go.RowKit Go.Shelf

end Go.Proofs.YteldjhhjnchdeaaGreatDoor
namespace Go.Proofs.YteldjhhjnchdeaaGreatDoor
open Go.RowKit Go.Shelf

end Go.Proofs.YteldjhhjnchdeaaGreatDoor
namespace Go.Proofs.YteldjhhjnchdeaaGreatDoor
open Go.RowKit Go.Shelf

theorem lst_head {s : ByteArray} (h : 0 < s.size) : (lst s).head? = some s[0] := by
  have hl := lst_length s
  cases hc : lst s with
  | nil => rw [hc] at hl; simp at hl; omega
  | cons x l =>
    have := lst_get s 0 h
    simp only [hc, List.getElem_cons_zero] at this
    rw [List.head?_cons, this]

theorem u8_eq_iff {c d : UInt8} : ((c.toNat : Int) == (d.toNat : Int)) = true ↔ c = d := by
  rw [beq_iff_eq, Int.ofNat_inj, UInt8.toNat_inj]

theorem lst_extract (s : ByteArray) : lst (s.extract 1 s.size) = (lst s).tail := by
  unfold lst
  rw [Lib.extract_data, ← List.drop_one, List.take_of_length_le]
  have := lst_length s
  unfold lst at this
  rw [List.length_drop, this]
  omega

theorem u8_45 {c : UInt8} : ((c.toNat : Int) == 45) = true ↔ c = 45 := u8_eq_iff (d := 45)
theorem u8_48 {c : UInt8} : ((c.toNat : Int) == 48) = true ↔ c = 48 := u8_eq_iff (d := 48)

theorem good_iff {l : List UInt8} : good l = true ↔ l.length ≤ 2000 ∧ tailOf l ≠ [] ∧ (¬ (tailOf l).head? = some 48 ∨ l = [48]) ∧ (tailOf l).all isD = true := by
  simp only [good, Bool.and_eq_true, decide_eq_true_eq, Bool.or_eq_true, Bool.not_eq_true', decide_eq_false_iff_not, List.isEmpty_eq_false_iff, and_assoc]

/-- What a call of Parse leaves. -/
def ParseSaid (l : List UInt8) (w : World) (e : Ending) (w' : World) : Prop :=
  (good l = true → ∃ u, e = .returned (.tuple #[u, .bool true]) ∧ IsBig w' u (valZ l)) ∧ (good l = false → e = .returned noBig) ∧ Below w.heap.size w w'

theorem ParseSaid.bad {l : List UInt8} {w w' : World} {e : Ending} (h : ¬ good l = true) (he : e = .returned noBig ∧ Below w.heap.size w w') : ParseSaid l w e w' :=
  ⟨fun g => absurd g h, fun _ => he.1, he.2⟩

theorem ParseSaid.of {l tl : List UInt8} {sg : Bool} {w w' : World} {e : Ending} (hg : good l = true ↔ tl.all isD = true) (hv : valZ l = if sg then -(num tl : Int) else num tl) (h : ParsePost tl sg w e w') : ParseSaid l w e w' := by
  obtain ⟨h1, h2, h3⟩ := h
  refine ⟨fun g => ?_, fun g => h2 ?_, h3⟩
  · rw [hv]; exact h1 (hg.1 g)
  · cases hc : tl.all isD with
    | false => rfl
    | true => rw [hg.2 hc] at g; cases g

end Go.Proofs.YteldjhhjnchdeaaGreatDoor
