import Derived.Test.YtahpgnkhophgpaaDoorRefQ
namespace Go.Proofs.YtahpgnkhophgpaaDoor
open Go.RowKit Go.Shelf

/-- The list of a text's bytes. -/
def lst (s : ByteArray) : List UInt8 := s.data.toList

theorem lst_length (s : ByteArray) : (lst s).length = s.size := Array.length_toList

theorem lst_get (s : ByteArray) (i : Nat) (h : i < s.size) : (lst s)[i]'(by rw [lst_length]; exact h) = s[i] := rfl

/-- The value that a text gives that is no number. -/
def noBig : Value := .tuple #[.agg #[.slice none 0 0, .bool false], .bool false]

/-- What a call of Parse leaves, where the text's head is in order. -/
def ParsePost (l : List UInt8) (sg : Bool) (w : World) (e : Ending) (w' : World) : Prop :=
  (l.all isD = true → ∃ u, e = .returned (.tuple #[u, .bool true]) ∧ IsBig w' u (if sg then -(num l : Int) else num l)) ∧ (l.all isD = false → e = .returned noBig) ∧ Below w.heap.size w w'

theorem ParsePost.no {l : List UInt8} {sg : Bool} {w w' : World} (h : l.all isD = false) (hB : Below w.heap.size w w') : ParsePost l sg w (.returned noBig) w' :=
  ⟨fun h' => (by rw [h] at h'; cases h'), fun _ => rfl, hB⟩

theorem ParsePost.yes {l : List UInt8} {sg : Bool} {w w' : World} {u : Value} (h : l.all isD = true) (hu : IsBig w' u (if sg then -(num l : Int) else num l)) (hB : Below w.heap.size w w') : ParsePost l sg w (.returned (.tuple #[u, .bool true])) w' :=
  ⟨fun _ => ⟨u, rfl, hu⟩, fun h' => (by rw [h] at h'; cases h'), hB⟩

theorem minus_true {n : Nat} (h : n ≠ 0) : decide ((if true = true then -(n : Int) else n) < 0) = true := by
  simp; omega

theorem not_empty {s : ByteArray} (h0 : 0 < s.size) : s.toList.isEmpty = false := by
  rw [Lib.toList_data]
  have := lst_length s
  cases h : s.data.toList with
  | nil => rw [lst, h] at this; simp at this; omega
  | cons x l => rfl

end Go.Proofs.YtahpgnkhophgpaaDoor
