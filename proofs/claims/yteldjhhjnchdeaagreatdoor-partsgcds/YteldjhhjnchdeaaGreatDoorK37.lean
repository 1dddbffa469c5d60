import Derived.Test.YteldjhhjnchdeaaGreatDoorK36
import Derived.Test.YteldjhhjnchdeaaGreatDoorK06
import Derived.Test.YteldjhhjnchdeaaGreatDoorK15
import Derived.Test.YteldjhhjnchdeaaGreatDoorK23
import Derived.Test.YteldjhhjnchdeaaGreatDoorK24
namespace Go.Proofs.YteldjhhjnchdeaaGreatDoor
open Go.RowKit Go.Shelf

/-- The fraction that a text tells, if it tells one. -/
def parseQ (l : List UInt8) : Option Rat :=
  if l.length ≤ 2000 then
    if slashAt l = l.length then (if good l = true then some ((valZ l : Int) : Rat) else none)
    else if good (l.take (slashAt l)) = true ∧ good (l.drop (slashAt l + 1)) = true ∧ 0 < valZ (l.drop (slashAt l + 1)) then some (Rat.divInt (valZ (l.take (slashAt l))) (valZ (l.drop (slashAt l + 1))))
    else none
  else none

/-- The same, 0 where it tells none. -/
def valQ (l : List UInt8) : Rat := (parseQ l).getD 0

theorem slash_le (l : List UInt8) : slashAt l ≤ l.length := by
  rcases slash_index l with ⟨h, _⟩ | ⟨h, _⟩ <;> omega

theorem pq_long {l : List UInt8} (h : 2000 < l.length) : parseQ l = none := by
  unfold parseQ; rw [if_neg (by omega)]
theorem pq_plain {l : List UInt8} (h : l.length ≤ 2000) (hs : slashAt l = l.length) : parseQ l = if good l = true then some ((valZ l : Int) : Rat) else none := by
  unfold parseQ; rw [if_pos h, if_pos hs]
theorem pq_slash {l : List UInt8} (h : l.length ≤ 2000) (hs : slashAt l < l.length) : parseQ l = if good (l.take (slashAt l)) = true ∧ good (l.drop (slashAt l + 1)) = true ∧ 0 < valZ (l.drop (slashAt l + 1)) then some (Rat.divInt (valZ (l.take (slashAt l))) (valZ (l.drop (slashAt l + 1)))) else none := by
  unfold parseQ; rw [if_pos h, if_neg (by omega)]

theorem valQ_sm (l : List UInt8) : SmQ 2000 (valQ l) := by
  have hz : SmQ 2000 0 := ⟨Sm.zero _, Sm.one _ (by omega)⟩
  unfold valQ
  by_cases h : l.length ≤ 2000
  · by_cases hs : slashAt l = l.length
    · rw [pq_plain h hs]
      split
      · rename_i hg
        exact ⟨Sm.good hg, Sm.one _ (by omega)⟩
      · exact hz
    · rw [pq_slash h (by have := slash_le l; omega)]
      split
      · rename_i hg
        exact SmQ.divInt (by omega) (Sm.good hg.1) (Sm.good hg.2.1)
      · exact hz
  · rw [pq_long (by omega)]; exact hz

theorem valQ_sq (l : List UInt8) : Sq (valQ l) := Sq.of (valQ_sm l) (by omega)

theorem wlst_take (s : ByteArray) (k : Nat) : wlst (s.extract 0 k) = (wlst s).take k := lst_take
theorem wlst_drop (s : ByteArray) (k : Nat) : wlst (s.extract k s.size) = (wlst s).drop k := lst_drop

/-- The number that a text tells, 0 where it tells none. -/
def val0 (l : List UInt8) : Int := if good l = true then valZ l else 0
theorem val0_sok (l : List UInt8) : Sok (val0 l) := by
  unfold val0
  split
  · rename_i h
    exact Sok.of (Sm.good h) (by omega)
  · exact Sok.zero

theorem iparse_u (s : ByteArray) (hs : s.size ≤ 140737488351232) (w : World) : Calls Tryz.prog 190 #[.string s] w fun e w' => ∃ u, e = .returned (.tuple #[u, .bool (good (wlst s))]) ∧ IsInt w' u (val0 (wlst s)) ∧ Below w.heap.size w w' := by
  refine (iparse_c s hs w).mono ?_
  rintro e w' ⟨h1, h2, h3⟩
  cases hg : good (wlst s) with
  | true =>
    obtain ⟨u, rfl, hu⟩ := h1 hg
    exact ⟨u, rfl, by unfold val0; rw [if_pos hg]; exact hu, h3⟩
  | false =>
    have e1 := h2 hg
    refine ⟨_, e1, ?_, h3⟩
    unfold val0; rw [if_neg (by rw [hg]; simp)]; exact int0 _

theorem lst_wlst (s : ByteArray) : lst s = wlst s := rfl

end Go.Proofs.YteldjhhjnchdeaaGreatDoor
