import Derived.Test.YtcahejkcdcjjgaaGreatDoorK48
import Derived.Test.YtcahejkcdcjjgaaGreatDoorK49
namespace Go.Proofs.YtcahejkcdcjjgaaGreatDoor
open Go.RowKit Go.Shelf

theorem polyLaws_c (s t x a : ByteArray) (_ : s.size ≤ 140737488351232) (_ : t.size ≤ 140737488351232) (_ : x.size ≤ 140737488351232) (_ : a.size ≤ 140737488351232) (w : World) (htab : Pow10 w) :
    Calls Tryz.prog 7 #[.string s, .string t, .string x, .string a] w fun r w' => r = .returned (.bool true) ∧ Below w.heap.size w w' := by
  by_cases h0 : (parseP (wlst t)).1 = []
  · exact polyLaws_f s t x a h0 w htab
  · exact polyLaws_t s t x a h0 w htab
end Go.Proofs.YtcahejkcdcjjgaaGreatDoor
