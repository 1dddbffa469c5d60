import Derived.Test.YtcahejkcdcjjgaaGreatDoorK48
import Derived.Test.YtcahejkcdcjjgaaGreatDoorK49
set_option maxRecDepth 100000
set_option maxHeartbeats 16000000
namespace Go.Proofs.YtcahejkcdcjjgaaGreatDoor
open Go.RowKit Go.Shelf
theorem Jl8 (s t x a:ByteArray) (_:s.size≤140737488351232) (_:t.size≤140737488351232) (_:x.size≤140737488351232) (_:a.size≤140737488351232) (w:World) (htab:Jer w) :
 Calls Tryz.prog 7 #[.string s,.string t,.string x,.string a] w fun r w'=>r=.returned (.bool true)∧Below w.heap.size w w':=by
 by_cases h0:(JV (Je t)).1=[]
 · exact Jl6 s t x a h0 w htab
 · exact Jl7 s t x a h0 w htab
end Go.Proofs.YtcahejkcdcjjgaaGreatDoor
