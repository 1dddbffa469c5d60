import Derived.Test.YtcahejkcdcjjgaaGreatDoorK37
import Derived.Test.YtcahejkcdcjjgaaGreatDoorK06
import Derived.Test.YtcahejkcdcjjgaaGreatDoorK15
import Derived.Test.YtcahejkcdcjjgaaGreatDoorK23
import Derived.Test.YtcahejkcdcjjgaaGreatDoorK24
set_option maxRecDepth 100000
set_option maxHeartbeats 16000000
namespace Go.Proofs.YtcahejkcdcjjgaaGreatDoor
open Go.RowKit Go.Shelf
def YB (l:List UInt8):Option Rat:=
 if l.length≤2000 then
  if JJ l=l.length then (if good l=true then some ((YA l:Int):Rat) else none)
  else if good (l.take (JJ l))=true∧good (l.drop (JJ l+1))=true∧0<YA (l.drop (JJ l+1)) then some (Rat.divInt (YA (l.take (JJ l))) (YA (l.drop (JJ l+1))))
  else none
 else none
def Jbi (l:List UInt8):Rat:=(YB l).getD 0
theorem Jqd (l:List UInt8):JJ l≤l.length:=by
 rcases X6 l with ⟨h,_⟩ | ⟨h,_⟩ <;> omega
theorem Jmy {l:List UInt8} (h:2000<l.length):YB l=none:=by
 unfold YB;rw [if_neg (by omega)]
theorem Jgg {l:List UInt8} (h:l.length≤2000) (hs:JJ l=l.length):YB l=if good l=true then some ((YA l:Int):Rat) else none:=by
 unfold YB;rw [if_pos h,if_pos hs]
theorem Jgh {l:List UInt8} (h:l.length≤2000) (hs:JJ l<l.length):YB l=if good (l.take (JJ l))=true∧good (l.drop (JJ l+1))=true∧0<YA (l.drop (JJ l+1)) then some (Rat.divInt (YA (l.take (JJ l))) (YA (l.drop (JJ l+1)))) else none:=by
 unfold YB;rw [if_pos h,if_neg (by omega)]
theorem Je2 (l:List UInt8):SmQ 2000 (Jbi l):=by
 have hz:SmQ 2000 0:=⟨Sm.zero _,Sm.one _ (by omega)⟩;unfold Jbi;by_cases h:l.length≤2000
 · by_cases hs:JJ l=l.length
   · rw [Jgg h hs];split
     · rename_i hg;exact ⟨Sm.good hg,Sm.one _ (by omega)⟩
     · exact hz
   · rw [Jgh h (by have:=Jqd l;omega)];split
     · rename_i hg;exact SmQ.divInt (by omega) (Sm.good hg.1) (Sm.good hg.2.1)
     · exact hz
 · rw [Jmy (by omega)];exact hz
theorem Joc (s:ByteArray) (k:Nat):Je (s.extract 0 k)=(Je s).take k:=Jft
theorem Jod (s:ByteArray) (k:Nat):Je (s.extract k s.size)=(Je s).drop k:=Jji
def Jgi (l:List UInt8):Int:=if good l=true then YA l else 0
theorem Jki (l:List UInt8):Sok (Jgi l):=by
 unfold Jgi;split
 · rename_i h;exact Sok.of (Sm.good h) (by omega)
 · exact Sok.zero
theorem Jgj (s:ByteArray) (hs:s.size≤140737488351232) (w:World):Calls Tryz.prog 103 #[.string s] w fun e w'=>∃ u,e=.returned (.tuple #[u,.bool (good (Je s))])∧Jh w' u (Jgi (Je s))∧Below w.heap.size w w':=by
 refine (Jpe s hs w).mono ?_;rintro e w' ⟨h1,h2,h3⟩;cases hg:good (Je s) with
 | true=>
  obtain ⟨u,rfl,hu⟩:=h1 hg;exact ⟨u,rfl,by unfold Jgi;rw [if_pos hg];exact hu,h3⟩
 | false=>
  have e1:=h2 hg;refine ⟨_,e1,?_,h3⟩;unfold Jgi;rw [if_neg (by rw [hg];simp)];exact XU _
end Go.Proofs.YtcahejkcdcjjgaaGreatDoor
