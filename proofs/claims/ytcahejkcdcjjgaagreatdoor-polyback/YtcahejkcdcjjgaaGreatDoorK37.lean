import Derived.Test.YtcahejkcdcjjgaaGreatDoorK36
import Derived.Test.YtcahejkcdcjjgaaGreatDoorK06
import Derived.Test.YtcahejkcdcjjgaaGreatDoorK15
import Derived.Test.YtcahejkcdcjjgaaGreatDoorK23
import Derived.Test.YtcahejkcdcjjgaaGreatDoorK24
set_option maxRecDepth 100000
set_option maxHeartbeats 16000000
namespace Go.Proofs.YtcahejkcdcjjgaaGreatDoor
open Go.RowKit Go.Shelf
def YN (l:List UInt8):Option Rat:=
 if l.length≤2000 then
  if JS l=l.length then (if good l=true then some ((Yu l:Int):Rat) else none)
  else if good (l.take (JS l))=true∧good (l.drop (JS l+1))=true∧0<Yu (l.drop (JS l+1)) then some (Rat.divInt (Yu (l.take (JS l))) (Yu (l.drop (JS l+1))))
  else none
 else none
def Jfv (l:List UInt8):Rat:=(YN l).getD 0
theorem Jri {l:List UInt8} (h:2000<l.length):YN l=none:=by
 unfold YN;rw [if_neg (by omega)]
theorem Jjo {l:List UInt8} (h:l.length≤2000) (hs:JS l=l.length):YN l=if good l=true then some ((Yu l:Int):Rat) else none:=by
 unfold YN;rw [if_pos h,if_pos hs]
theorem Jjp {l:List UInt8} (h:l.length≤2000) (hs:JS l<l.length):YN l=if good (l.take (JS l))=true∧good (l.drop (JS l+1))=true∧0<Yu (l.drop (JS l+1)) then some (Rat.divInt (Yu (l.take (JS l))) (Yu (l.drop (JS l+1)))) else none:=by
 unfold YN;rw [if_pos h,if_neg (by omega)]
theorem Jnh (s:ByteArray) (k:Nat):Jc (s.extract 0 k)=(Jc s).take k:=Je6
theorem Jni (s:ByteArray) (k:Nat):Jc (s.extract k s.size)=(Jc s).drop k:=Jio
def Jfw (l:List UInt8):Int:=if good l=true then Yu l else 0
theorem Jjq (l:List UInt8):Sok (Jfw l):=by
 unfold Jfw;split
 · rename_i h;exact Sok.of (Sm.good h) (by omega)
 · exact Sok.zero
theorem Jfx (s:ByteArray) (hs:s.size≤140737488351232) (w:World):Calls Tryz.prog 103 #[.string s] w fun e w'=>∃ u,e=.returned (.tuple #[u,.bool (good (Jc s))])∧Jh w' u (Jfw (Jc s))∧Below w.heap.size w w':=by
 refine (Jok s hs w).mono ?_;rintro e w' ⟨h1,h2,h3⟩;cases hg:good (Jc s) with
 | true=>
  obtain ⟨u,rfl,hu⟩:=h1 hg;exact ⟨u,rfl,by unfold Jfw;rw [if_pos hg];exact hu,h3⟩
 | false=>
  have e1:=h2 hg;refine ⟨_,e1,?_,h3⟩;unfold Jfw;rw [if_neg (by rw [hg];simp)];exact XU _
end Go.Proofs.YtcahejkcdcjjgaaGreatDoor
