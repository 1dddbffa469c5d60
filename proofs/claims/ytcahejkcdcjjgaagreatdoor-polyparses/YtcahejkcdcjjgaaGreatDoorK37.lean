import Derived.Test.YtcahejkcdcjjgaaGreatDoorK36
import Derived.Test.YtcahejkcdcjjgaaGreatDoorK06
import Derived.Test.YtcahejkcdcjjgaaGreatDoorK15
import Derived.Test.YtcahejkcdcjjgaaGreatDoorK23
import Derived.Test.YtcahejkcdcjjgaaGreatDoorK24
set_option maxRecDepth 100000
set_option maxHeartbeats 16000000
namespace Go.Proofs.YtcahejkcdcjjgaaGreatDoor
open Go.RowKit Go.Shelf
def YG (l:List UInt8):Option Rat:=
 if l.length≤2000 then
  if JO l=l.length then (if good l=true then some ((Yo l:Int):Rat) else none)
  else if good (l.take (JO l))=true∧good (l.drop (JO l+1))=true∧0<Yo (l.drop (JO l+1)) then some (Rat.divInt (Yo (l.take (JO l))) (Yo (l.drop (JO l+1))))
  else none
 else none
def Jfs (l:List UInt8):Rat:=(YG l).getD 0
theorem Jrb {l:List UInt8} (h:2000<l.length):YG l=none:=by
 unfold YG;rw [if_neg (by omega)]
theorem Jjj {l:List UInt8} (h:l.length≤2000) (hs:JO l=l.length):YG l=if good l=true then some ((Yo l:Int):Rat) else none:=by
 unfold YG;rw [if_pos h,if_pos hs]
theorem Jjk {l:List UInt8} (h:l.length≤2000) (hs:JO l<l.length):YG l=if good (l.take (JO l))=true∧good (l.drop (JO l+1))=true∧0<Yo (l.drop (JO l+1)) then some (Rat.divInt (Yo (l.take (JO l))) (Yo (l.drop (JO l+1)))) else none:=by
 unfold YG;rw [if_pos h,if_neg (by omega)]
theorem Jnc (s:ByteArray) (k:Nat):Jd (s.extract 0 k)=(Jd s).take k:=Je6
theorem Jnd (s:ByteArray) (k:Nat):Jd (s.extract k s.size)=(Jd s).drop k:=Jig
def Jft (l:List UInt8):Int:=if good l=true then Yo l else 0
theorem Jjl (l:List UInt8):Sok (Jft l):=by
 unfold Jft;split
 · rename_i h;exact Sok.of (Sm.good h) (by omega)
 · exact Sok.zero
theorem Jfu (s:ByteArray) (hs:s.size≤140737488351232) (w:World):Calls Tryz.prog 103 #[.string s] w fun e w'=>∃ u,e=.returned (.tuple #[u,.bool (good (Jd s))])∧Jh w' u (Jft (Jd s))∧Below w.heap.size w w':=by
 refine (Joc s hs w).mono ?_;rintro e w' ⟨h1,h2,h3⟩;cases hg:good (Jd s) with
 | true=>
  obtain ⟨u,rfl,hu⟩:=h1 hg;exact ⟨u,rfl,by unfold Jft;rw [if_pos hg];exact hu,h3⟩
 | false=>
  have e1:=h2 hg;refine ⟨_,e1,?_,h3⟩;unfold Jft;rw [if_neg (by rw [hg];simp)];exact XU _
end Go.Proofs.YtcahejkcdcjjgaaGreatDoor
