import Derived.Test.YtcahejkcdcjjgaaGreatDoorK36
import Derived.Test.YtcahejkcdcjjgaaGreatDoorK06
import Derived.Test.YtcahejkcdcjjgaaGreatDoorK15
import Derived.Test.YtcahejkcdcjjgaaGreatDoorK23
import Derived.Test.YtcahejkcdcjjgaaGreatDoorK24
set_option maxRecDepth 100000
set_option maxHeartbeats 16000000
namespace Go.Proofs.YtcahejkcdcjjgaaGreatDoor
open Go.RowKit Go.Shelf
def JZ (l:List UInt8):Option Rat:=
 if l.length≤2000 then
  if JD l=l.length then (if good l=true then some ((J6 l:Int):Rat) else none)
  else if good (l.take (JD l))=true∧good (l.drop (JD l+1))=true∧0<J6 (l.drop (JD l+1)) then some (Rat.divInt (J6 (l.take (JD l))) (J6 (l.drop (JD l+1))))
  else none
 else none
def Jaa (l:List UInt8):Rat:=(JZ l).getD 0
theorem Jpd (l:List UInt8):JD l≤l.length:=by
 rcases YC l with ⟨h,_⟩ | ⟨h,_⟩ <;> omega
theorem Jd9 {l:List UInt8} (h:2000<l.length):JZ l=none:=by
 unfold JZ;rw [if_neg (by omega)]
theorem Jc4 {l:List UInt8} (h:l.length≤2000) (hs:JD l=l.length):JZ l=if good l=true then some ((J6 l:Int):Rat) else none:=by
 unfold JZ;rw [if_pos h,if_pos hs]
theorem Jc5 {l:List UInt8} (h:l.length≤2000) (hs:JD l<l.length):JZ l=if good (l.take (JD l))=true∧good (l.drop (JD l+1))=true∧0<J6 (l.drop (JD l+1)) then some (Rat.divInt (J6 (l.take (JD l))) (J6 (l.drop (JD l+1)))) else none:=by
 unfold JZ;rw [if_pos h,if_neg (by omega)]
theorem Jq4 (l:List UInt8):SmQ 2000 (Jaa l):=by
 have hz:SmQ 2000 0:=⟨Sm.zero _,Sm.one _ (by omega)⟩;unfold Jaa;by_cases h:l.length≤2000
 · by_cases hs:JD l=l.length
   · rw [Jc4 h hs];split
     · rename_i hg;exact ⟨Sm.good hg,Sm.one _ (by omega)⟩
     · exact hz
   · rw [Jc5 h (by have:=Jpd l;omega)];split
     · rename_i hg;exact SmQ.divInt (by omega) (Sm.good hg.1) (Sm.good hg.2.1)
     · exact hz
 · rw [Jd9 (by omega)];exact hz
theorem Jdg (s:ByteArray) (k:Nat):Je (s.extract 0 k)=(Je s).take k:=Jes
theorem Jgs (s:ByteArray) (k:Nat):Je (s.extract k s.size)=(Je s).drop k:=Jh0
def Jab (l:List UInt8):Int:=if good l=true then J6 l else 0
theorem Jc6 (l:List UInt8):Sok (Jab l):=by
 unfold Jab;split
 · rename_i h;exact Sok.of (Sm.good h) (by omega)
 · exact Sok.zero
theorem Jfe (s:ByteArray) (hs:s.size≤140737488351232) (w:World):Calls Tryz.prog 103 #[.string s] w fun e w'=>∃ u,e=.returned (.tuple #[u,.bool (good (Je s))])∧Jh w' u (Jab (Je s))∧Below w.heap.size w w':=by
 refine (Jn5 s hs w).mono ?_;rintro e w' ⟨h1,h2,h3⟩;cases hg:good (Je s) with
 | true=>
  obtain ⟨u,rfl,hu⟩:=h1 hg;exact ⟨u,rfl,by unfold Jab;rw [if_pos hg];exact hu,h3⟩
 | false=>
  have e1:=h2 hg;refine ⟨_,e1,?_,h3⟩;unfold Jab;rw [if_neg (by rw [hg];simp)];exact XN _
theorem Jpe (s:ByteArray):lst s=Je s:=rfl
theorem Jhm (s:ByteArray) (hs:s.size≤140737488351232) (w:World):Calls Tryz.prog 105 #[.string s] w fun e w'=>∃ u,e=.returned (.tuple #[u,.bool (good (Je s))])∧Jo w' u (Jab (Je s))∧Below w.heap.size w w':=by
 refine (Jql s hs w).mono ?_;rintro e w' ⟨h1,h2,h3⟩;rw [Jpe] at h1 h2;cases hg:good (Je s) with
 | true=>
  obtain ⟨u,rfl,hu⟩:=h1 hg;exact ⟨u,rfl,by unfold Jab;rw [if_pos hg];exact hu,h3⟩
 | false=>
  have e1:=h2 hg;refine ⟨_,e1,?_,h3⟩;unfold Jab;rw [if_neg (by rw [hg];simp)];exact Jso _
end Go.Proofs.YtcahejkcdcjjgaaGreatDoor
