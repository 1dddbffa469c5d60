import Derived.Test.YtakpoihdghihmaaGreatDoorL36
import Derived.Test.YtakpoihdghihmaaGreatDoorL24
set_option maxRecDepth 100000
set_option maxHeartbeats 16000000
namespace Go.Proofs.YtakpoihdghihmaaGreatDoor
open Go.RowKit Go.Shelf
def Xg(l:List UInt8):Option Rat:=
 if l.length≤2000 then
  if JT l=l.length then(if good l=true then some ((Y9 l:Int):Rat)else none)
  else if good (l.take (JT l))=true∧good (l.drop (JT l+1))=true∧0<Y9 (l.drop (JT l+1))then some (Rat.divInt (Y9 (l.take (JT l))) (Y9 (l.drop (JT l+1))))
  else none
 else none
def Ei(l:List UInt8):Rat:=(Xg l).getD 0
theorem Z8(l:List UInt8):JT l≤l.length:=by
 rcases LO l with⟨h,_⟩|⟨h,_⟩<;>omega
theorem QF{l:List UInt8}(h:2000<l.length):Xg l=none:=by
 unfold Xg;rw[BE (by omega)]
theorem NT{l:List UInt8}(h:l.length≤2000)(hs:JT l=l.length):Xg l=if good l=true then some ((Y9 l:Int):Rat)else none:=by
 unfold Xg;rw[BH h,BH hs]
theorem NU{l:List UInt8}(h:l.length≤2000)(hs:JT l<l.length):Xg l=if good (l.take (JT l))=true∧good (l.drop (JT l+1))=true∧0<Y9 (l.drop (JT l+1))then some (Rat.divInt (Y9 (l.take (JT l))) (Y9 (l.drop (JT l+1))))else none:=by
 unfold Xg;rw[BH h,BE (by omega)]
theorem QG(l:List UInt8):DV 2000 (Ei l):=by
 have hz:DV 2000 0:=⟨Sm.zero _,Sm.one _ (by omega)⟩;unfold Ei;by_cases h:l.length≤2000
 · by_cases hs:JT l=l.length
   · rw[NT h hs];split
     · rename_i hg;exact⟨Sm.good hg,Sm.one _ (by omega)⟩
     · exact hz
   · rw[NU h (by have:=Z8 l;omega)];split
     · rename_i hg;exact DV.divInt (by omega) (Sm.good hg.1) (Sm.good hg.2.1)
     · exact hz
 · rw[QF (by omega)];exact hz
theorem Z9(s:ByteArray)(k:Nat):Jj (s.extract 0 k)=(Jj s).take k:=Mh
theorem aA(s:ByteArray)(k:Nat):Jj (s.extract k s.size)=(Jj s).drop k:=PE
def GC(l:List UInt8):Int:=if good l=true then Y9 l else 0
theorem QH(l:List UInt8):Sok (GC l):=by
 unfold GC;split
 · rename_i h;exact Sok.of (Sm.good h) (by omega)
 · exact Sok.zero
theorem NW(s:ByteArray)(hs:s.size≤140737488351232)(w:World):Calls Tryz.prog 63 #[.string s] w fun e w'=>∃u,e=.returned (.tuple #[u,.bool (good (Jj s))])∧Jk w' u (GC (Jj s))∧Bl w w':=by
 refine(UE s hs w).mono ?_;rintro e w' ⟨h1,h2,h3⟩;cases hg:good (Jj s)with
 |true=>
  obtain⟨u,rfl,hu⟩:=h1 hg;exact⟨u,rfl,by unfold GC;rw[BH hg];exact hu,h3⟩
 |false=>
  have e1:=h2 hg;refine⟨_,e1,?_,h3⟩;unfold GC;rw[BE (by rw[hg];simp)];exact X2 _
