import Derived.Test.YtdmmbgahnkbnaaaGreatDoorT24
import Derived.Test.YtdmmbgahnkbnaaaGreatDoorT32
set_option linter.all false
set_option maxRecDepth 99999
set_option maxHeartbeats 0
namespace Go.Proofs.YtdmmbgahnkbnaaaGreatDoor
open Go.RowKit Go.Shelf M3
def GE(l:List UInt8):Option Rat:=
 if l.length<=2000 then
  if Yi l=l.length then(if good l=true then some ((D5 l:Int):Rat)else none)
  else if good (l.take (Yi l))=true/\good (l.drop (Yi l+1))=true/\0<D5 (l.drop (Yi l+1))then some (Rat.divInt (D5 (l.take (Yi l))) (D5 (l.drop (Yi l+1))))
  else none
 else none
def Ic(l:List UInt8):Rat:=(GE l).getD 0
variable{l:List UInt8}
def mA(h:2000<l.length):GE l=none:=by
 unfold GE;rw[BE O]
def Vh(h:l.length<=2000)(hs:Yi l=l.length):GE l=if good l=true then some ((D5 l:Int):Rat)else none:=by
 unfold GE;rw[BF h,BF hs]
theorem Vi(h:l.length<=2000)(hs:Yi l<l.length):GE l=if good (l.take (Yi l))=true/\good (l.drop (Yi l+1))=true/\0<D5 (l.drop (Yi l+1))then some (Rat.divInt (D5 (l.take (Yi l))) (D5 (l.drop (Yi l+1))))else none:=by
 unfold GE;grind
def Vj(s:ByteArray)(k:Nat):Jj (s.extract 0 k)=(Jj s).take k:=Pl
def Vk(s:ByteArray)(k:Nat):Jj (s.extract k s.size)=(Jj s).drop k:=Tj
def Hm(l:List UInt8):Int:=if good l=true then D5 l else 0
theorem Vl(l:List UInt8):Sok (Hm l):=by
 grind[Hm,Sok.of,Sm.good,Sok.zero]
theorem QS(s:ByteArray)(hs:s.size<=140737488351232)(w:World):Calls Tryz.prog 37 #[.string s] w λe w'=>∃u,e=.returned (.tuple #[u,.bool (good (Jj s))])/\Jk w' u (Hm (Jj s))/\Bl w w':=by
 refine(fZ s hs w).mono ?_;rintro e w' ⟨d,b,c⟩;cases hg:good (Jj s)with
 |true=>
  grind[Hm]
 |false=>
  have a:=b hg;refine⟨_,a,?_,c⟩;grind[Hm,ES]
