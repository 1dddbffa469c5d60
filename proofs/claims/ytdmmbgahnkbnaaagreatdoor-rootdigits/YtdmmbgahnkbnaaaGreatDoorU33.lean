import Derived.Test.YtdmmbgahnkbnaaaGreatDoorU24
import Derived.Test.YtdmmbgahnkbnaaaGreatDoorU32
set_option linter.all false
set_option maxRecDepth 99999
set_option maxHeartbeats 0
namespace Go.Proofs.YtdmmbgahnkbnaaaGreatDoor
open Go.RowKit Go.Shelf M3
def X3(l:List UInt8):Option Rat:=
 if l.length<=2000 then
  if Yc l=l.length then(if good l=true then some ((XW l:Int):Rat)else none)
  else if good (l.take (Yc l))=true/\good (l.drop (Yc l+1))=true/\0<XW (l.drop (Yc l+1))then some (Rat.divInt (XW (l.take (Yc l))) (XW (l.drop (Yc l+1))))
  else none
 else none
def Hx(l:List UInt8):Rat:=(X3 l).getD 0
variable{l:List UInt8}
def ks(h:2000<l.length):X3 l=none:=by
 unfold X3;rw[BG O]
def VI(h:l.length<=2000)(hs:Yc l=l.length):X3 l=if good l=true then some ((XW l:Int):Rat)else none:=by
 unfold X3;rw[BH h,BH hs]
theorem VJ(h:l.length<=2000)(hs:Yc l<l.length):X3 l=if good (l.take (Yc l))=true/\good (l.drop (Yc l+1))=true/\0<XW (l.drop (Yc l+1))then some (Rat.divInt (XW (l.take (Yc l))) (XW (l.drop (Yc l+1))))else none:=by
 unfold X3;grind
def VK(s:ByteArray)(k:Nat):Jk (s.extract 0 k)=(Jk s).take k:=Pc
def VL(s:ByteArray)(k:Nat):Jk (s.extract k s.size)=(Jk s).drop k:=TL
def Hj(l:List UInt8):Int:=if good l=true then XW l else 0
theorem VM(l:List UInt8):Sok (Hj l):=by
 grind[Hj,Sok.of,Sm.good,Sok.zero]
theorem QI(s:ByteArray)(hs:s.size<=140737488351232)(w:World):Calls Tryz.prog 37 #[.string s] w λe w'=>∃u,e=.returned (.tuple #[u,.bool (good (Jk s))])/\Ji w' u (Hj (Jk s))/\Bl w w':=by
 refine(TM s hs w).mono ?_;rintro e w' ⟨d,b,c⟩;cases hg:good (Jk s)with
 |true=>
  grind[Hj]
 |false=>
  have a:=b hg;refine⟨_,a,?_,c⟩;grind[Hj,ER]
