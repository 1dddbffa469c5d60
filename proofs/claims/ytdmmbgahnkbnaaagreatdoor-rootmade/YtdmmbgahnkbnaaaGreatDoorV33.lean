import Derived.Test.YtdmmbgahnkbnaaaGreatDoorV24
import Derived.Test.YtdmmbgahnkbnaaaGreatDoorV32
set_option linter.all false
set_option maxRecDepth 99999
set_option maxHeartbeats 0
namespace Go.Proofs.YtdmmbgahnkbnaaaGreatDoor
open Go.RowKit Go.Shelf M3
def XW(l:List UInt8):Option Rat:=
 if l.length<=2000 then
  if Ya l=l.length then(if good l=true then some ((Dz l:Int):Rat)else none)
  else if good (l.take (Ya l))=true/\good (l.drop (Ya l+1))=true/\0<Dz (l.drop (Ya l+1))then some (Rat.divInt (Dz (l.take (Ya l))) (Dz (l.drop (Ya l+1))))
  else none
 else none
def Ex(l:List UInt8):Rat:=(XW l).getD 0
variable{l:List UInt8}
theorem mA(l:List UInt8):Ya l<=l.length:=by
 grind[N9]
def Vp(h:2000<l.length):XW l=none:=by
 unfold XW;rw[BE O]
def QX(h:l.length<=2000)(hs:Ya l=l.length):XW l=if good l=true then some ((Dz l:Int):Rat)else none:=by
 unfold XW;rw[BF h,BF hs]
theorem QY(h:l.length<=2000)(hs:Ya l<l.length):XW l=if good (l.take (Ya l))=true/\good (l.drop (Ya l+1))=true/\0<Dz (l.drop (Ya l+1))then some (Rat.divInt (Dz (l.take (Ya l))) (Dz (l.drop (Ya l+1))))else none:=by
 unfold XW;grind
theorem Vq(l:List UInt8):DQ 2000 (Ex l):=by
 have a:DQ 2000 0:=⟨Sm.zero _,Sm.one _ O⟩;unfold Ex;by_cases h:l.length<=2000
 . by_cases hs:Ya l=l.length
   . rw[QX h hs];split
     . rename_i hg;exact⟨Sm.good hg,Sm.one _ O⟩
     . exact a
   grind[QY,mA,DQ.divInt,Sm.good]
 . rw[Vp O];exact a
def Vr(s:ByteArray)(k:Nat):Jk (s.extract 0 k)=(Jk s).take k:=Pt
def Vs(s:ByteArray)(k:Nat):Jk (s.extract k s.size)=(Jk s).drop k:=Tu
def Hn(l:List UInt8):Int:=if good l=true then Dz l else 0
theorem Vt(l:List UInt8):Sok (Hn l):=by
 grind[Hn,Sok.of,Sm.good,Sok.zero]
theorem QZ(s:ByteArray)(hs:s.size<=140737488351232)(w:World):Calls Tryz.prog 37 #[.string s] w λe w'=>∃u,e=.returned (.tuple #[u,.bool (good (Jk s))])/\Jj w' u (Hn (Jk s))/\Bl w w':=by
 refine(fS s hs w).mono ?_;rintro e w' ⟨d,b,c⟩;cases hg:good (Jk s)with
 |true=>
  grind[Hn]
 |false=>
  have a:=b hg;refine⟨_,a,?_,c⟩;grind[Hn,EY]
