import Derived.Test.YtcahejkcdcjjgaaGreatDoorU24
import Derived.Test.YtcahejkcdcjjgaaGreatDoorU31
set_option linter.all false
set_option maxRecDepth 99999
set_option maxHeartbeats 0
namespace Go.Proofs.YtcahejkcdcjjgaaGreatDoor
open Go.RowKit Go.Shelf M3
def YF(l:List UInt8):Option Rat:=
 if l.length<=2000 then
  if JO l=l.length then(if good l=true then some ((YA l:Int):Rat)else none)
  else if good (l.take (JO l))=true/\good (l.drop (JO l+1))=true/\0<YA (l.drop (JO l+1))then some (Rat.divInt (YA (l.take (JO l))) (YA (l.drop (JO l+1))))
  else none
 else none
def ED(l:List UInt8):Rat:=(YF l).getD 0
variable{l:List UInt8}
def SX(h:2000<l.length):YF l=none:=by
 unfold YF;rw[BE Y]
def M8(h:l.length<=2000)(hs:JO l=l.length):YF l=if good l=true then some ((YA l:Int):Rat)else none:=by
 unfold YF;rw[BH h,BH hs]
theorem M9(h:l.length<=2000)(hs:JO l<l.length):YF l=if good (l.take (JO l))=true/\good (l.drop (JO l+1))=true/\0<YA (l.drop (JO l+1))then some (Rat.divInt (YA (l.take (JO l))) (YA (l.drop (JO l+1))))else none:=by
 unfold YF;grind
def SY(s:ByteArray)(k:Nat):Jc (s.extract 0 k)=(Jc s).take k:=Ih
def SZ(s:ByteArray)(k:Nat):Jc (s.extract k s.size)=(Jc s).drop k:=LU
def EE(l:List UInt8):Int:=if good l=true then YA l else 0
theorem NA(l:List UInt8):Sok (EE l):=by
 grind[EE,Sok.of,Sm.good,Sok.zero]
theorem KU(s:ByteArray)(hs:s.size<=140737488351232)(w:World):Calls Tryz.prog 103 #[.string s] w λe a=>∃u,e=.returned (.tuple #[u,.bool (good (Jc s))])/\Jh a u (EE (Jc s))/\Bl w a:=by
 refine(PJ s hs w).mono ?_;rintro e a ⟨f,c,d⟩;cases hg:good (Jc s)with
 |true=>
  grind[EE]
 |false=>
  have b:=c hg;refine⟨_,b,?_,d⟩;grind[EE,Dm]
