import Derived.Test.YtcahejkcdcjjgaaGreatDoorT24
import Derived.Test.YtcahejkcdcjjgaaGreatDoorT31
set_option linter.all false
set_option maxRecDepth 99999
set_option maxHeartbeats 0
namespace Go.Proofs.YtcahejkcdcjjgaaGreatDoor
open Go.RowKit Go.Shelf M3
def Yw(l:List UInt8):Option Rat:=
 if l.length<=2000 then
  if JP l=l.length then(if good l=true then some ((Yo l:Int):Rat)else none)
  else if good (l.take (JP l))=true/\good (l.drop (JP l+1))=true/\0<Yo (l.drop (JP l+1))then some (Rat.divInt (Yo (l.take (JP l))) (Yo (l.drop (JP l+1))))
  else none
 else none
def EG(l:List UInt8):Rat:=(Yw l).getD 0
variable{l:List UInt8}
def SO(h:2000<l.length):Yw l=none:=by
 unfold Yw;rw[BH Y]
def Ms(h:l.length<=2000)(hs:JP l=l.length):Yw l=if good l=true then some ((Yo l:Int):Rat)else none:=by
 unfold Yw;rw[BL h,BL hs]
theorem Mt(h:l.length<=2000)(hs:JP l<l.length):Yw l=if good (l.take (JP l))=true/\good (l.drop (JP l+1))=true/\0<Yo (l.drop (JP l+1))then some (Rat.divInt (Yo (l.take (JP l))) (Yo (l.drop (JP l+1))))else none:=by
 unfold Yw;grind
def SP(s:ByteArray)(k:Nat):Je (s.extract 0 k)=(Je s).take k:=IV
def SQ(s:ByteArray)(k:Nat):Je (s.extract k s.size)=(Je s).drop k:=LH
def EH(l:List UInt8):Int:=if good l=true then Yo l else 0
theorem Mu(l:List UInt8):Sok (EH l):=by
 grind[EH,Sok.of,Sm.good,Sok.zero]
theorem KJ(s:ByteArray)(hs:s.size<=140737488351232)(w:World):Calls Tryz.prog 103 #[.string s] w λe a=>∃u,e=.returned (.tuple #[u,.bool (good (Je s))])/\Jh a u (EH (Je s))/\Bl w a:=by
 refine(O6 s hs w).mono ?_;rintro e a ⟨f,c,d⟩;cases hg:good (Je s)with
 |true=>
  grind[EH]
 |false=>
  have b:=c hg;refine⟨_,b,?_,d⟩;grind[EH,Dq]
