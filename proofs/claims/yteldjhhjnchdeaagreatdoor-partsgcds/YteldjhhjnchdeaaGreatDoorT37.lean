import Derived.Test.YteldjhhjnchdeaaGreatDoorT36
import Derived.Test.YteldjhhjnchdeaaGreatDoorT24
set_option maxRecDepth 100000
set_option maxHeartbeats 16000000
namespace Go.Proofs.YteldjhhjnchdeaaGreatDoor
open Go.RowKit Go.Shelf
def XK(l:List UInt8):Option Rat:=
 if l.length<=2000 then
  if J1 l=l.length then(if good l=true then some ((YZ l:Int):Rat)else none)
  else if good (l.take (J1 l))=true/\good (l.drop (J1 l+1))=true/\0<YZ (l.drop (J1 l+1))then some (Rat.divInt (YZ (l.take (J1 l))) (YZ (l.drop (J1 l+1))))
  else none
 else none
def Hv(l:List UInt8):Rat:=(XK l).getD 0
variable{l:List UInt8}
theorem cD(h:2000<l.length):XK l=none:=by
 unfold XK;rw[BE J]
theorem Rw(h:l.length<=2000)(hs:J1 l=l.length):XK l=if good l=true then some ((YZ l:Int):Rat)else none:=by
 unfold XK;rw[BG h,BG hs]
theorem Rx(h:l.length<=2000)(hs:J1 l<l.length):XK l=if good (l.take (J1 l))=true/\good (l.drop (J1 l+1))=true/\0<YZ (l.drop (J1 l+1))then some (Rat.divInt (YZ (l.take (J1 l))) (YZ (l.drop (J1 l+1))))else none:=by
 unfold XK;rw[BG h,BE J]
theorem cE(s:ByteArray)(k:Nat):Jg (s.extract 0 k)=(Jg s).take k:=Nn
theorem cF(s:ByteArray)(k:Nat):Jg (s.extract k s.size)=(Jg s).drop k:=Pr
def Gp(l:List UInt8):Int:=if good l=true then YZ l else 0
theorem Ry(l:List UInt8):Sok (Gp l):=by
 unfold Gp;split
 . rename_i h;exact Sok.of (Sm.good h) J
 . exact Sok.zero
theorem OV(s:ByteArray)(hs:s.size<=140737488351232)(w:World):Calls Tryz.prog 190 #[.string s] w λe b=>∃u,e=.returned (.tuple #[u,.bool (good (Jg s))])/\Jk b u (Gp (Jg s))/\Bl w b:=by
 refine(Vt s hs w).mono ?_;rintro e b ⟨f,g,c⟩;cases a:good (Jg s)with
 |true=>
  obtain⟨u,rfl,i⟩:=f a;exact⟨u,rfl,by unfold Gp;rw[BG a];exact i,c⟩
 |false=>
  have d:=g a;refine⟨_,d,?_,c⟩;unfold Gp;rw[BE (by rw[a];simp)];exact EG _
