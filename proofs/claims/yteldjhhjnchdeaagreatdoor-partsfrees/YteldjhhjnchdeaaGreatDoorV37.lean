import Derived.Test.YteldjhhjnchdeaaGreatDoorV36
import Derived.Test.YteldjhhjnchdeaaGreatDoorV24
set_option maxRecDepth 100000
set_option maxHeartbeats 16000000
namespace Go.Proofs.YteldjhhjnchdeaaGreatDoor
open Go.RowKit Go.Shelf
def XH(l:List UInt8):Option Rat:=
 if l.length<=2000 then
  if J0 l=l.length then(if good l=true then some ((YY l:Int):Rat)else none)
  else if good (l.take (J0 l))=true/\good (l.drop (J0 l+1))=true/\0<YY (l.drop (J0 l+1))then some (Rat.divInt (YY (l.take (J0 l))) (YY (l.drop (J0 l+1))))
  else none
 else none
def Hv(l:List UInt8):Rat:=(XH l).getD 0
variable{l:List UInt8}
theorem bT(h:2000<l.length):XH l=none:=by
 unfold XH;rw[BC Y]
theorem Rt(h:l.length<=2000)(hs:J0 l=l.length):XH l=if good l=true then some ((YY l:Int):Rat)else none:=by
 unfold XH;rw[BG h,BG hs]
theorem Ru(h:l.length<=2000)(hs:J0 l<l.length):XH l=if good (l.take (J0 l))=true/\good (l.drop (J0 l+1))=true/\0<YY (l.drop (J0 l+1))then some (Rat.divInt (YY (l.take (J0 l))) (YY (l.drop (J0 l+1))))else none:=by
 unfold XH;rw[BG h,BC Y]
theorem bU(s:ByteArray)(k:Nat):Je (s.extract 0 k)=(Je s).take k:=Nr
theorem bV(s:ByteArray)(k:Nat):Je (s.extract k s.size)=(Je s).drop k:=Pp
def Gn(l:List UInt8):Int:=if good l=true then YY l else 0
theorem Rv(l:List UInt8):DY (Gn l):=by
 unfold Gn;split
 . rename_i h;exact DY.of (Sm.good h) Y
 . exact DY.zero
theorem OT(s:ByteArray)(hs:s.size<=140737488351232)(w:World):Calls Tryz.prog 190 #[.string s] w λe b=>∃u,e=.returned (.tuple #[u,.bool (good (Je s))])/\Jm b u (Gn (Je s))/\Bl w b:=by
 refine(Vk s hs w).mono ?_;rintro e b ⟨f,g,c⟩;cases a:good (Je s)with
 |true=>
  obtain⟨u,rfl,i⟩:=f a;exact⟨u,rfl,by unfold Gn;rw[BG a];exact i,c⟩
 |false=>
  have d:=g a;refine⟨_,d,?_,c⟩;unfold Gn;rw[BC (by rw[a];simp)];exact EQ _
