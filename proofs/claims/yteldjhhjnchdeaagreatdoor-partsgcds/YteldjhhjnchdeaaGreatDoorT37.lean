import Derived.Test.YteldjhhjnchdeaaGreatDoorT36
import Derived.Test.YteldjhhjnchdeaaGreatDoorT24
set_option maxRecDepth 100000
set_option maxHeartbeats 16000000
namespace Go.Proofs.YteldjhhjnchdeaaGreatDoor
open Go.RowKit Go.Shelf
def XE(l:List UInt8):Option Rat:=
 if l.length<=2000 then
  if J0 l=l.length then(if good l=true then some ((YV l:Int):Rat)else none)
  else if good (l.take (J0 l))=true/\good (l.drop (J0 l+1))=true/\0<YV (l.drop (J0 l+1))then some (Rat.divInt (YV (l.take (J0 l))) (YV (l.drop (J0 l+1))))
  else none
 else none
def Hu(l:List UInt8):Rat:=(XE l).getD 0
variable{l:List UInt8}
theorem bQ(h:2000<l.length):XE l=none:=by
 unfold XE;rw[BC om]
theorem Rx(h:l.length<=2000)(hs:J0 l=l.length):XE l=if good l=true then some ((YV l:Int):Rat)else none:=by
 unfold XE;rw[BG h,BG hs]
theorem Ry(h:l.length<=2000)(hs:J0 l<l.length):XE l=if good (l.take (J0 l))=true/\good (l.drop (J0 l+1))=true/\0<YV (l.drop (J0 l+1))then some (Rat.divInt (YV (l.take (J0 l))) (YV (l.drop (J0 l+1))))else none:=by
 unfold XE;rw[BG h,BC om]
theorem bS(s:ByteArray)(k:Nat):Je (s.extract 0 k)=(Je s).take k:=Nt
theorem bT(s:ByteArray)(k:Nat):Je (s.extract k s.size)=(Je s).drop k:=Pt
def Gn(l:List UInt8):Int:=if good l=true then YV l else 0
theorem Rz(l:List UInt8):Da (Gn l):=by
 unfold Gn;split
 . rename_i h;exact Da.of (Sm.good h) om
 . exact Da.zero
theorem OU(s:ByteArray)(hs:s.size<=140737488351232)(w:World):Calls Tryz.prog 190 #[.string s] w λe b=>∃u,e=.returned (.tuple #[u,.bool (good (Je s))])/\Jl b u (Gn (Je s))/\Bl w b:=by
 refine(Vj s hs w).mono ?_;rintro e b ⟨d,f,c⟩;cases a:good (Je s)with
 |true=>
  obtain⟨u,rfl,i⟩:=d a;exact⟨u,rfl,by unfold Gn;rw[BG a];exact i,c⟩
 |false=>
  have g:=f a;refine⟨_,g,?_,c⟩;unfold Gn;rw[BC (by rw[a];simp)];exact EP _
