import Derived.Test.YteldjhhjnchdeaaGreatDoorU36
import Derived.Test.YteldjhhjnchdeaaGreatDoorU24
set_option maxRecDepth 100000
set_option maxHeartbeats 16000000
namespace Go.Proofs.YteldjhhjnchdeaaGreatDoor
open Go.RowKit Go.Shelf
def XM(l:List UInt8):Option Rat:=
 if l.length<=2000 then
  if J2 l=l.length then(if good l=true then some ((Y2 l:Int):Rat)else none)
  else if good (l.take (J2 l))=true/\good (l.drop (J2 l+1))=true/\0<Y2 (l.drop (J2 l+1))then some (Rat.divInt (Y2 (l.take (J2 l))) (Y2 (l.drop (J2 l+1))))
  else none
 else none
def Hy(l:List UInt8):Rat:=(XM l).getD 0
variable{l:List UInt8}
theorem cA(h:2000<l.length):XM l=none:=by
 unfold XM;rw[BE J]
theorem Rv(h:l.length<=2000)(hs:J2 l=l.length):XM l=if good l=true then some ((Y2 l:Int):Rat)else none:=by
 unfold XM;rw[BG h,BG hs]
theorem Rw(h:l.length<=2000)(hs:J2 l<l.length):XM l=if good (l.take (J2 l))=true/\good (l.drop (J2 l+1))=true/\0<Y2 (l.drop (J2 l+1))then some (Rat.divInt (Y2 (l.take (J2 l))) (Y2 (l.drop (J2 l+1))))else none:=by
 unfold XM;rw[BG h,BE J]
theorem cB(s:ByteArray)(k:Nat):Jg (s.extract 0 k)=(Jg s).take k:=Nj
theorem cC(s:ByteArray)(k:Nat):Jg (s.extract k s.size)=(Jg s).drop k:=Pq
def Gr(l:List UInt8):Int:=if good l=true then Y2 l else 0
theorem Rx(l:List UInt8):Sok (Gr l):=by
 unfold Gr;split
 . rename_i h;exact Sok.of (Sm.good h) J
 . exact Sok.zero
theorem OS(s:ByteArray)(hs:s.size<=140737488351232)(w:World):Calls Tryz.prog 190 #[.string s] w λe b=>∃u,e=.returned (.tuple #[u,.bool (good (Jg s))])/\Jk b u (Gr (Jg s))/\Bl w b:=by
 refine(Vs s hs w).mono ?_;rintro e b ⟨f,g,c⟩;cases a:good (Jg s)with
 |true=>
  obtain⟨u,rfl,i⟩:=f a;exact⟨u,rfl,by unfold Gr;rw[BG a];exact i,c⟩
 |false=>
  have d:=g a;refine⟨_,d,?_,c⟩;unfold Gr;rw[BE (by rw[a];simp)];exact EJ _
