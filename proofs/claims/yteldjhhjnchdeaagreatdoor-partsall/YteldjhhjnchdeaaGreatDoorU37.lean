import Derived.Test.YteldjhhjnchdeaaGreatDoorU36
import Derived.Test.YteldjhhjnchdeaaGreatDoorU24
set_option maxRecDepth 100000
set_option maxHeartbeats 16000000
namespace Go.Proofs.YteldjhhjnchdeaaGreatDoor
open Go.RowKit Go.Shelf
def X1(l:List UInt8):Option Rat:=
 if l.length<=2000 then
  if Ya l=l.length then(if good l=true then some ((Xf l:Int):Rat)else none)
  else if good (l.take (Ya l))=true/\good (l.drop (Ya l+1))=true/\0<Xf (l.drop (Ya l+1))then some (Rat.divInt (Xf (l.take (Ya l))) (Xf (l.drop (Ya l+1))))
  else none
 else none
def IW(l:List UInt8):Rat:=(X1 l).getD 0
variable{l:List UInt8}
theorem dm(h:2000<l.length):X1 l=none:=by
 unfold X1;rw[BC O]
theorem Sv(h:l.length<=2000)(hs:Ya l=l.length):X1 l=if good l=true then some ((Xf l:Int):Rat)else none:=by
 unfold X1;rw[BG h,BG hs]
theorem Sw(h:l.length<=2000)(hs:Ya l<l.length):X1 l=if good (l.take (Ya l))=true/\good (l.drop (Ya l+1))=true/\0<Xf (l.drop (Ya l+1))then some (Rat.divInt (Xf (l.take (Ya l))) (Xf (l.drop (Ya l+1))))else none:=by
 unfold X1;rw[BG h,BC O]
theorem dq(s:ByteArray)(k:Nat):Jf (s.extract 0 k)=(Jf s).take k:=OY
theorem dw(s:ByteArray)(k:Nat):Jf (s.extract k s.size)=(Jf s).drop k:=RD
def Hj(l:List UInt8):Int:=if good l=true then Xf l else 0
theorem Sx(l:List UInt8):DY (Hj l):=by
 unfold Hj;split
 . rename_i h;exact DY.of (Sm.good h) O
 . exact DY.zero
theorem O8(s:ByteArray)(hs:s.size<=140737488351232)(w:World):Calls Tryz.prog 190 #[.string s] w λe b=>∃u,e=.returned (.tuple #[u,.bool (good (Jf s))])/\Jm b u (Hj (Jf s))/\Bl w b:=by
 refine(ZM s hs w).mono ?_;rintro e b ⟨f,g,c⟩;cases a:good (Jf s)with
 |true=>
  obtain⟨u,rfl,i⟩:=f a;exact⟨u,rfl,by unfold Hj;rw[BG a];exact i,c⟩
 |false=>
  have d:=g a;refine⟨_,d,?_,c⟩;unfold Hj;rw[BC (by rw[a];simp)];exact ET _
