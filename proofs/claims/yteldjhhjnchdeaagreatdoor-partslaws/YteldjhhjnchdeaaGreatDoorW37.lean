import Derived.Test.YteldjhhjnchdeaaGreatDoorW36
import Derived.Test.YteldjhhjnchdeaaGreatDoorW24
set_option maxRecDepth 100000
set_option maxHeartbeats 16000000
namespace Go.Proofs.YteldjhhjnchdeaaGreatDoor
open Go.RowKit Go.Shelf
def Xg(l:List UInt8):Option Rat:=
 if l.length<=2000 then
  if JU l=l.length then(if good l=true then some ((YX l:Int):Rat)else none)
  else if good (l.take (JU l))=true/\good (l.drop (JU l+1))=true/\0<YX (l.drop (JU l+1))then some (Rat.divInt (YX (l.take (JU l))) (YX (l.drop (JU l+1))))
  else none
 else none
def GV(l:List UInt8):Rat:=(Xg l).getD 0
variable{l:List UInt8}
theorem WP(h:2000<l.length):Xg l=none:=by
 unfold Xg;rw[BH Y]
theorem Px(h:l.length<=2000)(hs:JU l=l.length):Xg l=if good l=true then some ((YX l:Int):Rat)else none:=by
 unfold Xg;rw[BJ h,BJ hs]
theorem Py(h:l.length<=2000)(hs:JU l<l.length):Xg l=if good (l.take (JU l))=true/\good (l.drop (JU l+1))=true/\0<YX (l.drop (JU l+1))then some (Rat.divInt (YX (l.take (JU l))) (YX (l.drop (JU l+1))))else none:=by
 unfold Xg;rw[BJ h,BH Y]
theorem WR(s:ByteArray)(k:Nat):Jh (s.extract 0 k)=(Jh s).take k:=MF
theorem WS(s:ByteArray)(k:Nat):Jh (s.extract k s.size)=(Jh s).drop k:=Od
def F6(l:List UInt8):Int:=if good l=true then YX l else 0
theorem Pz(l:List UInt8):Sok (F6 l):=by
 unfold F6;split
 . rename_i h;exact Sok.of (Sm.good h) Y
 . exact Sok.zero
theorem Mn(s:ByteArray)(hs:s.size<=140737488351232)(w:World):Calls Tryz.prog 190 #[.string s] w λe b=>∃u,e=.returned (.tuple #[u,.bool (good (Jh s))])/\Jk b u (F6 (Jh s))/\Bl w b:=by
 refine(Te s hs w).mono ?_;rintro e b ⟨f,g,c⟩;cases a:good (Jh s)with
 |true=>
  obtain⟨u,rfl,i⟩:=f a;exact⟨u,rfl,by unfold F6;rw[BJ a];exact i,c⟩
 |false=>
  have d:=g a;refine⟨_,d,?_,c⟩;unfold F6;rw[BH (by rw[a];simp)];exact XI _
