import Derived.Test.YteldjhhjnchdeaaGreatDoorW36
import Derived.Test.YteldjhhjnchdeaaGreatDoorW24
set_option maxRecDepth 100000
set_option maxHeartbeats 16000000
namespace Go.Proofs.YteldjhhjnchdeaaGreatDoor
open Go.RowKit Go.Shelf
def Xk(l:List UInt8):Option Rat:=
 if l.length<=2000 then
  if JU l=l.length then(if good l=true then some ((YX l:Int):Rat)else none)
  else if good (l.take (JU l))=true/\good (l.drop (JU l+1))=true/\0<YX (l.drop (JU l+1))then some (Rat.divInt (YX (l.take (JU l))) (YX (l.drop (JU l+1))))
  else none
 else none
def Gc(l:List UInt8):Rat:=(Xk l).getD 0
variable{l:List UInt8}
theorem WO(h:2000<l.length):Xk l=none:=by
 unfold Xk;rw[BH Z]
theorem Px(h:l.length<=2000)(hs:JU l=l.length):Xk l=if good l=true then some ((YX l:Int):Rat)else none:=by
 unfold Xk;rw[BJ h,BJ hs]
theorem Py(h:l.length<=2000)(hs:JU l<l.length):Xk l=if good (l.take (JU l))=true/\good (l.drop (JU l+1))=true/\0<YX (l.drop (JU l+1))then some (Rat.divInt (YX (l.take (JU l))) (YX (l.drop (JU l+1))))else none:=by
 unfold Xk;rw[BJ h,BH Z]
theorem WP(s:ByteArray)(k:Nat):Jh (s.extract 0 k)=(Jh s).take k:=MK
theorem WR(s:ByteArray)(k:Nat):Jh (s.extract k s.size)=(Jh s).drop k:=Oe
def F8(l:List UInt8):Int:=if good l=true then YX l else 0
theorem Pz(l:List UInt8):DT (F8 l):=by
 unfold F8;split
 . rename_i h;exact DT.of (Sm.good h) Z
 . exact DT.zero
theorem Mn(s:ByteArray)(hs:s.size<=140737488351232)(w:World):Calls Tryz.prog 190 #[.string s] w λe b=>∃u,e=.returned (.tuple #[u,.bool (good (Jh s))])/\Jk b u (F8 (Jh s))/\Bl w b:=by
 refine(Td s hs w).mono ?_;rintro e b ⟨f,g,c⟩;cases a:good (Jh s)with
 |true=>
  obtain⟨u,rfl,i⟩:=f a;exact⟨u,rfl,by unfold F8;rw[BJ a];exact i,c⟩
 |false=>
  have d:=g a;refine⟨_,d,?_,c⟩;unfold F8;rw[BH (by rw[a];simp)];exact XI _
