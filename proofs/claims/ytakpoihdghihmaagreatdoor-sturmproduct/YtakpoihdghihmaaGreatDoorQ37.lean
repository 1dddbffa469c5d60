import Derived.Test.YtakpoihdghihmaaGreatDoorQ36
import Derived.Test.YtakpoihdghihmaaGreatDoorQ24
set_option maxRecDepth 100000
set_option maxHeartbeats 16000000
namespace Go.Proofs.YtakpoihdghihmaaGreatDoor
open Go.RowKit Go.Shelf
def Xa(l:List UInt8):Option Rat:=
 if l.length<=2000 then
  if JT l=l.length then(if good l=true then some ((Y4 l:Int):Rat)else none)
  else if good (l.take (JT l))=true/\good (l.drop (JT l+1))=true/\0<Y4 (l.drop (JT l+1))then some (Rat.divInt (Y4 (l.take (JT l))) (Y4 (l.drop (JT l+1))))
  else none
 else none
def Ej(l:List UInt8):Rat:=(Xa l).getD 0
variable{l:List UInt8}
theorem Wz(l:List UInt8):JT l<=l.length:=by
 rcases LJ l with⟨h,_⟩|⟨h,_⟩<;>omega
theorem Pp(h:2000<l.length):Xa l=none:=by
 unfold Xa;rw[BB Y]
theorem NA(h:l.length<=2000)(a:JT l=l.length):Xa l=if good l=true then some ((Y4 l:Int):Rat)else none:=by
 unfold Xa;rw[BH h,BH a]
theorem NB(h:l.length<=2000)(a:JT l<l.length):Xa l=if good (l.take (JT l))=true/\good (l.drop (JT l+1))=true/\0<Y4 (l.drop (JT l+1))then some (Rat.divInt (Y4 (l.take (JT l))) (Y4 (l.drop (JT l+1))))else none:=by
 unfold Xa;rw[BH h,BB Y]
theorem W4(l:List UInt8):DT 2000 (Ej l):=by
 have b:DT 2000 0:=⟨Sm.zero _,Sm.one _ Y⟩;unfold Ej;by_cases h:l.length<=2000
 . by_cases c:JT l=l.length
   . rw[NA h c];split
     . rename_i a;exact⟨Sm.good a,Sm.one _ Y⟩
     . exact b
   . rw[NB h (by have:=Wz l;omega)];split
     . rename_i a;exact DT.divInt Y (Sm.good a.1) (Sm.good a.2.1)
     . exact b
 . rw[Pp Y];exact b
theorem W7(s:ByteArray)(k:Nat):Jj (s.extract 0 k)=(Jj s).take k:=MU
theorem W8(s:ByteArray)(k:Nat):Jj (s.extract k s.size)=(Jj s).drop k:=On
def GD(l:List UInt8):Int:=if good l=true then Y4 l else 0
theorem Pq(l:List UInt8):Sok (GD l):=by
 unfold GD;split
 . rename_i h;exact Sok.of (Sm.good h) Y
 . exact Sok.zero
theorem NC(s:ByteArray)(i:s.size<=140737488351232)(w:World):Calls Tryz.prog 63 #[.string s] w λe b=>∃u,e=.returned (.tuple #[u,.bool (good (Jj s))])/\Jk b u (GD (Jj s))/\Bl w b:=by
 refine(Th s i w).mono ?_;rintro e b ⟨f,g,c⟩;cases a:good (Jj s)with
 |true=>
  obtain⟨u,rfl,j⟩:=f a;exact⟨u,rfl,by unfold GD;rw[BH a];exact j,c⟩
 |false=>
  have d:=g a;refine⟨_,d,?_,c⟩;unfold GD;rw[BB (by rw[a];simp)];exact XP _
