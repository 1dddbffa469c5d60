import Derived.Test.YtakpoihdghihmaaGreatDoorP37
import Derived.Test.YtakpoihdghihmaaGreatDoorP24
set_option maxRecDepth 100000
set_option maxHeartbeats 16000000
namespace Go.Proofs.YtakpoihdghihmaaGreatDoor
open Go.RowKit Go.Shelf
def Xa(l:List UInt8):Option Rat:=
 if l.length<=2000 then
  if JT l=l.length then(if good l=true then some ((Y4 l:Int):Rat)else none)
  else if good (l.take (JT l))=true/\good (l.drop (JT l+1))=true/\0<Y4 (l.drop (JT l+1))then some (Rat.divInt (Y4 (l.take (JT l))) (Y4 (l.drop (JT l+1))))
  else none
 else none
def Eo(l:List UInt8):Rat:=(Xa l).getD 0
variable{l:List UInt8}
theorem Wx(l:List UInt8):JT l<=l.length:=by
 rcases LR l with⟨h,_⟩|⟨h,_⟩<;>omega
theorem Po(h:2000<l.length):Xa l=none:=by
 unfold Xa;rw[BB Y]
theorem NC(h:l.length<=2000)(a:JT l=l.length):Xa l=if good l=true then some ((Y4 l:Int):Rat)else none:=by
 unfold Xa;rw[BH h,BH a]
theorem ND(h:l.length<=2000)(a:JT l<l.length):Xa l=if good (l.take (JT l))=true/\good (l.drop (JT l+1))=true/\0<Y4 (l.drop (JT l+1))then some (Rat.divInt (Y4 (l.take (JT l))) (Y4 (l.drop (JT l+1))))else none:=by
 unfold Xa;rw[BH h,BB Y]
theorem Wy(l:List UInt8):DW 2000 (Eo l):=by
 have b:DW 2000 0:=⟨Sm.zero _,Sm.one _ Y⟩;unfold Eo;by_cases h:l.length<=2000
 . by_cases c:JT l=l.length
   . rw[NC h c];split
     . rename_i a;exact⟨Sm.good a,Sm.one _ Y⟩
     . exact b
   . rw[ND h (by have:=Wx l;omega)];split
     . rename_i a;exact DW.divInt Y (Sm.good a.1) (Sm.good a.2.1)
     . exact b
 . rw[Po Y];exact b
theorem Wz(s:ByteArray)(k:Nat):Ji (s.extract 0 k)=(Ji s).take k:=Ma
theorem W7(s:ByteArray)(k:Nat):Ji (s.extract k s.size)=(Ji s).drop k:=On
def GH(l:List UInt8):Int:=if good l=true then Y4 l else 0
theorem Pp(l:List UInt8):DS (GH l):=by
 unfold GH;split
 . rename_i h;exact DS.of (Sm.good h) Y
 . exact DS.zero
theorem NE(s:ByteArray)(i:s.size<=140737488351232)(w:World):Calls Tryz.prog 63 #[.string s] w λe b=>∃u,e=.returned (.tuple #[u,.bool (good (Ji s))])/\Jk b u (GH (Ji s))/\Bl w b:=by
 refine(Tf s i w).mono ?_;rintro e b ⟨f,g,c⟩;cases a:good (Ji s)with
 |true=>
  obtain⟨u,rfl,j⟩:=f a;exact⟨u,rfl,by unfold GH;rw[BH a];exact j,c⟩
 |false=>
  have d:=g a;refine⟨_,d,?_,c⟩;unfold GH;rw[BB (by rw[a];simp)];exact XR _
