import Derived.Test.YtakpoihdghihmaaGreatDoorR36
import Derived.Test.YtakpoihdghihmaaGreatDoorR24
set_option maxRecDepth 100000
set_option maxHeartbeats 16000000
namespace Go.Proofs.YtakpoihdghihmaaGreatDoor
open Go.RowKit Go.Shelf
def Xi(l:List UInt8):Option Rat:=
 if l.length<=2000 then
  if JW l=l.length then(if good l=true then some ((Xb l:Int):Rat)else none)
  else if good (l.take (JW l))=true/\good (l.drop (JW l+1))=true/\0<Xb (l.drop (JW l+1))then some (Rat.divInt (Xb (l.take (JW l))) (Xb (l.drop (JW l+1))))
  else none
 else none
def Eh(l:List UInt8):Rat:=(Xi l).getD 0
variable{l:List UInt8}
theorem Z7(l:List UInt8):JW l<=l.length:=by
 rcases Lj l with⟨h,_⟩|⟨h,_⟩<;>omega
theorem Q9(h:2000<l.length):Xi l=none:=by
 unfold Xi;rw[BA O]
theorem Nv(h:l.length<=2000)(a:JW l=l.length):Xi l=if good l=true then some ((Xb l:Int):Rat)else none:=by
 unfold Xi;rw[BC h,BC a]
theorem Nw(h:l.length<=2000)(a:JW l<l.length):Xi l=if good (l.take (JW l))=true/\good (l.drop (JW l+1))=true/\0<Xb (l.drop (JW l+1))then some (Rat.divInt (Xb (l.take (JW l))) (Xb (l.drop (JW l+1))))else none:=by
 unfold Xi;rw[BC h,BA O]
theorem RA(l:List UInt8):DQ 2000 (Eh l):=by
 have b:DQ 2000 0:=⟨Sm.zero _,Sm.one _ O⟩;unfold Eh;by_cases h:l.length<=2000
 . by_cases c:JW l=l.length
   . rw[Nv h c];split
     . rename_i a;exact⟨Sm.good a,Sm.one _ O⟩
     . exact b
   . rw[Nw h (by have:=Z7 l;omega)];split
     . rename_i a;exact DQ.divInt O (Sm.good a.1) (Sm.good a.2.1)
     . exact b
 . rw[Q9 O];exact b
theorem Z8(s:ByteArray)(k:Nat):Jj (s.extract 0 k)=(Jj s).take k:=NJ
theorem Z9(s:ByteArray)(k:Nat):Jj (s.extract k s.size)=(Jj s).drop k:=Pf
def GN(l:List UInt8):Int:=if good l=true then Xb l else 0
theorem RB(l:List UInt8):Sok (GN l):=by
 unfold GN;split
 . rename_i h;exact Sok.of (Sm.good h) O
 . exact Sok.zero
theorem Nx(s:ByteArray)(i:s.size<=140737488351232)(w:World):Calls Tryz.prog 63 #[.string s] w λe b=>∃u,e=.returned (.tuple #[u,.bool (good (Jj s))])/\Jk b u (GN (Jj s))/\Bl w b:=by
 refine(VL s i w).mono ?_;rintro e b ⟨f,g,c⟩;cases a:good (Jj s)with
 |true=>
  obtain⟨u,rfl,j⟩:=f a;exact⟨u,rfl,by unfold GN;rw[BC a];exact j,c⟩
 |false=>
  have d:=g a;refine⟨_,d,?_,c⟩;unfold GN;rw[BA (by rw[a];simp)];exact XW _
