import Derived.Test.YtakpoihdghihmaaGreatDoorR37
import Derived.Test.YtakpoihdghihmaaGreatDoorR24
set_option maxRecDepth 100000
set_option maxHeartbeats 16000000
namespace Go.Proofs.YtakpoihdghihmaaGreatDoor
open Go.RowKit Go.Shelf
def Xi(l:List UInt8):Option Rat:=
 if l.length<=2000 then
  if JW l=l.length then(if good l=true then some ((Xb l:Int):Rat)else none)
  else if good (l.take (JW l))=true/\good (l.drop (JW l+1))=true/\0<Xb (l.drop (JW l+1))then some (Rat.divInt (Xb (l.take (JW l))) (Xb (l.drop (JW l+1))))
  else none
 else none
def Em(l:List UInt8):Rat:=(Xi l).getD 0
variable{l:List UInt8}
theorem Z7(l:List UInt8):JW l<=l.length:=by
 rcases Ls l with⟨h,_⟩|⟨h,_⟩<;>omega
theorem Q9(h:2000<l.length):Xi l=none:=by
 unfold Xi;rw[BB Y]
theorem Nx(h:l.length<=2000)(a:JW l=l.length):Xi l=if good l=true then some ((Xb l:Int):Rat)else none:=by
 unfold Xi;rw[BC h,BC a]
theorem Ny(h:l.length<=2000)(a:JW l<l.length):Xi l=if good (l.take (JW l))=true/\good (l.drop (JW l+1))=true/\0<Xb (l.drop (JW l+1))then some (Rat.divInt (Xb (l.take (JW l))) (Xb (l.drop (JW l+1))))else none:=by
 unfold Xi;rw[BC h,BB Y]
theorem RA(l:List UInt8):DT 2000 (Em l):=by
 have b:DT 2000 0:=⟨Sm.zero _,Sm.one _ Y⟩;unfold Em;by_cases h:l.length<=2000
 . by_cases c:JW l=l.length
   . rw[Nx h c];split
     . rename_i a;exact⟨Sm.good a,Sm.one _ Y⟩
     . exact b
   . rw[Ny h (by have:=Z7 l;omega)];split
     . rename_i a;exact DT.divInt Y (Sm.good a.1) (Sm.good a.2.1)
     . exact b
 . rw[Q9 Y];exact b
theorem Z8(s:ByteArray)(k:Nat):Ji (s.extract 0 k)=(Ji s).take k:=NP
theorem Z9(s:ByteArray)(k:Nat):Ji (s.extract k s.size)=(Ji s).drop k:=Pg
def GS(l:List UInt8):Int:=if good l=true then Xb l else 0
theorem RB(l:List UInt8):DQ (GS l):=by
 unfold GS;split
 . rename_i h;exact DQ.of (Sm.good h) Y
 . exact DQ.zero
theorem Nz(s:ByteArray)(i:s.size<=140737488351232)(w:World):Calls Tryz.prog 63 #[.string s] w λe b=>∃u,e=.returned (.tuple #[u,.bool (good (Ji s))])/\Jk b u (GS (Ji s))/\Bl w b:=by
 refine(VK s i w).mono ?_;rintro e b ⟨f,g,c⟩;cases a:good (Ji s)with
 |true=>
  obtain⟨u,rfl,j⟩:=f a;exact⟨u,rfl,by unfold GS;rw[BC a];exact j,c⟩
 |false=>
  have d:=g a;refine⟨_,d,?_,c⟩;unfold GS;rw[BB (by rw[a];simp)];exact XZ _
