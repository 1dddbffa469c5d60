import Derived.Test.YtakpoihdghihmaaGreatDoorC36
import Derived.Test.YtakpoihdghihmaaGreatDoorC24
set_option maxRecDepth 100000
set_option maxHeartbeats 16000000
namespace Go.Proofs.YtakpoihdghihmaaGreatDoor
open Go.RowKit Go.Shelf
def Yz(l:List UInt8):Option Rat:=
 if l.length<=2000 then
  if JT l=l.length then(if good l=true then some ((Xe l:Int):Rat)else none)
  else if good (l.take (JT l))=true/\good (l.drop (JT l+1))=true/\0<Xe (l.drop (JT l+1))then some (Rat.divInt (Xe (l.take (JT l))) (Xe (l.drop (JT l+1))))
  else none
 else none
def Es(l:List UInt8):Rat:=(Yz l).getD 0
variable{l:List UInt8}
theorem gD(l:List UInt8):JT l<=l.length:=by
 rcases XL l with⟨h,_⟩|⟨h,_⟩<;>omega
theorem Nb(h:2000<l.length):Yz l=none:=by
 unfold Yz;rw[BB O]
theorem Nc(h:l.length<=2000)(a:JT l=l.length):Yz l=if good l=true then some ((Xe l:Int):Rat)else none:=by
 unfold Yz;rw[BC h,BC a]
theorem Nd(h:l.length<=2000)(a:JT l<l.length):Yz l=if good (l.take (JT l))=true/\good (l.drop (JT l+1))=true/\0<Xe (l.drop (JT l+1))then some (Rat.divInt (Xe (l.take (JT l))) (Xe (l.drop (JT l+1))))else none:=by
 unfold Yz;rw[BC h,BB O]
theorem Te(l:List UInt8):Db 2000 (Es l):=by
 have b:Db 2000 0:=⟨Sm.zero _,Sm.one _ O⟩;unfold Es;by_cases h:l.length<=2000
 . by_cases c:JT l=l.length
   . rw[Nc h c];split
     . rename_i a;exact⟨Sm.good a,Sm.one _ O⟩
     . exact b
   . rw[Nd h (by have:=gD l;omega)];split
     . rename_i a;exact Db.divInt O (Sm.good a.1) (Sm.good a.2.1)
     . exact b
 . rw[Nb O];exact b
theorem Pi(s:ByteArray)(k:Nat):Jf (s.extract 0 k)=(Jf s).take k:=Oy
theorem Tf(s:ByteArray)(k:Nat):Jf (s.extract k s.size)=(Jf s).drop k:=Rz
def Et(l:List UInt8):Int:=if good l=true then Xe l else 0
theorem Nf(l:List UInt8):DY (Et l):=by
 unfold Et;split
 . rename_i h;exact DY.of (Sm.good h) O
 . exact DY.zero
theorem Pj(s:ByteArray)(i:s.size<=140737488351232)(w:World):Calls Tryz.prog 63 #[.string s] w λe b=>∃u,e=.returned (.tuple #[u,.bool (good (Jf s))])/\Jm b u (Et (Jf s))/\Bl w b:=by
 refine(Z4 s i w).mono ?_;rintro e b ⟨f,g,c⟩;cases a:good (Jf s)with
 |true=>
  obtain⟨u,rfl,j⟩:=f a;exact⟨u,rfl,by unfold Et;rw[BC a];exact j,c⟩
 |false=>
  have d:=g a;refine⟨_,d,?_,c⟩;unfold Et;rw[BB (by rw[a];simp)];exact EM _
theorem gE(s:ByteArray):Dt s=Jf s:=rfl
theorem Pk(s:ByteArray)(i:s.size<=140737488351232)(w:World):Calls Tryz.prog 114 #[.string s] w λe b=>∃u,e=.returned (.tuple #[u,.bool (good (Jf s))])/\Jv b u (Et (Jf s))/\Bl w b:=by
 refine(cF s i w).mono ?_;rintro e b ⟨c,d,f⟩;rw[gE]at c d;cases a:good (Jf s)with
 |true=>
  obtain⟨u,rfl,j⟩:=c a;exact⟨u,rfl,by unfold Et;rw[BC a];exact j,f⟩
 |false=>
  have g:=d a;refine⟨_,g,?_,f⟩;unfold Et;rw[BB (by rw[a];simp)];exact cG _
