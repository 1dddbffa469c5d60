import Derived.Test.YtakpoihdghihmaaGreatDoorM36
import Derived.Test.YtakpoihdghihmaaGreatDoorM24
set_option maxRecDepth 100000
set_option maxHeartbeats 16000000
namespace Go.Proofs.YtakpoihdghihmaaGreatDoor
open Go.RowKit Go.Shelf
def Y4(l:List UInt8):Option Rat:=
 if l.length<=2000 then
  if JR l=l.length then(if good l=true then some ((YW l:Int):Rat)else none)
  else if good (l.take (JR l))=true/\good (l.drop (JR l+1))=true/\0<YW (l.drop (JR l+1))then some (Rat.divInt (YW (l.take (JR l))) (YW (l.drop (JR l+1))))
  else none
 else none
def EN(l:List UInt8):Rat:=(Y4 l).getD 0
variable{l:List UInt8}
theorem WA(l:List UInt8):JR l<=l.length:=by
 rcases Ks l with⟨h,_⟩|⟨h,_⟩<;>omega
theorem Pa(h:2000<l.length):Y4 l=none:=by
 unfold Y4;rw[BC Y]
theorem Mi(h:l.length<=2000)(a:JR l=l.length):Y4 l=if good l=true then some ((YW l:Int):Rat)else none:=by
 unfold Y4;rw[BE h,BE a]
theorem Mj(h:l.length<=2000)(a:JR l<l.length):Y4 l=if good (l.take (JR l))=true/\good (l.drop (JR l+1))=true/\0<YW (l.drop (JR l+1))then some (Rat.divInt (YW (l.take (JR l))) (YW (l.drop (JR l+1))))else none:=by
 unfold Y4;rw[BE h,BC Y]
theorem Pb(l:List UInt8):DM 2000 (EN l):=by
 have b:DM 2000 0:=⟨Sm.zero _,Sm.one _ Y⟩;unfold EN;by_cases h:l.length<=2000
 . by_cases c:JR l=l.length
   . rw[Mi h c];split
     . rename_i a;exact⟨Sm.good a,Sm.one _ Y⟩
     . exact b
   . rw[Mj h (by have:=WA l;omega)];split
     . rename_i a;exact DM.divInt Y (Sm.good a.1) (Sm.good a.2.1)
     . exact b
 . rw[Pa Y];exact b
theorem WB(s:ByteArray)(k:Nat):Jj (s.extract 0 k)=(Jj s).take k:=L8
theorem WC(s:ByteArray)(k:Nat):Jj (s.extract k s.size)=(Jj s).drop k:=OV
def Fqq(l:List UInt8):Int:=if good l=true then YW l else 0
theorem Pc(l:List UInt8):Sok (Fqq l):=by
 unfold Fqq;split
 . rename_i h;exact Sok.of (Sm.good h) Y
 . exact Sok.zero
theorem Mk(s:ByteArray)(i:s.size<=140737488351232)(w:World):Calls Tryz.prog 63 #[.string s] w λe b=>∃u,e=.returned (.tuple #[u,.bool (good (Jj s))])/\Jk b u (Fqq (Jj s))/\Bl w b:=by
 refine(TB s i w).mono ?_;rintro e b ⟨f,g,c⟩;cases a:good (Jj s)with
 |true=>
  obtain⟨u,rfl,j⟩:=f a;exact⟨u,rfl,by unfold Fqq;rw[BE a];exact j,c⟩
 |false=>
  have d:=g a;refine⟨_,d,?_,c⟩;unfold Fqq;rw[BC (by rw[a];simp)];exact XP _
