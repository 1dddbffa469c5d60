import Derived.Test.YtcahejkcdcjjgaaGreatDoorW24
import Derived.Test.YtcahejkcdcjjgaaGreatDoorW31
set_option linter.all false
set_option maxRecDepth 99999
set_option maxHeartbeats 0
namespace Go.Proofs.YtcahejkcdcjjgaaGreatDoor
open Go.RowKit Go.Shelf M3
def J9(l:List UInt8):Option Rat:=
 if l.length<=2000 then
  if JH l=l.length then(if good l=true then some ((Yu l:Int):Rat)else none)
  else if good (l.take (JH l))=true/\good (l.drop (JH l+1))=true/\0<Yu (l.drop (JH l+1))then some (Rat.divInt (Yu (l.take (JH l))) (Yu (l.drop (JH l+1))))
  else none
 else none
def EE(l:List UInt8):Rat:=(J9 l).getD 0
variable{l:List UInt8}
theorem Vr(l:List UInt8):JH l<=l.length:=by
 grind[YR]
def KQ(h:2000<l.length):J9 l=none:=by
 unfold J9;rw[BH O]
def KR(h:l.length<=2000)(hs:JH l=l.length):J9 l=if good l=true then some ((Yu l:Int):Rat)else none:=by
 unfold J9;rw[BL h,BL hs]
theorem KS(h:l.length<=2000)(hs:JH l<l.length):J9 l=if good (l.take (JH l))=true/\good (l.drop (JH l+1))=true/\0<Yu (l.drop (JH l+1))then some (Rat.divInt (Yu (l.take (JH l))) (Yu (l.drop (JH l+1))))else none:=by
 unfold J9;grind
theorem Vs(l:List UInt8):DR 2000 (EE l):=by
 have a:DR 2000 0:=⟨Sm.zero _,Sm.one _ O⟩;unfold EE;by_cases h:l.length<=2000
 . by_cases hs:JH l=l.length
   . rw[KR h hs];split
     . rename_i hg;exact⟨Sm.good hg,Sm.one _ O⟩
     . exact a
   grind[KS,Vr,DR.divInt,Sm.good]
 . rw[KQ O];exact a
def MJ(s:ByteArray)(k:Nat):Jc (s.extract 0 k)=(Jc s).take k:=LR
def PL(s:ByteArray)(k:Nat):Jc (s.extract k s.size)=(Jc s).drop k:=Nb
def EB(l:List UInt8):Int:=if good l=true then Yu l else 0
theorem KT(l:List UInt8):Sok (EB l):=by
 grind[EB,Sok.of,Sm.good,Sok.zero]
theorem MK(s:ByteArray)(hs:s.size<=140737488351232)(w:World):Calls Tryz.prog 103 #[.string s] w λe a=>∃u,e=.returned (.tuple #[u,.bool (good (Jc s))])/\Jl a u (EB (Jc s))/\Bl w a:=by
 refine(R6 s hs w).mono ?_;rintro e a ⟨f,c,d⟩;cases hg:good (Jc s)with
 |true=>
  grind[EB]
 |false=>
  have b:=c hg;refine⟨_,b,?_,d⟩;grind[EB,EN]
def Vt(s:ByteArray):Dc s=Jc s:=rfl
def ML(s:ByteArray)(hs:s.size<=140737488351232)(w:World):Calls Tryz.prog 105 #[.string s] w λe a=>∃u,e=.returned (.tuple #[u,.bool (good (Jc s))])/\Jr a u (EB (Jc s))/\Bl w a:=by
 refine(Tc s hs w).mono ?_;rintro e a ⟨b,c,d⟩;rw[Vt]at b c;cases hg:good (Jc s)with
 |true=>
  obtain⟨u,rfl,g⟩:=b hg;exact⟨u,J,by unfold EB;rw[BL hg];exact g,d⟩
 |false=>
  have f:=c hg;refine⟨_,f,?_,d⟩;unfold EB;rw[BH (by rw[hg];simp)];exact N9 _
