import Derived.Test.YtakpoihdghihmaaGreatDoorU24
import Derived.Test.YtakpoihdghihmaaGreatDoorU31
set_option linter.all false
set_option maxRecDepth 99999
set_option maxHeartbeats 0
namespace Go.Proofs.YtakpoihdghihmaaGreatDoor
open Go.RowKit Go.Shelf M3
def Yt(l:List UInt8):Option Rat:=
 if l.length<=2000 then
  if JQ l=l.length then(if good l=true then some ((Xi l:Int):Rat)else none)
  else if good (l.take (JQ l))=true/\good (l.drop (JQ l+1))=true/\0<Xi (l.drop (JQ l+1))then some (Rat.divInt (Xi (l.take (JQ l))) (Xi (l.drop (JQ l+1))))
  else none
 else none
def EO(l:List UInt8):Rat:=(Yt l).getD 0
variable{l:List UInt8}
theorem gX(l:List UInt8):JQ l<=l.length:=by
 grind[XI]
def NY(h:2000<l.length):Yt l=none:=by
 unfold Yt;rw[BD O]
def NZ(h:l.length<=2000)(a:JQ l=l.length):Yt l=if good l=true then some ((Xi l:Int):Rat)else none:=by
 unfold Yt;rw[BG h,BG a]
theorem Na(h:l.length<=2000)(a:JQ l<l.length):Yt l=if good (l.take (JQ l))=true/\good (l.drop (JQ l+1))=true/\0<Xi (l.drop (JQ l+1))then some (Rat.divInt (Xi (l.take (JQ l))) (Xi (l.drop (JQ l+1))))else none:=by
 unfold Yt;grind
theorem Tu(l:List UInt8):DP 2000 (EO l):=by
 have a:DP 2000 0:=⟨Sm.zero _,Sm.one _ O⟩;unfold EO;by_cases h:l.length<=2000
 . by_cases b:JQ l=l.length
   . rw[NZ h b];split
     . rename_i hg;exact⟨Sm.good hg,Sm.one _ O⟩
     . exact a
   grind[Na,gX,DP.divInt,Sm.good]
 . rw[NY O];exact a
def Pl(s:ByteArray)(k:Nat):Je (s.extract 0 k)=(Je s).take k:=Ou
def Tv(s:ByteArray)(k:Nat):Je (s.extract k s.size)=(Je s).drop k:=R4
def EP(l:List UInt8):Int:=if good l=true then Xi l else 0
theorem Nb(l:List UInt8):Sok (EP l):=by
 grind[EP,Sok.of,Sm.good,Sok.zero]
theorem Pm(s:ByteArray)(f:s.size<=140737488351232)(w:World):Calls Tryz.prog 63 #[.string s] w λe a=>∃u,e=.returned (.tuple #[u,.bool (good (Je s))])/\Jm a u (EP (Je s))/\Bl w a:=by
 refine(aH s f w).mono ?_;rintro e a ⟨g,c,d⟩;cases hg:good (Je s)with
 |true=>
  grind[EP]
 |false=>
  have b:=c hg;refine⟨_,b,?_,d⟩;grind[EP,ET]
def gY(s:ByteArray):Dj s=Je s:=rfl
def Pn(s:ByteArray)(g:s.size<=140737488351232)(w:World):Calls Tryz.prog 114 #[.string s] w λe a=>∃u,e=.returned (.tuple #[u,.bool (good (Je s))])/\Jw a u (EP (Je s))/\Bl w a:=by
 refine(cT s g w).mono ?_;rintro e a ⟨b,c,d⟩;rw[gY]at b c;cases hg:good (Je s)with
 |true=>
  obtain⟨u,rfl,i⟩:=b hg;exact⟨u,J,by unfold EP;rw[BG hg];exact i,d⟩
 |false=>
  have f:=c hg;refine⟨_,f,?_,d⟩;unfold EP;rw[BD (by rw[hg];simp)];exact cV _
