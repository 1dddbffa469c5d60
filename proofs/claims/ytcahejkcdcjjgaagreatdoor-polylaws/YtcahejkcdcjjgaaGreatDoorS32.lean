import Derived.Test.YtcahejkcdcjjgaaGreatDoorS24
import Derived.Test.YtcahejkcdcjjgaaGreatDoorS31
set_option linter.all false
set_option maxRecDepth 99999
set_option maxHeartbeats 0
namespace Go.Proofs.YtcahejkcdcjjgaaGreatDoor
open Go.RowKit Go.Shelf M3
def Yo(l:List UInt8):Option Rat:=
 if l.length<=2000 then
  if JH l=l.length then(if good l=true then some ((YE l:Int):Rat)else none)
  else if good (l.take (JH l))=true/\good (l.drop (JH l+1))=true/\0<YE (l.drop (JH l+1))then some (Rat.divInt (YE (l.take (JH l))) (YE (l.drop (JH l+1))))
  else none
 else none
def D4(l:List UInt8):Rat:=(Yo l).getD 0
variable{l:List UInt8}
theorem US(l:List UInt8):JH l<=l.length:=by
 grind[X2]
def Oq(h:2000<l.length):Yo l=none:=by
 unfold Yo;rw[Bk Z]
def Lw(h:l.length<=2000)(hs:JH l=l.length):Yo l=if good l=true then some ((YE l:Int):Rat)else none:=by
 unfold Yo;rw[Br h,Br hs]
theorem Lx(h:l.length<=2000)(hs:JH l<l.length):Yo l=if good (l.take (JH l))=true/\good (l.drop (JH l+1))=true/\0<YE (l.drop (JH l+1))then some (Rat.divInt (YE (l.take (JH l))) (YE (l.drop (JH l+1))))else none:=by
 unfold Yo;grind
theorem KB(l:List UInt8):DT 2000 (D4 l):=by
 have a:DT 2000 0:=⟨Sm.zero _,Sm.one _ Z⟩;unfold D4;by_cases h:l.length<=2000
 . by_cases hs:JH l=l.length
   . rw[Lw h hs];split
     . rename_i hg;exact⟨Sm.good hg,Sm.one _ Z⟩
     . exact a
   grind[Lx,US,DT.divInt,Sm.good]
 . rw[Oq Z];exact a
def UT(s:ByteArray)(k:Nat):Jd (s.extract 0 k)=(Jd s).take k:=LJ
def UU(s:ByteArray)(k:Nat):Jd (s.extract k s.size)=(Jd s).drop k:=NL
def FF(l:List UInt8):Int:=if good l=true then YE l else 0
theorem Ot(l:List UInt8):Sok (FF l):=by
 grind[FF,Sok.of,Sm.good,Sok.zero]
theorem Ly(s:ByteArray)(hs:s.size<=140737488351232)(w:World):Calls Tryz.prog 103 #[.string s] w λe a=>∃u,e=.returned (.tuple #[u,.bool (good (Jd s))])/\Ji a u (FF (Jd s))/\Bl w a:=by
 refine(Rh s hs w).mono ?_;rintro e a ⟨f,c,d⟩;cases hg:good (Jd s)with
 |true=>
  grind[FF]
 |false=>
  have b:=c hg;refine⟨_,b,?_,d⟩;grind[FF,EB]
