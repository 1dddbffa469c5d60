import Derived.Test.YtcahodpphikgnaaGreatDoorV22
import Derived.Test.YtcahodpphikgnaaGreatDoorV23
set_option linter.all false
set_option maxRecDepth 99999
set_option maxHeartbeats 0
namespace Go.Proofs.YtcahodpphikgnaaGreatDoor
open Go.RowKit Go.Shelf M3
def JK(l:List UInt8):Option Rat:=
 if l.length<=2000 then
  if Jw l=l.length then(if good l=true then some ((JW l:Int):Rat)else none)
  else if good (l.take (Jw l))=true/\good (l.drop (Jw l+1))=true/\0<JW (l.drop (Jw l+1))then some (Rat.divInt (JW (l.take (Jw l))) (JW (l.drop (Jw l+1))))
  else none
 else none
def DJ(l:List UInt8):Rat:=(JK l).getD 0
variable{l:List UInt8}
theorem Mi(l:List UInt8):Jw l<=l.length:=by
 grind[Yf]
def Ey(h:2000<l.length):JK l=none:=by
 unfold JK;rw[BZ Y]
def GF(h:l.length<=2000)(hs:Jw l=l.length):JK l=if good l=true then some ((JW l:Int):Rat)else none:=by
 unfold JK;rw[BW h,BW hs]
theorem Ez(h:l.length<=2000)(hs:Jw l<l.length):JK l=if good (l.take (Jw l))=true/\good (l.drop (Jw l+1))=true/\0<JW (l.drop (Jw l+1))then some (Rat.divInt (JW (l.take (Jw l))) (JW (l.drop (Jw l+1))))else none:=by
 unfold JK;grind
theorem GG(l:List UInt8):C4 2000 (DJ l):=by
 have a:C4 2000 0:=⟨Sm.zero _,Sm.one _ Y⟩;unfold DJ;by_cases h:l.length<=2000
 . by_cases hs:Jw l=l.length
   . rw[GF h hs];split
     . rename_i b;exact⟨Sm.good b,Sm.one _ Y⟩
     . exact a
   grind[Ez,Mi,C4.divInt,Sm.good]
 . rw[Ey Y];exact a
def IM(l:List UInt8):Sq (DJ l):=Sq.of (GG l) Y
def GH(s:ByteArray)(k:Nat):Jh (s.extract 0 k)=(Jh s).take k:=Fy
def IP(s:ByteArray)(k:Nat):Jh (s.extract k s.size)=(Jh s).drop k:=Hh
def Xn(l:List UInt8):Int:=if good l=true then JW l else 0
theorem E0(l:List UInt8):Sok (Xn l):=by
 grind[Xn,Sok.of,Sm.good,Sok.zero]
theorem GI(s:ByteArray)(hs:s.size<=140737488351232)(w:World):Calls Tryz.prog 21 #[.string s] w λe a=>∃u,e=.returned (.tuple #[u,.bool (good (Jh s))])/\Jg a u (Xn (Jh s))/\Bl w a:=by
 refine(LZ s hs w).mono ?_;rintro e a ⟨g,c,d⟩;cases f:good (Jh s)with
 |true=>
  grind[Xn]
 |false=>
  have b:=c f;refine⟨_,b,?_,d⟩;grind[Xn,X1]
def Mj(s:ByteArray):CZ s=Jh s:=rfl
def GJ(s:ByteArray)(hs:s.size<=140737488351232)(w:World):Calls Tryz.prog 20 #[.string s] w λe b=>∃u,e=.returned (.tuple #[u,.bool (good (Jh s))])/\Jk b u (Xn (Jh s))/\Bl w b:=by
 refine(Lt s hs w).mono ?_;rintro e b ⟨c,d,f⟩;rw[Mj]at c d;cases a:good (Jh s)with
 |true=>
  obtain⟨u,rfl,i⟩:=c a;exact⟨u,J,by unfold Xn;rw[BW a];exact i,f⟩
 |false=>
  have g:=d a;refine⟨_,g,?_,f⟩;unfold Xn;rw[BZ (by rw[a];simp)];exact MS _
