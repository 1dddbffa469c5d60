import Derived.Test.YtcahodpphikgnaaGreatDoorW22
import Derived.Test.YtcahodpphikgnaaGreatDoorW23
set_option linter.all false
set_option maxRecDepth 99999
set_option maxHeartbeats 0
namespace Go.Proofs.YtcahodpphikgnaaGreatDoor
open Go.RowKit Go.Shelf M3
def JY(l:List UInt8):Option Rat:=
 if l.length≤2000 then
  if Jz l=l.length then(if good l=true then some ((JT l:Int):Rat)else none)
  else if good (l.take (Jz l))=true∧good (l.drop (Jz l+1))=true∧0<JT (l.drop (Jz l+1))then some (Rat.divInt (JT (l.take (Jz l))) (JT (l.drop (Jz l+1))))
  else none
 else none
def CT(l:List UInt8):Rat:=(JY l).getD 0
theorem Kf(l:List UInt8):Jz l≤l.length:=by
 grind[YN]
def Fn{l:List UInt8}(h:2000<l.length):JY l=none:=by
 unfold JY;rw[BU (by omega)]
def Fo{l:List UInt8}(h:l.length≤2000)(hs:Jz l=l.length):JY l=if good l=true then some ((JT l:Int):Rat)else none:=by
 unfold JY;rw[BX h,BX hs]
theorem EG{l:List UInt8}(h:l.length≤2000)(hs:Jz l<l.length):JY l=if good (l.take (Jz l))=true∧good (l.drop (Jz l+1))=true∧0<JT (l.drop (Jz l+1))then some (Rat.divInt (JT (l.take (Jz l))) (JT (l.drop (Jz l+1))))else none:=by
 unfold JY;grind
def De(l:List UInt8):Bw 2000 (CT l):=by
 have hz:Bw 2000 0:=⟨Sm.zero _,Sm.one _ (by omega)⟩;unfold CT;by_cases h:l.length≤2000
 · by_cases hs:Jz l=l.length
   · rw[Fo h hs];split
     · rename_i hg;exact⟨Sm.good hg,Sm.one _ (by omega)⟩
     · exact hz
   grind[EG,Kf,Bw.divInt,Sm.good]
 · rw[Fn (by omega)];exact hz
def EH(l:List UInt8):Sq (CT l):=Sq.of (De l) (by omega)
def Fp(s:ByteArray)(k:Nat):Je (s.extract 0 k)=(Je s).take k:=D4
theorem Xx(s:ByteArray)(k:Nat):Je (s.extract k s.size)=(Je s).drop k:=FU
def XZ(l:List UInt8):Int:=if good l=true then JT l else 0
def Fq(l:List UInt8):Sok (XZ l):=by
 grind[XZ,Sok.of,Sm.good,Sok.zero]
def X1(s:ByteArray)(hs:s.size≤140737488351232)(w:World):Calls Tryz.prog 21 #[.string s] w fun e w'=>∃u,e=.returned (.tuple #[u,.bool (good (Je s))])∧Jd w' u (XZ (Je s))∧Bl w w':=by
 refine(IY s hs w).mono ?_;rintro e w' ⟨h1,h2,h3⟩;cases hg:good (Je s)with
 |true=>
  grind[XZ]
 |false=>
  have e1:=h2 hg;refine⟨_,e1,?_,h3⟩;grind[XZ,Xb]
