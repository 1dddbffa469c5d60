import Derived.Test.YtcahodpphikgnaaGreatDoorU22
import Derived.Test.YtcahodpphikgnaaGreatDoorU23
set_option linter.all false
set_option maxRecDepth 99999
set_option maxHeartbeats 0
namespace Go.Proofs.YtcahodpphikgnaaGreatDoor
open Go.RowKit Go.Shelf M3
def Yc(l:List UInt8):Option Rat:=
 if l.length<=2000 then
  if JG l=l.length then(if good l=true then some ((JX l:Int):Rat)else none)
  else if good (l.take (JG l))=true/\good (l.drop (JG l+1))=true/\0<JX (l.drop (JG l+1))then some (Rat.divInt (JX (l.take (JG l))) (JX (l.drop (JG l+1))))
  else none
 else none
def Ex(l:List UInt8):Rat:=(Yc l).getD 0
variable{l:List UInt8}
def K5(h:2000<l.length):Yc l=none:=by
 unfold Yc;rw[Bd Y]
def K6(h:l.length<=2000)(hs:JG l=l.length):Yc l=if good l=true then some ((JX l:Int):Rat)else none:=by
 unfold Yc;rw[Be h,Be hs]
theorem GM(h:l.length<=2000)(hs:JG l<l.length):Yc l=if good (l.take (JG l))=true/\good (l.drop (JG l+1))=true/\0<JX (l.drop (JG l+1))then some (Rat.divInt (JX (l.take (JG l))) (JX (l.drop (JG l+1))))else none:=by
 unfold Yc;grind
def K7(s:ByteArray)(k:Nat):Jk (s.extract 0 k)=(Jk s).take k:=Ee
def K8(s:ByteArray)(k:Nat):Jk (s.extract k s.size)=(Jk s).drop k:=Fp
def Xc(l:List UInt8):Int:=if good l=true then JX l else 0
theorem D9(l:List UInt8):Sok (Xc l):=by
 grind[Xc,Sok.of,Sm.good,Sok.zero]
theorem XE(s:ByteArray)(hs:s.size<=140737488351232)(w:World):Calls Tryz.prog 21 #[.string s] w λe a=>∃u,e=.returned (.tuple #[u,.bool (good (Jk s))])/\Jg a u (Xc (Jk s))/\Bl w a:=by
 refine(Iu s hs w).mono ?_;rintro e a ⟨g,c,d⟩;cases f:good (Jk s)with
 |true=>
  grind[Xc]
 |false=>
  have b:=c f;refine⟨_,b,?_,d⟩;grind[Xc,C8]
def K9(s:ByteArray):B6 s=Jk s:=rfl
def GN(s:ByteArray)(hs:s.size<=140737488351232)(w:World):Calls Tryz.prog 20 #[.string s] w λe b=>∃u,e=.returned (.tuple #[u,.bool (good (Jk s))])/\Jl b u (Xc (Jk s))/\Bl w b:=by
 refine(KE s hs w).mono ?_;rintro e b ⟨c,d,f⟩;rw[K9]at c d;cases a:good (Jk s)with
 |true=>
  obtain⟨u,rfl,i⟩:=c a;exact⟨u,J,by unfold Xc;rw[Be a];exact i,f⟩
 |false=>
  have g:=d a;refine⟨_,g,?_,f⟩;unfold Xc;rw[Bd (by rw[a];simp)];exact Km _
