import Derived.Test.YtcahodpphikgnaaGreatDoorT22
import Derived.Test.YtcahodpphikgnaaGreatDoorT23
set_option linter.all false
set_option maxRecDepth 99999
set_option maxHeartbeats 0
namespace Go.Proofs.YtcahodpphikgnaaGreatDoor
open Go.RowKit Go.Shelf M3
def JN(l:List UInt8):Option Rat:=
 if l.length<=2000 then
  if Jz l=l.length then(if good l=true then some ((JW l:Int):Rat)else none)
  else if good (l.take (Jz l))=true/\good (l.drop (Jz l+1))=true/\0<JW (l.drop (Jz l+1))then some (Rat.divInt (JW (l.take (Jz l))) (JW (l.drop (Jz l+1))))
  else none
 else none
def Dc(l:List UInt8):Rat:=(JN l).getD 0
variable{l:List UInt8}
theorem L4(l:List UInt8):Jz l<=l.length:=by
 grind[Yg]
def Eb(h:2000<l.length):JN l=none:=by
 unfold JN;rw[BR Y]
def Fa(h:l.length<=2000)(hs:Jz l=l.length):JN l=if good l=true then some ((JW l:Int):Rat)else none:=by
 unfold JN;rw[BT h,BT hs]
theorem Ec(h:l.length<=2000)(hs:Jz l<l.length):JN l=if good (l.take (Jz l))=true/\good (l.drop (Jz l+1))=true/\0<JW (l.drop (Jz l+1))then some (Rat.divInt (JW (l.take (Jz l))) (JW (l.drop (Jz l+1))))else none:=by
 unfold JN;grind
theorem L5(l:List UInt8):DH 2000 (Dc l):=by
 have a:DH 2000 0:=⟨Sm.zero _,Sm.one _ Y⟩;unfold Dc;by_cases h:l.length<=2000
 . by_cases hs:Jz l=l.length
   . rw[Fa h hs];split
     . rename_i b;exact⟨Sm.good b,Sm.one _ Y⟩
     . exact a
   grind[Ec,L4,DH.divInt,Sm.good]
 . rw[Eb Y];exact a
def X0(s:ByteArray)(k:Nat):Ji (s.extract 0 k)=(Ji s).take k:=FI
def Fb(s:ByteArray)(k:Nat):Ji (s.extract k s.size)=(Ji s).drop k:=GV
def Xm(l:List UInt8):Int:=if good l=true then JW l else 0
theorem Ed(l:List UInt8):Sok (Xm l):=by
 grind[Xm,Sok.of,Sm.good,Sok.zero]
theorem Fc(s:ByteArray)(hs:s.size<=140737488351232)(w:World):Calls Tryz.prog 21 #[.string s] w λe a=>∃u,e=.returned (.tuple #[u,.bool (good (Ji s))])/\Jg a u (Xm (Ji s))/\Bl w a:=by
 refine(Kh s hs w).mono ?_;rintro e a ⟨g,c,d⟩;cases f:good (Ji s)with
 |true=>
  grind[Xm]
 |false=>
  have b:=c f;refine⟨_,b,?_,d⟩;grind[Xm,X4]
def L6(s:ByteArray):C4 s=Ji s:=rfl
def Fd(s:ByteArray)(hs:s.size<=140737488351232)(w:World):Calls Tryz.prog 20 #[.string s] w λe b=>∃u,e=.returned (.tuple #[u,.bool (good (Ji s))])/\Jh b u (Xm (Ji s))/\Bl w b:=by
 refine(K3 s hs w).mono ?_;rintro e b ⟨c,d,f⟩;rw[L6]at c d;cases a:good (Ji s)with
 |true=>
  obtain⟨u,rfl,i⟩:=c a;exact⟨u,J,by unfold Xm;rw[BT a];exact i,f⟩
 |false=>
  have g:=d a;refine⟨_,g,?_,f⟩;unfold Xm;rw[BR (by rw[a];simp)];exact ET _
