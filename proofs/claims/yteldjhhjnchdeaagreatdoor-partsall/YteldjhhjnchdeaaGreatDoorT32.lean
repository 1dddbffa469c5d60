import Derived.Test.YteldjhhjnchdeaaGreatDoorT24
import Derived.Test.YteldjhhjnchdeaaGreatDoorT31
set_option linter.all false
set_option maxRecDepth 99999
set_option maxHeartbeats 0
namespace Go.Proofs.YteldjhhjnchdeaaGreatDoor
open Go.RowKit Go.Shelf M3
def Xu(l:List UInt8):Option Rat:=
 if l.length<=2000 then
  if J7 l=l.length then(if good l=true then some ((Xg l:Int):Rat)else none)
  else if good (l.take (J7 l))=true/\good (l.drop (J7 l+1))=true/\0<Xg (l.drop (J7 l+1))then some (Rat.divInt (Xg (l.take (J7 l))) (Xg (l.drop (J7 l+1))))
  else none
 else none
def GU(l:List UInt8):Rat:=(Xu l).getD 0
variable{l:List UInt8}
def da(h:2000<l.length):Xu l=none:=by
 unfold Xu;rw[BH O]
def So(h:l.length<=2000)(hs:J7 l=l.length):Xu l=if good l=true then some ((Xg l:Int):Rat)else none:=by
 unfold Xu;rw[BL h,BL hs]
theorem Sp(h:l.length<=2000)(hs:J7 l<l.length):Xu l=if good (l.take (J7 l))=true/\good (l.drop (J7 l+1))=true/\0<Xg (l.drop (J7 l+1))then some (Rat.divInt (Xg (l.take (J7 l))) (Xg (l.drop (J7 l+1))))else none:=by
 unfold Xu;grind
def db(s:ByteArray)(k:Nat):Jf (s.extract 0 k)=(Jf s).take k:=Ny
def df(s:ByteArray)(k:Nat):Jf (s.extract k s.size)=(Jf s).drop k:=QN
def GV(l:List UInt8):Int:=if good l=true then Xg l else 0
theorem Sr(l:List UInt8):Sok (GV l):=by
 grind[GV,Sok.of,Sm.good,Sok.zero]
theorem Om(s:ByteArray)(hs:s.size<=140737488351232)(w:World):Calls Tryz.prog 190 #[.string s] w λe a=>∃u,e=.returned (.tuple #[u,.bool (good (Jf s))])/\Jk a u (GV (Jf s))/\Bl w a:=by
 refine(W4 s hs w).mono ?_;rintro e a ⟨f,c,d⟩;cases hg:good (Jf s)with
 |true=>
  grind[GV]
 |false=>
  have b:=c hg;refine⟨_,b,?_,d⟩;grind[GV,EY]
