import Derived.Test.YtcahejkcdcjjgaaGreatDoorV24
import Derived.Test.YtcahejkcdcjjgaaGreatDoorV31
set_option linter.all false
set_option maxRecDepth 99999
set_option maxHeartbeats 0
namespace Go.Proofs.YtcahejkcdcjjgaaGreatDoor
open Go.RowKit Go.Shelf M3
def YK(l:List UInt8):Option Rat:=
 if l.length<=2000 then
  if JQ l=l.length then(if good l=true then some ((Yz l:Int):Rat)else none)
  else if good (l.take (JQ l))=true/\good (l.drop (JQ l+1))=true/\0<Yz (l.drop (JQ l+1))then some (Rat.divInt (Yz (l.take (JQ l))) (Yz (l.drop (JQ l+1))))
  else none
 else none
def Ek(l:List UInt8):Rat:=(YK l).getD 0
variable{l:List UInt8}
def UW(h:2000<l.length):YK l=none:=by
 unfold YK;rw[BL O]
def ON(h:l.length<=2000)(hs:JQ l=l.length):YK l=if good l=true then some ((Yz l:Int):Rat)else none:=by
 unfold YK;rw[BR h,BR hs]
theorem OO(h:l.length<=2000)(hs:JQ l<l.length):YK l=if good (l.take (JQ l))=true/\good (l.drop (JQ l+1))=true/\0<Yz (l.drop (JQ l+1))then some (Rat.divInt (Yz (l.take (JQ l))) (Yz (l.drop (JQ l+1))))else none:=by
 unfold YK;grind
def UX(s:ByteArray)(k:Nat):Je (s.extract 0 k)=(Je s).take k:=Kp
def UY(s:ByteArray)(k:Nat):Je (s.extract k s.size)=(Je s).drop k:=Mb
def El(l:List UInt8):Int:=if good l=true then Yz l else 0
theorem OP(l:List UInt8):Sok (El l):=by
 grind[El,Sok.of,Sm.good,Sok.zero]
theorem LZ(s:ByteArray)(hs:s.size<=140737488351232)(w:World):Calls Tryz.prog 103 #[.string s] w λe a=>∃u,e=.returned (.tuple #[u,.bool (good (Je s))])/\Jh a u (El (Je s))/\Bl w a:=by
 refine(Q9 s hs w).mono ?_;rintro e a ⟨f,c,d⟩;cases hg:good (Je s)with
 |true=>
  grind[El]
 |false=>
  have b:=c hg;refine⟨_,b,?_,d⟩;grind[El,D6]
