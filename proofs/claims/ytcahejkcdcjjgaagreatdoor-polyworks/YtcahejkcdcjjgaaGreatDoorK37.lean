import Derived.Test.YtcahejkcdcjjgaaGreatDoorK36
import Derived.Test.YtcahejkcdcjjgaaGreatDoorK24
set_option maxRecDepth 100000
set_option maxHeartbeats 16000000
namespace Go.Proofs.YtcahejkcdcjjgaaGreatDoor
open Go.RowKit Go.Shelf
def YV(l:List UInt8):Option Rat:=
 if l.length≤2000 then
  if JS l=l.length then(if good l=true then some ((Yz l:Int):Rat)else none)
  else if good (l.take (JS l))=true∧good (l.drop (JS l+1))=true∧0<Yz (l.drop (JS l+1))then some (Rat.divInt (Yz (l.take (JS l))) (Yz (l.drop (JS l+1))))
  else none
 else none
def Jhg(l:List UInt8):Rat:=(YV l).getD 0
theorem Jtl{l:List UInt8}(h:2000<l.length):YV l=none:=by
 unfold YV;rw[if_neg (by omega)]
theorem Jlb{l:List UInt8}(h:l.length≤2000)(hs:JS l=l.length):YV l=if good l=true then some ((Yz l:Int):Rat)else none:=by
 unfold YV;rw[if_pos h,if_pos hs]
theorem Jlc{l:List UInt8}(h:l.length≤2000)(hs:JS l<l.length):YV l=if good (l.take (JS l))=true∧good (l.drop (JS l+1))=true∧0<Yz (l.drop (JS l+1))then some (Rat.divInt (Yz (l.take (JS l))) (Yz (l.drop (JS l+1))))else none:=by
 unfold YV;rw[if_pos h,if_neg (by omega)]
theorem Jpg(s:ByteArray)(k:Nat):Jd (s.extract 0 k)=(Jd s).take k:=Jgr
theorem Jph(s:ByteArray)(k:Nat):Jd (s.extract k s.size)=(Jd s).drop k:=Jj8
def Jhh(l:List UInt8):Int:=if good l=true then Yz l else 0
theorem Jld(l:List UInt8):Sok (Jhh l):=by
 unfold Jhh;split
 · rename_i h;exact Sok.of (Sm.good h) (by omega)
 · exact Sok.zero
theorem Jhi(s:ByteArray)(hs:s.size≤140737488351232)(w:World):Calls Tryz.prog 103 #[.string s] w fun e w'=>∃u,e=.returned (.tuple #[u,.bool (good (Jd s))])∧Jj w' u (Jhh (Jd s))∧Below w.heap.size w w':=by
 refine(Jqg s hs w).mono ?_;rintro e w' ⟨h1,h2,h3⟩;cases hg:good (Jd s)with
 |true=>
  obtain⟨u,rfl,hu⟩:=h1 hg;exact⟨u,rfl,by unfold Jhh;rw[if_pos hg];exact hu,h3⟩
 |false=>
  have e1:=h2 hg;refine⟨_,e1,?_,h3⟩;unfold Jhh;rw[if_neg (by rw[hg];simp)];exact Jam _
