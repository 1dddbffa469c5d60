import Derived.Test.YtcahejkcdcjjgaaGreatDoorQ24
import Derived.Test.YtcahejkcdcjjgaaGreatDoorQ31
set_option linter.all false
set_option maxRecDepth 99999
set_option maxHeartbeats 0
namespace Go.Proofs.YtcahejkcdcjjgaaGreatDoor
open Go.RowKit Go.Shelf M3
def JW(l:List UInt8):Option Rat:=
 if l.length<=2000 then
  if JD l=l.length then(if good l=true then some ((Yb l:Int):Rat)else none)
  else if good (l.take (JD l))=true/\good (l.drop (JD l+1))=true/\0<Yb (l.drop (JD l+1))then some (Rat.divInt (Yb (l.take (JD l))) (Yb (l.drop (JD l+1))))
  else none
 else none
def X3(l:List UInt8):Rat:=(JW l).getD 0
variable{l:List UInt8}
theorem SC(l:List UInt8):JD l<=l.length:=by
 grind[Yt]
def Gm(h:2000<l.length):JW l=none:=by
 unfold JW;rw[BJ O]
def Gn(h:l.length<=2000)(hs:JD l=l.length):JW l=if good l=true then some ((Yb l:Int):Rat)else none:=by
 unfold JW;rw[BM h,BM hs]
theorem Gp(h:l.length<=2000)(hs:JD l<l.length):JW l=if good (l.take (JD l))=true/\good (l.drop (JD l+1))=true/\0<Yb (l.drop (JD l+1))then some (Rat.divInt (Yb (l.take (JD l))) (Yb (l.drop (JD l+1))))else none:=by
 unfold JW;grind
theorem SF(l:List UInt8):DN 2000 (X3 l):=by
 have a:DN 2000 0:=⟨Sm.zero _,Sm.one _ O⟩;unfold X3;by_cases h:l.length<=2000
 . by_cases hs:JD l=l.length
   . rw[Gn h hs];split
     . rename_i hg;exact⟨Sm.good hg,Sm.one _ O⟩
     . exact a
   grind[Gp,SC,DN.divInt,Sm.good]
 . rw[Gm O];exact a
def I3(s:ByteArray)(k:Nat):Jd (s.extract 0 k)=(Jd s).take k:=II
def Mk(s:ByteArray)(k:Nat):Jd (s.extract k s.size)=(Jd s).drop k:=K9
def X4(l:List UInt8):Int:=if good l=true then Yb l else 0
theorem Gq(l:List UInt8):Sok (X4 l):=by
 grind[X4,Sok.of,Sm.good,Sok.zero]
theorem I4(s:ByteArray)(hs:s.size<=140737488351232)(w:World):Calls Tryz.prog 103 #[.string s] w λe a=>∃u,e=.returned (.tuple #[u,.bool (good (Jd s))])/\Jg a u (X4 (Jd s))/\Bl w a:=by
 refine(Ox s hs w).mono ?_;rintro e a ⟨f,c,d⟩;cases hg:good (Jd s)with
 |true=>
  grind[X4]
 |false=>
  have b:=c hg;refine⟨_,b,?_,d⟩;grind[X4,Ds]
def SH(s:ByteArray):DS s=Jd s:=rfl
def I5(s:ByteArray)(hs:s.size<=140737488351232)(w:World):Calls Tryz.prog 105 #[.string s] w λe a=>∃u,e=.returned (.tuple #[u,.bool (good (Jd s))])/\Jn a u (X4 (Jd s))/\Bl w a:=by
 refine(P9 s hs w).mono ?_;rintro e a ⟨b,c,d⟩;rw[SH]at b c;cases hg:good (Jd s)with
 |true=>
  obtain⟨u,rfl,g⟩:=b hg;exact⟨u,J,by unfold X4;rw[BM hg];exact g,d⟩
 |false=>
  have f:=c hg;refine⟨_,f,?_,d⟩;unfold X4;rw[BJ (by rw[hg];simp)];exact Lf _
