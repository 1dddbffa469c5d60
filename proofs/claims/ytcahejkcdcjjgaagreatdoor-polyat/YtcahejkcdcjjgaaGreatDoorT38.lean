import Derived.Test.YtcahejkcdcjjgaaGreatDoorT37
import Derived.Test.YtcahejkcdcjjgaaGreatDoorT24
set_option maxRecDepth 100000
set_option maxHeartbeats 16000000
namespace Go.Proofs.YtcahejkcdcjjgaaGreatDoor
open Go.RowKit Go.Shelf
def Yg(l:List UInt8):Option Rat:=
 if l.length<=2000 then
  if JJ l=l.length then(if good l=true then some ((Ym l:Int):Rat)else none)
  else if good (l.take (JJ l))=true/\good (l.drop (JJ l+1))=true/\0<Ym (l.drop (JJ l+1))then some (Rat.divInt (Ym (l.take (JJ l))) (Ym (l.drop (JJ l+1))))
  else none
 else none
def EY(l:List UInt8):Rat:=(Yg l).getD 0
variable{l:List UInt8}
theorem Vy(l:List UInt8):JJ l<=l.length:=by
 rcases Y1 l with⟨h,_⟩|⟨h,_⟩<;>omega
theorem Ky(h:2000<l.length):Yg l=none:=by
 unfold Yg;rw[BE om]
theorem Kz(h:l.length<=2000)(hs:JJ l=l.length):Yg l=if good l=true then some ((Ym l:Int):Rat)else none:=by
 unfold Yg;rw[BI h,BI hs]
theorem K0(h:l.length<=2000)(hs:JJ l<l.length):Yg l=if good (l.take (JJ l))=true/\good (l.drop (JJ l+1))=true/\0<Ym (l.drop (JJ l+1))then some (Rat.divInt (Ym (l.take (JJ l))) (Ym (l.drop (JJ l+1))))else none:=by
 unfold Yg;rw[BI h,BE om]
theorem Vz(l:List UInt8):DX 2000 (EY l):=by
 have b:DX 2000 0:=⟨Sm.zero _,Sm.one _ om⟩;unfold EY;by_cases h:l.length<=2000
 . by_cases hs:JJ l=l.length
   . rw[Kz h hs];split
     . rename_i a;exact⟨Sm.good a,Sm.one _ om⟩
     . exact b
   . rw[K0 h (by have:=Vy l;omega)];split
     . rename_i a;exact DX.divInt om (Sm.good a.1) (Sm.good a.2.1)
     . exact b
 . rw[Ky om];exact b
theorem Mb(s:ByteArray)(k:Nat):Jd (s.extract 0 k)=(Jd s).take k:=Lu
theorem Pb(s:ByteArray)(k:Nat):Jd (s.extract k s.size)=(Jd s).drop k:=Nz
def ER(l:List UInt8):Int:=if good l=true then Ym l else 0
theorem K1(l:List UInt8):DZ (ER l):=by
 unfold ER;split
 . rename_i h;exact DZ.of (Sm.good h) om
 . exact DZ.zero
theorem Mc(s:ByteArray)(hs:s.size<=140737488351232)(w:World):Calls Tryz.prog 103 #[.string s] w λe b=>∃u,e=.returned (.tuple #[u,.bool (good (Jd s))])/\Jk b u (ER (Jd s))/\Bl w b:=by
 refine(SV s hs w).mono ?_;rintro e b ⟨f,i,c⟩;cases a:good (Jd s)with
 |true=>
  obtain⟨u,rfl,g⟩:=f a;exact⟨u,rfl,by unfold ER;rw[BI a];exact g,c⟩
 |false=>
  have d:=i a;refine⟨_,d,?_,c⟩;unfold ER;rw[BE (by rw[a];simp)];exact EK _
theorem V4(s:ByteArray):Dj s=Jd s:=rfl
theorem Md(s:ByteArray)(hs:s.size<=140737488351232)(w:World):Calls Tryz.prog 105 #[.string s] w λe b=>∃u,e=.returned (.tuple #[u,.bool (good (Jd s))])/\Jr b u (ER (Jd s))/\Bl w b:=by
 refine(Tv s hs w).mono ?_;rintro e b ⟨c,f,d⟩;rw[V4]at c f;cases a:good (Jd s)with
 |true=>
  obtain⟨u,rfl,i⟩:=c a;exact⟨u,rfl,by unfold ER;rw[BI a];exact i,d⟩
 |false=>
  have g:=f a;refine⟨_,g,?_,d⟩;unfold ER;rw[BE (by rw[a];simp)];exact OX _
