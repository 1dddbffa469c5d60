import Derived.Test.YteldjhhjnchdeaaGreatDoorT20
set_option linter.all false
open Go.Value renaming string->B,tuple->C
set_option maxRecDepth 99999
set_option maxHeartbeats 0
namespace Go.Proofs.YteldjhhjnchdeaaGreatDoor
open Proofs.Tryz
open Go.RowKit Go.Shelf
attribute [local go_sem] Oper.semAt_some
def J7(l:List UInt8):Nat:=(l.takeWhile (· != 47)).length
theorem Ol(l:List UInt8):(J7 l<l.length/\Lib.indexByte l 47=(J7 l:Int))\/(J7 l=l.length/\Lib.indexByte l 47=-1):=by
 induction l with
 |nil=>right;exact⟨J,J⟩
 |cons b l d=>
  unfold Lib.indexByte;by_cases a:b=47
  . left
    subst a;simp[J7]
  . have c:J7 (b::l)=J7 l+1:=by simp[J7,a]
    grind
def dW(s:ByteArray)(k:Nat)(a:Lib.indexByte s.data.toList 47=(k:Int))(l:k<s.size)(hs:s.size<=2000)(w:World):
 Calls Tryz.prog 197 #[B s,B ⟨#[47]⟩] w λe c=>e=.returned (C #[B (s.extract 0 k),B (s.extract (k+1) s.size),.bool true])/\Bl w c:=by
 have b:=Y a;clear a;have d:(0:Int)<=(k:Int):=O
 have f:(k:Int)<=(s.size:Int):=O
 have g:IntKind.i64.wrap ((k:Int)+1)=(k:Int)+1:=by rw[BQ];omega
 have i:(0:Int)<=(k:Int)+1:=O
 have j:(k:Int)+1<=(s.size:Int):=O
 go_enter func197,ntmps197
 go_upto_region 3 with(go_at_call 204;refine(Tryz.stringslite_Index_one s 47 _).mono ?_;rintro e m ⟨rfl,rfl⟩;rw[b.o])
 go_quiet (fail)
 go_wp2_with fail
 exact BA (v:=C #[B (s.extract 0 k),B (s.extract (k+1) s.size),.bool true]) (by simp[results,results197,go_sem]) J ⟨J,⟨J,J,J,Aa _,λ_ _=>rfl⟩⟩
def dX(s:ByteArray)(a:Lib.indexByte s.data.toList 47=-1)(w:World):
 Calls Tryz.prog 197 #[B s,B ⟨#[47]⟩] w λe c=>e=.returned (C #[B s,B ⟨#[]⟩,.bool false])/\Bl w c:=by
 have b:=Y a;clear a;go_enter func197,ntmps197
 go_wp2_with(go_at_call 204;refine(Tryz.stringslite_Index_one s 47 _).mono ?_;rintro e d ⟨rfl,rfl⟩;rw[b.o])
 exact BA (v:=C #[B s,B ⟨#[]⟩,.bool false]) (by simp[results,results197,go_sem]) J ⟨J,BB _ _⟩
def dY(s:ByteArray)(k:Nat)(d:Lib.indexByte s.data.toList 47=(k:Int))(f:k<s.size)(hs:s.size<=2000)(w:World):
 Calls Tryz.prog 189 #[B s,B ⟨#[47]⟩] w λe l=>e=.returned (C #[B (s.extract 0 k),B (s.extract (k+1) s.size),.bool true])/\Bl w l:=by
 have a:=Y (dW s k d f hs w);clear d f hs;obtain⟨g,b⟩:=ex (s.extract 0 k);obtain⟨i,c⟩:=ex (s.extract (k+1) s.size);rw[b,c]at a ⊢;clear b c;go_enter func189,ntmps189
 go_wp2_with(go_at_call 197;refine a.o.mono ?_;rintro e m ⟨rfl,j⟩)
 exact BA (v:=C #[B g,B i,.bool true]) (by simp[results,results189,go_sem]) J ⟨J,j⟩
def dZ(s:ByteArray)(a:Lib.indexByte s.data.toList 47=-1)(w:World):
 Calls Tryz.prog 189 #[B s,B ⟨#[47]⟩] w λe d=>e=.returned (C #[B s,B ⟨#[]⟩,.bool false])/\Bl w d:=by
 have b:=Y (dX s a w);clear a;go_enter func189,ntmps189
 go_wp2_with(go_at_call 197;refine b.o.mono ?_;rintro e f ⟨rfl,c⟩)
 exact BA (v:=C #[B s,B ⟨#[]⟩,.bool false]) (by simp[results,results189,go_sem]) J ⟨J,c⟩
