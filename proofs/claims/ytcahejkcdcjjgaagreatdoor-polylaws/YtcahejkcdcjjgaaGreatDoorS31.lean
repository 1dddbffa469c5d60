import Derived.Test.YtcahejkcdcjjgaaGreatDoorS20
set_option linter.all false
open Go.Value renaming string->B,tuple->C
set_option maxRecDepth 99999
set_option maxHeartbeats 0
namespace Go.Proofs.YtcahejkcdcjjgaaGreatDoor
open Proofs.Tryz
open Go.RowKit Go.Shelf
attribute [local go_sem] Oper.semAt_some
def JH(l:List UInt8):Nat:=(l.takeWhile (· != 47)).length
theorem X2(l:List UInt8):(JH l<l.length/\Lib.indexByte l 47=(JH l:Int))\/(JH l=l.length/\Lib.indexByte l 47=-1):=by
 induction l with
 |nil=>right;exact⟨J,J⟩
 |cons b l d=>
  unfold Lib.indexByte;by_cases a:b=47
  . left
    subst a;simp[JH]
  . have c:JH (b::l)=JH l+1:=by simp[JH,a]
    grind
def UO(s:ByteArray)(k:Nat)(a:Lib.indexByte s.data.toList 47=(k:Int))(l:k<s.size)(hs:s.size<=2000)(w:World):
 Calls Tryz.prog 137 #[B s,B ⟨#[47]⟩] w λe c=>e=.returned (C #[B (s.extract 0 k),B (s.extract (k+1) s.size),.bool true])/\Bl w c:=by
 have b:=Ja a;clear a;have d:(0:Int)<=(k:Int):=Z
 have f:(k:Int)<=(s.size:Int):=Z
 have g:IntKind.i64.wrap ((k:Int)+1)=(k:Int)+1:=by rw[C9];omega
 have i:(0:Int)<=(k:Int)+1:=Z
 have j:(k:Int)+1<=(s.size:Int):=Z
 go_enter func137,ntmps137
 go_upto_region 3 with(go_at_call 170;refine(Tryz.stringslite_Index_one s 47 _).mono ?_;rintro e m ⟨rfl,rfl⟩;rw[b.o])
 go_quiet (fail)
 go_wp2_with fail
 exact BM (v:=C #[B (s.extract 0 k),B (s.extract (k+1) s.size),.bool true]) (by simp[results,results137,go_sem]) J ⟨J,⟨J,J,J,Aa _,λ_ _=>rfl⟩⟩
def UP(s:ByteArray)(a:Lib.indexByte s.data.toList 47=-1)(w:World):
 Calls Tryz.prog 137 #[B s,B ⟨#[47]⟩] w λe c=>e=.returned (C #[B s,B ⟨#[]⟩,.bool false])/\Bl w c:=by
 have b:=Ja a;clear a;go_enter func137,ntmps137
 go_wp2_with(go_at_call 170;refine(Tryz.stringslite_Index_one s 47 _).mono ?_;rintro e d ⟨rfl,rfl⟩;rw[b.o])
 exact BM (v:=C #[B s,B ⟨#[]⟩,.bool false]) (by simp[results,results137,go_sem]) J ⟨J,BL _ _⟩
def UQ(s:ByteArray)(k:Nat)(d:Lib.indexByte s.data.toList 47=(k:Int))(f:k<s.size)(hs:s.size<=2000)(w:World):
 Calls Tryz.prog 102 #[B s,B ⟨#[47]⟩] w λe l=>e=.returned (C #[B (s.extract 0 k),B (s.extract (k+1) s.size),.bool true])/\Bl w l:=by
 have a:=Ja (UO s k d f hs w);clear d f hs;obtain⟨g,b⟩:=ex (s.extract 0 k);obtain⟨i,c⟩:=ex (s.extract (k+1) s.size);rw[b,c]at a ⊢;clear b c;go_enter func102,ntmps102
 go_wp2_with(go_at_call 137;refine a.o.mono ?_;rintro e m ⟨rfl,j⟩)
 exact BM (v:=C #[B g,B i,.bool true]) (by simp[results,results102,go_sem]) J ⟨J,j⟩
def UR(s:ByteArray)(a:Lib.indexByte s.data.toList 47=-1)(w:World):
 Calls Tryz.prog 102 #[B s,B ⟨#[47]⟩] w λe d=>e=.returned (C #[B s,B ⟨#[]⟩,.bool false])/\Bl w d:=by
 have b:=Ja (UP s a w);clear a;go_enter func102,ntmps102
 go_wp2_with(go_at_call 137;refine b.o.mono ?_;rintro e f ⟨rfl,c⟩)
 exact BM (v:=C #[B s,B ⟨#[]⟩,.bool false]) (by simp[results,results102,go_sem]) J ⟨J,c⟩
