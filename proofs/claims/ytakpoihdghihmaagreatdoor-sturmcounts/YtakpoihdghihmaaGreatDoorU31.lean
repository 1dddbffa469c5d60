import Derived.Test.YtakpoihdghihmaaGreatDoorU20
set_option linter.all false
open Go.Value renaming string->B,tuple->C
set_option maxRecDepth 99999
set_option maxHeartbeats 0
namespace Go.Proofs.YtakpoihdghihmaaGreatDoor
open Proofs.Tryz
open Go.RowKit Go.Shelf
attribute [local go_sem] Oper.semAt_some
def JQ(l:List UInt8):Nat:=(l.takeWhile (· != 47)).length
theorem XI(l:List UInt8):(JQ l<l.length/\Lib.indexByte l 47=(JQ l:Int))\/(JQ l=l.length/\Lib.indexByte l 47=-1):=by
 induction l with
 |nil=>right;exact⟨J,J⟩
 |cons b l d=>
  unfold Lib.indexByte;by_cases a:b=47
  . left
    subst a;simp[JQ]
  . have c:JQ (b::l)=JQ l+1:=by simp[JQ,a]
    grind
def gT(s:ByteArray)(k:Nat)(a:Lib.indexByte s.data.toList 47=(k:Int))(l:k<s.size)(m:s.size<=2000)(w:World):
 Calls Tryz.prog 121 #[B s,B ⟨#[47]⟩] w λe c=>e=.returned (C #[B (s.extract 0 k),B (s.extract (k+1) s.size),.bool true])/\Bl w c:=by
 have b:=Y a;clear a;have d:(0:Int)<=(k:Int):=O
 have f:(k:Int)<=(s.size:Int):=O
 have g:IntKind.i64.wrap ((k:Int)+1)=(k:Int)+1:=by rw[IntKind.wrap_i64];omega
 have i:(0:Int)<=(k:Int)+1:=O
 have j:(k:Int)+1<=(s.size:Int):=O
 go_enter func121,ntmps121
 go_upto_region 3 with(go_at_call 164;refine(Tryz.stringslite_Index_one s 47 _).mono ?_;rintro e n ⟨rfl,rfl⟩;rw[b.o])
 go_quiet (fail)
 go_wp2_with fail
 exact A0 (v:=C #[B (s.extract 0 k),B (s.extract (k+1) s.size),.bool true]) (by simp[results,results121,go_sem]) J ⟨J,⟨J,J,J,Aa _,λ_ _=>rfl⟩⟩
def gU(s:ByteArray)(a:Lib.indexByte s.data.toList 47=-1)(w:World):
 Calls Tryz.prog 121 #[B s,B ⟨#[47]⟩] w λe c=>e=.returned (C #[B s,B ⟨#[]⟩,.bool false])/\Bl w c:=by
 have b:=Y a;clear a;go_enter func121,ntmps121
 go_wp2_with(go_at_call 164;refine(Tryz.stringslite_Index_one s 47 _).mono ?_;rintro e d ⟨rfl,rfl⟩;rw[b.o])
 exact A0 (v:=C #[B s,B ⟨#[]⟩,.bool false]) (by simp[results,results121,go_sem]) J ⟨J,BA _ _⟩
def gV(s:ByteArray)(k:Nat)(d:Lib.indexByte s.data.toList 47=(k:Int))(f:k<s.size)(g:s.size<=2000)(w:World):
 Calls Tryz.prog 62 #[B s,B ⟨#[47]⟩] w λe m=>e=.returned (C #[B (s.extract 0 k),B (s.extract (k+1) s.size),.bool true])/\Bl w m:=by
 have a:=Y (gT s k d f g w);clear d f g;obtain⟨i,b⟩:=ex (s.extract 0 k);obtain⟨j,c⟩:=ex (s.extract (k+1) s.size);rw[b,c]at a ⊢;clear b c;go_enter func62,ntmps62
 go_wp2_with(go_at_call 121;refine a.o.mono ?_;rintro e n ⟨rfl,l⟩)
 exact A0 (v:=C #[B i,B j,.bool true]) (by simp[results,results62,go_sem]) J ⟨J,l⟩
def gW(s:ByteArray)(a:Lib.indexByte s.data.toList 47=-1)(w:World):
 Calls Tryz.prog 62 #[B s,B ⟨#[47]⟩] w λe d=>e=.returned (C #[B s,B ⟨#[]⟩,.bool false])/\Bl w d:=by
 have b:=Y (gU s a w);clear a;go_enter func62,ntmps62
 go_wp2_with(go_at_call 121;refine b.o.mono ?_;rintro e f ⟨rfl,c⟩)
 exact A0 (v:=C #[B s,B ⟨#[]⟩,.bool false]) (by simp[results,results62,go_sem]) J ⟨J,c⟩
