import Derived.Test.YtakpoihdghihmaaGreatDoorR20
import Derived.Lib.IndexLaws
open Go.Value renaming string->B,tuple->C
set_option maxRecDepth 100000
set_option maxHeartbeats 16000000
namespace Go.Proofs.YtakpoihdghihmaaGreatDoor
open Go.RowKit Go.Shelf
attribute [local go_sem] Oper.semAt_some
def JW(l:List UInt8):Nat:=(l.takeWhile (· != 47)).length
theorem Lj(l:List UInt8):(JW l<l.length/\Lib.indexByte l 47=(JW l:Int))\/(JW l=l.length/\Lib.indexByte l 47=-1):=by
 induction l with
 |nil=>right;exact⟨rfl,rfl⟩
 |cons b l i=>
  unfold Lib.indexByte;by_cases c:b=47
  . left
    subst c;simp[JW]
  . have d:JW (b::l)=JW l+1:=by simp[JW,c]
    rw[d];have e:(b==47)=false:=by simp[c]
    rw[e];rcases i with⟨f,a⟩|⟨f,a⟩
    . left
      rw[a];have g:((JW l:Int) == -1)=false:=by rw[BV];omega
      rw[g];simp;omega
    . right
      rw[a];simp;omega
theorem Z2(s:ByteArray)(k:Nat)(a:Lib.indexByte s.data.toList 47=(k:Int))(l:k<s.size)(m:s.size<=2000)(w:World):
 Calls Tryz.prog 121 #[B s,B ⟨#[47]⟩] w λe c=>e=.returned (C #[B (s.extract 0 k),B (s.extract (k+1) s.size),.bool true])/\Bl w c:=by
 have b:=Ja a;clear a;have d:(0:Int)<=(k:Int):=O
 have f:(k:Int)<=(s.size:Int):=O
 have g:IntKind.i64.wrap ((k:Int)+1)=(k:Int)+1:=by rw[IntKind.wrap_i64];omega
 have i:(0:Int)<=(k:Int)+1:=O
 have j:(k:Int)+1<=(s.size:Int):=O
 go_enter Tryz.func121,Tryz.ntmps121
 go_upto_region 3 with(go_at_call 164;refine(Tryz.stringslite_Index_one s 47 _).mono ?_;rintro e n ⟨rfl,rfl⟩;rw[b.o])
 go_quiet (fail)
 go_wp2_with fail
 exact BB (v:=C #[B (s.extract 0 k),B (s.extract (k+1) s.size),.bool true]) (by simp[results,Tryz.results121,go_sem]) rfl ⟨rfl,⟨rfl,rfl,rfl,Aa _,λ_ _=>rfl⟩⟩
theorem Z3(s:ByteArray)(a:Lib.indexByte s.data.toList 47=-1)(w:World):
 Calls Tryz.prog 121 #[B s,B ⟨#[47]⟩] w λe c=>e=.returned (C #[B s,B ⟨#[]⟩,.bool false])/\Bl w c:=by
 have b:=Ja a;clear a;go_enter Tryz.func121,Tryz.ntmps121
 go_wp2_with(go_at_call 164;refine(Tryz.stringslite_Index_one s 47 _).mono ?_;rintro e d ⟨rfl,rfl⟩;rw[b.o])
 exact BB (v:=C #[B s,B ⟨#[]⟩,.bool false]) (by simp[results,Tryz.results121,go_sem]) rfl ⟨rfl,BF _ _⟩
theorem Z4(s:ByteArray)(k:Nat)(d:Lib.indexByte s.data.toList 47=(k:Int))(f:k<s.size)(g:s.size<=2000)(w:World):
 Calls Tryz.prog 62 #[B s,B ⟨#[47]⟩] w λe m=>e=.returned (C #[B (s.extract 0 k),B (s.extract (k+1) s.size),.bool true])/\Bl w m:=by
 have a:=Ja (Z2 s k d f g w);clear d f g;obtain⟨i,b⟩:=ex (s.extract 0 k);obtain⟨j,c⟩:=ex (s.extract (k+1) s.size);rw[b,c]at a ⊢;clear b c;go_enter Tryz.func62,Tryz.ntmps62
 go_wp2_with(go_at_call 121;refine a.o.mono ?_;rintro e n ⟨rfl,l⟩)
 exact BB (v:=C #[B i,B j,.bool true]) (by simp[results,Tryz.results62,go_sem]) rfl ⟨rfl,l⟩
theorem Z6(s:ByteArray)(a:Lib.indexByte s.data.toList 47=-1)(w:World):
 Calls Tryz.prog 62 #[B s,B ⟨#[47]⟩] w λe d=>e=.returned (C #[B s,B ⟨#[]⟩,.bool false])/\Bl w d:=by
 have b:=Ja (Z3 s a w);clear a;go_enter Tryz.func62,Tryz.ntmps62
 go_wp2_with(go_at_call 121;refine b.o.mono ?_;rintro e f ⟨rfl,c⟩)
 exact BB (v:=C #[B s,B ⟨#[]⟩,.bool false]) (by simp[results,Tryz.results62,go_sem]) rfl ⟨rfl,c⟩
