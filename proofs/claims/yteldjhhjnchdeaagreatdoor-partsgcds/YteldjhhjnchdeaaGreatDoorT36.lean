import Derived.Test.YteldjhhjnchdeaaGreatDoorT20
import Derived.Lib.IndexLaws
open Go.Value renaming string->B,tuple->C
set_option maxRecDepth 100000
set_option maxHeartbeats 16000000
namespace Go.Proofs.YteldjhhjnchdeaaGreatDoor
open Go.RowKit Go.Shelf
attribute [local go_sem] Oper.semAt_some
def J0(l:List UInt8):Nat:=(l.takeWhile (· != 47)).length
theorem OT(l:List UInt8):(J0 l<l.length/\Lib.indexByte l 47=(J0 l:Int))\/(J0 l=l.length/\Lib.indexByte l 47=-1):=by
 induction l with
 |nil=>right;exact⟨rfl,rfl⟩
 |cons b l g=>
  unfold Lib.indexByte;by_cases a:b=47
  . left
    subst a;simp[J0]
  . have d:J0 (b::l)=J0 l+1:=by simp[J0,a]
    rw[d];have e:(b==47)=false:=by simp[a]
    rw[e];rcases g with⟨i,c⟩|⟨i,c⟩
    . left
      rw[c];have f:((J0 l:Int) == -1)=false:=by rw[BH];omega
      rw[f];simp;omega
    . right
      rw[c];simp;omega
theorem bM(s:ByteArray)(k:Nat)(a:Lib.indexByte s.data.toList 47=(k:Int))(f:k<s.size)(hs:s.size<=2000)(w:World):
 Calls Tryz.prog 197 #[B s,B ⟨#[47]⟩] w λe c=>e=.returned (C #[B (s.extract 0 k),B (s.extract (k+1) s.size),.bool true])/\Bl w c:=by
 have b:=Ja a;clear a;have d:(0:Int)<=(k:Int):=om
 have j:(k:Int)<=(s.size:Int):=om
 have m:IntKind.i64.wrap ((k:Int)+1)=(k:Int)+1:=by rw[BS];omega
 have i:(0:Int)<=(k:Int)+1:=om
 have l:(k:Int)+1<=(s.size:Int):=om
 go_enter Tryz.func197,Tryz.ntmps197
 go_upto_region 3 with(go_at_call 204;refine(Tryz.stringslite_Index_one s 47 _).mono ?_;rintro e g ⟨rfl,rfl⟩;rw[b.o])
 go_quiet (fail)
 go_wp2_with fail
 exact BA (v:=C #[B (s.extract 0 k),B (s.extract (k+1) s.size),.bool true]) (by simp[results,Tryz.results197,go_sem]) rfl ⟨rfl,⟨rfl,rfl,rfl,Aa _,λ_ _=>rfl⟩⟩
theorem bN(s:ByteArray)(a:Lib.indexByte s.data.toList 47=-1)(w:World):
 Calls Tryz.prog 197 #[B s,B ⟨#[47]⟩] w λe c=>e=.returned (C #[B s,B ⟨#[]⟩,.bool false])/\Bl w c:=by
 have b:=Ja a;clear a;go_enter Tryz.func197,Tryz.ntmps197
 go_wp2_with(go_at_call 204;refine(Tryz.stringslite_Index_one s 47 _).mono ?_;rintro e d ⟨rfl,rfl⟩;rw[b.o])
 exact BA (v:=C #[B s,B ⟨#[]⟩,.bool false]) (by simp[results,Tryz.results197,go_sem]) rfl ⟨rfl,BB _ _⟩
theorem bO(s:ByteArray)(k:Nat)(d:Lib.indexByte s.data.toList 47=(k:Int))(b:k<s.size)(hs:s.size<=2000)(w:World):
 Calls Tryz.prog 189 #[B s,B ⟨#[47]⟩] w λe i=>e=.returned (C #[B (s.extract 0 k),B (s.extract (k+1) s.size),.bool true])/\Bl w i:=by
 have f:=Ja (bM s k d b hs w);clear d b hs;obtain⟨j,a⟩:=ex (s.extract 0 k);obtain⟨g,c⟩:=ex (s.extract (k+1) s.size);rw[a,c]at f ⊢;clear a c;go_enter Tryz.func189,Tryz.ntmps189
 go_wp2_with(go_at_call 197;refine f.o.mono ?_;rintro e m ⟨rfl,l⟩)
 exact BA (v:=C #[B j,B g,.bool true]) (by simp[results,Tryz.results189,go_sem]) rfl ⟨rfl,l⟩
theorem bP(s:ByteArray)(a:Lib.indexByte s.data.toList 47=-1)(w:World):
 Calls Tryz.prog 189 #[B s,B ⟨#[47]⟩] w λe b=>e=.returned (C #[B s,B ⟨#[]⟩,.bool false])/\Bl w b:=by
 have c:=Ja (bN s a w);clear a;go_enter Tryz.func189,Tryz.ntmps189
 go_wp2_with(go_at_call 197;refine c.o.mono ?_;rintro e f ⟨rfl,d⟩)
 exact BA (v:=C #[B s,B ⟨#[]⟩,.bool false]) (by simp[results,Tryz.results189,go_sem]) rfl ⟨rfl,d⟩
