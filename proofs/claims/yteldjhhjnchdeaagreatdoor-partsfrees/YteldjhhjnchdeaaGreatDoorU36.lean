import Derived.Test.YteldjhhjnchdeaaGreatDoorU20
import Derived.Lib.IndexLaws
open Go.Value renaming string->B,tuple->C
set_option maxRecDepth 100000
set_option maxHeartbeats 16000000
namespace Go.Proofs.YteldjhhjnchdeaaGreatDoor
open Go.RowKit Go.Shelf
attribute [local go_sem] Oper.semAt_some
def J2(l:List UInt8):Nat:=(l.takeWhile (· != 47)).length
theorem OR(l:List UInt8):(J2 l<l.length/\Lib.indexByte l 47=(J2 l:Int))\/(J2 l=l.length/\Lib.indexByte l 47=-1):=by
 induction l with
 |nil=>right;exact⟨rfl,rfl⟩
 |cons b l i=>
  unfold Lib.indexByte;by_cases c:b=47
  . left
    subst c;simp[J2]
  . have d:J2 (b::l)=J2 l+1:=by simp[J2,c]
    rw[d];have e:(b==47)=false:=by simp[c]
    rw[e];rcases i with⟨f,a⟩|⟨f,a⟩
    . left
      rw[a];have g:((J2 l:Int) == -1)=false:=by rw[BH];omega
      rw[g];simp;omega
    . right
      rw[a];simp;omega
theorem bl(s:ByteArray)(k:Nat)(a:Lib.indexByte s.data.toList 47=(k:Int))(l:k<s.size)(hs:s.size<=2000)(w:World):
 Calls Tryz.prog 197 #[B s,B ⟨#[47]⟩] w λe c=>e=.returned (C #[B (s.extract 0 k),B (s.extract (k+1) s.size),.bool true])/\Bl w c:=by
 have b:=O a;clear a;have d:(0:Int)<=(k:Int):=J
 have f:(k:Int)<=(s.size:Int):=J
 have g:IntKind.i64.wrap ((k:Int)+1)=(k:Int)+1:=by rw[BS];omega
 have i:(0:Int)<=(k:Int)+1:=J
 have j:(k:Int)+1<=(s.size:Int):=J
 go_enter Tryz.func197,Tryz.ntmps197
 go_upto_region 3 with(go_at_call 204;refine(Tryz.stringslite_Index_one s 47 _).mono ?_;rintro e m ⟨rfl,rfl⟩;rw[b.o])
 go_quiet (fail)
 go_wp2_with fail
 exact BA (v:=C #[B (s.extract 0 k),B (s.extract (k+1) s.size),.bool true]) (by simp[results,Tryz.results197,go_sem]) rfl ⟨rfl,⟨rfl,rfl,rfl,Aa _,λ_ _=>rfl⟩⟩
theorem bp(s:ByteArray)(a:Lib.indexByte s.data.toList 47=-1)(w:World):
 Calls Tryz.prog 197 #[B s,B ⟨#[47]⟩] w λe c=>e=.returned (C #[B s,B ⟨#[]⟩,.bool false])/\Bl w c:=by
 have b:=O a;clear a;go_enter Tryz.func197,Tryz.ntmps197
 go_wp2_with(go_at_call 204;refine(Tryz.stringslite_Index_one s 47 _).mono ?_;rintro e d ⟨rfl,rfl⟩;rw[b.o])
 exact BA (v:=C #[B s,B ⟨#[]⟩,.bool false]) (by simp[results,Tryz.results197,go_sem]) rfl ⟨rfl,BB _ _⟩
theorem br(s:ByteArray)(k:Nat)(d:Lib.indexByte s.data.toList 47=(k:Int))(f:k<s.size)(hs:s.size<=2000)(w:World):
 Calls Tryz.prog 189 #[B s,B ⟨#[47]⟩] w λe l=>e=.returned (C #[B (s.extract 0 k),B (s.extract (k+1) s.size),.bool true])/\Bl w l:=by
 have a:=O (bl s k d f hs w);clear d f hs;obtain⟨g,b⟩:=ex (s.extract 0 k);obtain⟨i,c⟩:=ex (s.extract (k+1) s.size);rw[b,c]at a ⊢;clear b c;go_enter Tryz.func189,Tryz.ntmps189
 go_wp2_with(go_at_call 197;refine a.o.mono ?_;rintro e m ⟨rfl,j⟩)
 exact BA (v:=C #[B g,B i,.bool true]) (by simp[results,Tryz.results189,go_sem]) rfl ⟨rfl,j⟩
theorem bw(s:ByteArray)(a:Lib.indexByte s.data.toList 47=-1)(w:World):
 Calls Tryz.prog 189 #[B s,B ⟨#[47]⟩] w λe d=>e=.returned (C #[B s,B ⟨#[]⟩,.bool false])/\Bl w d:=by
 have b:=O (bp s a w);clear a;go_enter Tryz.func189,Tryz.ntmps189
 go_wp2_with(go_at_call 197;refine b.o.mono ?_;rintro e f ⟨rfl,c⟩)
 exact BA (v:=C #[B s,B ⟨#[]⟩,.bool false]) (by simp[results,Tryz.results189,go_sem]) rfl ⟨rfl,c⟩
