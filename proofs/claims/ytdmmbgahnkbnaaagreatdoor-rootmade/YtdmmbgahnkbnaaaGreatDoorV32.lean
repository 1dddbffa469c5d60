import Derived.Test.YtdmmbgahnkbnaaaGreatDoorV20
import Derived.Lib.IndexLaws
set_option linter.all false
open Go.Value renaming string->B,tuple->C
set_option maxRecDepth 99999
set_option maxHeartbeats 0
namespace Go.Proofs.YtdmmbgahnkbnaaaGreatDoor
open Go.RowKit Go.Shelf
attribute [local go_sem] Oper.semAt_some
def Ya(l:List UInt8):Nat:=(l.takeWhile (· != 47)).length
theorem N9(l:List UInt8):(Ya l<l.length/\Lib.indexByte l 47=(Ya l:Int))\/(Ya l=l.length/\Lib.indexByte l 47=-1):=by
 induction l with
 |nil=>right;exact⟨rfl,rfl⟩
 |cons b l d=>
  unfold Lib.indexByte;by_cases a:b=47
  . left
    subst a;simp[Ya]
  . have c:Ya (b::l)=Ya l+1:=by simp[Ya,a]
    grind
def lw(s:ByteArray)(k:Nat)(hk:Lib.indexByte s.data.toList 47=(k:Int))(i:k<s.size)(hs:s.size<=2000)(w:World):
 Calls Tryz.prog 176 #[B s,B ⟨#[47]⟩] w λe w'=>e=.returned (C #[B (s.extract 0 k),B (s.extract (k+1) s.size),.bool true])/\Bl w w':=by
 have a:=Z hk;clear hk;have b:(0:Int)<=(k:Int):=O
 have c:(k:Int)<=(s.size:Int):=O
 have d:IntKind.i64.wrap ((k:Int)+1)=(k:Int)+1:=by rw[BH];omega
 have f:(0:Int)<=(k:Int)+1:=O
 have g:(k:Int)+1<=(s.size:Int):=O
 go_enter Tryz.func176,Tryz.ntmps176
 go_upto_region 3 with(go_at_call 229;refine(Tryz.stringslite_Index_one s 47 _).mono ?_;rintro e w1 ⟨rfl,rfl⟩;rw[a.o])
 go_quiet (fail)
 go_wp2_with fail
 exact BA (v:=C #[B (s.extract 0 k),B (s.extract (k+1) s.size),.bool true]) (by simp[results,Tryz.results176,go_sem]) rfl ⟨rfl,⟨rfl,rfl,rfl,Aa _,λ_ _=>rfl⟩⟩
def lx(s:ByteArray)(hk:Lib.indexByte s.data.toList 47=-1)(w:World):
 Calls Tryz.prog 176 #[B s,B ⟨#[47]⟩] w λe w'=>e=.returned (C #[B s,B ⟨#[]⟩,.bool false])/\Bl w w':=by
 have a:=Z hk;clear hk;go_enter Tryz.func176,Tryz.ntmps176
 go_wp2_with(go_at_call 229;refine(Tryz.stringslite_Index_one s 47 _).mono ?_;rintro e w1 ⟨rfl,rfl⟩;rw[a.o])
 exact BA (v:=C #[B s,B ⟨#[]⟩,.bool false]) (by simp[results,Tryz.results176,go_sem]) rfl ⟨rfl,BB _ _⟩
def lz(s:ByteArray)(k:Nat)(hk:Lib.indexByte s.data.toList 47=(k:Int))(d:k<s.size)(hs:s.size<=2000)(w:World):
 Calls Tryz.prog 92 #[B s,B ⟨#[47]⟩] w λe w'=>e=.returned (C #[B (s.extract 0 k),B (s.extract (k+1) s.size),.bool true])/\Bl w w':=by
 have a:=Z (lw s k hk d hs w);clear hk d hs;obtain⟨f,b⟩:=ex (s.extract 0 k);obtain⟨g,c⟩:=ex (s.extract (k+1) s.size);rw[b,c]at a ⊢;clear b c;go_enter Tryz.func92,Tryz.ntmps92
 go_wp2_with(go_at_call 176;refine a.o.mono ?_;rintro e w1 ⟨rfl,i⟩)
 exact BA (v:=C #[B f,B g,.bool true]) (by simp[results,Tryz.results92,go_sem]) rfl ⟨rfl,i⟩
def l0(s:ByteArray)(hk:Lib.indexByte s.data.toList 47=-1)(w:World):
 Calls Tryz.prog 92 #[B s,B ⟨#[47]⟩] w λe w'=>e=.returned (C #[B s,B ⟨#[]⟩,.bool false])/\Bl w w':=by
 have a:=Z (lx s hk w);clear hk;go_enter Tryz.func92,Tryz.ntmps92
 go_wp2_with(go_at_call 176;refine a.o.mono ?_;rintro e w1 ⟨rfl,b⟩)
 exact BA (v:=C #[B s,B ⟨#[]⟩,.bool false]) (by simp[results,Tryz.results92,go_sem]) rfl ⟨rfl,b⟩
