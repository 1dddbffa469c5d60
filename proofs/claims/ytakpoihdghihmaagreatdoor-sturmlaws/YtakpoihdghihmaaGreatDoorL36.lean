import Derived.Test.YtakpoihdghihmaaGreatDoorL20
import Derived.Lib.IndexLaws
set_option maxRecDepth 100000
set_option maxHeartbeats 16000000
namespace Go.Proofs.YtakpoihdghihmaaGreatDoor
open Go.RowKit Go.Shelf
attribute [local go_sem] Oper.semAt_some
def JT(l:List UInt8):Nat:=(l.takeWhile (· != 47)).length
theorem LO(l:List UInt8):(JT l<l.length∧Lib.indexByte l 47=(JT l:Int))∨(JT l=l.length∧Lib.indexByte l 47=-1):=by
 induction l with
 |nil=>right;exact⟨rfl,rfl⟩
 |cons b l ih=>
  unfold Lib.indexByte;by_cases hb:b=47
  · left
    subst hb;simp[JT]
  · have h1:JT (b::l)=JT l+1:=by simp[JT,hb]
    rw[h1];have h2:(b==47)=false:=by simp[hb]
    rw[h2];rcases ih with⟨h3,h4⟩|⟨h3,h4⟩
    · left
      rw[h4];have h5:((JT l:Int) == -1)=false:=by rw[Bh];omega
      rw[h5];simp;omega
    · right
      rw[h4];simp;omega
theorem Z3(s:ByteArray)(k:Nat)(hk:Lib.indexByte s.data.toList 47=(k:Int))(hlt:k<s.size)(hs:s.size≤2000)(w:World):
 Calls Tryz.prog 121 #[.string s,.string ⟨#[47]⟩] w fun e w'=>e=.returned (.tuple #[.string (s.extract 0 k),.string (s.extract (k+1) s.size),.bool true])∧Bl w w':=by
 have HK:=Ja hk;clear hk;have h1:(0:Int)≤(k:Int):=by omega
 have h2:(k:Int)≤(s.size:Int):=by omega
 have h3:IntKind.i64.wrap ((k:Int)+1)=(k:Int)+1:=by rw[IntKind.wrap_i64];omega
 have h4:(0:Int)≤(k:Int)+1:=by omega
 have h5:(k:Int)+1≤(s.size:Int):=by omega
 go_enter Tryz.func121,Tryz.ntmps121
 go_upto_region 3 with(go_at_call 164;refine(Tryz.stringslite_Index_one s 47 _).mono ?_;rintro e w1 ⟨rfl,rfl⟩;rw[HK.o])
 go_quiet (fail)
 go_wp2_with fail
 exact BB (v:=.tuple #[.string (s.extract 0 k),.string (s.extract (k+1) s.size),.bool true]) (by simp[results,Tryz.results121,go_sem]) rfl ⟨rfl,⟨rfl,rfl,rfl,Aa _,fun _ _=>rfl⟩⟩
theorem Z4(s:ByteArray)(hk:Lib.indexByte s.data.toList 47=-1)(w:World):
 Calls Tryz.prog 121 #[.string s,.string ⟨#[47]⟩] w fun e w'=>e=.returned (.tuple #[.string s,.string ⟨#[]⟩,.bool false])∧Bl w w':=by
 have HK:=Ja hk;clear hk;go_enter Tryz.func121,Tryz.ntmps121
 go_wp2_with(go_at_call 164;refine(Tryz.stringslite_Index_one s 47 _).mono ?_;rintro e w1 ⟨rfl,rfl⟩;rw[HK.o])
 exact BB (v:=.tuple #[.string s,.string ⟨#[]⟩,.bool false]) (by simp[results,Tryz.results121,go_sem]) rfl ⟨rfl,BG _ _⟩
theorem Z6(s:ByteArray)(k:Nat)(hk:Lib.indexByte s.data.toList 47=(k:Int))(hlt:k<s.size)(hs:s.size≤2000)(w:World):
 Calls Tryz.prog 62 #[.string s,.string ⟨#[47]⟩] w fun e w'=>e=.returned (.tuple #[.string (s.extract 0 k),.string (s.extract (k+1) s.size),.bool true])∧Bl w w':=by
 have HC:=Ja (Z3 s k hk hlt hs w);clear hk hlt hs;obtain⟨S1,h1⟩:=ex (s.extract 0 k);obtain⟨S2,h2⟩:=ex (s.extract (k+1) s.size);rw[h1,h2]at HC ⊢;clear h1 h2;go_enter Tryz.func62,Tryz.ntmps62
 go_wp2_with(go_at_call 121;refine HC.o.mono ?_;rintro e w1 ⟨rfl,hb⟩)
 exact BB (v:=.tuple #[.string S1,.string S2,.bool true]) (by simp[results,Tryz.results62,go_sem]) rfl ⟨rfl,hb⟩
theorem Z7(s:ByteArray)(hk:Lib.indexByte s.data.toList 47=-1)(w:World):
 Calls Tryz.prog 62 #[.string s,.string ⟨#[47]⟩] w fun e w'=>e=.returned (.tuple #[.string s,.string ⟨#[]⟩,.bool false])∧Bl w w':=by
 have HC:=Ja (Z4 s hk w);clear hk;go_enter Tryz.func62,Tryz.ntmps62
 go_wp2_with(go_at_call 121;refine HC.o.mono ?_;rintro e w1 ⟨rfl,hb⟩)
 exact BB (v:=.tuple #[.string s,.string ⟨#[]⟩,.bool false]) (by simp[results,Tryz.results62,go_sem]) rfl ⟨rfl,hb⟩
