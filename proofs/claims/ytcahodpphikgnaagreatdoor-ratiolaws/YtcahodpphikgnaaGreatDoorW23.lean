import Derived.Test.YtcahodpphikgnaaGreatDoorW21
set_option linter.all false
set_option maxRecDepth 99999
set_option maxHeartbeats 0
namespace Go.Proofs.YtcahodpphikgnaaGreatDoor
open Proofs.Tryz
open Go.RowKit Go.Shelf
attribute [local go_sem] Oper.semAt_some
def Jz(l:List UInt8):Nat:=(l.takeWhile (· != 47)).length
theorem YN(l:List UInt8):(Jz l<l.length∧Lib.indexByte l 47=(Jz l:Int))∨(Jz l=l.length∧Lib.indexByte l 47=-1):=by
 induction l with
 |nil=>right;exact⟨J,J⟩
 |cons b l ih=>
  unfold Lib.indexByte;by_cases hb:b=47
  · left
    subst hb;simp[Jz]
  · have h1:Jz (b::l)=Jz l+1:=by simp[Jz,hb]
    grind
def Kb(s:ByteArray)(k:Nat)(hk:Lib.indexByte s.data.toList 47=(k:Int))(hlt:k<s.size)(hs:s.size≤2000)(w:World):
 Calls Tryz.prog 77 #[.string s,.string ⟨#[47]⟩] w fun e w'=>e=.returned (.tuple #[.string (s.extract 0 k),.string (s.extract (k+1) s.size),.bool true])∧Bl w w':=by
 have HK:=Ja hk;clear hk;have h1:(0:Int)≤(k:Int):=by omega
 have h2:(k:Int)≤(s.size:Int):=by omega
 have h3:IntKind.i64.wrap ((k:Int)+1)=(k:Int)+1:=by rw[Bc];omega
 have h4:(0:Int)≤(k:Int)+1:=by omega
 have h5:(k:Int)+1≤(s.size:Int):=by omega
 go_enter func77,ntmps77
 go_upto_region 3 with(go_at_call 108;refine(Tryz.stringslite_Index_one s 47 _).mono ?_;rintro e w1 ⟨rfl,rfl⟩;rw[HK.o])
 go_quiet (fail)
 go_wp2_with fail
 exact BB (v:=.tuple #[.string (s.extract 0 k),.string (s.extract (k+1) s.size),.bool true]) (by simp[results,results77,go_sem]) J ⟨J,⟨J,J,J,Aa _,fun _ _=>rfl⟩⟩
def Kc(s:ByteArray)(hk:Lib.indexByte s.data.toList 47=-1)(w:World):
 Calls Tryz.prog 77 #[.string s,.string ⟨#[47]⟩] w fun e w'=>e=.returned (.tuple #[.string s,.string ⟨#[]⟩,.bool false])∧Bl w w':=by
 have HK:=Ja hk;clear hk;go_enter func77,ntmps77
 go_wp2_with(go_at_call 108;refine(Tryz.stringslite_Index_one s 47 _).mono ?_;rintro e w1 ⟨rfl,rfl⟩;rw[HK.o])
 exact BB (v:=.tuple #[.string s,.string ⟨#[]⟩,.bool false]) (by simp[results,results77,go_sem]) J ⟨J,BC _ _⟩
def Kd(s:ByteArray)(k:Nat)(hk:Lib.indexByte s.data.toList 47=(k:Int))(hlt:k<s.size)(hs:s.size≤2000)(w:World):
 Calls Tryz.prog 43 #[.string s,.string ⟨#[47]⟩] w fun e w'=>e=.returned (.tuple #[.string (s.extract 0 k),.string (s.extract (k+1) s.size),.bool true])∧Bl w w':=by
 have HC:=Ja (Kb s k hk hlt hs w);clear hk hlt hs;obtain⟨S1,h1⟩:=ex (s.extract 0 k);obtain⟨S2,h2⟩:=ex (s.extract (k+1) s.size);rw[h1,h2]at HC ⊢;clear h1 h2;go_enter func43,ntmps43
 go_wp2_with(go_at_call 77;refine HC.o.mono ?_;rintro e w1 ⟨rfl,hb⟩)
 exact BB (v:=.tuple #[.string S1,.string S2,.bool true]) (by simp[results,results43,go_sem]) J ⟨J,hb⟩
def Ke(s:ByteArray)(hk:Lib.indexByte s.data.toList 47=-1)(w:World):
 Calls Tryz.prog 43 #[.string s,.string ⟨#[47]⟩] w fun e w'=>e=.returned (.tuple #[.string s,.string ⟨#[]⟩,.bool false])∧Bl w w':=by
 have HC:=Ja (Kc s hk w);clear hk;go_enter func43,ntmps43
 go_wp2_with(go_at_call 77;refine HC.o.mono ?_;rintro e w1 ⟨rfl,hb⟩)
 exact BB (v:=.tuple #[.string s,.string ⟨#[]⟩,.bool false]) (by simp[results,results43,go_sem]) J ⟨J,hb⟩
