import Derived.Test.YtcahejkcdcjjgaaGreatDoorShelf
import Derived.Test.YtcahejkcdcjjgaaGreatDoorK03
import Derived.Test.YtcahejkcdcjjgaaGreatDoorK02
import Derived.Test.YtcahejkcdcjjgaaGreatDoorK09
import Derived.Test.YtcahejkcdcjjgaaGreatDoorK20
import Derived.Lib.IndexLaws
set_option maxRecDepth 100000
set_option maxHeartbeats 16000000
namespace Go.Proofs.YtcahejkcdcjjgaaGreatDoor
open Go.RowKit Go.Shelf
attribute [local go_sem] Oper.semAt_some
def JJ (l:List UInt8):Nat:=(l.takeWhile (· != 47)).length
theorem X6 (l:List UInt8):(JJ l<l.length∧Lib.indexByte l 47=(JJ l:Int))∨(JJ l=l.length∧Lib.indexByte l 47=-1):=by
 induction l with
 | nil=>right;exact ⟨rfl,rfl⟩
 | cons b l ih=>
  unfold Lib.indexByte;by_cases hb:b=47
  · left
    subst hb;simp [JJ]
  · have h1:JJ (b::l)=JJ l+1:=by simp [JJ,hb]
    rw [h1];have h2:(b == 47)=false:=by simp [hb]
    rw [h2];rcases ih with ⟨h3,h4⟩ | ⟨h3,h4⟩
    · left
      rw [h4];have h5:((JJ l:Int) == -1)=false:=by rw [beq_eq_false_iff_ne];omega
      rw [h5];simp;omega
    · right
      rw [h4];simp;omega
theorem Job (s:ByteArray) (k:Nat) (hk:Lib.indexByte s.data.toList 47=(k:Int)) (hlt:k<s.size) (hs:s.size≤2000) (w:World) :
 Calls Tryz.prog 137 #[.string s,.string ⟨#[47]⟩] w fun e w'=>e=.returned (.tuple #[.string (s.extract 0 k),.string (s.extract (k+1) s.size),.bool true])∧Below w.heap.size w w':=by
 have HK:=Ja hk;clear hk;have h1:(0:Int)≤(k:Int):=by omega
 have h2:(k:Int)≤(s.size:Int):=by omega
 have h3:IntKind.i64.wrap ((k:Int)+1)=(k:Int)+1:=by rw [IntKind.wrap_i64];omega
 have h4:(0:Int)≤(k:Int)+1:=by omega
 have h5:(k:Int)+1≤(s.size:Int):=by omega
 go_enter Tryz.func137,Tryz.ntmps137
 go_upto_region 3 with (go_at_call 170;refine (Tryz.stringslite_Index_one s 47 _).mono ?_;rintro e w1 ⟨rfl,rfl⟩;rw [HK.out])
 go_quiet (fail)
 go_wp2_with fail
 exact bodyPost_ret (v:=.tuple #[.string (s.extract 0 k),.string (s.extract (k+1) s.size),.bool true]) (by simp [results,Tryz.results137,go_sem]) rfl ⟨rfl,⟨rfl,rfl,rfl,Nat.le_refl _,fun _ _=>rfl⟩⟩
theorem Jqb (s:ByteArray) (hk:Lib.indexByte s.data.toList 47=-1) (w:World) :
 Calls Tryz.prog 137 #[.string s,.string ⟨#[47]⟩] w fun e w'=>e=.returned (.tuple #[.string s,.string ⟨#[]⟩,.bool false])∧Below w.heap.size w w':=by
 have HK:=Ja hk;clear hk;go_enter Tryz.func137,Tryz.ntmps137
 go_wp2_with (go_at_call 170;refine (Tryz.stringslite_Index_one s 47 _).mono ?_;rintro e w1 ⟨rfl,rfl⟩;rw [HK.out])
 exact bodyPost_ret (v:=.tuple #[.string s,.string ⟨#[]⟩,.bool false]) (by simp [results,Tryz.results137,go_sem]) rfl ⟨rfl,Below.refl _ _⟩
theorem Jqc (s:ByteArray) (k:Nat) (hk:Lib.indexByte s.data.toList 47=(k:Int)) (hlt:k<s.size) (hs:s.size≤2000) (w:World) :
 Calls Tryz.prog 102 #[.string s,.string ⟨#[47]⟩] w fun e w'=>e=.returned (.tuple #[.string (s.extract 0 k),.string (s.extract (k+1) s.size),.bool true])∧Below w.heap.size w w':=by
 have HC:=Ja (Job s k hk hlt hs w);clear hk hlt hs;obtain ⟨S1,h1⟩:∃ S,s.extract 0 k=S:=⟨_,rfl⟩;obtain ⟨S2,h2⟩:∃ S,s.extract (k+1) s.size=S:=⟨_,rfl⟩;rw [h1,h2] at HC ⊢;clear h1 h2;go_enter Tryz.func102,Tryz.ntmps102
 go_wp2_with (go_at_call 137;refine HC.out.mono ?_;rintro e w1 ⟨rfl,hb⟩)
 exact bodyPost_ret (v:=.tuple #[.string S1,.string S2,.bool true]) (by simp [results,Tryz.results102,go_sem]) rfl ⟨rfl,hb⟩
theorem Jr4 (s:ByteArray) (hk:Lib.indexByte s.data.toList 47=-1) (w:World) :
 Calls Tryz.prog 102 #[.string s,.string ⟨#[47]⟩] w fun e w'=>e=.returned (.tuple #[.string s,.string ⟨#[]⟩,.bool false])∧Below w.heap.size w w':=by
 have HC:=Ja (Jqb s hk w);clear hk;go_enter Tryz.func102,Tryz.ntmps102
 go_wp2_with (go_at_call 137;refine HC.out.mono ?_;rintro e w1 ⟨rfl,hb⟩)
 exact bodyPost_ret (v:=.tuple #[.string s,.string ⟨#[]⟩,.bool false]) (by simp [results,Tryz.results102,go_sem]) rfl ⟨rfl,hb⟩
end Go.Proofs.YtcahejkcdcjjgaaGreatDoor
