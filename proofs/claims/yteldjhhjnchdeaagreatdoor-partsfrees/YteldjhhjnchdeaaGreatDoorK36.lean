import Derived.Test.YteldjhhjnchdeaaGreatDoorShelf
import Derived.Test.YteldjhhjnchdeaaGreatDoorK03
import Derived.Test.YteldjhhjnchdeaaGreatDoorK02
import Derived.Test.YteldjhhjnchdeaaGreatDoorK09
import Derived.Test.YteldjhhjnchdeaaGreatDoorK20
import Derived.Lib.IndexLaws
namespace Go.Proofs.YteldjhhjnchdeaaGreatDoor
open Go.RowKit Go.Shelf

attribute [local go_sem] Oper.semAt_some

/-- Where the first sign / stands, if there is one. -/
def slashAt (l : List UInt8) : Nat := (l.takeWhile (· != 47)).length

theorem slash_index (l : List UInt8) : (slashAt l < l.length ∧ Lib.indexByte l 47 = (slashAt l : Int)) ∨ (slashAt l = l.length ∧ Lib.indexByte l 47 = -1) := by
  induction l with
  | nil => right; exact ⟨rfl, rfl⟩
  | cons b l ih =>
    unfold Lib.indexByte
    by_cases hb : b = 47
    · left
      subst hb
      simp [slashAt]
    · have h1 : slashAt (b :: l) = slashAt l + 1 := by simp [slashAt, hb]
      rw [h1]
      have h2 : (b == 47) = false := by simp [hb]
      rw [h2]
      rcases ih with ⟨h3, h4⟩ | ⟨h3, h4⟩
      · left
        rw [h4]
        have h5 : ((slashAt l : Int) == -1) = false := by rw [beq_eq_false_iff_ne]; omega
        rw [h5]
        simp
        omega
      · right
        rw [h4]
        simp
        omega

set_option maxHeartbeats 1000000 in
theorem slcut_yes (s : ByteArray) (k : Nat) (hk : Lib.indexByte s.data.toList 47 = (k : Int)) (hlt : k < s.size) (hs : s.size ≤ 2000) (w : World) :
    Calls Tryz.prog 197 #[.string s, .string ⟨#[47]⟩] w fun e w' => e = .returned (.tuple #[.string (s.extract 0 k), .string (s.extract (k + 1) s.size), .bool true]) ∧ Below w.heap.size w w' := by
  have HK := hidD hk
  clear hk
  have h1 : (0 : Int) ≤ (k : Int) := by omega
  have h2 : (k : Int) ≤ (s.size : Int) := by omega
  have h3 : IntKind.i64.wrap ((k : Int) + 1) = (k : Int) + 1 := by rw [IntKind.wrap_i64]; omega
  have h4 : (0 : Int) ≤ (k : Int) + 1 := by omega
  have h5 : (k : Int) + 1 ≤ (s.size : Int) := by omega
  go_enter Tryz.func197, Tryz.ntmps197
  go_upto_region 3 with (go_at_call 204; refine (Tryz.stringslite_Index_one s 47 _).mono ?_; rintro e w1 ⟨rfl, rfl⟩; rw [HK.out])
  go_quiet (fail)
  go_wp2_with fail
  exact bodyPost_ret (v := .tuple #[.string (s.extract 0 k), .string (s.extract (k + 1) s.size), .bool true]) (by simp [results, Tryz.results197, go_sem]) rfl ⟨rfl, ⟨rfl, rfl, rfl, Nat.le_refl _, fun _ _ => rfl⟩⟩

set_option maxHeartbeats 1000000 in
theorem slcut_no (s : ByteArray) (hk : Lib.indexByte s.data.toList 47 = -1) (w : World) :
    Calls Tryz.prog 197 #[.string s, .string ⟨#[47]⟩] w fun e w' => e = .returned (.tuple #[.string s, .string ⟨#[]⟩, .bool false]) ∧ Below w.heap.size w w' := by
  have HK := hidD hk
  clear hk
  go_enter Tryz.func197, Tryz.ntmps197
  go_wp2_with (go_at_call 204; refine (Tryz.stringslite_Index_one s 47 _).mono ?_; rintro e w1 ⟨rfl, rfl⟩; rw [HK.out])
  exact bodyPost_ret (v := .tuple #[.string s, .string ⟨#[]⟩, .bool false]) (by simp [results, Tryz.results197, go_sem]) rfl ⟨rfl, Below.refl _ _⟩

set_option maxHeartbeats 1000000 in
theorem scut_yes (s : ByteArray) (k : Nat) (hk : Lib.indexByte s.data.toList 47 = (k : Int)) (hlt : k < s.size) (hs : s.size ≤ 2000) (w : World) :
    Calls Tryz.prog 189 #[.string s, .string ⟨#[47]⟩] w fun e w' => e = .returned (.tuple #[.string (s.extract 0 k), .string (s.extract (k + 1) s.size), .bool true]) ∧ Below w.heap.size w w' := by
  have HC := hidD (slcut_yes s k hk hlt hs w)
  clear hk hlt hs
  obtain ⟨S1, h1⟩ : ∃ S, s.extract 0 k = S := ⟨_, rfl⟩
  obtain ⟨S2, h2⟩ : ∃ S, s.extract (k + 1) s.size = S := ⟨_, rfl⟩
  rw [h1, h2] at HC ⊢
  clear h1 h2
  go_enter Tryz.func189, Tryz.ntmps189
  go_wp2_with (go_at_call 197; refine HC.out.mono ?_; rintro e w1 ⟨rfl, hb⟩)
  exact bodyPost_ret (v := .tuple #[.string S1, .string S2, .bool true]) (by simp [results, Tryz.results189, go_sem]) rfl ⟨rfl, hb⟩

set_option maxHeartbeats 1000000 in
theorem scut_no (s : ByteArray) (hk : Lib.indexByte s.data.toList 47 = -1) (w : World) :
    Calls Tryz.prog 189 #[.string s, .string ⟨#[47]⟩] w fun e w' => e = .returned (.tuple #[.string s, .string ⟨#[]⟩, .bool false]) ∧ Below w.heap.size w w' := by
  have HC := hidD (slcut_no s hk w)
  clear hk
  go_enter Tryz.func189, Tryz.ntmps189
  go_wp2_with (go_at_call 197; refine HC.out.mono ?_; rintro e w1 ⟨rfl, hb⟩)
  exact bodyPost_ret (v := .tuple #[.string s, .string ⟨#[]⟩, .bool false]) (by simp [results, Tryz.results189, go_sem]) rfl ⟨rfl, hb⟩
end Go.Proofs.YteldjhhjnchdeaaGreatDoor
