import Derived.Test.YtahpgnkhophgpaaDoorRefR1
import Derived.Test.YtahpgnkhophgpaaDoorRefR2
import Derived.Test.YtahpgnkhophgpaaDoorRefR3
namespace Go.Proofs.YtahpgnkhophgpaaDoor
open Go.RowKit Go.Shelf

set_option maxRecDepth 100000 in
set_option maxHeartbeats 1000000 in
theorem parseF1_w (s : ByteArray) (h0 : s.size = 0) (w : World) : Calls Tryd.prog 7 #[.string s] w fun e w' => e = .returned noBig ∧ Below w.heap.size w w' := by
  have hs : s = ⟨#[]⟩ := by
    apply ByteArray.ext
    exact Array.eq_empty_of_size_eq_zero h0
  subst hs
  go_enter Tryd.func7, Tryd.ntmps7
  go_wp2
  exact bodyPost_ret (v := noBig) (by simp [results, Tryd.results7, go_sem, noBig]) rfl ⟨rfl, (Below.refl _ _).alloc (Nat.le_refl _) _⟩

set_option maxRecDepth 100000 in
set_option maxHeartbeats 1000000 in
theorem parseF2_w (s : ByteArray) (h0 : 2000 < s.size) (hs : s.size ≤ 140737488351232) (w : World) : Calls Tryd.prog 7 #[.string s] w fun e w' => e = .returned noBig ∧ Below w.heap.size w w' := by
  have h1 : 0 < s.size := by omega
  by_cases hm : ((s[0].toNat : Int) == 45) = true
  · obtain ⟨tb, htb⟩ : ∃ tb, s.extract 1 s.size = tb := ⟨_, rfl⟩
    have HTB := hide htb
    have ht0 : 0 < tb.size := by rw [← htb, ByteArray.size_extract]; omega
    have he := not_empty ht0
    clear htb
    go_enter Tryd.func7, Tryd.ntmps7
    go_upto_region 4 with fail
    rw [HTB.out]
    go_wp2
    exact bodyPost_ret (v := noBig) (by simp [results, Tryd.results7, go_sem, noBig]) rfl ⟨rfl, (Below.refl _ _).alloc (Nat.le_refl _) _⟩
  · have hm' : ((s[0].toNat : Int) == 45) = false := by simpa using hm
    have he := not_empty h1
    clear hm
    go_enter Tryd.func7, Tryd.ntmps7
    go_wp2
    exact bodyPost_ret (v := noBig) (by simp [results, Tryd.results7, go_sem, noBig]) rfl ⟨rfl, (Below.refl _ _).alloc (Nat.le_refl _) _⟩

set_option maxRecDepth 100000 in
set_option maxHeartbeats 1000000 in
theorem parseF3_w (s : ByteArray) (h0 : s.size = 1) (hm : ∀ h : 0 < s.size, ((s[0].toNat : Int) == 45) = true) (w : World) : Calls Tryd.prog 7 #[.string s] w fun e w' => e = .returned noBig ∧ Below w.heap.size w w' := by
  have h1 : 0 < s.size := by omega
  have hm := hm h1
  obtain ⟨tb, htb⟩ : ∃ tb, s.extract 1 s.size = tb := ⟨_, rfl⟩
  have HTB := hide htb
  have ht0 : tb = ⟨#[]⟩ := by
    apply ByteArray.ext
    apply Array.eq_empty_of_size_eq_zero
    show tb.size = 0
    rw [← htb, ByteArray.size_extract]; omega
  subst ht0
  have hs : s.size ≤ 1 := by omega
  clear htb h0
  go_enter Tryd.func7, Tryd.ntmps7
  go_upto_region 4 with fail
  rw [HTB.out]
  go_wp2
  exact bodyPost_ret (v := noBig) (by simp [results, Tryd.results7, go_sem, noBig]) rfl ⟨rfl, (Below.refl _ _).alloc (Nat.le_refl _) _⟩

set_option maxRecDepth 100000 in
set_option maxHeartbeats 1000000 in
theorem parseF4_w (s : ByteArray) (h0 : 0 < s.size) (h2 : s.size ≤ 2000) (hm : ((s[0].toNat : Int) == 45) = false) (hq : ((s[0].toNat : Int) == 48) = true) (hq2 : (s.toList == [48]) = false) (w : World) : Calls Tryd.prog 7 #[.string s] w fun e w' => e = .returned noBig ∧ Below w.heap.size w w' := by
  have he := not_empty h0
  go_enter Tryd.func7, Tryd.ntmps7
  go_wp2
  exact bodyPost_ret (v := noBig) (by simp [results, Tryd.results7, go_sem, noBig]) rfl ⟨rfl, (Below.refl _ _).alloc (Nat.le_refl _) _⟩

set_option maxRecDepth 100000 in
set_option maxHeartbeats 1000000 in
theorem parseF5_w (s tb : ByteArray) (HTB : Hid (s.extract 1 s.size = tb)) (h0 : 0 < s.size) (h2 : s.size ≤ 2000) (hm : ((s[0].toNat : Int) == 45) = true) (ht0 : 0 < tb.size) (hq : ((tb[0].toNat : Int) == 48) = true) (hq2 : (s.toList == [48]) = false) (w : World) : Calls Tryd.prog 7 #[.string s] w fun e w' => e = .returned noBig ∧ Below w.heap.size w w' := by
  have he := not_empty ht0
  go_enter Tryd.func7, Tryd.ntmps7
  go_upto_region 4 with fail
  rw [HTB.out]
  go_wp2
  exact bodyPost_ret (v := noBig) (by simp [results, Tryd.results7, go_sem, noBig]) rfl ⟨rfl, (Below.refl _ _).alloc (Nat.le_refl _) _⟩
end Go.Proofs.YtahpgnkhophgpaaDoor
