import Derived.Test.YtahpgnkhophgpaaDoorBase
namespace Go.Proofs.YtahpgnkhophgpaaDoor
open Go.RowKit Go.Shelf

set_option maxHeartbeats 400000 in
theorem made_c (a : Option Addr) (len cap : Nat) (m : Bool) (w : World) : Calls Tryd.prog 37 #[.slice a len cap, .bool m] w fun e w' => e = .returned (.agg #[.slice a len cap, .bool (m && decide (0 < len))]) ∧ Below w.heap.size w w' := by
  cases m
  · go_enter Tryd.func37, Tryd.ntmps37
    go_wp2
    exact bodyPost_ret (v := .agg #[.slice a len cap, .bool false]) (by simp [results, Tryd.results37, go_sem]) rfl ⟨by simp, (Below.refl _ _).alloc (Nat.le_refl _) _⟩
  · go_enter Tryd.func37, Tryd.ntmps37
    go_wp2
    exact bodyPost_ret (v := .agg #[.slice a len cap, .bool (decide (0 < len))]) (by simp [results, Tryd.results37, go_sem]) rfl ⟨by simp, (Below.refl _ _).alloc (Nat.le_refl _) _⟩

/-- The length of a slice value. -/
def lenV : Value → Nat | .slice _ k _ => k | _ => 0

set_option maxHeartbeats 400000 in
theorem trim_c (v : Value) (ds : List Nat) (w : World) (h : Row .i64 w v ds) : Calls Tryd.prog 29 #[v] w fun e w' => ∃ u, e = .returned u ∧ Row .i64 w u (trimL ds) ∧ w' = w := by
  obtain ⟨a, cap, rfl, hlc, hcap, hlm, hcs⟩ := h
  have HC : Hid (ds = [] ∨ ∃ b off, a = some ⟨b, off, none⟩ ∧ b < w.heap.size ∧ ∀ j, j < ds.length → w.cell? ⟨b, off + j, none⟩ = some (.int .i64 (ds[j]?.getD 0 : Nat))) := hcs
  clear hcs
  go_enter Tryd.func29, Tryd.ntmps29
  go_wp2
  go_loop [0] (fun d => ∃ k : Nat, k ≤ ds.length ∧ d = .slice a k cap ∧ Hid (trimL (ds.take k) = trimL ds)) (fun d => lenV d)
  case atStart => exact ⟨ds.length, Nat.le_refl _, rfl, by rw [List.take_length]; exact rfl⟩
  case round =>
    obtain ⟨k, hk, rfl, ht⟩ := hrel
    cases k with
    | zero =>
      go_wp2
      go_ret
      refine ⟨_, rfl, ?_, rfl⟩
      have : trimL ds = [] := by rw [← ht.out]; simp [trimL]
      rw [this]
      exact ⟨a, cap, rfl, by simp, hcap, by simp, Or.inl rfl⟩
    | succ k =>
      rcases HC.out with hd | ⟨b, off, ea, hb, hc⟩
      · rw [hd] at hk; simp at hk
      · subst ea
        have hck := hc k (by omega)
        have HH : Hid (∀ j, j < ds.length → w.cell? ⟨b, off + j, none⟩ = some (.int .i64 (ds[j]?.getD 0 : Nat))) := hc
        have HT : Hid (ds.take (k + 1) = ds.take k ++ [ds[k]?.getD 0]) := by
          show ds.take (k + 1) = _
          rw [List.take_succ_eq_append_getElem (by omega), List.getElem?_eq_getElem (by omega)]; rfl
        clear hc HC
        generalize ds[k]?.getD 0 = x at hck HT
        by_cases hx0 : x = 0
        · subst hx0
          go_wp2
          go_round
          case rel =>
            refine ⟨k, by omega, by simp, ?_⟩
            show trimL (ds.take k) = trimL ds
            rw [← ht.out, HT.out, trimL_snoc_zero]
          case measure => simp [lenV]
        · have hx1 : ((x : Int) == 0) = false := by simp; exact hx0
          go_wp2
          go_ret
          refine ⟨.slice (some ⟨b, off, none⟩) (k + 1) cap, rfl, ?_, rfl⟩
          have e : trimL ds = ds.take (k + 1) := by rw [← ht.out, HT.out, trimL_snoc_ne _ hx0]
          have el : (ds.take (k + 1)).length = k + 1 := by rw [List.length_take]; omega
          rw [e]
          refine ⟨_, cap, by rw [el], by omega, hcap, by omega, Or.inr ⟨b, off, rfl, hb, fun j hj => ?_⟩⟩
          rw [el] at hj
          rw [HH.out j (by omega), List.getElem?_take_of_lt hj]
end Go.Proofs.YtahpgnkhophgpaaDoor
