import Derived.Test.YtjmmnpfedhkjbaaGreatDoorK20
import Derived.Test.YtjmmnpfedhkjbaaGreatDoorK01
import Derived.Deep.Upon
namespace Go.Proofs.YtjmmnpfedhkjbaaGreatDoor
open Go.RowKit Go.Shelf

attribute [local go_sem] Oper.semAt_some

set_option maxHeartbeats 400000 in
theorem trim_a (a : Option Addr) (len cap : Nat) (ds : List Nat) (w : World) (h : Row .i64 w (.slice a len cap) ds) : Calls Tryz.prog 39 #[.slice a len cap] w fun e w' => ∃ l, e = .returned (.slice a l cap) ∧ Row .i64 w (.slice a l cap) (trimL ds) ∧ w' = w := by
  obtain ⟨a', cap', ee, hlc, hcap, hlm, hcs⟩ := h
  cases ee
  have HC : Hid (ds = [] ∨ ∃ b off, a = some ⟨b, off, none⟩ ∧ b < w.heap.size ∧ ∀ j, j < ds.length → w.cell? ⟨b, off + j, none⟩ = some (.int .i64 (ds[j]?.getD 0 : Nat))) := hcs
  clear hcs
  go_enter Tryz.func39, Tryz.ntmps39
  go_wp2
  go_loop [0] (fun d => ∃ k : Nat, k ≤ ds.length ∧ d = .slice a k cap ∧ Hid (trimL (ds.take k) = trimL ds)) (fun d => lenV d)
  case atStart => exact ⟨ds.length, Nat.le_refl _, rfl, by rw [List.take_length]; exact rfl⟩
  case round =>
    obtain ⟨k, hk, rfl, ht⟩ := hrel
    cases k with
    | zero =>
      go_wp2
      go_ret
      refine ⟨0, rfl, ?_, rfl⟩
      have : trimL ds = [] := by rw [← ht.out]; simp [trimL]
      rw [this]
      exact ⟨a, cap, rfl, by simp, hcap, by simp, Or.inl rfl⟩
    | succ k =>
      rcases HC.out with hd | ⟨b, off, ea, hb, hc⟩
      · rw [hd] at hk; simp at hk
      · subst ea
        have hck := hc k (by omega)
        have HH : Hid (∀ j, j < ds.length → w.cell? ⟨b, off + j, none⟩ = some (.int .i64 (ds[j]?.getD 0 : Nat))) := hc
        have HT : Hid (ds.take (k + 1) = ds.take k ++ [ds[k]?.getD 0]) := by
          show ds.take (k + 1) = _
          rw [List.take_succ_eq_append_getElem (by omega), List.getElem?_eq_getElem (by omega)]; rfl
        clear hc HC
        generalize ds[k]?.getD 0 = x at hck HT
        by_cases hx0 : x = 0
        · subst hx0
          go_wp2
          go_round
          case rel =>
            refine ⟨k, by omega, by simp, ?_⟩
            show trimL (ds.take k) = trimL ds
            rw [← ht.out, HT.out, trimL_snoc_zero]
          case measure => simp [lenV]
        · have hx1 : ((x : Int) == 0) = false := by simp; exact hx0
          go_wp2
          go_ret
          refine ⟨k + 1, rfl, ?_, rfl⟩
          have e : trimL ds = ds.take (k + 1) := by rw [← ht.out, HT.out, trimL_snoc_ne _ hx0]
          have el : (ds.take (k + 1)).length = k + 1 := by rw [List.length_take]; omega
          rw [e]
          refine ⟨_, cap, by rw [el], by omega, hcap, by omega, Or.inr ⟨b, off, rfl, hb, fun j hj => ?_⟩⟩
          rw [el] at hj
          rw [HH.out j (by omega), List.getElem?_take_of_lt hj]

/-- A digit ahead of a row, in new memory. -/
theorem append_head (d : Nat) (ty : TypeId) (W : World) (a : Option Addr) (l c : Nat) (ds : List Nat) (h : Row .i64 W (.slice a l c) ds) (hl : l ≤ 1000000000) :
    ∃ g l' c' w', (Builtin.append_ #[22, 22] ty #[.slice (some ⟨W.heap.size, 0, none⟩) 1 1, .slice a l c]).run Tryz.prog (W.alloc (.cells #[.int .i64 (d : Nat)] 3)) = .ok (.slice (some ⟨g, 0, none⟩) l' c') w' ∧ Row .i64 w' (.slice (some ⟨g, 0, none⟩) l' c') (d :: ds) ∧ W.heap.size ≤ g ∧ Below W.heap.size W w' := by
  obtain ⟨i0, hi, hz0, hz1, hz2⟩ := info_parts Tryz.infoInt
  obtain ⟨h1, h2, h3, h4, h5⟩ := row_fn h
  have hA : ArI (W.alloc (.cells #[.int .i64 (d : Nat)] 3)) W.heap.size [d] := ArI.made (World.alloc_heap_new W _)
  have hB : Below W.heap.size W (W.alloc (.cells #[.int .i64 (d : Nat)] 3)) := (Below.refl _ W).alloc (Nat.le_refl _) _
  have hRow := hA.row 0 1 1 (by simp) (by omega) (by omega) (by omega)
  rcases Nat.eq_zero_or_pos l with h0 | h0
  · subst h0
    obtain rfl : ds = [] := List.eq_nil_of_length_eq_zero h1.symm
    have hsrc : Src Tryz.prog i0.size 22 (.slice a 0 c) 0 [] (W.alloc (.cells #[.int .i64 (d : Nat)] 3)) := by
      cases a with
      | none => exact Src.ofNil _ Tryz.underlying22 c
      | some p => exact Src.ofSlice _ Tryz.underlying22 p 0 c [] (by simp) (fun j u hu => by simp at hu) (fun u hu => by simp at hu)
    exact ⟨W.heap.size, 1, 1, _, run_append_nothing (P := Tryz.prog) _ 22 22 ty 3 i0 Tryz.underlying22 hi (some ⟨W.heap.size, 0, none⟩) 1 1 (Nat.le_refl _) _ hsrc, hRow, Nat.le_refl _, hB⟩
  · obtain ⟨b, off, rfl, hbb, _⟩ := h5 0 h0
    have hown : (W.alloc (.cells #[.int .i64 (d : Nat)] 3)).ownsRow W.heap.size 3 1 (.slice (some ⟨W.heap.size, 0, none⟩) 1 1) 1 (cellsOf .i64 [d]) := by
      exact ⟨by simp [cellsOf], Or.inr ⟨W.heap.size, 1, #[.int .i64 (d : Nat)], rfl, Nat.le_refl _, World.alloc_heap_new W _, Nat.le_refl _, by unfold maxLen; omega, by simp, by simp [cellsOf]⟩⟩
    obtain ⟨v', w', hr, ho, hg, _⟩ := run_append_own (P := Tryz.prog) (W.alloc (.cells #[.int .i64 (d : Nat)] 3)) W.heap.size 22 ty 3 i0 (.int .i64 0) 1 8 Tryz.underlying22 hi hz0 hz1 hz2 rfl (by decide) (.slice (some ⟨W.heap.size, 0, none⟩) 1 1) 1 (cellsOf .i64 [d]) hown ⟨b, off, none⟩ l c (cellsOf .i64 ds) (by rw [cellsOf_length]; omega)
      (fun j u hu => by
        have hj : j < ds.length := by
          rcases Nat.lt_or_ge j ds.length with h' | h'
          · exact h'
          · rw [List.getElem?_eq_none (by simpa [cellsOf] using h')] at hu; cases hu
        obtain ⟨b', off', e2, hlt, hcell⟩ := h5 j (by omega)
        cases e2
        rw [addr_plain, (hB.cell (p := ⟨b, off + j, none⟩) hlt), hcell]
        simp only [cellsOf, List.getElem?_map, List.getElem?_eq_getElem hj, Option.map_some, Option.some.injEq] at hu
        rw [← hu, List.getElem?_eq_getElem hj]
        rfl) (fun u hu => by
        rw [cellsOf, List.mem_map] at hu
        obtain ⟨_, _, rfl⟩ := hu
        rfl) (by unfold maxLen; omega) (by omega) (by simp)
    have he : cellsOf .i64 [d] ++ cellsOf .i64 ds = cellsOf .i64 (d :: ds) := by simp [cellsOf]
    rw [he] at ho
    have hrow := Row.of_owns ho (by rw [List.length_cons]; omega)
    rcases ho.2 with ⟨_, e⟩ | ⟨g, cap, cur, e, hge, _⟩
    · omega
    · subst e
      exact ⟨g, 1 + l, cap, w', hr, hrow, hge, below_grown hB hg (Nat.le_refl _)⟩
end Go.Proofs.YtjmmnpfedhkjbaaGreatDoor
