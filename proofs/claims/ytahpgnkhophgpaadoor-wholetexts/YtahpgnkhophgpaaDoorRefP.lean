import Derived.Test.YtahpgnkhophgpaaDoorRefO
namespace Go.Proofs.YtahpgnkhophgpaaDoor
open Go.RowKit Go.Shelf

set_option maxRecDepth 100000 in
set_option maxHeartbeats 2000000 in
theorem ofPos_w (N : Nat) (hN : N ≤ 9223372036854775807) (w : World) :
    Calls Tryd.prog 11 #[.int .i64 N] w fun e w' => ∃ u, e = .returned u ∧ IsBig w' u N ∧ Below w.heap.size w w' := by
  obtain ⟨i0, hi, hz0, hz1, hz2⟩ := info_parts Tryd.infoInt
  have bR := (Box2.new w 30 (.slice none 0 0) (.bool false)).alloc (.cells #[.slice none 0 0, .bool false] 30)
  have bb := Box2.new (w.alloc (.cells #[.slice none 0 0, .bool false] 30)) 30 (.slice none 0 0) (.bool false)
  simp only [World.size_alloc] at bb
  have hB0 := below_2 w (.cells #[.slice none 0 0, .bool false] 30) (.cells #[.slice none 0 0, .bool false] 30)
  have HF : Hid (∀ acc, OfAt N 0 acc → acc = limbs 10000 N) := fun acc h => h.done
  have HS : Hid (∀ c acc, OfAt N c acc → c ≠ 0 → OfAt N (c / 10000) (acc ++ [c % 10000])) := fun c acc h hc => h.step (by omega) hc
  go_enter Tryd.func11, Tryd.ntmps11
  go_wp2
  go_loopw [0] (fun nv wr => ∃ (c : Nat) (acc : List Nat) (ao : Option Addr) (cv : Nat), nv = .int .i64 c ∧ c ≤ N ∧ acc.length ≤ 100 ∧ Hid (OfAt N c acc) ∧ Box2 wr w.heap.size 30 (.slice none 0 0) (.bool false) ∧ Box2 wr (w.heap.size + 1) 30 (.slice ao acc.length cv) (.bool false) ∧ wr.ownsRow (w.heap.size + 1 + 1) 3 1 (.slice ao acc.length cv) acc.length (cellsOf .i64 acc) ∧ Below w.heap.size w wr ∧ w.heap.size + 1 + 1 ≤ wr.heap.size)
    (fun nv _ => (intOf nv).toNat)
  case atStart => exact ⟨N, [], none, 0, rfl, Nat.le_refl _, by simp, ⟨Dig.nil _, by simp [val], by simp, Or.inl rfl⟩, bR, bb, World.ownsRow_nil _ _ _ _, hB0, by simp⟩
  case round =>
    clear bR bb hB0
    obtain ⟨c, acc, ao, cv, rfl, hcN, hla, HA, bR, bb, hown, hB, hsz⟩ := hrel
    have c0 := bb.c0
    have c1 := bb.c1
    have f0 := bb.f0
    by_cases hc : c = 0
    · subst hc
      have e := HF.out acc HA.out
      have r0 := bR.c0
      have r1 := bR.c1
      have g0 := bR.f0
      have g1 := bR.f1
      clear HF HS
      go_wp2
      subst e
      obtain ⟨hr, hB2⟩ := set2_fin (.slice ao (limbs 10000 N).length cv) (.bool false) hB (Nat.le_refl _) bR rfl rfl (Row.of_owns hown (by omega))
      exact bodyPost_ret (v := .agg #[.slice ao (limbs 10000 N).length cv, .bool false]) (by simp [results, Tryd.results11, go_sem, r0, r1]) rfl ⟨_, rfl, ⟨ao, _, cv, by rw [show decide ((N : Int) < 0) = false from decide_eq_false (by omega)], hr⟩, hB2⟩
    · have hc0 : ((c : Int) != 0) = true := by rw [bne_iff_ne]; omega
      have HN := hide (HS.out c acc HA.out hc)
      go_wp2_with (first
        | (at_builtin; refine wpList_append_own _ rfl _ _ 28 rfl (w.heap.size + 1 + 1) 3 i0 (.int .i64 0) 1 8 Tryd.underlying28 hi hz0 hz1 hz2 rfl (by decide) (.slice ao acc.length cv) acc.length (cellsOf .i64 acc) rfl (hown.alloc _) ⟨wr.heap.size, 0, none⟩ 1 1 [_] rfl rfl (cell_one_new _ _ _) (by simp [Value.oneCell']) (by unfold maxLen; omega) (by omega) (by simp; omega) ?_; intro v' w3 hown' hgrow hnil; obtain ⟨g, cv', e1, ho, bb3, hB3, hsz3, hk3⟩ := append_fld (c % 10000) (by omega) (by omega) (by omega) hB bb hown hown' hgrow; have d0 := bb3.c0; have d1 := bb3.f0; subst e1))
      have hl1 : (acc ++ [c % 10000]).length ≤ 100 := HN.out.2.2.1
      have el : (acc ++ [c % 10000]).length = acc.length + 1 := by simp
      go_roundw
      case rel => exact ⟨c / 10000, acc ++ [c % 10000], some ⟨g, 0, none⟩, cv', by simp, by omega, hl1, HN, (hk3 _ _ _ _ (by omega) bR).far (by simp) _, by rw [el]; exact bb3.set0 _, by rw [el] at ho ⊢; exact ho, hB3.setCell (by simp) _, by simpa [World.setCell] using hsz3⟩
      case measure => simp [intOf]; omega
theorem tmod_neg (c : Nat) : (-(c : Int)).tmod 10000 = -((c % 10000 : Nat) : Int) := by
  rw [Int.neg_tmod, Int.tmod_eq_emod_of_nonneg (by omega)]; rfl

theorem tdiv_neg (c : Nat) : (-(c : Int)).tdiv 10000 = -((c / 10000 : Nat) : Int) := by
  rw [Int.neg_tdiv, Int.tdiv_eq_ediv_of_nonneg (by omega)]; rfl

set_option maxRecDepth 100000 in
set_option maxHeartbeats 2000000 in
theorem ofNeg_w (N : Nat) (h0 : 1 ≤ N) (hN : N ≤ 9223372036854775808) (w : World) :
    Calls Tryd.prog 11 #[.int .i64 (-(N : Int))] w fun e w' => ∃ u, e = .returned u ∧ IsBig w' u (-(N : Int)) ∧ Below w.heap.size w w' := by
  have h0' : 0 < N := h0
  obtain ⟨i0, hi, hz0, hz1, hz2⟩ := info_parts Tryd.infoInt
  have bR := (Box2.new w 30 (.slice none 0 0) (.bool false)).alloc (.cells #[.slice none 0 0, .bool true] 30)
  have bb := Box2.new (w.alloc (.cells #[.slice none 0 0, .bool false] 30)) 30 (.slice none 0 0) (.bool true)
  simp only [World.size_alloc] at bb
  have hB0 := below_2 w (.cells #[.slice none 0 0, .bool false] 30) (.cells #[.slice none 0 0, .bool true] 30)
  have HF : Hid (∀ acc, OfAt N 0 acc → acc = limbs 10000 N) := fun acc h => h.done
  have HS : Hid (∀ c acc, OfAt N c acc → c ≠ 0 → OfAt N (c / 10000) (acc ++ [c % 10000])) := fun c acc h hc => h.step (by omega) hc
  go_enter Tryd.func11, Tryd.ntmps11
  go_wp2
  go_loopw [0] (fun nv wr => ∃ (c : Nat) (acc : List Nat) (ao : Option Addr) (cv : Nat), nv = .int .i64 (-(c : Int)) ∧ c ≤ N ∧ acc.length ≤ 100 ∧ Hid (OfAt N c acc) ∧ Box2 wr w.heap.size 30 (.slice none 0 0) (.bool false) ∧ Box2 wr (w.heap.size + 1) 30 (.slice ao acc.length cv) (.bool true) ∧ wr.ownsRow (w.heap.size + 1 + 1) 3 1 (.slice ao acc.length cv) acc.length (cellsOf .i64 acc) ∧ Below w.heap.size w wr ∧ w.heap.size + 1 + 1 ≤ wr.heap.size)
    (fun nv _ => (-(intOf nv)).toNat)
  case atStart => exact ⟨N, [], none, 0, rfl, Nat.le_refl _, by simp, ⟨Dig.nil _, by simp [val], by simp, Or.inl rfl⟩, bR, bb, World.ownsRow_nil _ _ _ _, hB0, by simp⟩
  case round =>
    clear bR bb hB0
    obtain ⟨c, acc, ao, cv, rfl, hcN, hla, HA, bR, bb, hown, hB, hsz⟩ := hrel
    have c0 := bb.c0
    have c1 := bb.c1
    have f0 := bb.f0
    have ht := tmod_neg c
    have hd := tdiv_neg c
    by_cases hc : c = 0
    · subst hc
      have e := HF.out acc HA.out
      have r0 := bR.c0
      have r1 := bR.c1
      have g0 := bR.f0
      have g1 := bR.f1
      clear HF HS ht hd
      go_wp2
      subst e
      obtain ⟨hr, hB2⟩ := set2_fin (.slice ao (limbs 10000 N).length cv) (.bool true) hB (Nat.le_refl _) bR rfl rfl (Row.of_owns hown (by omega))
      exact bodyPost_ret (v := .agg #[.slice ao (limbs 10000 N).length cv, .bool true]) (by simp [results, Tryd.results11, go_sem, r0, r1]) rfl ⟨_, rfl, ⟨ao, _, cv, by rw [show decide (-(N : Int) < 0) = true from decide_eq_true (by omega)], by rw [Int.natAbs_neg]; exact hr⟩, hB2⟩
    · have hc0 : ((-(c : Int)) != 0) = true := by rw [bne_iff_ne]; omega
      have HN := hide (HS.out c acc HA.out hc)
      by_cases hm : c % 10000 = 0
      · have hmI : (c : Int) % 10000 = 0 := by omega
        have HM := hide hm
        clear hm
        go_wp2_with (first
          | (at_builtin; refine wpList_append_own _ rfl _ _ 28 rfl (w.heap.size + 1 + 1) 3 i0 (.int .i64 0) 1 8 Tryd.underlying28 hi hz0 hz1 hz2 rfl (by decide) (.slice ao acc.length cv) acc.length (cellsOf .i64 acc) rfl (hown.alloc _) ⟨wr.heap.size, 0, none⟩ 1 1 [_] rfl rfl (cell_one_new _ _ _) (by simp [Value.oneCell']) (by unfold maxLen; omega) (by omega) (by simp; omega) ?_; intro v' w3 hown' hgrow hnil; obtain ⟨g, cv', e1, ho, bb3, hB3, hsz3, hk3⟩ := append_fld (c % 10000) (by omega) (by omega) (by omega) hB bb hown hown' hgrow; have d0 := bb3.c0; have d1 := bb3.f0; subst e1))
        have hl1 : (acc ++ [c % 10000]).length ≤ 100 := HN.out.2.2.1
        have el : (acc ++ [c % 10000]).length = acc.length + 1 := by simp
        go_roundw
        case rel => exact ⟨c / 10000, acc ++ [c % 10000], some ⟨g, 0, none⟩, cv', by simp, by omega, hl1, HN, (hk3 _ _ _ _ (by omega) bR).far (by simp) _, by rw [el]; exact bb3.set0 _, by rw [el] at ho ⊢; exact ho, hB3.setCell (by simp) _, by simpa [World.setCell] using hsz3⟩
        case measure => simp [intOf]; omega
      · have hmI : 0 < (c : Int) % 10000 := by omega
        go_wp2_with (first
          | (at_builtin; refine wpList_append_own _ rfl _ _ 28 rfl (w.heap.size + 1 + 1) 3 i0 (.int .i64 0) 1 8 Tryd.underlying28 hi hz0 hz1 hz2 rfl (by decide) (.slice ao acc.length cv) acc.length (cellsOf .i64 acc) rfl (hown.alloc _) ⟨wr.heap.size, 0, none⟩ 1 1 [_] rfl rfl (cell_one_new _ _ _) (by simp [Value.oneCell']) (by unfold maxLen; omega) (by omega) (by simp; omega) ?_; intro v' w3 hown' hgrow hnil; obtain ⟨g, cv', e1, ho, bb3, hB3, hsz3, hk3⟩ := append_fld (c % 10000) (by omega) (by omega) (by omega) hB bb hown hown' hgrow; have d0 := bb3.c0; have d1 := bb3.f0; subst e1))
        have hl1 : (acc ++ [c % 10000]).length ≤ 100 := HN.out.2.2.1
        have el : (acc ++ [c % 10000]).length = acc.length + 1 := by simp
        go_roundw
        case rel => exact ⟨c / 10000, acc ++ [c % 10000], some ⟨g, 0, none⟩, cv', by simp, by omega, hl1, HN, (hk3 _ _ _ _ (by omega) bR).far (by simp) _, by rw [el]; exact bb3.set0 _, by rw [el] at ho ⊢; exact ho, hB3.setCell (by simp) _, by simpa [World.setCell] using hsz3⟩
        case measure => simp [intOf]; omega

theorem of_c (n : Int) (h1 : -9223372036854775808 ≤ n) (h2 : n ≤ 9223372036854775807) (w : World) :
    Calls Tryd.prog 11 #[.int .i64 n] w fun e w' => ∃ u, e = .returned u ∧ IsBig w' u n ∧ Below w.heap.size w w' := by
  by_cases h : n < 0
  · have e : n = -(n.natAbs : Int) := by omega
    rw [e]
    exact ofNeg_w n.natAbs (by omega) (by omega) w
  · have e : n = (n.natAbs : Int) := by omega
    rw [e]
    exact ofPos_w n.natAbs (by omega) w
end Go.Proofs.YtahpgnkhophgpaaDoor
