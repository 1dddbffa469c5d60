import Derived.Test.YtahpgnkhophgpaaDoorRef1
namespace Go.Proofs.YtahpgnkhophgpaaDoor
open Go.RowKit Go.Shelf

set_option maxHeartbeats 1000000 in
theorem order_c (B : Nat) (hB : 2 ≤ B) (va vb : Value) (da db : List Nat) (w : World) (ha : Row .i64 w va da) (hb : Row .i64 w vb db) (xa : Dig B da) (xb : Dig B db) (ta : Top da) (tb : Top db) :
    Calls Tryd.prog 39 #[va, vb] w fun e w' => e = .returned (.int .i64 (cmpN (val B da) (val B db))) ∧ Below w.heap.size w w' := by
  obtain ⟨a, ca, rfl, hla, hca, hma, HA⟩ := ha.open
  obtain ⟨b, cb, rfl, hlb, hcb, hmb, HB⟩ := hb.open
  by_cases hl : da.length = db.length
  · have HL : Hid (da.length = db.length) := hl
    rw [← hl]
    rw [← hl] at hlb
    clear hl
    go_enter Tryd.func39, Tryd.ntmps39
    go_wp2
    go_loopw [5] (fun i wr => ∃ k : Nat, k ≤ da.length ∧ i = .int .i64 ((k : Int) - 1) ∧ Hid (da.drop k = db.drop k) ∧ Below w.heap.size w wr) (fun i _ => (intOf i + 1).toNat)
    case atStart => exact ⟨da.length, Nat.le_refl _, rfl, by show da.drop _ = db.drop _; rw [List.drop_eq_nil_of_le (Nat.le_refl _), List.drop_eq_nil_of_le (by rw [HL.out]; exact Nat.le_refl _)], Below.refl _ _⟩
    case round =>
      obtain ⟨k, hk, rfl, hd, hB⟩ := hrel
      cases k with
      | zero =>
        go_wp2
        go_ret
        have e : da = db := by have := hd.out; simpa using this
        exact ⟨ret_int (by rw [e, cmpN_self]), hB⟩
      | succ k =>
        obtain ⟨ba, oa, rfl, hba, hc1⟩ := HA.out k (by omega)
        obtain ⟨bb, ob, rfl, hbb, hc2⟩ := HB.out k (by have := HL.out; omega)
        have hq1 : wr.cell? ⟨ba, oa + k, none⟩ = some (.int .i64 (da[k]?.getD 0 : Nat)) := (hB.cell (p := ⟨ba, oa + k, none⟩) hba).trans hc1
        have hq2 : wr.cell? ⟨bb, ob + k, none⟩ = some (.int .i64 (db[k]?.getD 0 : Nat)) := (hB.cell (p := ⟨bb, ob + k, none⟩) hbb).trans hc2
        clear hc1 hc2
        have HX := Hid.out (p := Hid ((da[k]?.getD 0 = db[k]?.getD 0 ∧ da.drop k = db.drop k) ∨ (da[k]?.getD 0 < db[k]?.getD 0 ∧ val B da < val B db) ∨ (db[k]?.getD 0 < da[k]?.getD 0 ∧ val B db < val B da))) (by
          rcases Nat.lt_trichotomy (da[k]?.getD 0) (db[k]?.getD 0) with h | h | h
          · exact Or.inr (Or.inl ⟨h, val_lt_at xa HL.out k (by omega) hd.out h⟩)
          · exact Or.inl ⟨h, drop_eq_step HL.out k (by omega) hd.out h⟩
          · exact Or.inr (Or.inr ⟨h, val_lt_at xb HL.out.symm k (by have := HL.out; omega) hd.out.symm h⟩))
        generalize da[k]?.getD 0 = x at hq1 HX
        generalize db[k]?.getD 0 = y at hq2 HX
        rcases Nat.lt_trichotomy x y with h | h | h
        · have g1 : ((x : Int) != y) = true := by rw [bne_iff_ne]; omega
          go_wp2
          go_quiet (fail)
          go_wp2
          go_quiet (fail)
          go_wp2
          go_ret
          refine ⟨ret_int ?_, below_drewN (below_drewN hB _) _⟩
          rcases HX.out with ⟨g, _⟩ | ⟨_, g⟩ | ⟨g, _⟩
          · omega
          · rw [cmpN_lt g]
          · omega
        · subst h
          have g1 : ((x : Int) != x) = false := by simp
          go_wp2
          go_quiet (fail)
          go_wp2
          go_roundw
          case rel =>
            refine ⟨k, by omega, by simp, ?_, below_drewN hB _⟩
            rcases HX.out with ⟨_, g⟩ | ⟨g, _⟩ | ⟨g, _⟩
            · exact g
            · omega
            · omega
          case measure => simp [intOf]
        · have g1 : ((x : Int) != y) = true := by rw [bne_iff_ne]; omega
          have g2 : decide ((x : Int) < y) = false := decide_eq_false (by omega)
          go_wp2
          go_quiet (fail)
          go_wp2
          go_quiet (fail)
          go_wp2
          go_ret
          refine ⟨ret_int ?_, below_drewN (below_drewN hB _) _⟩
          rcases HX.out with ⟨g, _⟩ | ⟨g, _⟩ | ⟨_, g⟩
          · omega
          · omega
          · rw [cmpN_gt g]
  · have hl1 : ((da.length : Int) != db.length) = true := by rw [bne_iff_ne]; omega
    clear HA HB
    by_cases h : da.length < db.length
    · have g := val_lt_of_length hB xa xb ta tb h
      have G : Hid (val B da < val B db) := g
      clear g
      go_enter Tryd.func39, Tryd.ntmps39
      go_wp2
      go_ret
      exact ⟨ret_int (by rw [cmpN_lt G.out]), Below.refl _ _⟩
    · have g := val_lt_of_length hB xb xa tb ta (by omega)
      have G : Hid (val B db < val B da) := g
      clear g
      have h' : db.length < da.length := by omega
      go_enter Tryd.func39, Tryd.ntmps39
      go_wp2
      go_ret
      exact ⟨ret_int (by rw [cmpN_gt G.out]), Below.refl _ _⟩
end Go.Proofs.YtahpgnkhophgpaaDoor
