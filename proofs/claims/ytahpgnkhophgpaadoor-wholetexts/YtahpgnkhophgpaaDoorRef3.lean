import Derived.Test.YtahpgnkhophgpaaDoorRef2
namespace Go.Proofs.YtahpgnkhophgpaaDoor
open Go.RowKit Go.Shelf

/-- The slice value v holds the digits of base 10000 of n. -/
def RN (W : World) (v : Value) (n : Nat) : Prop := Row .i64 W v (limbs 10000 n)

/-- A fact, hidden from the walk. -/
theorem hide {p : Prop} (h : p) : Hid p := h

/-- What a sum's loop knows. -/
def PlusAt (da db : List Nat) (k c : Nat) (acc : List Nat) : Prop :=
  acc.length = k ∧ Dig 10000 acc ∧ c ≤ 1 ∧ val 10000 acc + 10000 ^ k * c = val 10000 (da.take k) + val 10000 (db.take k) ∧
    (k ≤ max da.length db.length ∨ (k = max da.length db.length + 1 ∧ c = 0 ∧ 10000 ^ (k - 1) ≤ val 10000 acc))

theorem PlusAt.start (da db : List Nat) : PlusAt da db 0 0 [] := ⟨rfl, Dig.nil _, by omega, by simp [val], Or.inl (by omega)⟩

theorem PlusAt.step {da db : List Nat} {k c : Nat} {acc : List Nat} (h : PlusAt da db k c acc) (xa : Dig 10000 da) (xb : Dig 10000 db) (hgo : k < da.length ∨ k < db.length ∨ 0 < c) :
    PlusAt da db (k + 1) ((c + (da[k]?.getD 0 + db[k]?.getD 0)) / 10000) (acc ++ [(c + (da[k]?.getD 0 + db[k]?.getD 0)) % 10000]) := by
  obtain ⟨hl, hd, hc, hv, hk⟩ := h
  have h1 := xa.getD (by omega) k
  have h2 := xb.getD (by omega) k
  subst hl
  refine ⟨by simp, hd.append (Dig.cons (Nat.mod_lt _ (by omega)) (Dig.nil _)), by omega, ?_, ?_⟩
  · rw [sum_step acc c _ _ hv, val_take_succ, val_take_succ, Nat.mul_add]
    omega
  · rcases hk with hk | ⟨hk, h0, _⟩
    · by_cases hk2 : acc.length < max da.length db.length
      · exact Or.inl (by omega)
      · have e1 : da[acc.length]?.getD 0 = 0 := by rw [List.getElem?_eq_none (by omega)]; rfl
        have e2 : db[acc.length]?.getD 0 = 0 := by rw [List.getElem?_eq_none (by omega)]; rfl
        have e3 : c = 1 := by omega
        rw [e1, e2, e3]
        refine Or.inr ⟨by omega, by omega, ?_⟩
        rw [val_snoc]
        simp
    · omega

theorem PlusAt.done {m n k : Nat} {acc : List Nat} (h : PlusAt (limbs 10000 m) (limbs 10000 n) k 0 acc) (h1 : (limbs 10000 m).length ≤ k) (h2 : (limbs 10000 n).length ≤ k) : acc = limbs 10000 (m + n) := by
  obtain ⟨hl, hd, hc, hv, hk⟩ := h
  rw [List.take_of_length_le h1, List.take_of_length_le h2, val_limbs (by omega), val_limbs (by omega)] at hv
  refine sum_done (by omega) hd (by omega) ?_ (by omega)
  rcases hk with hk | ⟨_, _, hk⟩
  · exact Or.inl (by omega)
  · exact Or.inr (by rw [hl]; exact hk)

set_option maxHeartbeats 2000000 in
theorem plus_c (va vb : Value) (m n : Nat) (w : World) (ha : RN w va m) (hb : RN w vb n) (hma : (limbs 10000 m).length ≤ 1000000000) (hmb : (limbs 10000 n).length ≤ 1000000000) :
    Calls Tryd.prog 38 #[va, vb] w fun e w' => ∃ u, e = .returned u ∧ RN w' u (m + n) ∧ Below w.heap.size w w' := by
  obtain ⟨a, ca, rfl, hla, hca, _, HA⟩ := Row.open ha
  obtain ⟨b, cb, rfl, hlb, hcb, _, HB⟩ := Row.open hb
  have xa := dig_limbs (B := 10000) (by omega) m
  have xb := dig_limbs (B := 10000) (by omega) n
  have HF : Hid (∀ k acc, PlusAt (limbs 10000 m) (limbs 10000 n) k 0 acc → (limbs 10000 m).length ≤ k → (limbs 10000 n).length ≤ k → acc = limbs 10000 (m + n)) := fun k acc h h1 h2 => h.done h1 h2
  obtain ⟨i0, hi, hz0, hz1, hz2⟩ := info_parts Tryd.infoInt
  unfold RN
  clear ha hb
  generalize limbs 10000 m = da at *
  generalize limbs 10000 n = db at *
  generalize limbs 10000 (m + n) = dc at *
  go_enter Tryd.func38, Tryd.ntmps38
  go_wp2
  go_loopw [5, 6, 7] (fun d c i wr => ∃ (k cc : Nat) (acc : List Nat) (ao : Option Addr) (cv : Nat), i = .int .i64 k ∧ c = .int .i64 cc ∧ d = .slice ao acc.length cv ∧ PlusAt da db k cc acc ∧ wr.ownsRow w.heap.size 3 1 d acc.length (cellsOf .i64 acc) ∧ Below w.heap.size w wr)
    (fun _ _ i _ => 1000000002 - (intOf i).toNat)
  case atStart => exact ⟨0, 0, [], none, 0, rfl, rfl, rfl, PlusAt.start da db, World.ownsRow_nil _ _ _ _, Below.refl _ _⟩
  case round =>
    obtain ⟨k, cc, acc, ao, cv, rfl, rfl, rfl, hP, hown, hB⟩ := hrel
    have hsize := hB.size
    have hkl := hP.1
    have hc1 := hP.2.2.1
    have hkm : k ≤ 1000000001 := by rcases hP.2.2.2.2 with h | ⟨h, _⟩ <;> omega
    have hst := hP.step xa xb
    have HP : Hid (PlusAt da db k cc acc) := hP
    clear hP
    by_cases h1 : k < da.length
    · obtain ⟨ba, oa, rfl, hba, hq1⟩ := HA.out k h1
      have hq1 : wr.cell? ⟨ba, oa + k, none⟩ = some (.int .i64 (da[k]?.getD 0 : Nat)) := (hB.cell (p := ⟨ba, oa + k, none⟩) hba).trans hq1
      by_cases h2 : k < db.length
      · obtain ⟨bb, ob, rfl, hbb, hq2⟩ := HB.out k h2
        have hq2 : wr.cell? ⟨bb, ob + k, none⟩ = some (.int .i64 (db[k]?.getD 0 : Nat)) := (hB.cell (p := ⟨bb, ob + k, none⟩) hbb).trans hq2
        have HS := hide (hst (Or.inl h1))
        clear hst
        have hx := xa.getD (by omega) k
        have hy := xb.getD (by omega) k
        generalize da[k]?.getD 0 = x at *
        generalize db[k]?.getD 0 = y at *
        go_wp2_with (first
          | (at_builtin; refine wpList_append_own _ rfl _ _ 28 rfl w.heap.size 3 i0 (.int .i64 0) 1 8 Tryd.underlying28 hi hz0 hz1 hz2 rfl (by decide) (.slice ao acc.length cv) acc.length (cellsOf .i64 acc) rfl (hown.alloc _) ⟨wr.heap.size, 0, none⟩ 1 1 [_] rfl rfl (cell_one_new _ _ _) (by simp [Value.oneCell']) (by unfold maxLen; omega) (by omega) (by simp; omega) ?_; intro v' w3 hown' hgrow hnil))
        obtain ⟨g, cv', e1, ho, hB3⟩ := append_end ((cc + (x + y)) % 10000) (by omega) hB hown hown' hgrow
        go_roundw
        case rel => exact ⟨k + 1, (cc + (x + y)) / 10000, _, _, _, by simp, by go_num, e1, HS.out, ho, hB3⟩
        case measure => simp [intOf]; omega
      · have ey : db[k]?.getD 0 = 0 := by rw [List.getElem?_eq_none (by omega)]; rfl
        have HS := hide (hst (Or.inl h1))
        clear hst
        have hx := xa.getD (by omega) k
        rw [ey] at HS
        clear ey
        generalize da[k]?.getD 0 = x at *
        go_wp2_with (first
          | (at_builtin; refine wpList_append_own _ rfl _ _ 28 rfl w.heap.size 3 i0 (.int .i64 0) 1 8 Tryd.underlying28 hi hz0 hz1 hz2 rfl (by decide) (.slice ao acc.length cv) acc.length (cellsOf .i64 acc) rfl (hown.alloc _) ⟨wr.heap.size, 0, none⟩ 1 1 [_] rfl rfl (cell_one_new _ _ _) (by simp [Value.oneCell']) (by unfold maxLen; omega) (by omega) (by simp; omega) ?_; intro v' w3 hown' hgrow hnil))
        obtain ⟨g, cv', e1, ho, hB3⟩ := append_end ((cc + (x + 0)) % 10000) (by omega) hB hown hown' hgrow
        go_roundw
        case rel => exact ⟨k + 1, (cc + (x + 0)) / 10000, _, _, _, by simp, by go_num, e1, HS.out, ho, hB3⟩
        case measure => simp [intOf]; omega
    · have ex : da[k]?.getD 0 = 0 := by rw [List.getElem?_eq_none (by omega)]; rfl
      by_cases h2 : k < db.length
      · obtain ⟨bb, ob, rfl, hbb, hq2⟩ := HB.out k h2
        have hq2 : wr.cell? ⟨bb, ob + k, none⟩ = some (.int .i64 (db[k]?.getD 0 : Nat)) := (hB.cell (p := ⟨bb, ob + k, none⟩) hbb).trans hq2
        have HS := hide (hst (Or.inr (Or.inl h2)))
        clear hst
        have hy := xb.getD (by omega) k
        rw [ex] at HS
        clear ex
        generalize db[k]?.getD 0 = y at *
        go_wp2_with (first
          | (at_builtin; refine wpList_append_own _ rfl _ _ 28 rfl w.heap.size 3 i0 (.int .i64 0) 1 8 Tryd.underlying28 hi hz0 hz1 hz2 rfl (by decide) (.slice ao acc.length cv) acc.length (cellsOf .i64 acc) rfl (hown.alloc _) ⟨wr.heap.size, 0, none⟩ 1 1 [_] rfl rfl (cell_one_new _ _ _) (by simp [Value.oneCell']) (by unfold maxLen; omega) (by omega) (by simp; omega) ?_; intro v' w3 hown' hgrow hnil))
        obtain ⟨g, cv', e1, ho, hB3⟩ := append_end ((cc + (0 + y)) % 10000) (by omega) hB hown hown' hgrow
        go_roundw
        case rel => exact ⟨k + 1, (cc + (0 + y)) / 10000, _, _, _, by simp, by go_num, e1, HS.out, ho, hB3⟩
        case measure => simp [intOf]; omega
      · have ey : db[k]?.getD 0 = 0 := by rw [List.getElem?_eq_none (by omega)]; rfl
        rw [ex, ey] at hst
        clear ex ey
        by_cases h3 : cc = 0
        · subst h3
          clear hst
          go_wp2
          go_ret
          have e := HF.out k acc HP.out (by omega) (by omega)
          subst e
          exact ⟨_, rfl, Row.of_owns hown (by omega), hB⟩
        · have h4 : cc = 1 := by omega
          have HS := hide (hst (Or.inr (Or.inr (by omega))))
          clear hst h3
          subst h4
          go_wp2_with (first
            | (at_builtin; refine wpList_append_own _ rfl _ _ 28 rfl w.heap.size 3 i0 (.int .i64 0) 1 8 Tryd.underlying28 hi hz0 hz1 hz2 rfl (by decide) (.slice ao acc.length cv) acc.length (cellsOf .i64 acc) rfl (hown.alloc _) ⟨wr.heap.size, 0, none⟩ 1 1 [_] rfl rfl (cell_one_new _ _ _) (by simp [Value.oneCell']) (by unfold maxLen; omega) (by omega) (by simp; omega) ?_; intro v' w3 hown' hgrow hnil))
          obtain ⟨g, cv', e1, ho, hB3⟩ := append_end ((1 + (0 + 0)) % 10000) (by omega) hB hown hown' hgrow
          go_roundw
          case rel => exact ⟨k + 1, (1 + (0 + 0)) / 10000, _, _, _, by simp, by go_num, e1, HS.out, ho, hB3⟩
          case measure => simp [intOf]; omega
end Go.Proofs.YtahpgnkhophgpaaDoor
