import Derived.Test.YtahpgnkhophgpaaDoorRef3
namespace Go.Proofs.YtahpgnkhophgpaaDoor
open Go.RowKit Go.Shelf

/-- What a difference's loop knows. -/
def MinusAt (da db : List Nat) (k : Nat) (c : Int) (acc : List Nat) : Prop :=
  acc.length = k ∧ Dig 10000 acc ∧ (c = 0 ∨ c = -1) ∧ (val 10000 acc : Int) + val 10000 (db.take k) = val 10000 (da.take k) - (10000 ^ k : Nat) * c

theorem MinusAt.start (da db : List Nat) : MinusAt da db 0 0 [] := ⟨rfl, Dig.nil _, Or.inl rfl, by simp [val]⟩

theorem MinusAt.step {da db : List Nat} {k : Nat} {c : Int} {acc : List Nat} (h : MinusAt da db k c acc) (xa : Dig 10000 da) (xb : Dig 10000 db) (c' : Int) (d : Nat) (hd : (d : Int) = c + da[k]?.getD 0 - db[k]?.getD 0 - 10000 * c') (hd2 : d < 10000) :
    MinusAt da db (k + 1) c' (acc ++ [d]) := by
  obtain ⟨hl, hg, hc, hv⟩ := h
  have h1 := xa.getD (by omega) k
  have h2 := xb.getD (by omega) k
  subst hl
  refine ⟨by simp, hg.append (Dig.cons hd2 (Dig.nil _)), by omega, ?_⟩
  rw [val_snoc, val_take_succ, val_take_succ]
  generalize hq : (10000 ^ acc.length : Nat) = q at hv ⊢
  have e : (10000 ^ (acc.length + 1) : Nat) = q * 10000 := by rw [Nat.pow_succ, hq]
  rw [e]
  have e2 : ((q * d : Nat) : Int) = (q : Int) * c + q * (da[acc.length]?.getD 0 : Nat) - q * (db[acc.length]?.getD 0 : Nat) - q * (10000 * c') := by
    rw [Int.natCast_mul, hd, Int.mul_sub, Int.mul_sub, Int.mul_add]
  have e3 : ((q * 10000 : Nat) : Int) * c' = q * (10000 * c') := by rw [Int.natCast_mul, Int.mul_assoc]; rfl
  rw [e3]
  generalize (q : Int) * (10000 * c') = z at *
  simp only [Int.natCast_add, Int.natCast_mul] at *
  omega

theorem MinusAt.done {m n : Nat} {c : Int} {acc : List Nat} (hmn : n ≤ m) (h : MinusAt (limbs 10000 m) (limbs 10000 n) (limbs 10000 m).length c acc) : trimL acc = limbs 10000 (m - n) := by
  obtain ⟨hl, hd, hc, hv⟩ := h
  have hle : (limbs 10000 n).length ≤ (limbs 10000 m).length := by
    rcases Nat.lt_or_ge (limbs 10000 m).length (limbs 10000 n).length with g | g
    · have := limbs_lt_length (by omega) g
      omega
    · exact g
  rw [List.take_of_length_le (Nat.le_refl _), List.take_of_length_le hle, val_limbs (by omega), val_limbs (by omega)] at hv
  have h1 := val_lt hd
  rw [hl] at h1
  have hv2 : val 10000 acc = m - n := by
    rcases hc with rfl | rfl
    · omega
    · generalize (10000 ^ (limbs 10000 m).length : Nat) = q at hv h1
      omega
  rw [← limbs_val (by omega) hd, hv2]

set_option maxHeartbeats 2000000 in
theorem minus_c (va vb : Value) (m n : Nat) (w : World) (ha : RN w va m) (hb : RN w vb n) (hmn : n ≤ m) (hma : (limbs 10000 m).length ≤ 1000000000) :
    Calls Tryd.prog 40 #[va, vb] w fun e w' => ∃ u, e = .returned u ∧ RN w' u (m - n) ∧ Below w.heap.size w w' := by
  obtain ⟨a, ca, rfl, hla, hca, _, HA⟩ := Row.open ha
  obtain ⟨b, cb, rfl, hlb, hcb, _, HB⟩ := Row.open hb
  have xa := dig_limbs (B := 10000) (by omega) m
  have xb := dig_limbs (B := 10000) (by omega) n
  have HF : Hid (∀ c acc, MinusAt (limbs 10000 m) (limbs 10000 n) (limbs 10000 m).length c acc → trimL acc = limbs 10000 (m - n)) := fun c acc h => h.done hmn
  have HM : Hid (n ≤ m) := hmn
  obtain ⟨i0, hi, hz0, hz1, hz2⟩ := info_parts Tryd.infoInt
  unfold RN
  clear ha hb hmn HM
  generalize limbs 10000 m = da at *
  generalize limbs 10000 n = db at *
  generalize limbs 10000 (m - n) = dc at *
  go_enter Tryd.func40, Tryd.ntmps40
  go_wp2
  go_loopw [5, 6, 7] (fun d c i wr => ∃ (k : Nat) (cc : Int) (acc : List Nat) (ao : Option Addr) (cv : Nat), i = .int .i64 k ∧ c = .int .i64 cc ∧ d = .slice ao acc.length cv ∧ k ≤ da.length ∧ MinusAt da db k cc acc ∧ wr.ownsRow w.heap.size 3 1 d acc.length (cellsOf .i64 acc) ∧ Below w.heap.size w wr)
    (fun _ _ i _ => 1000000002 - (intOf i).toNat)
  case atStart => exact ⟨0, 0, [], none, 0, rfl, rfl, rfl, Nat.zero_le _, MinusAt.start da db, World.ownsRow_nil _ _ _ _, Below.refl _ _⟩
  case round =>
    obtain ⟨k, cc, acc, ao, cv, rfl, rfl, rfl, hk, hP, hown, hB⟩ := hrel
    have hsize := hB.size
    have hkl := hP.1
    have hc1 : -1 ≤ cc := by rcases hP.2.2.1 with h | h <;> omega
    have hc2 : cc ≤ 0 := by rcases hP.2.2.1 with h | h <;> omega
    by_cases h1 : k < da.length
    · obtain ⟨ba, oa, rfl, hba, hq1⟩ := HA.out k h1
      have hq1 : wr.cell? ⟨ba, oa + k, none⟩ = some (.int .i64 (da[k]?.getD 0 : Nat)) := (hB.cell (p := ⟨ba, oa + k, none⟩) hba).trans hq1
      have HS := hide (hP.step xa xb)
      have hx := xa.getD (by omega) k
      have hy := xb.getD (by omega) k
      clear hP
      by_cases h2 : k < db.length
      · obtain ⟨bb, ob, rfl, hbb, hq2⟩ := HB.out k h2
        have hq2 : wr.cell? ⟨bb, ob + k, none⟩ = some (.int .i64 (db[k]?.getD 0 : Nat)) := (hB.cell (p := ⟨bb, ob + k, none⟩) hbb).trans hq2
        generalize da[k]?.getD 0 = x at *
        generalize db[k]?.getD 0 = y at *
        by_cases ht : cc + x - y < 0
        · go_wp2_with (first
            | (at_builtin; refine wpList_append_own _ rfl _ _ 28 rfl w.heap.size 3 i0 (.int .i64 0) 1 8 Tryd.underlying28 hi hz0 hz1 hz2 rfl (by decide) (.slice ao acc.length cv) acc.length (cellsOf .i64 acc) rfl (hown.alloc _) ⟨wr.heap.size, 0, none⟩ 1 1 [_] rfl rfl (cell_one_new _ _ _) (by simp [Value.oneCell']) (by unfold maxLen; omega) (by omega) (by simp; omega) ?_; intro v' w3 hown' hgrow hnil))
          obtain ⟨g, cv', e1, ho, hB3⟩ := append_end ((cc + x - y + 10000).toNat) (by omega) hB hown hown' hgrow
          go_roundw
          case rel => exact ⟨k + 1, -1, _, _, _, by simp, rfl, e1, by omega, HS.out (-1) _ (by omega) (by omega), ho, hB3⟩
          case measure => simp [intOf]; omega
        · go_wp2_with (first
            | (at_builtin; refine wpList_append_own _ rfl _ _ 28 rfl w.heap.size 3 i0 (.int .i64 0) 1 8 Tryd.underlying28 hi hz0 hz1 hz2 rfl (by decide) (.slice ao acc.length cv) acc.length (cellsOf .i64 acc) rfl (hown.alloc _) ⟨wr.heap.size, 0, none⟩ 1 1 [_] rfl rfl (cell_one_new _ _ _) (by simp [Value.oneCell']) (by unfold maxLen; omega) (by omega) (by simp; omega) ?_; intro v' w3 hown' hgrow hnil))
          obtain ⟨g, cv', e1, ho, hB3⟩ := append_end ((cc + x - y).toNat) (by omega) hB hown hown' hgrow
          go_roundw
          case rel => exact ⟨k + 1, 0, _, _, _, by simp, rfl, e1, by omega, HS.out 0 _ (by omega) (by omega), ho, hB3⟩
          case measure => simp [intOf]; omega
      · have ey : db[k]?.getD 0 = 0 := by rw [List.getElem?_eq_none (by omega)]; rfl
        rw [ey] at HS
        clear ey hy
        generalize da[k]?.getD 0 = x at *
        by_cases ht : cc + x < 0
        · go_wp2_with (first
            | (at_builtin; refine wpList_append_own _ rfl _ _ 28 rfl w.heap.size 3 i0 (.int .i64 0) 1 8 Tryd.underlying28 hi hz0 hz1 hz2 rfl (by decide) (.slice ao acc.length cv) acc.length (cellsOf .i64 acc) rfl (hown.alloc _) ⟨wr.heap.size, 0, none⟩ 1 1 [_] rfl rfl (cell_one_new _ _ _) (by simp [Value.oneCell']) (by unfold maxLen; omega) (by omega) (by simp; omega) ?_; intro v' w3 hown' hgrow hnil))
          obtain ⟨g, cv', e1, ho, hB3⟩ := append_end ((cc + x + 10000).toNat) (by omega) hB hown hown' hgrow
          go_roundw
          case rel => exact ⟨k + 1, -1, _, _, _, by simp, rfl, e1, by omega, HS.out (-1) _ (by omega) (by omega), ho, hB3⟩
          case measure => simp [intOf]; omega
        · go_wp2_with (first
            | (at_builtin; refine wpList_append_own _ rfl _ _ 28 rfl w.heap.size 3 i0 (.int .i64 0) 1 8 Tryd.underlying28 hi hz0 hz1 hz2 rfl (by decide) (.slice ao acc.length cv) acc.length (cellsOf .i64 acc) rfl (hown.alloc _) ⟨wr.heap.size, 0, none⟩ 1 1 [_] rfl rfl (cell_one_new _ _ _) (by simp [Value.oneCell']) (by unfold maxLen; omega) (by omega) (by simp; omega) ?_; intro v' w3 hown' hgrow hnil))
          obtain ⟨g, cv', e1, ho, hB3⟩ := append_end ((cc + x).toNat) (by omega) hB hown hown' hgrow
          go_roundw
          case rel => exact ⟨k + 1, 0, _, _, _, by simp, rfl, e1, by omega, HS.out 0 _ (by omega) (by omega), ho, hB3⟩
          case measure => simp [intOf]; omega
    · have hkk : k = da.length := by omega
      have hP2 : MinusAt da db da.length cc acc := by rw [← hkk]; exact hP
      have HQ := hide (HF.out cc acc hP2)
      have hlen : acc.length ≤ 1099511627776 := by omega
      have hrow := Row.of_owns hown hlen
      clear hP hP2 hkk hkl
      go_wp2_with (first
        | (go_at_call 29; refine (trim_c _ _ _ hrow).mono ?_; rintro e w' ⟨u, rfl, hu, rfl⟩))
      go_ret
      rw [HQ.out] at hu
      exact ⟨_, rfl, hu, hB⟩
end Go.Proofs.YtahpgnkhophgpaaDoor
