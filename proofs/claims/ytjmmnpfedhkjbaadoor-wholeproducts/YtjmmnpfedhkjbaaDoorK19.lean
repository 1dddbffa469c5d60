import Derived.Test.YtjmmnpfedhkjbaaDoorK07
import Derived.Test.YtjmmnpfedhkjbaaDoorK06
namespace Go.Proofs.YtjmmnpfedhkjbaaDoor
open Go.RowKit Go.Shelf

theorem set_take_succ {zs : List Nat} {o v : Nat} (h : o < zs.length) : (zs.set o v).take (o + 1) = zs.take o ++ [v] := by
  rw [List.take_succ_eq_append_getElem (by rw [List.length_set]; exact h), List.getElem_set_self, List.take_set, List.set_eq_of_length_le (by rw [List.length_take]; omega)]

theorem arr_setCells {b : Nat} : ∀ (vs : List Nat) (o : Nat) (W : World) (zs : List Nat), Arr W b zs → o + vs.length ≤ zs.length → Arr (W.setCells b o (cellsOf .u64 vs)) b (zs.take o ++ (vs ++ zs.drop (o + vs.length)))
  | [], o, W, zs, h, _ => by
    have e : zs.take o ++ ([] ++ zs.drop (o + ([] : List Nat).length)) = zs := by simp
    rw [e]; exact h
  | v :: r, o, W, zs, h, hl => by
    rw [List.length_cons] at hl
    have ih := arr_setCells r (o + 1) (W.setCell ⟨b, o, none⟩ (.int .u64 (v : Nat))) (zs.set o v) (h.set o v) (by rw [List.length_set]; omega)
    rw [set_take_succ (by omega), List.drop_set_of_lt (by omega), List.append_assoc] at ih
    have e : o + 1 + r.length = o + (v :: r).length := by rw [List.length_cons]; omega
    rw [e] at ih
    exact ih

theorem grown_setCells {b : Nat} : ∀ (vs : List Value) (o : Nat) (W : World), W.grownBy (W.setCells b o vs) (some b)
  | [], _, W => grown_refl W _
  | v :: r, o, W => grown_trans (grown_set W b o v) (grown_setCells r (o + 1) _)

theorem clear_row (ty : TypeId) (g n c : Nat) (zs : List Nat) (W : World) (h : Arr W g zs) (hn : n ≤ zs.length) :
    ∃ W', (Builtin.clear_ #[23] ty #[.slice (some ⟨g, 0, none⟩) n c]).run Tryd.prog W = .ok (.tuple #[]) W' ∧ Arr W' g (List.replicate n 0 ++ zs.drop n) ∧ W.grownBy W' (some g) := by
  rcases Nat.eq_zero_or_pos n with h0 | h0
  · subst h0
    refine ⟨W, ?_, ?_, grown_refl W _⟩
    · simp [Builtin.clear_, run_underlying Tryd.underlying23]
    · rw [List.replicate_zero, List.nil_append, List.drop_zero]; exact h
  · have h1 := Lib.run_clear_slice (P := Tryd.prog) W 23 56 ty (.int .u64 0) Tryd.underlying23 (fun w => by kernel_rfl) rfl rfl g 0 n c h0
      (fun j hj => by rw [Nat.zero_add, h.cell (by omega)]; rfl) (fun j _ => h.frozen _)
    have e : (List.replicate n (Value.int .u64 0)) = cellsOf .u64 (List.replicate n 0) := by simp [cellsOf]
    rw [e] at h1
    have h2 := arr_setCells (List.replicate n 0) 0 W zs h (by rw [List.length_replicate]; omega)
    rw [List.take_zero, List.nil_append, List.length_replicate, Nat.zero_add] at h2
    exact ⟨_, h1, h2, grown_setCells _ _ _⟩

theorem val_set' (B : Nat) : ∀ (D : List Nat) (j d : Nat), j < D.length → val B (D.set j d) + B ^ j * D[j]?.getD 0 = val B D + B ^ j * d
  | [], _, _, h => by cases h
  | x :: D, 0, d, _ => by simp [val]; omega
  | x :: D, j + 1, d, h => by
    have ih := val_set' B D j d (by simpa using h)
    simp only [List.set_cons_succ, val, List.getElem?_cons_succ, Nat.pow_succ]
    have e : B * val B (D.set j d) + B * (B ^ j * D[j]?.getD 0) = B * val B D + B * (B ^ j * d) := by rw [← Nat.mul_add, ih, Nat.mul_add]
    have e1 : B ^ j * B * D[j]?.getD 0 = B * (B ^ j * D[j]?.getD 0) := by rw [Nat.mul_comm (B ^ j) B, Nat.mul_assoc]
    have e2 : B ^ j * B * d = B * (B ^ j * d) := by rw [Nat.mul_comm (B ^ j) B, Nat.mul_assoc]
    omega

theorem val_zeros' (B n : Nat) : val B (List.replicate n 0) = 0 := by
  induction n with
  | zero => rfl
  | succ n ih => rw [List.replicate_succ, val, ih]; simp

/-- What the rounds of a product know. -/
def PrAt (us bs : List Nat) (i : Nat) (D : List Nat) : Prop :=
  D.length = us.length + bs.length ∧ Dig B64 D ∧ val B64 D = val B64 (us.take i) * val B64 bs

theorem PrAt.start (us bs : List Nat) : PrAt us bs 0 (List.replicate (us.length + bs.length) 0) :=
  ⟨List.length_replicate, fun x hx => by rw [List.eq_of_mem_replicate hx]; unfold B64; omega, by rw [val_zeros']; simp [val]⟩

theorem val_zero_dig {B : Nat} (hB : 0 < B) : ∀ {D : List Nat}, val B D = 0 → ∀ j : Nat, D[j]?.getD 0 = 0
  | [], _, j => by simp
  | d :: D, h, 0 => by
    rw [val_cons] at h
    show d = 0
    omega
  | d :: D, h, j + 1 => by
    rw [val_cons] at h
    have h1 : B * val B D = 0 := by omega
    have h2 : val B D = 0 := by
      rcases Nat.mul_eq_zero.1 h1 with h | h
      · omega
      · exact h
    rw [List.getElem?_cons_succ]
    exact val_zero_dig hB h2 j

/-- A number below the k-th power has nothing from the k-th word on. -/
theorem val_drop_zero {B k : Nat} {D : List Nat} (hk : k ≤ D.length) (h : val B D < B ^ k) : val B (D.drop k) = 0 := by
  have e : val B D = val B (D.take k) + B ^ k * val B (D.drop k) := by
    have h1 := val_append B (D.take k) (D.drop k)
    rw [List.take_append_drop, List.length_take, Nat.min_eq_left hk] at h1
    exact h1
  rcases Nat.eq_zero_or_pos (val B (D.drop k)) with h2 | h2
  · exact h2
  · have := Nat.mul_le_mul_left (B ^ k) h2
    omega

theorem PrAt.step {us bs D q : List Nat} {i wd over : Nat} (h : PrAt us bs i D) (hu : Dig B64 us) (hb : Dig B64 bs) (hi : i < us.length) (hw : wd = us[i]?.getD 0) (hq : AddTAt D bs i wd bs.length over q) :
    PrAt us bs (i + 1) ((mid D i bs.length q).set (i + bs.length) over) := by
  obtain ⟨h1, h2, h3⟩ := h
  obtain ⟨q1, q2, q3, q4⟩ := hq
  have hlt : val B64 D < B64 ^ (i + bs.length) := by
    rw [h3, Nat.pow_add]
    have e1 := val_lt (hu.take i)
    rw [List.length_take, Nat.min_eq_left (by omega)] at e1
    have e2 := val_lt hb
    rcases Nat.eq_zero_or_pos (val B64 bs) with h0 | h0
    · rw [h0, Nat.mul_zero]
      exact Nat.mul_pos (Nat.pow_pos (by unfold B64; omega)) (Nat.pow_pos (by unfold B64; omega))
    · exact Nat.mul_lt_mul'' e1 e2
  have hz := val_drop_zero (by omega) hlt
  have hlm : (mid D i bs.length q).length = D.length := mid_length q1 (by omega)
  refine ⟨by rw [List.length_set, hlm]; exact h1, ?_, ?_⟩
  · intro x hx
    rcases List.mem_or_eq_of_mem_set hx with hx | hx
    · rw [mid] at hx
      rcases List.mem_append.1 hx with hx | hx
      · exact (h2.take i) x hx
      · rcases List.mem_append.1 hx with hx | hx
        · exact q2 x hx
        · exact (h2.drop _) x hx
    · rw [hx]; exact q3
  · have e1 := val_set' B64 (mid D i bs.length q) (i + bs.length) over (by rw [hlm]; omega)
    have e2 : (mid D i bs.length q)[i + bs.length]?.getD 0 = 0 := by
      rw [mid_get q1 (by omega)]
      have := val_zero_dig (by unfold B64; omega) hz 0
      rw [List.getElem?_drop, Nat.add_zero] at this
      exact this
    rw [e2, Nat.mul_zero, Nat.add_zero] at e1
    rw [e1]
    have e3 : val B64 (mid D i bs.length q) = val B64 (D.take i) + B64 ^ i * val B64 q := by
      rw [mid, val_append, val_append, List.length_take, Nat.min_eq_left (by omega), hz]
      simp
    have e4 : val B64 D = val B64 (D.take i) + B64 ^ i * val B64 ((D.drop i).take bs.length) := by
      have a1 := val_append B64 (D.take i) (D.drop i)
      rw [List.take_append_drop, List.length_take, Nat.min_eq_left (by omega)] at a1
      have a2 := val_append B64 ((D.drop i).take bs.length) ((D.drop i).drop bs.length)
      rw [List.take_append_drop, List.drop_drop, hz, Nat.mul_zero, Nat.add_zero] at a2
      rw [a1, a2]
    rw [List.take_of_length_le (Nat.le_refl _)] at q4
    rw [e3, Nat.pow_add, Nat.mul_assoc, Nat.add_assoc, ← Nat.mul_add, q4, Nat.mul_add, ← Nat.add_assoc, ← e4, h3, val_take_succ, Nat.add_mul, hw, Nat.mul_assoc, Nat.mul_comm (us[i]?.getD 0)]

theorem PrAt.fin {us bs D : List Nat} {m n : Nat} (h : PrAt us bs us.length D) (ha : us = limbs B64 m) (hb : bs = limbs B64 n) : trimL D = limbs B64 (m * n) := by
  obtain ⟨_, h2, h3⟩ := h
  rw [List.take_of_length_le (Nat.le_refl _)] at h3
  rw [← limbs_val two_le_B64 h2, h3, ha, hb, val_limbs two_le_B64, val_limbs two_le_B64]
end Go.Proofs.YtjmmnpfedhkjbaaDoor
namespace Go.Proofs.YtjmmnpfedhkjbaaDoor
open Go.RowKit Go.Shelf

theorem AddTAt.tail {D tl bs q : List Nat} {i wd len over : Nat} (h : AddTAt (D ++ tl) bs i wd len over q) (hi : i + len ≤ D.length) : AddTAt D bs i wd len over q := by
  obtain ⟨h1, h2, h3, h4⟩ := h
  refine ⟨h1, h2, h3, ?_⟩
  rw [List.drop_append_of_le_length (by omega), List.take_append_of_le_length (by rw [List.length_drop]; omega)] at h4
  exact h4

theorem mid_tail {D tl q : List Nat} {i len : Nat} (hi : i + len ≤ D.length) : mid (D ++ tl) i len q = mid D i len q ++ tl := by
  rw [mid, mid, List.take_append_of_le_length (by omega), List.drop_append_of_le_length hi]
  simp

set_option maxRecDepth 100000 in
set_option maxHeartbeats 2000000 in
theorem product_w (g rl rc : Nat) (zs : List Nat) (a : Option Addr) (la ca : Nat) (b : Option Addr) (lb cb m n : Nat) (w : World)
    (hA : Arr w g zs) (hzs : Dig B64 zs) (hz : la + lb ≤ zs.length) (hcap : la + lb ≤ rc) (hrc : rc ≤ 9223372036854775807) (hlen : la + lb ≤ 1099511627776)
    (ra : Row .u64 w (.slice a la ca) (limbs B64 m)) (rb : Row .u64 w (.slice b lb cb) (limbs B64 n)) (hna : ∀ p, a = some p → 0 < la → p.block ≠ g) (hnb : ∀ p, b = some p → 0 < lb → p.block ≠ g) :
    Calls Tryd.prog 56 #[.slice (some ⟨g, 0, none⟩) rl rc, .slice a la ca, .slice b lb cb] w fun e w' => ∃ u, e = .returned u ∧ (UN w' u (m * n) ∧ w.grownBy w' (some g)) ∧ (u = .slice none 0 0 ∨ ∃ l, u = .slice (some ⟨g, 0, none⟩) l rc) ∧ ∃ zs', Arr w' g zs' ∧ Dig B64 zs' ∧ zs'.length = zs.length := by
  obtain ⟨hl1, hc1, hm1, hk1, hf1⟩ := row_fn ra
  have hl2 := (row_fn rb).1
  have hc2 := (row_fn rb).2.1
  have hm2 := (row_fn rb).2.2.1
  have xa := dig_limbs two_le_B64 m
  have xb := dig_limbs two_le_B64 n
  have HF := hidD (fun D (h : PrAt (limbs B64 m) (limbs B64 n) (limbs B64 m).length D) => h.fin (m := m) (n := n) rfl rfl)
  have HB := hidD rb
  generalize limbs B64 m = us at *
  generalize limbs B64 n = vs at *
  obtain ⟨W1, hcl, hA1, hG1⟩ := clear_row 0 g (la + lb) rc zs w hA hz
  have HS := hidD (PrAt.start us vs)
  rw [← hl1, ← hl2] at HS
  have hzt : Dig B64 (zs.drop (la + lb)) := hzs.drop _
  have hzl : (zs.drop (la + lb)).length = zs.length - (la + lb) := List.length_drop
  obtain ⟨Z, hZ⟩ : ∃ Z, Z = zs.length := ⟨_, rfl⟩
  rw [← hZ] at hzl hz ⊢
  generalize zs.drop (la + lb) = tl at *
  have H1 := hidD hf1
  have HL1 := hidD hl1
  have HL2 := hidD hl2
  have HNA := hidD hna
  have HNB := hidD hnb
  clear hf1 hl1 hl2 ra rb hZ hA hna hnb
  go_enter Tryd.func56, Tryd.ntmps56
  go_wp2
  go_loopw [19] (fun iv wr => ∃ (i : Nat) (D : List Nat), iv = .int .i64 i ∧ i ≤ la ∧ Hid (PrAt us vs i D) ∧ Arr wr g (D ++ tl) ∧ w.grownBy wr (some g))
    (fun iv _ => la - (intOf iv).toNat)
  case atStart => exact ⟨0, _, rfl, Nat.zero_le _, HS.out, hA1, hG1⟩
  case round =>
    clear HS hA1 hG1 hcl
    obtain ⟨i, D, rfl, hi, HD, hA, hG⟩ := hrel
    have hDl := HD.out.1
    rw [← HL1.out, ← HL2.out] at hDl
    by_cases hlt : i < la
    · obtain ⟨ab, ao, rfl, hab, hca⟩ := H1.out i hlt
      have hcx : wr.cell? ⟨ab, ao + i, none⟩ = some (.int .u64 (us[i]?.getD 0 : Nat)) := (World.cell?_of_block (w := w) (hG.block ab hab (fun e => HNA.out _ rfl (by omega) (by cases e; rfl)))).trans hca
      have hw := xa.getD (by unfold B64; omega) i
      have HST := hidD (fun over q (h : AddTAt D vs i (us[i]?.getD 0) vs.length over q) => HD.out.step xa xb (by rw [← HL1.out]; exact hlt) rfl h)
      have hrb : Row .u64 wr (.slice b lb cb) vs := Row.grown HB.out hG HNB.out
      have hDg : Dig B64 (D ++ tl) := HD.out.2.1.append hzt
      rw [← HL2.out] at HST
      generalize us[i]?.getD 0 = wd at *
      clear hca
      go_wp2_with (go_at_call 45; refine (addTimes_w g i lb _ (D ++ tl) b cb vs wd _ hA hDg (by rw [List.length_append]; omega) (by omega) hrb xb HNB.out hw).mono ?_; rintro e w5 ⟨over, q, rfl, hq, hA5, hg5⟩; have hm5 := mid_length hq.1 (xs := D ++ tl) (ro := i) (by rw [List.length_append]; omega); have hc5 := hA5.cell (j := i + lb) (by rw [hm5, List.length_append]; omega); have hf5 := hA5.frozen (i + lb); have HQ := hidD hq; clear hq hm5)
      have hAs := hA5.set (i + lb) over
      rw [mid_tail (by omega), List.set_append_left _ _ (by rw [mid_length HQ.out.1 (by omega)]; omega)] at hAs
      exact ⟨⟨i + 1, (mid D i lb q).set (i + lb) over, by simp, by omega, HST.out over q (HQ.out.tail (by omega)), hAs, grown_trans (grown_trans hG hg5) (grown_set _ _ _ _)⟩, by simp [intOf]; omega⟩
    · obtain rfl : i = la := by omega
      have hrow : Row .u64 wr (.slice (some ⟨g, 0, none⟩) (i + lb) rc) D := by
        have h1 := hA.row 0 (i + lb) rc (by rw [List.length_append]; omega) hcap hrc hlen
        rwa [List.drop_zero, List.take_append_of_le_length (by omega), List.take_of_length_le (by omega)] at h1
      have HTR := hidD (HF.out D (by rw [← HL1.out]; exact HD.out))
      have hDg : Dig B64 (D ++ tl) := HD.out.2.1.append hzt
      clear HD HF H1 HB HNA HNB
      go_wp2_with (go_at_call 31; refine (trimmed_w _ _ _ D _ hrow).mono ?_; rintro e w5 ⟨u, rfl, ⟨hu, hb5⟩, hform⟩; rw [HTR.out] at hu hform; obtain ⟨ua, uc, rfl⟩ := UN.form hu)
      go_ret
      refine ⟨_, rfl, ⟨hu, grown_trans hG (grown_below hb5 _)⟩, ?_, D ++ tl, hA.below hb5, hDg, by rw [List.length_append]; omega⟩
      rcases hform with ⟨e, _⟩ | e
      · exact Or.inl e
      · exact Or.inr ⟨_, e⟩
end Go.Proofs.YtjmmnpfedhkjbaaDoor
