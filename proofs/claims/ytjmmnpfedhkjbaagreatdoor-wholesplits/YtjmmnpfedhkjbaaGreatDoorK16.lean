import Derived.Test.YtjmmnpfedhkjbaaGreatDoorK07
import Derived.Test.YtjmmnpfedhkjbaaGreatDoorK06
import Derived.Test.YtjmmnpfedhkjbaaGreatDoorK01
namespace Go.Proofs.YtjmmnpfedhkjbaaGreatDoor
open Go.RowKit Go.Shelf

theorem set_take_succ {zs : List Nat} {o v : Nat} (h : o < zs.length) : (zs.set o v).take (o + 1) = zs.take o ++ [v] := by
  rw [List.take_succ_eq_append_getElem (by rw [List.length_set]; exact h), List.getElem_set_self, List.take_set, List.set_eq_of_length_le (by rw [List.length_take]; omega)]

theorem arr_setCells {b : Nat} : ∀ (vs : List Nat) (o : Nat) (W : World) (zs : List Nat), Arr W b zs → o + vs.length ≤ zs.length → Arr (W.setCells b o (cellsOf .u64 vs)) b (zs.take o ++ (vs ++ zs.drop (o + vs.length)))
  | [], o, W, zs, h, _ => by
    have e : zs.take o ++ ([] ++ zs.drop (o + ([] : List Nat).length)) = zs := by simp
    rw [e]; exact h
  | v :: r, o, W, zs, h, hl => by
    rw [List.length_cons] at hl
    have ih := arr_setCells r (o + 1) (W.setCell ⟨b, o, none⟩ (.int .u64 (v : Nat))) (zs.set o v) (h.set o v) (by rw [List.length_set]; omega)
    rw [set_take_succ (by omega), List.drop_set_of_lt (by omega), List.append_assoc] at ih
    have e : o + 1 + r.length = o + (v :: r).length := by rw [List.length_cons]; omega
    rw [e] at ih
    exact ih

theorem grown_setCells {b : Nat} : ∀ (vs : List Value) (o : Nat) (W : World), W.grownBy (W.setCells b o vs) (some b)
  | [], _, W => grown_refl W _
  | v :: r, o, W => grown_trans (grown_set W b o v) (grown_setCells r (o + 1) _)

theorem clear_row (ty : TypeId) (g n c : Nat) (zs : List Nat) (W : World) (h : Arr W g zs) (hn : n ≤ zs.length) :
    ∃ W', (Builtin.clear_ #[27] ty #[.slice (some ⟨g, 0, none⟩) n c]).run Tryz.prog W = .ok (.tuple #[]) W' ∧ Arr W' g (List.replicate n 0 ++ zs.drop n) ∧ W.grownBy W' (some g) := by
  rcases Nat.eq_zero_or_pos n with h0 | h0
  · subst h0
    refine ⟨W, ?_, ?_, grown_refl W _⟩
    · simp [Builtin.clear_, run_underlying Tryz.underlying27]
    · rw [List.replicate_zero, List.nil_append, List.drop_zero]; exact h
  · have h1 := Lib.run_clear_slice (P := Tryz.prog) W 27 53 ty (.int .u64 0) Tryz.underlying27 (fun w => by kernel_rfl) rfl rfl g 0 n c h0
      (fun j hj => by rw [Nat.zero_add, h.cell (by omega)]; rfl) (fun j _ => h.frozen _)
    have e : (List.replicate n (Value.int .u64 0)) = cellsOf .u64 (List.replicate n 0) := by simp [cellsOf]
    rw [e] at h1
    have h2 := arr_setCells (List.replicate n 0) 0 W zs h (by rw [List.length_replicate]; omega)
    rw [List.take_zero, List.nil_append, List.length_replicate, Nat.zero_add] at h2
    exact ⟨_, h1, h2, grown_setCells _ _ _⟩

theorem val_set' (B : Nat) : ∀ (D : List Nat) (j d : Nat), j < D.length → val B (D.set j d) + B ^ j * D[j]?.getD 0 = val B D + B ^ j * d
  | [], _, _, h => by cases h
  | x :: D, 0, d, _ => by simp [val]; omega
  | x :: D, j + 1, d, h => by
    have ih := val_set' B D j d (by simpa using h)
    simp only [List.set_cons_succ, val, List.getElem?_cons_succ, Nat.pow_succ]
    have e : B * val B (D.set j d) + B * (B ^ j * D[j]?.getD 0) = B * val B D + B * (B ^ j * d) := by rw [← Nat.mul_add, ih, Nat.mul_add]
    have e1 : B ^ j * B * D[j]?.getD 0 = B * (B ^ j * D[j]?.getD 0) := by rw [Nat.mul_comm (B ^ j) B, Nat.mul_assoc]
    have e2 : B ^ j * B * d = B * (B ^ j * d) := by rw [Nat.mul_comm (B ^ j) B, Nat.mul_assoc]
    omega

theorem val_zeros' (B n : Nat) : val B (List.replicate n 0) = 0 := by
  induction n with
  | zero => rfl
  | succ n ih => rw [List.replicate_succ, val, ih]; simp

/-- What the rounds of a product know. -/
def PrAt (us bs : List Nat) (i : Nat) (D : List Nat) : Prop :=
  D.length = us.length + bs.length ∧ Dig B64 D ∧ val B64 D = val B64 (us.take i) * val B64 bs

theorem PrAt.start (us bs : List Nat) : PrAt us bs 0 (List.replicate (us.length + bs.length) 0) :=
  ⟨List.length_replicate, fun x hx => by rw [List.eq_of_mem_replicate hx]; unfold B64; omega, by rw [val_zeros']; simp [val]⟩

theorem val_zero_dig {B : Nat} (hB : 0 < B) : ∀ {D : List Nat}, val B D = 0 → ∀ j : Nat, D[j]?.getD 0 = 0
  | [], _, j => by simp
  | d :: D, h, 0 => by
    rw [val_cons] at h
    show d = 0
    omega
  | d :: D, h, j + 1 => by
    rw [val_cons] at h
    have h1 : B * val B D = 0 := by omega
    have h2 : val B D = 0 := by
      rcases Nat.mul_eq_zero.1 h1 with h | h
      · omega
      · exact h
    rw [List.getElem?_cons_succ]
    exact val_zero_dig hB h2 j

/-- A number below the k-th power has nothing from the k-th word on. -/
theorem val_drop_zero {B k : Nat} {D : List Nat} (hk : k ≤ D.length) (h : val B D < B ^ k) : val B (D.drop k) = 0 := by
  have e : val B D = val B (D.take k) + B ^ k * val B (D.drop k) := by
    have h1 := val_append B (D.take k) (D.drop k)
    rw [List.take_append_drop, List.length_take, Nat.min_eq_left hk] at h1
    exact h1
  rcases Nat.eq_zero_or_pos (val B (D.drop k)) with h2 | h2
  · exact h2
  · have := Nat.mul_le_mul_left (B ^ k) h2
    omega

theorem PrAt.step {us bs D q : List Nat} {i wd over : Nat} (h : PrAt us bs i D) (hu : Dig B64 us) (hb : Dig B64 bs) (hi : i < us.length) (hw : wd = us[i]?.getD 0) (hq : AddTAt D bs i wd bs.length over q) :
    PrAt us bs (i + 1) ((mid D i bs.length q).set (i + bs.length) over) := by
  obtain ⟨h1, h2, h3⟩ := h
  obtain ⟨q1, q2, q3, q4⟩ := hq
  have hlt : val B64 D < B64 ^ (i + bs.length) := by
    rw [h3, Nat.pow_add]
    have e1 := val_lt (hu.take i)
    rw [List.length_take, Nat.min_eq_left (by omega)] at e1
    have e2 := val_lt hb
    rcases Nat.eq_zero_or_pos (val B64 bs) with h0 | h0
    · rw [h0, Nat.mul_zero]
      exact Nat.mul_pos (Nat.pow_pos (by unfold B64; omega)) (Nat.pow_pos (by unfold B64; omega))
    · exact Nat.mul_lt_mul'' e1 e2
  have hz := val_drop_zero (by omega) hlt
  have hlm : (mid D i bs.length q).length = D.length := mid_length q1 (by omega)
  refine ⟨by rw [List.length_set, hlm]; exact h1, ?_, ?_⟩
  · intro x hx
    rcases List.mem_or_eq_of_mem_set hx with hx | hx
    · rw [mid] at hx
      rcases List.mem_append.1 hx with hx | hx
      · exact (h2.take i) x hx
      · rcases List.mem_append.1 hx with hx | hx
        · exact q2 x hx
        · exact (h2.drop _) x hx
    · rw [hx]; exact q3
  · have e1 := val_set' B64 (mid D i bs.length q) (i + bs.length) over (by rw [hlm]; omega)
    have e2 : (mid D i bs.length q)[i + bs.length]?.getD 0 = 0 := by
      rw [mid_get q1 (by omega)]
      have := val_zero_dig (by unfold B64; omega) hz 0
      rw [List.getElem?_drop, Nat.add_zero] at this
      exact this
    rw [e2, Nat.mul_zero, Nat.add_zero] at e1
    rw [e1]
    have e3 : val B64 (mid D i bs.length q) = val B64 (D.take i) + B64 ^ i * val B64 q := by
      rw [mid, val_append, val_append, List.length_take, Nat.min_eq_left (by omega), hz]
      simp
    have e4 : val B64 D = val B64 (D.take i) + B64 ^ i * val B64 ((D.drop i).take bs.length) := by
      have a1 := val_append B64 (D.take i) (D.drop i)
      rw [List.take_append_drop, List.length_take, Nat.min_eq_left (by omega)] at a1
      have a2 := val_append B64 ((D.drop i).take bs.length) ((D.drop i).drop bs.length)
      rw [List.take_append_drop, List.drop_drop, hz, Nat.mul_zero, Nat.add_zero] at a2
      rw [a1, a2]
    rw [List.take_of_length_le (Nat.le_refl _)] at q4
    rw [e3, Nat.pow_add, Nat.mul_assoc, Nat.add_assoc, ← Nat.mul_add, q4, Nat.mul_add, ← Nat.add_assoc, ← e4, h3, val_take_succ, Nat.add_mul, hw, Nat.mul_assoc, Nat.mul_comm (us[i]?.getD 0)]

theorem PrAt.fin {us bs D : List Nat} {m n : Nat} (h : PrAt us bs us.length D) (ha : us = limbs B64 m) (hb : bs = limbs B64 n) : trimL D = limbs B64 (m * n) := by
  obtain ⟨_, h2, h3⟩ := h
  rw [List.take_of_length_le (Nat.le_refl _)] at h3
  rw [← limbs_val two_le_B64 h2, h3, ha, hb, val_limbs two_le_B64, val_limbs two_le_B64]
end Go.Proofs.YtjmmnpfedhkjbaaGreatDoor
namespace Go.Proofs.YtjmmnpfedhkjbaaGreatDoor
open Go.RowKit Go.Shelf

theorem AddTAt.tail {D tl bs q : List Nat} {i wd len over : Nat} (h : AddTAt (D ++ tl) bs i wd len over q) (hi : i + len ≤ D.length) : AddTAt D bs i wd len over q := by
  obtain ⟨h1, h2, h3, h4⟩ := h
  refine ⟨h1, h2, h3, ?_⟩
  rw [List.drop_append_of_le_length (by omega), List.take_append_of_le_length (by rw [List.length_drop]; omega)] at h4
  exact h4

theorem mid_tail {D tl q : List Nat} {i len : Nat} (hi : i + len ≤ D.length) : mid (D ++ tl) i len q = mid D i len q ++ tl := by
  rw [mid, mid, List.take_append_of_le_length (by omega), List.drop_append_of_le_length hi]
  simp

set_option maxRecDepth 100000 in
set_option maxHeartbeats 2000000 in
theorem product_w (g rl rc : Nat) (zs : List Nat) (a : Option Addr) (la ca : Nat) (b : Option Addr) (lb cb m n : Nat) (w : World)
    (hA : Arr w g zs) (hzs : Dig B64 zs) (hz : la + lb ≤ zs.length) (hcap : la + lb ≤ rc) (hrc : rc ≤ 9223372036854775807) (hlen : la + lb ≤ 1099511627776)
    (ra : Row .u64 w (.slice a la ca) (limbs B64 m)) (rb : Row .u64 w (.slice b lb cb) (limbs B64 n)) (hna : ∀ p, a = some p → 0 < la → p.block ≠ g) (hnb : ∀ p, b = some p → 0 < lb → p.block ≠ g) :
    Calls Tryz.prog 64 #[.slice (some ⟨g, 0, none⟩) rl rc, .slice a la ca, .slice b lb cb] w fun e w' => ∃ u, e = .returned u ∧ (UN w' u (m * n) ∧ w.grownBy w' (some g)) ∧ (u = .slice none 0 0 ∨ ∃ l, u = .slice (some ⟨g, 0, none⟩) l rc) ∧ ∃ zs', Arr w' g zs' ∧ Dig B64 zs' ∧ zs'.length = zs.length := by
  obtain ⟨hl1, hc1, hm1, hk1, hf1⟩ := row_fn ra
  have hl2 := (row_fn rb).1
  have hc2 := (row_fn rb).2.1
  have hm2 := (row_fn rb).2.2.1
  have xa := dig_limbs two_le_B64 m
  have xb := dig_limbs two_le_B64 n
  have HF := hidD (fun D (h : PrAt (limbs B64 m) (limbs B64 n) (limbs B64 m).length D) => h.fin (m := m) (n := n) rfl rfl)
  have HB := hidD rb
  generalize limbs B64 m = us at *
  generalize limbs B64 n = vs at *
  obtain ⟨W1, hcl, hA1, hG1⟩ := clear_row 0 g (la + lb) rc zs w hA hz
  have HS := hidD (PrAt.start us vs)
  rw [← hl1, ← hl2] at HS
  have hzt : Dig B64 (zs.drop (la + lb)) := hzs.drop _
  have hzl : (zs.drop (la + lb)).length = zs.length - (la + lb) := List.length_drop
  obtain ⟨Z, hZ⟩ : ∃ Z, Z = zs.length := ⟨_, rfl⟩
  rw [← hZ] at hzl hz ⊢
  generalize zs.drop (la + lb) = tl at *
  have H1 := hidD hf1
  have HL1 := hidD hl1
  have HL2 := hidD hl2
  have HNA := hidD hna
  have HNB := hidD hnb
  clear hf1 hl1 hl2 ra rb hZ hA hna hnb
  go_enter Tryz.func64, Tryz.ntmps64
  go_wp2
  go_loopw [19] (fun iv wr => ∃ (i : Nat) (D : List Nat), iv = .int .i64 i ∧ i ≤ la ∧ Hid (PrAt us vs i D) ∧ Arr wr g (D ++ tl) ∧ w.grownBy wr (some g))
    (fun iv _ => la - (intOf iv).toNat)
  case atStart => exact ⟨0, _, rfl, Nat.zero_le _, HS.out, hA1, hG1⟩
  case round =>
    clear HS hA1 hG1 hcl
    obtain ⟨i, D, rfl, hi, HD, hA, hG⟩ := hrel
    have hDl := HD.out.1
    rw [← HL1.out, ← HL2.out] at hDl
    by_cases hlt : i < la
    · obtain ⟨ab, ao, rfl, hab, hca⟩ := H1.out i hlt
      have hcx : wr.cell? ⟨ab, ao + i, none⟩ = some (.int .u64 (us[i]?.getD 0 : Nat)) := (World.cell?_of_block (w := w) (hG.block ab hab (fun e => HNA.out _ rfl (by omega) (by cases e; rfl)))).trans hca
      have hw := xa.getD (by unfold B64; omega) i
      have HST := hidD (fun over q (h : AddTAt D vs i (us[i]?.getD 0) vs.length over q) => HD.out.step xa xb (by rw [← HL1.out]; exact hlt) rfl h)
      have hrb : Row .u64 wr (.slice b lb cb) vs := Row.grown HB.out hG HNB.out
      have hDg : Dig B64 (D ++ tl) := HD.out.2.1.append hzt
      rw [← HL2.out] at HST
      generalize us[i]?.getD 0 = wd at *
      clear hca
      go_wp2_with (go_at_call 67; refine (addTimes_w g i lb _ (D ++ tl) b cb vs wd _ hA hDg (by rw [List.length_append]; omega) (by omega) hrb xb HNB.out hw).mono ?_; rintro e w5 ⟨over, q, rfl, hq, hA5, hg5⟩; have hm5 := mid_length hq.1 (xs := D ++ tl) (ro := i) (by rw [List.length_append]; omega); have hc5 := hA5.cell (j := i + lb) (by rw [hm5, List.length_append]; omega); have hf5 := hA5.frozen (i + lb); have HQ := hidD hq; clear hq hm5)
      have hAs := hA5.set (i + lb) over
      rw [mid_tail (by omega), List.set_append_left _ _ (by rw [mid_length HQ.out.1 (by omega)]; omega)] at hAs
      exact ⟨⟨i + 1, (mid D i lb q).set (i + lb) over, by simp, by omega, HST.out over q (HQ.out.tail (by omega)), hAs, grown_trans (grown_trans hG hg5) (grown_set _ _ _ _)⟩, by simp [intOf]; omega⟩
    · obtain rfl : i = la := by omega
      have hrow : Row .u64 wr (.slice (some ⟨g, 0, none⟩) (i + lb) rc) D := by
        have h1 := hA.row 0 (i + lb) rc (by rw [List.length_append]; omega) hcap hrc hlen
        rwa [List.drop_zero, List.take_append_of_le_length (by omega), List.take_of_length_le (by omega)] at h1
      have HTR := hidD (HF.out D (by rw [← HL1.out]; exact HD.out))
      have hDg : Dig B64 (D ++ tl) := HD.out.2.1.append hzt
      clear HD HF H1 HB HNA HNB
      go_wp2_with (go_at_call 47; refine (trimmed_w _ _ _ D _ hrow).mono ?_; rintro e w5 ⟨u, rfl, ⟨hu, hb5⟩, hform⟩; rw [HTR.out] at hu hform; obtain ⟨ua, uc, rfl⟩ := UN.form hu)
      go_ret
      refine ⟨_, rfl, ⟨hu, grown_trans hG (grown_below hb5 _)⟩, ?_, D ++ tl, hA.below hb5, hDg, by rw [List.length_append]; omega⟩
      rcases hform with ⟨e, _⟩ | e
      · exact Or.inl e
      · exact Or.inr ⟨_, e⟩
end Go.Proofs.YtjmmnpfedhkjbaaGreatDoor
namespace Go.Proofs.YtjmmnpfedhkjbaaGreatDoor
open Go.RowKit Go.Shelf

theorem PrAt.fing {us bs D : List Nat} (h : PrAt us bs us.length D) : trimL D = limbs B64 (val B64 us * val B64 bs) := by
  obtain ⟨_, h2, h3⟩ := h
  rw [List.take_of_length_le (Nat.le_refl _)] at h3
  rw [← limbs_val two_le_B64 h2, h3]

set_option maxRecDepth 100000 in
set_option maxHeartbeats 2000000 in
theorem product_g (g rl rc : Nat) (zs : List Nat) (a : Option Addr) (la ca : Nat) (b : Option Addr) (lb cb : Nat) (us vs : List Nat) (w : World) (xa : Dig B64 us) (xb : Dig B64 vs)
    (hA : Arr w g zs) (hzs : Dig B64 zs) (hz : la + lb ≤ zs.length) (hcap : la + lb ≤ rc) (hrc : rc ≤ 9223372036854775807) (hlen : la + lb ≤ 1099511627776)
    (ra : Row .u64 w (.slice a la ca) us) (rb : Row .u64 w (.slice b lb cb) vs) (hna : ∀ p, a = some p → 0 < la → p.block ≠ g) (hnb : ∀ p, b = some p → 0 < lb → p.block ≠ g) :
    Calls Tryz.prog 64 #[.slice (some ⟨g, 0, none⟩) rl rc, .slice a la ca, .slice b lb cb] w fun e w' => ∃ u, e = .returned u ∧ (UN w' u (val B64 us * val B64 vs) ∧ w.grownBy w' (some g)) ∧ (u = .slice none 0 0 ∨ ∃ l, u = .slice (some ⟨g, 0, none⟩) l rc) ∧ ∃ zs', Arr w' g zs' ∧ Dig B64 zs' ∧ zs'.length = zs.length := by
  obtain ⟨hl1, hc1, hm1, hk1, hf1⟩ := row_fn ra
  have hl2 := (row_fn rb).1
  have hc2 := (row_fn rb).2.1
  have hm2 := (row_fn rb).2.2.1
  have HF := hidD (fun D (h : PrAt us vs us.length D) => h.fing)
  have HB := hidD rb
  obtain ⟨W1, hcl, hA1, hG1⟩ := clear_row 0 g (la + lb) rc zs w hA hz
  have HS := hidD (PrAt.start us vs)
  rw [← hl1, ← hl2] at HS
  have hzt : Dig B64 (zs.drop (la + lb)) := hzs.drop _
  have hzl : (zs.drop (la + lb)).length = zs.length - (la + lb) := List.length_drop
  obtain ⟨Z, hZ⟩ : ∃ Z, Z = zs.length := ⟨_, rfl⟩
  rw [← hZ] at hzl hz ⊢
  generalize zs.drop (la + lb) = tl at *
  have H1 := hidD hf1
  have HL1 := hidD hl1
  have HL2 := hidD hl2
  have HNA := hidD hna
  have HNB := hidD hnb
  clear hf1 hl1 hl2 ra rb hZ hA hna hnb
  go_enter Tryz.func64, Tryz.ntmps64
  go_wp2
  go_loopw [19] (fun iv wr => ∃ (i : Nat) (D : List Nat), iv = .int .i64 i ∧ i ≤ la ∧ Hid (PrAt us vs i D) ∧ Arr wr g (D ++ tl) ∧ w.grownBy wr (some g))
    (fun iv _ => la - (intOf iv).toNat)
  case atStart => exact ⟨0, _, rfl, Nat.zero_le _, HS.out, hA1, hG1⟩
  case round =>
    clear HS hA1 hG1 hcl
    obtain ⟨i, D, rfl, hi, HD, hA, hG⟩ := hrel
    have hDl := HD.out.1
    rw [← HL1.out, ← HL2.out] at hDl
    by_cases hlt : i < la
    · obtain ⟨ab, ao, rfl, hab, hca⟩ := H1.out i hlt
      have hcx : wr.cell? ⟨ab, ao + i, none⟩ = some (.int .u64 (us[i]?.getD 0 : Nat)) := (World.cell?_of_block (w := w) (hG.block ab hab (fun e => HNA.out _ rfl (by omega) (by cases e; rfl)))).trans hca
      have hw := xa.getD (by unfold B64; omega) i
      have HST := hidD (fun over q (h : AddTAt D vs i (us[i]?.getD 0) vs.length over q) => HD.out.step xa xb (by rw [← HL1.out]; exact hlt) rfl h)
      have hrb : Row .u64 wr (.slice b lb cb) vs := Row.grown HB.out hG HNB.out
      have hDg : Dig B64 (D ++ tl) := HD.out.2.1.append hzt
      rw [← HL2.out] at HST
      generalize us[i]?.getD 0 = wd at *
      clear hca
      go_wp2_with (go_at_call 67; refine (addTimes_w g i lb _ (D ++ tl) b cb vs wd _ hA hDg (by rw [List.length_append]; omega) (by omega) hrb xb HNB.out hw).mono ?_; rintro e w5 ⟨over, q, rfl, hq, hA5, hg5⟩; have hm5 := mid_length hq.1 (xs := D ++ tl) (ro := i) (by rw [List.length_append]; omega); have hc5 := hA5.cell (j := i + lb) (by rw [hm5, List.length_append]; omega); have hf5 := hA5.frozen (i + lb); have HQ := hidD hq; clear hq hm5)
      have hAs := hA5.set (i + lb) over
      rw [mid_tail (by omega), List.set_append_left _ _ (by rw [mid_length HQ.out.1 (by omega)]; omega)] at hAs
      exact ⟨⟨i + 1, (mid D i lb q).set (i + lb) over, by simp, by omega, HST.out over q (HQ.out.tail (by omega)), hAs, grown_trans (grown_trans hG hg5) (grown_set _ _ _ _)⟩, by simp [intOf]; omega⟩
    · obtain rfl : i = la := by omega
      have hrow : Row .u64 wr (.slice (some ⟨g, 0, none⟩) (i + lb) rc) D := by
        have h1 := hA.row 0 (i + lb) rc (by rw [List.length_append]; omega) hcap hrc hlen
        rwa [List.drop_zero, List.take_append_of_le_length (by omega), List.take_of_length_le (by omega)] at h1
      have HTR := hidD (HF.out D (by rw [← HL1.out]; exact HD.out))
      have hDg : Dig B64 (D ++ tl) := HD.out.2.1.append hzt
      clear HD HF H1 HB HNA HNB
      go_wp2_with (go_at_call 47; refine (trimmed_w _ _ _ D _ hrow).mono ?_; rintro e w5 ⟨u, rfl, ⟨hu, hb5⟩, hform⟩; rw [HTR.out] at hu hform; obtain ⟨ua, uc, rfl⟩ := UN.form hu)
      go_ret
      refine ⟨_, rfl, ⟨hu, grown_trans hG (grown_below hb5 _)⟩, ?_, D ++ tl, hA.below hb5, hDg, by rw [List.length_append]; omega⟩
      rcases hform with ⟨e, _⟩ | e
      · exact Or.inl e
      · exact Or.inr ⟨_, e⟩
end Go.Proofs.YtjmmnpfedhkjbaaGreatDoor
namespace Go.Proofs.YtjmmnpfedhkjbaaGreatDoor
open Go.RowKit Go.Shelf

theorem B64_pow : B64 = 2 ^ 64 := by unfold B64; rfl

/-- What the loop of takeOffTimes knows. -/
def TotAt (xs bs : List Nat) (ro wd i over c : Nat) (q : List Nat) : Prop :=
  q.length = i ∧ Dig B64 q ∧ over < B64 ∧ c ≤ 1 ∧ val B64 q + val B64 (bs.take i) * wd = val B64 ((xs.drop ro).take i) + B64 ^ i * (over + c)

theorem TotAt.start (xs bs : List Nat) (ro wd : Nat) : TotAt xs bs ro wd 0 0 0 [] := ⟨rfl, Dig.nil _, by unfold B64; omega, by omega, by simp [val]⟩

theorem TotAt.step {xs bs : List Nat} {ro wd i over c : Nat} {q : List Nat} (h : TotAt xs bs ro wd i over c q) (d over' c' : Nat) (hd : d < B64) (ho : over' < B64) (hc : c' ≤ 1) (he : d + bs[i]?.getD 0 * wd + over + c = xs[ro + i]?.getD 0 + B64 * (over' + c')) : TotAt xs bs ro wd (i + 1) over' c' (q ++ [d]) := by
  obtain ⟨h1, h2, h3, h4, h5⟩ := h
  refine ⟨by simp; omega, h2.append (Dig.cons hd (Dig.nil _)), ho, hc, ?_⟩
  rw [val_snoc, h1, val_take_succ, val_take_succ, List.getElem?_drop, Nat.add_mul, Nat.pow_succ, Nat.mul_assoc, Nat.mul_assoc]
  have e2 : B64 ^ i * d + B64 ^ i * (bs[i]?.getD 0 * wd) + B64 ^ i * (over + c) = B64 ^ i * (xs[ro + i]?.getD 0) + B64 ^ i * (B64 * (over' + c')) := by
    rw [← Nat.mul_add, ← Nat.mul_add, ← Nat.add_assoc, he, Nat.mul_add]
  omega

theorem tot_step {x y r over c : Nat} (hx : x < B64) (hy : y < B64) (hr : r < B64) (ho : over < B64) (hc : c ≤ 1) :
    mulHi x y + addHi (mulLo x y) over 0 < B64 ∧ subLo r (addLo (mulLo x y) over 0) c < B64 ∧ subHi r (addLo (mulLo x y) over 0) c ≤ 1 ∧ addLo (mulLo x y) over 0 < B64 ∧
    subLo r (addLo (mulLo x y) over 0) c + x * y + over + c = r + B64 * (mulHi x y + addHi (mulLo x y) over 0 + subHi r (addLo (mulLo x y) over 0) c) := by
  have hp := prod_le hx hy
  unfold mulHi mulLo addHi addLo subLo subHi
  generalize x * y = p at *
  unfold B64 at *
  split <;> omega

/-- Behind the highest word. -/
theorem TotAt.last {xs bs : List Nat} {ro wd n over c d c' : Nat} {q : List Nat} (h : TotAt xs bs ro wd n over c q) (hn : bs.length = n) (hd : d < B64) (he : d + over + c = xs[ro + n]?.getD 0 + B64 * c') :
    (q ++ [d]).length = n + 1 ∧ Dig B64 (q ++ [d]) ∧ val B64 (q ++ [d]) + val B64 bs * wd = val B64 ((xs.drop ro).take (n + 1)) + B64 ^ (n + 1) * c' := by
  obtain ⟨h1, h2, h3, h4, h5⟩ := h
  refine ⟨by simp; omega, h2.append (Dig.cons hd (Dig.nil _)), ?_⟩
  rw [List.take_of_length_le (by omega)] at h5
  rw [val_snoc, h1, val_take_succ, List.getElem?_drop, Nat.pow_succ, Nat.mul_assoc]
  have e2 : B64 ^ n * d + B64 ^ n * (over + c) = B64 ^ n * (xs[ro + n]?.getD 0) + B64 ^ n * (B64 * c') := by
    rw [← Nat.mul_add, ← Nat.add_assoc, he, Nat.mul_add]
  omega

/-- Shifted words. -/
def shl (x s : Nat) : Nat := x * 2 ^ s % B64
def shr (x s : Nat) : Nat := x / 2 ^ s

theorem pow_split {s : Nat} (hs : s ≤ 64) : 2 ^ s * 2 ^ (64 - s) = B64 := by rw [← Nat.pow_add, show s + (64 - s) = 64 from by omega]; rfl

theorem shl_eq {x s : Nat} (hs : s ≤ 64) : shl x s = x % 2 ^ (64 - s) * 2 ^ s := by
  unfold shl
  rw [← pow_split hs, Nat.mul_comm (2 ^ s), Nat.mul_mod_mul_right]

theorem up_step {x c s : Nat} (hs : s ≤ 63) (hx : x < B64) (hc : c < 2 ^ s) : c ||| shl x s = c + shl x s ∧ c + shl x s < B64 ∧ shr x (64 - s) < 2 ^ s ∧ c + shl x s + B64 * shr x (64 - s) = c + x * 2 ^ s := by
  rw [shl_eq (by omega)]
  have hp := pow_split (s := s) (by omega)
  have hm := Nat.div_add_mod x (2 ^ (64 - s))
  have hlt := Nat.mod_lt x (Nat.two_pow_pos (64 - s))
  unfold shr
  have h1 : c ||| x % 2 ^ (64 - s) * 2 ^ s = c + x % 2 ^ (64 - s) * 2 ^ s := by
    rw [Nat.or_comm, Nat.mul_comm, ← Nat.two_pow_add_eq_or_of_lt hc, Nat.add_comm]
  refine ⟨h1, ?_, ?_, ?_⟩
  · have h2 : (x % 2 ^ (64 - s) + 1) * 2 ^ s ≤ 2 ^ (64 - s) * 2 ^ s := Nat.mul_le_mul_right _ hlt
    rw [Nat.add_mul, Nat.one_mul, Nat.mul_comm (2 ^ (64 - s)), hp] at h2
    omega
  · rw [Nat.div_lt_iff_lt_mul (Nat.two_pow_pos _), hp]; exact hx
  · rw [← hp]
    generalize x / 2 ^ (64 - s) = a at *
    generalize x % 2 ^ (64 - s) = b at *
    generalize 2 ^ (64 - s) = E at *
    generalize 2 ^ s = F at *
    rw [← hm]
    grind

/-- What the loop of up knows: behind i words the next one holds what goes over. -/
def UpAt (us : List Nat) (s i : Nat) (q : List Nat) (c : Nat) : Prop :=
  q.length = i ∧ Dig B64 q ∧ c < 2 ^ s ∧ val B64 q + B64 ^ i * c = val B64 (us.take i) * 2 ^ s

theorem UpAt.start (us : List Nat) (s : Nat) : UpAt us s 0 [] 0 := ⟨rfl, Dig.nil _, Nat.two_pow_pos s, by simp [val]⟩

theorem UpAt.step {us q : List Nat} {s i c d c' : Nat} (h : UpAt us s i q c) (hd : d < B64) (hc : c' < 2 ^ s) (he : d + B64 * c' = c + us[i]?.getD 0 * 2 ^ s) : UpAt us s (i + 1) (q ++ [d]) c' := by
  obtain ⟨h1, h2, h3, h4⟩ := h
  refine ⟨by simp; omega, h2.append (Dig.cons hd (Dig.nil _)), hc, ?_⟩
  rw [val_snoc, h1, val_take_succ, Nat.add_mul, Nat.pow_succ, Nat.mul_assoc, Nat.mul_assoc]
  have e2 : B64 ^ i * d + B64 ^ i * (B64 * c') = B64 ^ i * c + B64 ^ i * (us[i]?.getD 0 * 2 ^ s) := by
    rw [← Nat.mul_add, he, Nat.mul_add]
  omega

theorem down_step {x s : Nat} {P : Nat} (hs : s ≤ 63) (hx : x < B64) :
    shl (P % 2 ^ s) (64 - s) ||| shr x s = shl (P % 2 ^ s) (64 - s) + shr x s ∧ shl (P % 2 ^ s) (64 - s) + shr x s < B64 ∧ shl x (64 - s) = shl ((x + B64 * P) % 2 ^ s) (64 - s) ∧
    (x + B64 * P) / 2 ^ s = shl (P % 2 ^ s) (64 - s) + shr x s + B64 * (P / 2 ^ s) := by
  have hp := pow_split (s := s) (by omega)
  rw [shl_eq (by omega), shl_eq (by omega), shl_eq (by omega), show 64 - (64 - s) = s from by omega, Nat.mod_mod]
  have hsr : shr x s < 2 ^ (64 - s) := by
    unfold shr
    rw [Nat.div_lt_iff_lt_mul (Nat.two_pow_pos _), Nat.mul_comm, hp]; exact hx
  have hlt := Nat.mod_lt P (Nat.two_pow_pos s)
  have hm := Nat.div_add_mod P (2 ^ s)
  refine ⟨?_, ?_, ?_, ?_⟩
  · rw [Nat.mul_comm, ← Nat.two_pow_add_eq_or_of_lt hsr]
  · have h2 : (P % 2 ^ s + 1) * 2 ^ (64 - s) ≤ 2 ^ s * 2 ^ (64 - s) := Nat.mul_le_mul_right _ hlt
    rw [Nat.add_mul, Nat.one_mul, hp] at h2
    omega
  · congr 1
    rw [← hp, Nat.mul_assoc, Nat.add_mul_mod_self_left, Nat.mod_mod]
  · unfold shr
    have e : x + B64 * P = x + 2 ^ s * (P % 2 ^ s * 2 ^ (64 - s) + B64 * (P / 2 ^ s)) := by
      rw [← hp]
      generalize P / 2 ^ s = a at *
      generalize P % 2 ^ s = b at *
      generalize 2 ^ (64 - s) = E at *
      generalize 2 ^ s = F at *
      rw [← hm]
      grind
    rw [e, Nat.add_mul_div_left _ _ (Nat.two_pow_pos _)]
    omega

theorem val_drop_step (B : Nat) (ds : List Nat) (k : Nat) (h : k < ds.length) : val B (ds.drop k) = ds[k]?.getD 0 + B * val B (ds.drop (k + 1)) := by
  rw [List.drop_eq_getElem_cons h, val_cons, List.getElem?_eq_getElem h]
  rfl

/-- What the rounds of a long division know: V is the divisor, n its length; the words of the quotient from k on are found. -/
def LongAt (R0 V n K k : Nat) (D Q : List Nat) : Prop :=
  D.length = K + n ∧ Dig B64 D ∧ Q.length = K ∧ Dig B64 Q ∧ val B64 D < V * B64 ^ k ∧ R0 = val B64 D + V * val B64 Q ∧ ∀ j, j < k → Q[j]?.getD 0 = 0

theorem LongAt.win {R0 V n K k : Nat} {D Q : List Nat} (h : LongAt R0 V n K (k + 1) D Q) (hk : k < K) (hV : V < B64 ^ n) :
    val B64 ((D.drop k).take (n + 1)) < V * B64 ∧ val B64 D = val B64 (D.take k) + B64 ^ k * val B64 ((D.drop k).take (n + 1)) ∧ val B64 (D.drop (k + (n + 1))) = 0 := by
  obtain ⟨h1, h2, h3, h4, h5, h6, h7⟩ := h
  have hB : 0 < B64 := by unfold B64; omega
  have hlt : val B64 D < B64 ^ (k + (n + 1)) := by
    have e : B64 ^ (k + (n + 1)) = B64 ^ n * B64 ^ (k + 1) := by rw [← Nat.pow_add]; congr 1; omega
    rw [e]
    exact Nat.lt_of_lt_of_le h5 (Nat.mul_le_mul_right _ (by omega))
  have hz := val_drop_zero (by omega) hlt
  have a1 := val_append B64 (D.take k) (D.drop k)
  rw [List.take_append_drop, List.length_take, Nat.min_eq_left (by omega)] at a1
  have a2 := val_append B64 ((D.drop k).take (n + 1)) ((D.drop k).drop (n + 1))
  rw [List.take_append_drop, List.drop_drop, hz, Nat.mul_zero, Nat.add_zero] at a2
  rw [a2] at a1
  refine ⟨?_, a1, hz⟩
  rcases Nat.lt_or_ge (val B64 ((D.drop k).take (n + 1))) (V * B64) with h | h
  · exact h
  · exfalso
    have := Nat.mul_le_mul_left (B64 ^ k) h
    have e : B64 ^ k * (V * B64) = V * B64 ^ (k + 1) := by rw [Nat.pow_succ]; grind
    omega

theorem LongAt.step {R0 V n K k : Nat} {D Q q : List Nat} (h : LongAt R0 V n K (k + 1) D Q) (hk : k < K) (hV : V < B64 ^ n) (hql : q.length = n + 1) (hq : Dig B64 q)
    (hr : val B64 q = val B64 ((D.drop k).take (n + 1)) % V) (hV0 : 0 < V) :
    LongAt R0 V n K k (mid D k (n + 1) q) (Q.set k (val B64 ((D.drop k).take (n + 1)) / V)) := by
  obtain ⟨w1, w2, w3⟩ := h.win hk hV
  obtain ⟨h1, h2, h3, h4, h5, h6, h7⟩ := h
  have hB : 0 < B64 := by unfold B64; omega
  generalize hW : val B64 ((D.drop k).take (n + 1)) = W at *
  have hd := Nat.div_add_mod W V
  have hlt := Nat.mod_lt W hV0
  have hWB : W / V < B64 := by rw [Nat.div_lt_iff_lt_mul hV0, Nat.mul_comm]; exact w1
  have e3 : val B64 (mid D k (n + 1) q) = val B64 (D.take k) + B64 ^ k * val B64 q := by
    rw [mid, val_append, val_append, List.length_take, Nat.min_eq_left (by omega), w3]
    simp
  have e4 := val_set' B64 Q k (W / V) (by omega)
  rw [h7 k (by omega), Nat.mul_zero, Nat.add_zero] at e4
  have htk : val B64 (D.take k) < B64 ^ k := by
    have := val_lt (h2.take k)
    rwa [List.length_take, Nat.min_eq_left (by omega)] at this
  refine ⟨by rw [mid_length hql (by omega)]; exact h1, ?_, by rw [List.length_set]; exact h3, ?_, ?_, ?_, ?_⟩
  · intro x hx
    rw [mid] at hx
    rcases List.mem_append.1 hx with hx | hx
    · exact (h2.take k) x hx
    · rcases List.mem_append.1 hx with hx | hx
      · exact hq x hx
      · exact (h2.drop _) x hx
  · intro x hx
    rcases List.mem_or_eq_of_mem_set hx with hx | hx
    · exact h4 x hx
    · rw [hx]; exact hWB
  · rw [e3, hr]
    have := Nat.mul_le_mul_left (B64 ^ k) (show W % V + 1 ≤ V from hlt)
    rw [Nat.mul_add, Nat.mul_one, Nat.mul_comm _ V] at this
    omega
  · rw [e3, e4, hr, h6, w2, Nat.mul_add]
    have : B64 ^ k * W = B64 ^ k * (W % V) + V * (B64 ^ k * (W / V)) := by
      conv => lhs; rw [← hd]
      grind
    omega
  · intro j hj
    rw [List.getElem?_set_ne (by omega)]
    exact h7 j (by omega)

theorem LongAt.start {R0 V n K : Nat} {D : List Nat} (h1 : D.length = K + n) (h2 : Dig B64 D) (h3 : val B64 D = R0) (h4 : R0 < V * B64 ^ K) : LongAt R0 V n K K D (List.replicate K 0) :=
  ⟨h1, h2, List.length_replicate, fun x hx => by rw [List.eq_of_mem_replicate hx]; unfold B64; omega, by rw [h3]; exact h4, by rw [val_zeros', Nat.mul_zero, h3, Nat.add_zero], fun j _ => by
    by_cases hj : j < K
    · rw [List.getElem?_replicate_of_lt hj]; rfl
    · rw [List.getElem?_eq_none (by rw [List.length_replicate]; omega)]; rfl⟩

theorem LongAt.fin {R0 V n K m b s : Nat} {D Q : List Nat} (h : LongAt R0 V n K 0 D Q) (hR : R0 = m * 2 ^ s) (hV : V = b * 2 ^ s) : trimL Q = limbs B64 (m / b) ∧ val B64 D = m % b * 2 ^ s := by
  obtain ⟨h1, h2, h3, h4, h5, h6, h7⟩ := h
  rw [Nat.pow_zero, Nat.mul_one] at h5
  have e1 : R0 / V = val B64 Q := by rw [h6, Nat.add_mul_div_left _ _ (by omega), Nat.div_eq_of_lt h5, Nat.zero_add]
  have e2 : R0 % V = val B64 D := by rw [h6, Nat.add_mul_mod_self_left, Nat.mod_eq_of_lt h5]
  rw [hR, hV, Nat.mul_div_mul_right _ _ (Nat.two_pow_pos s)] at e1
  rw [hR, hV, Nat.mul_mod_mul_right] at e2
  exact ⟨by rw [← limbs_val two_le_B64 h4, ← e1], e2.symm⟩
end Go.Proofs.YtjmmnpfedhkjbaaGreatDoor
namespace Go.Proofs.YtjmmnpfedhkjbaaGreatDoor
open Go.RowKit Go.Shelf

set_option maxRecDepth 100000 in
set_option maxHeartbeats 2000000 in
theorem takeOffTimes_w (br ro len cap : Nat) (xs : List Nat) (a : Option Addr) (cb : Nat) (bs : List Nat) (wd : Nat) (w : World)
    (hA : Arr w br xs) (hx : Dig B64 xs) (hro : ro + (len + 1) ≤ xs.length) (hlc : len + 1 ≤ cap) (hb : Row .u64 w (.slice a len cb) bs) (hbs : Dig B64 bs) (hne : ∀ p, a = some p → 0 < len → p.block ≠ br) (hw : wd < B64) :
    Calls Tryz.prog 72 #[.slice (some ⟨br, ro, none⟩) (len + 1) cap, .slice a len cb, .int .u64 (wd : Nat)] w fun e w' =>
      ∃ c q, e = .returned (.int .u64 (c : Nat)) ∧ (c ≤ 1 ∧ q.length = len + 1 ∧ Dig B64 q ∧ val B64 q + val B64 bs * wd = val B64 ((xs.drop ro).take (len + 1)) + B64 ^ (len + 1) * c) ∧ Arr w' br (mid xs ro (len + 1) q) ∧ w.grownBy w' (some br) := by
  obtain ⟨hl, hlc2, hcm, hlm, hc⟩ := row_fn hb
  have HL := hidD hl
  have HC := hidD hc
  have HN := hidD hne
  clear hc hl hne hb
  go_enter Tryz.func72, Tryz.ntmps72
  go_wp2
  go_loopw [7, 8, 16] (fun ov cv iv wr => ∃ (i over c : Nat) (q : List Nat), iv = .int .i64 i ∧ ov = .int .u64 (over : Nat) ∧ cv = .int .u64 (c : Nat) ∧ i ≤ len ∧ over < B64 ∧ c ≤ 1 ∧ Hid (TotAt xs bs ro wd i over c q) ∧ Arr wr br (mid xs ro i q) ∧ w.grownBy wr (some br))
    (fun _ _ iv _ => len - (intOf iv).toNat)
  case atStart => exact ⟨0, 0, 0, [], rfl, rfl, rfl, Nat.zero_le _, by unfold B64; omega, by omega, TotAt.start _ _ _ _, by rw [mid_zero]; exact hA, grown_refl _ _⟩
  case round =>
    obtain ⟨i, over, c, q, rfl, rfl, rfl, hi, ho, hcc, HP, hM, hg⟩ := hrel
    by_cases hlt : i < len
    · obtain ⟨b, off, rfl, hbb, hc⟩ := HC.out i hlt
      have hbn := HN.out _ rfl (by omega)
      have hq := HP.out.1
      have hcb : wr.cell? ⟨b, off + i, none⟩ = some (.int .u64 (bs[i]?.getD 0 : Nat)) := (World.cell?_of_block (w := w) (hg.block b hbb (fun e => hbn (by cases e; rfl)))).trans hc
      have hcr : wr.cell? ⟨br, ro + i, none⟩ = some (.int .u64 (xs[ro + i]?.getD 0 : Nat)) := by rw [← mid_get hq (by omega)]; exact hM.cell (by rw [mid_length hq (by omega)]; omega)
      have hfr := hM.frozen (ro + i)
      have hxb := hbs.getD (by unfold B64; omega) i
      have hxr := hx.getD (by unfold B64; omega) (ro + i)
      obtain ⟨s1, s2, s3, s4, s5⟩ := tot_step hxb hw hxr ho hcc
      have HS := hidD (HP.out.step _ _ _ s2 s1 s3 s5)
      have HM2 := hidD (show ∀ d, (mid xs ro i q).set (ro + i) d = mid xs ro (i + 1) (q ++ [d]) from fun d => mid_set hq (by omega) d)
      clear hc hq s5
      generalize bs[i]?.getD 0 = x at *
      generalize xs[ro + i]?.getD 0 = r at *
      have a1 := add64_0 (mulLo x wd) over
      have a2 := sub64_r r (addLo (mulLo x wd) over 0) c hcc
      unfold B64 at s1
      go_wp2_with (first
        | (go_at_call 86; refine (mul64_c _ _ hxb hw _).mono ?_; rintro e w' ⟨rfl, rfl⟩))
      exact ⟨⟨i + 1, mulHi x wd + addHi (mulLo x wd) over 0, subHi r (addLo (mulLo x wd) over 0) c, q ++ [subLo r (addLo (mulLo x wd) over 0) c], by simp, by simp, rfl, by omega, HS.out.2.2.1, HS.out.2.2.2.1, HS, by rw [← HM2.out]; exact hM.set _ _, grown_trans hg (grown_set _ _ _ _)⟩, by simp [intOf]; omega⟩
    · obtain rfl : i = len := by omega
      have hq := HP.out.1
      have hcr : wr.cell? ⟨br, ro + i, none⟩ = some (.int .u64 (xs[ro + i]?.getD 0 : Nat)) := by rw [← mid_get hq (by omega)]; exact hM.cell (by rw [mid_length hq (by omega)]; omega)
      have hfr := hM.frozen (ro + i)
      have hxr := hx.getD (by unfold B64; omega) (ro + i)
      obtain ⟨s1, s2, s3⟩ := sub_step hxr ho hcc
      have HS := hidD (HP.out.last HL.out.symm s1 s3)
      have HM2 := hidD (show ∀ d, (mid xs ro i q).set (ro + i) d = mid xs ro (i + 1) (q ++ [d]) from fun d => mid_set hq (by omega) d)
      clear hq s3
      generalize xs[ro + i]?.getD 0 = r at *
      have a2 := sub64_r r over c hcc
      go_wp2
      go_ret
      exact ⟨subHi r over c, _, rfl, ⟨s2, HS.out⟩, by rw [← HM2.out]; exact hM.set _ _, grown_trans hg (grown_set _ _ _ _)⟩
end Go.Proofs.YtjmmnpfedhkjbaaGreatDoor
