import Derived.Test.YtahpgnkhophgpaaDoorDec
namespace Go.Proofs.YtahpgnkhophgpaaDoor

/-- A decimal digit's sign. -/
def isD (c : UInt8) : Bool := decide (48 ≤ c.toNat) && decide (c.toNat ≤ 57)

/-- The digits that a text tells, the lowest one first. -/
def dgs (l : List UInt8) : List Nat := (l.map (fun c => c.toNat - 48)).reverse

/-- The number that digits tell. -/
def num (l : List UInt8) : Nat := val 10 (dgs l)

/-- The text behind a minus sign. -/
def tailOf (l : List UInt8) : List UInt8 := if l.head? = some 45 then l.tail else l

/-- The texts that are numbers. -/
def good (l : List UInt8) : Bool := decide (l.length ≤ 2000) && !(tailOf l).isEmpty && (!decide ((tailOf l).head? = some 48) || decide (l = [48])) && (tailOf l).all isD

/-- The number of such a text. -/
def valZ (l : List UInt8) : Int := if l.head? = some 45 then -(num (tailOf l) : Int) else num (tailOf l)

theorem isD_bounds {c : UInt8} (h : isD c = true) : 48 ≤ c.toNat ∧ c.toNat ≤ 57 := by simpa [isD] using h

theorem chr_toNat {d : Nat} (h : d < 10) : (chr d).toNat = 48 + d := by
  unfold chr
  rw [UInt8.toNat_ofNat']
  omega

theorem chr_of {c : UInt8} (h : isD c = true) : chr (c.toNat - 48) = c := by
  have hb := isD_bounds h
  apply UInt8.toNat_inj.1
  rw [chr_toNat (by omega)]
  omega

theorem dgs_snoc (l : List UInt8) (c : UInt8) : dgs (l ++ [c]) = (c.toNat - 48) :: dgs l := by simp [dgs]
theorem num_snoc (l : List UInt8) (c : UInt8) : num (l ++ [c]) = (c.toNat - 48) + 10 * num l := by rw [num, dgs_snoc, val_cons]; rfl
theorem dgs_append (a b : List UInt8) : dgs (a ++ b) = dgs b ++ dgs a := by simp [dgs]
theorem dgs_length (l : List UInt8) : (dgs l).length = l.length := by simp [dgs]
theorem num_append (a b : List UInt8) : num (a ++ b) = num b + 10 ^ b.length * num a := by rw [num, dgs_append, val_append, dgs_length]; rfl

theorem dig_dgs {l : List UInt8} (h : l.all isD = true) : Dig 10 (dgs l) := by
  intro d hd
  simp only [dgs, List.mem_reverse, List.mem_map] at hd
  obtain ⟨c, hc, rfl⟩ := hd
  have := isD_bounds (List.all_eq_true.1 h c hc)
  omega

theorem txt_dgs {l : List UInt8} (h : l.all isD = true) : txt (dgs l) = l := by
  simp only [txt, dgs, List.map_reverse, List.reverse_reverse, List.map_map]
  conv => rhs; rw [← List.map_id l]
  apply List.map_congr_left
  intro c hc
  exact chr_of (List.all_eq_true.1 h c hc)

theorem top_dgs {c : UInt8} {l : List UInt8} (hc : isD c = true) (h0 : c ≠ 48) : Top (dgs (c :: l)) := by
  have e : dgs (c :: l) = dgs l ++ [c.toNat - 48] := by simp [dgs]
  rw [e]
  refine trimL_snoc_ne _ ?_
  have := isD_bounds hc
  intro h
  apply h0
  apply UInt8.toNat_inj.1
  show c.toNat = 48
  omega

theorem decN_num {c : UInt8} {l : List UInt8} (h : (c :: l).all isD = true) (h0 : c ≠ 48) : decN (num (c :: l)) = c :: l ∧ num (c :: l) ≠ 0 := by
  have hc : isD c = true := List.all_eq_true.1 h c (List.mem_cons_self ..)
  have e := limbs_val_top (B := 10) (by omega) (dig_dgs h) (top_dgs hc h0)
  have hne : num (c :: l) ≠ 0 := by
    intro hz
    rw [show val 10 (dgs (c :: l)) = 0 from hz, limbs_zero] at e
    have := congrArg List.length e
    rw [dgs_length] at this
    simp at this
  refine ⟨?_, hne⟩
  rw [decN_pos hne, num, e, txt_dgs h]

theorem good_dec {l : List UInt8} (h : good l = true) : decZ (valZ l) = l := by
  simp only [good, Bool.and_eq_true, decide_eq_true_eq, Bool.or_eq_true, Bool.not_eq_true', decide_eq_false_iff_not] at h
  obtain ⟨⟨⟨_, hne⟩, hz⟩, hd⟩ := h
  cases ht : tailOf l with
  | nil => rw [ht] at hne; simp at hne
  | cons c t =>
    rw [ht] at hz hd
    by_cases h0 : c = 48
    · have hl : l = [48] := by
        rcases hz with h | h
        · exact absurd (by rw [h0]; rfl) h
        · exact h
      subst hl
      simp [valZ, tailOf, decZ, decN, num, dgs, val]
    · obtain ⟨h1, h2⟩ := decN_num hd h0
      by_cases hm : l.head? = some 45
      · have hl : l = 45 :: c :: t := by
          cases l with
          | nil => simp at hm
          | cons x l' =>
            simp at hm
            subst hm
            simp [tailOf] at ht
            rw [ht]
        rw [valZ, if_pos hm, ht, decZ, if_pos (by omega), Int.natAbs_neg, Int.natAbs_natCast, h1, hl]
      · have hl : l = c :: t := by rw [← ht, tailOf, if_neg hm]
        rw [valZ, if_neg hm, ht, decZ, if_neg (by omega), Int.natAbs_natCast, h1, hl]

theorem all_txt {ds : List Nat} (h : Dig 10 ds) : (txt ds).all isD = true := by
  rw [List.all_eq_true]
  intro c hc
  simp only [txt, List.mem_reverse, List.mem_map] at hc
  obtain ⟨d, hd, rfl⟩ := hc
  have := h d hd
  simp [isD, chr_toNat this]
  omega

theorem num_txt {ds : List Nat} (h : Dig 10 ds) : num (txt ds) = val 10 ds := by
  have e : dgs (txt ds) = ds := by
    simp only [txt, dgs, List.map_reverse, List.reverse_reverse, List.map_map]
    conv => rhs; rw [← List.map_id ds]
    apply List.map_congr_left
    intro d hd
    have := h d hd
    simp [chr_toNat this]
  rw [num, e]

theorem decN_head {n : Nat} (hn : n ≠ 0) : ∃ c t, decN n = c :: t ∧ c ≠ 48 ∧ c ≠ 45 ∧ (c :: t).all isD = true ∧ num (c :: t) = n := by
  have hd := dig_limbs (B := 10) (by omega) n
  have ht := top_limbs (B := 10) (by omega) n
  have hv := val_limbs (B := 10) (by omega) n
  have hne : limbs 10 n ≠ [] := by rw [Ne, limbs_eq_nil (by omega)]; exact hn
  have ha := all_txt hd
  have hm := num_txt hd
  have e : decN n = txt (limbs 10 n) := decN_pos hn
  rw [hv] at hm
  obtain ⟨ds, d, hds⟩ : ∃ ds d, limbs 10 n = ds ++ [d] := ⟨_, _, (List.dropLast_concat_getLast hne).symm⟩
  rw [hds] at ha hm e ht hd
  rw [txt_snoc] at ha hm e
  have hd0 : d ≠ 0 := by
    intro h0
    subst h0
    have h1 : (trimL (ds ++ [0])).length ≤ ds.length := by rw [trimL_snoc_zero]; exact trimL_length ds
    rw [ht] at h1
    simp at h1
    omega
  have hd10 : d < 10 := hd d (by simp)
  have hc := chr_toNat hd10
  refine ⟨chr d, txt ds, e, ?_, ?_, ha, hm⟩
  · intro h
    rw [h] at hc
    have : (48 : UInt8).toNat = 48 := rfl
    omega
  · intro h
    rw [h] at hc
    have : (45 : UInt8).toNat = 45 := rfl
    omega

theorem dec_good {z : Int} (h : (decZ z).length ≤ 2000) : good (decZ z) = true ∧ valZ (decZ z) = z := by
  by_cases hz : z.natAbs = 0
  · have : z = 0 := by omega
    subst this
    simp [decZ, decN, good, valZ, tailOf, num, dgs, val, isD]
  · obtain ⟨c, t, e, h48, h45, ha, hm⟩ := decN_head hz
    by_cases hn : z < 0
    · have e2 : decZ z = 45 :: c :: t := by rw [decZ, if_pos hn, e]
      rw [e2] at h ⊢
      refine ⟨?_, ?_⟩
      · simp only [good, tailOf, List.head?_cons, if_pos, List.tail_cons, ha, List.isEmpty_cons, Bool.and_true, Bool.and_eq_true, decide_eq_true_eq, Bool.not_false, Bool.or_eq_true, Bool.not_eq_true', decide_eq_false_iff_not, Option.some.injEq]
        exact ⟨h, Or.inl h48⟩
      · simp only [valZ, tailOf, List.head?_cons, if_pos, List.tail_cons, hm]
        omega
    · have e2 : decZ z = c :: t := by rw [decZ, if_neg hn, e]
      rw [e2] at h ⊢
      have hh : ¬ ((c :: t).head? = some 45) := by simp [h45]
      refine ⟨?_, ?_⟩
      · have ht : tailOf (c :: t) = c :: t := by rw [tailOf, if_neg hh]
        rw [good, ht]
        simp only [ha, List.isEmpty_cons, Bool.and_true, Bool.and_eq_true, decide_eq_true_eq, Bool.not_false, Bool.or_eq_true, Bool.not_eq_true', decide_eq_false_iff_not, List.head?_cons, Option.some.injEq]
        exact ⟨h, Or.inl h48⟩
      · rw [valZ, if_neg hh, tailOf, if_neg hh, hm]
        omega

theorem limbs10_length_bound {B n : Nat} (hB : 10 ≤ B) : (limbs B n).length ≤ (limbs 10 n).length := by
  refine limbs_length_le (by omega) ?_
  have h := val_lt (dig_limbs (B := 10) (by omega) n)
  rw [val_limbs (by omega)] at h
  exact Nat.lt_of_lt_of_le h (Nat.pow_le_pow_left hB _)

theorem good_size {l : List UInt8} (h : good l = true) {B : Nat} (hB : 10 ≤ B) : (limbs B (valZ l).natAbs).length ≤ 2000 := by
  have e := good_dec h
  have hl : l.length ≤ 2000 := by
    simp only [good, Bool.and_eq_true, decide_eq_true_eq] at h
    exact h.1.1.1
  rw [← e] at hl
  refine Nat.le_trans (limbs10_length_bound hB) ?_
  by_cases hz : (valZ l).natAbs = 0
  · rw [hz, limbs_zero]; simp
  · have h3 : (decN (valZ l).natAbs).length = (limbs 10 (valZ l).natAbs).length := by rw [decN_pos hz, txt_length]
    unfold decZ at hl
    split at hl
    · simp at hl; omega
    · omega

end Go.Proofs.YtahpgnkhophgpaaDoor
