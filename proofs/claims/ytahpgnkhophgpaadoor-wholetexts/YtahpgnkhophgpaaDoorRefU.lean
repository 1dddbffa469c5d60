import Derived.Test.YtahpgnkhophgpaaDoorRefS
namespace Go.Proofs.YtahpgnkhophgpaaDoor
open Go.RowKit Go.Shelf

theorem lst_head {s : ByteArray} (h : 0 < s.size) : (lst s).head? = some s[0] := by
  have hl := lst_length s
  cases hc : lst s with
  | nil => rw [hc] at hl; simp at hl; omega
  | cons x l =>
    have := lst_get s 0 h
    simp only [hc, List.getElem_cons_zero] at this
    rw [List.head?_cons, this]

theorem u8_eq_iff {c d : UInt8} : ((c.toNat : Int) == (d.toNat : Int)) = true ↔ c = d := by
  rw [beq_iff_eq, Int.ofNat_inj, UInt8.toNat_inj]

theorem lst_extract (s : ByteArray) : lst (s.extract 1 s.size) = (lst s).tail := by
  unfold lst
  rw [Lib.extract_data, ← List.drop_one, List.take_of_length_le]
  have := lst_length s
  unfold lst at this
  rw [List.length_drop, this]
  omega

theorem u8_45 {c : UInt8} : ((c.toNat : Int) == 45) = true ↔ c = 45 := u8_eq_iff (d := 45)
theorem u8_48 {c : UInt8} : ((c.toNat : Int) == 48) = true ↔ c = 48 := u8_eq_iff (d := 48)

theorem good_iff {l : List UInt8} : good l = true ↔ l.length ≤ 2000 ∧ tailOf l ≠ [] ∧ (¬ (tailOf l).head? = some 48 ∨ l = [48]) ∧ (tailOf l).all isD = true := by
  simp only [good, Bool.and_eq_true, decide_eq_true_eq, Bool.or_eq_true, Bool.not_eq_true', decide_eq_false_iff_not, List.isEmpty_eq_false_iff, and_assoc]

/-- What a call of Parse leaves. -/
def ParseSaid (l : List UInt8) (w : World) (e : Ending) (w' : World) : Prop :=
  (good l = true → ∃ u, e = .returned (.tuple #[u, .bool true]) ∧ IsBig w' u (valZ l)) ∧ (good l = false → e = .returned noBig) ∧ Below w.heap.size w w'

theorem ParseSaid.bad {l : List UInt8} {w w' : World} {e : Ending} (h : ¬ good l = true) (he : e = .returned noBig ∧ Below w.heap.size w w') : ParseSaid l w e w' :=
  ⟨fun g => absurd g h, fun _ => he.1, he.2⟩

theorem ParseSaid.of {l tl : List UInt8} {sg : Bool} {w w' : World} {e : Ending} (hg : good l = true ↔ tl.all isD = true) (hv : valZ l = if sg then -(num tl : Int) else num tl) (h : ParsePost tl sg w e w') : ParseSaid l w e w' := by
  obtain ⟨h1, h2, h3⟩ := h
  refine ⟨fun g => ?_, fun g => h2 ?_, h3⟩
  · rw [hv]; exact h1 (hg.1 g)
  · cases hc : tl.all isD with
    | false => rfl
    | true => rw [hg.2 hc] at g; cases g

theorem parse_c (s : ByteArray) (hs : s.size ≤ 140737488351232) (w : World) : Calls Tryd.prog 7 #[.string s] w (ParseSaid (lst s) w) := by
  have hlen := lst_length s
  by_cases h0 : s.size = 0
  · refine (parseF1_w s h0 w).mono fun e w' h => ParseSaid.bad ?_ h
    rw [good_iff]
    intro ⟨_, h1, _⟩
    have : lst s = [] := List.eq_nil_of_length_eq_zero (by omega)
    rw [this] at h1
    exact h1 rfl
  by_cases h2 : 2000 < s.size
  · refine (parseF2_w s h2 hs w).mono fun e w' h => ParseSaid.bad ?_ h
    rw [good_iff]
    intro ⟨h1, _⟩
    omega
  have hp : 0 < s.size := by omega
  have hh := lst_head hp
  by_cases hm : s[0] = 45
  · have hmm : (lst s).head? = some 45 := by rw [hh, hm]
    have htl : tailOf (lst s) = lst (s.extract 1 s.size) := by rw [tailOf, if_pos hmm, lst_extract]
    have hne48 : ¬ lst s = [48] := by intro h; rw [h] at hmm; simp at hmm
    have hq2 : (s.toList == [48]) = false := by rw [Lib.toList_data]; exact beq_eq_false_iff_ne.2 hne48
    by_cases h1 : s.size = 1
    · refine (parseF3_w s h1 (fun _ => u8_45.2 hm) w).mono fun e w' h => ParseSaid.bad ?_ h
      rw [good_iff, htl]
      intro ⟨_, h3, _⟩
      apply h3
      apply List.eq_nil_of_length_eq_zero
      rw [lst_length, ByteArray.size_extract]
      omega
    · have ht0 : 0 < (s.extract 1 s.size).size := by rw [ByteArray.size_extract]; omega
      have ht1 : (s.extract 1 s.size).size < s.size := by rw [ByteArray.size_extract]; omega
      have hth := lst_head ht0
      by_cases hz : (s.extract 1 s.size)[0] = 48
      · refine (parseF5_w s _ rfl hp (by omega) (u8_45.2 hm) ht0 (u8_48.2 hz) hq2 w).mono fun e w' h => ParseSaid.bad ?_ h
        rw [good_iff, htl]
        intro ⟨_, _, h3, _⟩
        rcases h3 with h3 | h3
        · apply h3; rw [hth, hz]
        · exact hne48 h3
      · have hz' : (((s.extract 1 s.size)[0].toNat : Int) == 48) = false := by
          cases hb : (((s.extract 1 s.size)[0].toNat : Int) == 48) with
          | false => rfl
          | true => exact absurd (u8_48.1 hb) hz
        refine (parseM_w s _ rfl hp (by omega) (u8_45.2 hm) ht0 ht1 ?_ hz' w).mono fun e w' h => ParseSaid.of ?_ ?_ h
        · intro ha
          cases hc : lst (s.extract 1 s.size) with
          | nil => rw [hc] at hth; simp at hth
          | cons c t =>
            rw [hc] at ha hth
            refine (decN_num ha ?_).2
            intro hc48
            apply hz
            simp at hth
            rw [← hth, hc48]
        · rw [good_iff, htl]
          constructor
          · exact fun h => h.2.2.2
          · intro h
            refine ⟨by omega, ?_, Or.inl ?_, h⟩
            · intro h3
              rw [h3] at hth; simp at hth
            · rw [hth]; intro h3; exact hz (Option.some.inj h3)
        · rw [valZ, if_pos hmm, htl]; simp
  · have hmm : ¬ (lst s).head? = some 45 := by rw [hh]; intro h; exact hm (Option.some.inj h)
    have htl : tailOf (lst s) = lst s := by rw [tailOf, if_neg hmm]
    have hm' : ((s[0].toNat : Int) == 45) = false := by
      cases hb : ((s[0].toNat : Int) == 45) with
      | false => rfl
      | true => exact absurd (u8_45.1 hb) hm
    have hne : lst s ≠ [] := by intro h; rw [h] at hh; simp at hh
    by_cases hz : s[0] = 48
    · by_cases h48 : lst s = [48]
      · refine (parse0_w s hp (by omega) hm' (u8_48.2 hz) ?_ w).mono fun e w' h => ParseSaid.of ?_ ?_ h
        · rw [Lib.toList_data]; exact beq_iff_eq.2 h48
        · rw [good_iff, htl]
          exact ⟨fun h => h.2.2.2, fun h => ⟨by omega, hne, Or.inr h48, h⟩⟩
        · rw [valZ, if_neg hmm, htl]; simp
      · refine (parseF4_w s hp (by omega) hm' (u8_48.2 hz) ?_ w).mono fun e w' h => ParseSaid.bad ?_ h
        · rw [Lib.toList_data]; exact beq_eq_false_iff_ne.2 h48
        · rw [good_iff, htl]
          intro ⟨_, _, h3, _⟩
          rcases h3 with h3 | h3
          · apply h3; rw [hh, hz]
          · exact h48 h3
    · have hz' : ((s[0].toNat : Int) == 48) = false := by
        cases hb : ((s[0].toNat : Int) == 48) with
        | false => rfl
        | true => exact absurd (u8_48.1 hb) hz
      refine (parseS_w s hp (by omega) hm' hz' w).mono fun e w' h => ParseSaid.of ?_ ?_ h
      · rw [good_iff, htl]
        refine ⟨fun h => h.2.2.2, fun h => ⟨by omega, hne, Or.inl ?_, h⟩⟩
        rw [hh]; intro h3; exact hz (Option.some.inj h3)
      · rw [valZ, if_neg hmm, htl]; simp
end Go.Proofs.YtahpgnkhophgpaaDoor
