import Derived.Test.YtahpgnkhophgpaaDoorRd
import Derived.Test.YtahpgnkhophgpaaDoorBox
namespace Go.Proofs.YtahpgnkhophgpaaDoor
open Go.RowKit Go.Shelf

/-- A number with a sign. -/
def sgn (b : Bool) (n : Nat) : Int := if b then -(n : Int) else n

theorem signed_s (b : Bool) (v : Value) (n : Nat) (w : World) (h : UN w v n) : Calls Tryd.prog 27 #[.bool b, v] w fun e w' => ∃ u, e = .returned u ∧ IsInt w' u (sgn b n) ∧ Below w.heap.size w w' := signed_c b v n w h

/-- What Parse gives of a text that is no number. -/
def noInt0 : Value := .tuple #[.agg #[.bool false, .slice none 0 0], .bool false]

theorem cut_c (s : ByteArray) (w : World) : Calls Tryd.prog 25 #[.string s, .string ⟨#[45]⟩] w fun e w' => e = .returned (.tuple #[.string ⟨(tailOf (wlst s)).toArray⟩, .bool (decide ((wlst s).head? = some 45))]) ∧ w' = w := by
  refine (Tryd.strings_CutPrefix s ⟨#[45]⟩ w).mono ?_
  rintro e w' ⟨rfl, rfl⟩
  have e1 : Lib.hasPrefix s.data.toList [45] = decide ((wlst s).head? = some 45) := by
    unfold wlst Lib.hasPrefix
    cases s.data.toList with
    | nil => rfl
    | cons c l =>
      rw [Bool.eq_iff_iff]
      simp [List.isPrefixOf]
      exact eq_comm
  refine ⟨?_, rfl⟩
  have e2 : Lib.trimPrefix s.data.toList [45] = tailOf (wlst s) := by
    unfold Lib.trimPrefix tailOf
    rw [e1]
    by_cases h : (wlst s).head? = some 45
    · rw [if_pos (decide_eq_true h), if_pos h, List.length_singleton, List.drop_one]; rfl
    · rw [if_neg (by simp [h]), if_neg h]; rfl
  show Ending.returned (.tuple #[.string ⟨(Lib.trimPrefix s.data.toList [45]).toArray⟩, .bool (Lib.hasPrefix s.data.toList [45])]) = _
  rw [e1, e2]

theorem good_num {l : List UInt8} (h : l.length ≤ 2000) : good l = (isNum (tailOf l) && !(decide (l.head? = some 45) && decide (tailOf l = [48]))) := by
  rw [Bool.eq_iff_iff]
  simp only [good, isNum, Bool.and_eq_true, decide_eq_true_eq, Bool.or_eq_true, Bool.not_eq_true', decide_eq_false_iff_not, List.isEmpty_eq_false_iff, Bool.and_eq_false_iff]
  constructor
  · rintro ⟨⟨⟨_, h1⟩, h2⟩, h3⟩
    refine ⟨⟨h3, ?_⟩, ?_⟩
    · rcases h2 with h2 | h2
      · exact Or.inr ⟨h1, h2⟩
      · left; rw [h2]; rfl
    · rcases h2 with h2 | h2
      · right; intro e; apply h2; rw [e]; rfl
      · left; rw [h2]; simp
  · rintro ⟨⟨h3, h4⟩, h5⟩
    have h1 : tailOf l ≠ [] := by
      rcases h4 with h4 | h4
      · rw [h4]; simp
      · exact h4.1
    refine ⟨⟨⟨h, h1⟩, ?_⟩, h3⟩
    rcases h4 with h4 | h4
    · rcases h5 with h5 | h5
      · right
        have : tailOf l = l := by rw [tailOf, if_neg h5]
        rw [← this]; exact h4
      · exact absurd h4 h5
    · exact Or.inl h4.2

/-- What a call of the program's Parse leaves. -/
def ParseI (l : List UInt8) (w : World) (e : Ending) (w' : World) : Prop :=
  (good l = true → ∃ u, e = .returned (.tuple #[u, .bool true]) ∧ IsInt w' u (valZ l)) ∧ (good l = false → e = .returned noInt0) ∧ Below w.heap.size w w'

theorem ParseI.no {l : List UInt8} {w w' : World} (h : good l = false) (hB : Below w.heap.size w w') : ParseI l w (.returned noInt0) w' :=
  ⟨fun h' => (by rw [h] at h'; cases h'), fun _ => rfl, hB⟩

theorem ParseI.yes {l : List UInt8} {w w' : World} {u : Value} (h : good l = true) (hu : IsInt w' u (valZ l)) (hB : Below w.heap.size w w') : ParseI l w (.returned (.tuple #[u, .bool true])) w' :=
  ⟨fun _ => ⟨u, rfl, hu⟩, fun h' => (by rw [h] at h'; cases h'), hB⟩

set_option maxRecDepth 100000 in
set_option maxHeartbeats 1000000 in
theorem iparseA (s : ByteArray) (h0 : 2000 < s.size) (hs : s.size ≤ 140737488351232) (w : World) : Calls Tryd.prog 6 #[.string s] w (ParseI (wlst s) w) := by
  have HN := hidR (show good (wlst s) = false by
    have := wlst_length s
    simp [good]; omega)
  go_enter Tryd.func6, Tryd.ntmps6
  go_wp2_with (first
    | (go_at_call 25; refine (cut_c _ _).mono ?_; rintro e w' ⟨rfl, rfl⟩))
  exact bodyPost_ret (v := noInt0) (by simp [results, Tryd.results6, go_sem, noInt0]) rfl (ParseI.no HN.out ((Below.refl _ _).alloc (Nat.le_refl _) _))

set_option maxRecDepth 100000 in
set_option maxHeartbeats 1000000 in
theorem iparseB (s : ByteArray) (h0 : s.size ≤ 2000) (hn : isNum (tailOf (wlst s)) = false) (w : World) : Calls Tryd.prog 6 #[.string s] w (ParseI (wlst s) w) := by
  have HG := hidR (show good (wlst s) = false by rw [good_num (by rw [wlst_length]; exact h0), hn]; rfl)
  obtain ⟨tb, htb⟩ : ∃ tb : ByteArray, (⟨(tailOf (wlst s)).toArray⟩ : ByteArray) = tb := ⟨_, rfl⟩
  obtain ⟨sg, hsg⟩ : ∃ sg, decide ((wlst s).head? = some 45) = sg := ⟨_, rfl⟩
  have hc := fun V => cut_c s V
  rw [htb, hsg] at hc
  have hw : wlst tb = tailOf (wlst s) := by rw [← htb]; rfl
  have hts : tb.size ≤ 2000 := by
    rw [← wlst_length, hw, tailOf]
    have := wlst_length s
    split
    · rw [List.length_tail]; omega
    · omega
  have HNB := hidR (fun V => isNumber_w tb (by omega) V)
  rw [hw, hn] at HNB
  have HC := hidR hc
  clear hc hw hn htb hsg
  go_enter Tryd.func6, Tryd.ntmps6
  go_wp2_with (first
    | (go_at_call 25; refine (HC.out _).mono ?_; rintro e w' ⟨rfl, rfl⟩)
    | (go_at_call 26; refine (HNB.out _).mono ?_; rintro e w' ⟨rfl, rfl⟩))
  exact bodyPost_ret (v := noInt0) (by simp [results, Tryd.results6, go_sem, noInt0]) rfl (ParseI.no HG.out ((Below.refl _ _).alloc (Nat.le_refl _) _))

set_option maxRecDepth 100000 in
set_option maxHeartbeats 1000000 in
theorem iparseC (s : ByteArray) (h0 : s.size ≤ 2000) (hn : isNum (tailOf (wlst s)) = true) (hm : (wlst s).head? = some 45) (hz : tailOf (wlst s) = [48]) (w : World) : Calls Tryd.prog 6 #[.string s] w (ParseI (wlst s) w) := by
  have HG := hidR (show good (wlst s) = false by rw [good_num (by rw [wlst_length]; exact h0), hn, hz]; simp [hm])
  have hc := fun V => cut_c s V
  rw [hz, decide_eq_true hm] at hc
  have HNB := hidR (fun V => isNumber_w ⟨[48].toArray⟩ (by decide) V)
  have HC := hidR hc
  clear hc hn hm hz
  go_enter Tryd.func6, Tryd.ntmps6
  go_wp2_with (first
    | (go_at_call 25; refine (HC.out _).mono ?_; rintro e w' ⟨rfl, rfl⟩)
    | (go_at_call 26; refine (HNB.out _).mono ?_; rintro e w' ⟨rfl, rfl⟩))
  exact bodyPost_ret (v := noInt0) (by simp [results, Tryd.results6, go_sem, noInt0]) rfl (ParseI.no HG.out ((Below.refl _ _).alloc (Nat.le_refl _) _))

set_option maxRecDepth 100000 in
set_option maxHeartbeats 2000000 in
theorem iparseD (s tb : ByteArray) (sg : Bool) (h0 : s.size ≤ 2000) (HG : Hid (good (wlst s) = true)) (HC : Hid (∀ V, Calls Tryd.prog 25 #[.string s, .string ⟨#[45]⟩] V fun e w' => e = .returned (.tuple #[.string tb, .bool sg]) ∧ w' = V))
    (HNB : Hid (∀ V, Calls Tryd.prog 26 #[.string tb] V fun e w' => e = .returned (.bool true) ∧ w' = V)) (HR : Hid (∀ V, Calls Tryd.prog 28 #[.string tb] V fun e w' => ∃ u, e = .returned u ∧ UN w' u (num (wlst tb)) ∧ Below V.heap.size V w'))
    (hz : sg = true → (tb.toList == [48]) = false) (HV : Hid (valZ (wlst s) = sgn sg (num (wlst tb)))) (w : World) : Calls Tryd.prog 6 #[.string s] w (ParseI (wlst s) w) := by
  have bR := Box2.new w 25 (.bool false) (.slice none 0 0)
  have hB0 : Below w.heap.size w (w.alloc (.cells #[.bool false, .slice none 0 0] 25)) := (Below.refl _ _).alloc (Nat.le_refl _) _
  cases sg
  · clear hz
    go_enter Tryd.func6, Tryd.ntmps6
    go_wp2_with (first
      | (go_at_call 25; refine (HC.out _).mono ?_; rintro e w' ⟨rfl, rfl⟩)
      | (go_at_call 26; refine (HNB.out _).mono ?_; rintro e w' ⟨rfl, rfl⟩)
      | (go_at_call 28; refine (HR.out _).mono ?_; rintro e w1 ⟨u, rfl, hu, hb1⟩; obtain ⟨au, cu, rfl⟩ := hu.form; have bR := bR.below hb1; have hB0 := Below.then hB0 hb1)
      | (go_at_call 27; refine (signed_s _ _ _ _ hu).mono ?_; rintro e w2 ⟨v, rfl, hv, hb2⟩; have bR := bR.below hb2; have hB0 := Below.then hB0 hb2; rw [← HV.out] at hv; obtain ⟨a3, l3, c3, rfl, hr3⟩ := hv; have q0 := bR.c0; have q1 := bR.c1; have f0 := bR.f0; have f1 := bR.f1))
    obtain ⟨hr, hB2⟩ := set2_fin (.bool (decide (valZ (wlst s) < 0))) (.slice a3 l3 c3) hB0 (Nat.le_refl _) bR rfl rfl hr3
    exact bodyPost_ret (v := .tuple #[.agg #[.bool (decide (valZ (wlst s) < 0)), .slice a3 l3 c3], .bool true]) (by simp [results, Tryd.results6, go_sem, q0, q1]) rfl (ParseI.yes HG.out ⟨a3, l3, c3, rfl, hr⟩ hB2)
  · have hz2 := hz rfl
    clear hz
    go_enter Tryd.func6, Tryd.ntmps6
    go_wp2_with (first
      | (go_at_call 25; refine (HC.out _).mono ?_; rintro e w' ⟨rfl, rfl⟩)
      | (go_at_call 26; refine (HNB.out _).mono ?_; rintro e w' ⟨rfl, rfl⟩)
      | (go_at_call 28; refine (HR.out _).mono ?_; rintro e w1 ⟨u, rfl, hu, hb1⟩; obtain ⟨au, cu, rfl⟩ := hu.form; have bR := bR.below hb1; have hB0 := Below.then hB0 hb1)
      | (go_at_call 27; refine (signed_s _ _ _ _ hu).mono ?_; rintro e w2 ⟨v, rfl, hv, hb2⟩; have bR := bR.below hb2; have hB0 := Below.then hB0 hb2; rw [← HV.out] at hv; obtain ⟨a3, l3, c3, rfl, hr3⟩ := hv; have q0 := bR.c0; have q1 := bR.c1; have f0 := bR.f0; have f1 := bR.f1))
    obtain ⟨hr, hB2⟩ := set2_fin (.bool (decide (valZ (wlst s) < 0))) (.slice a3 l3 c3) hB0 (Nat.le_refl _) bR rfl rfl hr3
    exact bodyPost_ret (v := .tuple #[.agg #[.bool (decide (valZ (wlst s) < 0)), .slice a3 l3 c3], .bool true]) (by simp [results, Tryd.results6, go_sem, q0, q1]) rfl (ParseI.yes HG.out ⟨a3, l3, c3, rfl, hr⟩ hB2)

theorem iparse_c (s : ByteArray) (hs : s.size ≤ 140737488351232) (w : World) : Calls Tryd.prog 6 #[.string s] w (ParseI (wlst s) w) := by
  by_cases h0 : 2000 < s.size
  · exact iparseA s h0 hs w
  have h1 : s.size ≤ 2000 := by omega
  cases hn : isNum (tailOf (wlst s))
  · exact iparseB s h1 hn w
  by_cases hc : (wlst s).head? = some 45 ∧ tailOf (wlst s) = [48]
  · exact iparseC s h1 hn hc.1 hc.2 w
  have hg : good (wlst s) = true := by
    rw [good_num (by rw [wlst_length]; exact h1), hn]
    by_cases h2 : (wlst s).head? = some 45
    · have h3 : ¬ tailOf (wlst s) = [48] := fun h => hc ⟨h2, h⟩
      simp [h3]
    · simp [h2]
  have hall : (tailOf (wlst s)).all isD = true := by
    unfold isNum at hn
    rw [Bool.and_eq_true] at hn
    exact hn.1
  have hw : wlst (⟨(tailOf (wlst s)).toArray⟩ : ByteArray) = tailOf (wlst s) := rfl
  have hts : (⟨(tailOf (wlst s)).toArray⟩ : ByteArray).size ≤ 2000 := by
    rw [← wlst_length, hw, tailOf]
    have := wlst_length s
    split
    · rw [List.length_tail]; omega
    · omega
  refine iparseD s ⟨(tailOf (wlst s)).toArray⟩ (decide ((wlst s).head? = some 45)) h1 hg (fun V => cut_c s V) (fun V => ?_) (fun V => ?_) (fun h => ?_) ?_ w
  · have := isNumber_w ⟨(tailOf (wlst s)).toArray⟩ (by omega) V
    rw [hw, hn] at this
    exact this
  · exact read_w ⟨(tailOf (wlst s)).toArray⟩ (by rw [hw]; exact hall) hts V
  · rw [Lib.toList_data]
    exact beq_eq_false_iff_ne.2 (fun h3 => hc ⟨of_decide_eq_true h, h3⟩)
  · show valZ (wlst s) = _
    rw [hw, valZ, sgn]
    by_cases h2 : (wlst s).head? = some 45
    · simp [h2]
    · simp [h2]
end Go.Proofs.YtahpgnkhophgpaaDoor
