import Derived.Test.YtcahejkcdcjjgaaGreatDoorK43
import Derived.Test.YtcahejkcdcjjgaaGreatDoorK45
import Derived.Test.YtcahejkcdcjjgaaGreatDoorK35
namespace Go.Proofs.YtcahejkcdcjjgaaGreatDoor
open Go.RowKit Go.Shelf

/-! A polynomial's text is read as that polynomial. -/
theorem skB_at {l : List UInt8} {I : Nat} {t : List UInt8} (h : l.drop I = t) (ht : t.head? ≠ some 32) : skB l I = I := by
  unfold skB runTo
  rw [h]
  cases t with
  | nil => rfl
  | cons a t =>
    rw [List.takeWhile_cons_of_neg (by intro e; exact ht (by rw [beq_iff_eq] at e; rw [e]; rfl))]
    rfl
theorem isAt_at {l : List UInt8} {I : Nat} {t : List UInt8} (h : l.drop I = t) (c : UInt8) : isAt l I c = (t.head? == some c) := by
  unfold isAt
  rw [← h, List.head?_drop]
theorem drop_more {l A B : List UInt8} {I : Nat} (h : l.drop I = A ++ B) : l.drop (I + A.length) = B := by
  rw [← List.drop_drop, h, List.drop_append_of_le_length (Nat.le_refl _), List.drop_length, List.nil_append]
theorem dgE_at {l D Z : List UInt8} {I : Nat} (h : l.drop I = D ++ Z) (hD : D.all isD = true) (hZ : ∀ c, Z.head? = some c → isD c = false) : dgE l I = I + D.length := by
  unfold dgE runTo
  rw [h, List.takeWhile_append_of_pos (fun a ha => List.all_eq_true.1 hD a ha)]
  have : Z.takeWhile isD = [] := by
    cases Z with
    | nil => rfl
    | cons a t => rw [List.takeWhile_cons_of_neg (by rw [hZ a rfl]; decide)]
  rw [this, List.append_nil]
theorem dig_ne {c d : UInt8} (h : isD c = true) (hd : isD d = false) : c ≠ d := fun e => by rw [e, hd] at h; cases h
theorem numS_at {l D Z : List UInt8} {I : Nat} (h : l.drop I = D ++ Z) (hD : D.all isD = true) (h0 : D ≠ []) (hZ : ∀ c, Z.head? = some c → isD c = false) : numS l I = if 12 < D.length then .bad 3 I else .ok (D, I) (I + D.length) := by
  have hs : skB l I = I := skB_at h (by
    cases D with
    | nil => exact absurd rfl h0
    | cons a t =>
      intro e
      have e := Option.some.inj e
      have ha := List.all_eq_true.1 hD a (List.mem_cons_self ..)
      rw [e] at ha
      exact absurd ha (by decide))
  have hl : 0 < D.length := List.length_pos_iff.2 h0
  unfold numS
  rw [hs, dgE_at h hD hZ, if_neg (by omega), Nat.add_sub_cancel_left, h, List.take_left' rfl]
theorem decN_dig (n : Nat) : (decN n).all isD = true ∧ num (decN n) = n ∧ decN n ≠ [] := by
  by_cases h : n = 0
  · subst h; decide
  · obtain ⟨c, t, h1, _, _, h2, h3⟩ := decN_head h
    rw [h1]; exact ⟨h2, h3, by simp⟩
/-- A fraction's text, from 0 up: the digits above, and those below. -/
theorem coefS_at {l Z : List UInt8} {I k : Nat} {q c : Rat} (hq : ¬ q < 0) (h : l.drop I = textQ q ++ Z) (hZ : ∀ c, Z.head? = some c → isD c = false ∧ c ≠ 47 ∧ c ≠ 32) (hr : coefS l I = .ok c k) : c = q ∧ k = I + (textQ q).length := by
  have hn : ¬ q.num < 0 := fun h2 => hq (neg_num.2 h2)
  obtain ⟨a, ha⟩ : ∃ a : Nat, q.num = (a : Int) := ⟨q.num.toNat, by omega⟩
  have hdz : decZ q.num = decN a := by rw [ha]; unfold decZ; rw [if_neg (by omega)]; rfl
  have hdd : decZ (q.den : Int) = decN q.den := by unfold decZ; rw [if_neg (by omega)]; rfl
  obtain ⟨d1, d2, d3⟩ := decN_dig a
  obtain ⟨b1, b2, b3⟩ := decN_dig q.den
  unfold textQ at h ⊢
  by_cases h1 : q.den = 1
  · rw [if_pos h1, hdz] at h ⊢
    have hN := numS_at h d1 d3 (fun c hc => (hZ c hc).1)
    unfold coefS at hr
    rw [hN] at hr
    by_cases h12 : 12 < (decN a).length
    · rw [if_pos h12] at hr; cases hr
    · rw [if_neg h12] at hr
      have hm := drop_more h
      have hs : skB l (I + (decN a).length) = I + (decN a).length := skB_at hm (fun e => (hZ _ e).2.2 rfl)
      simp only [hs, isAt_at hm, d2] at hr
      rw [if_neg (by intro e; rw [beq_iff_eq] at e; exact (hZ _ e).2.1 rfl)] at hr
      cases hr
      refine ⟨?_, rfl⟩
      rw [← divInt_one a, ← ha]
      have e := Rat.num_divInt_den q
      rw [h1] at e
      exact e
  · rw [if_neg h1, hdz, hdd] at h ⊢
    rw [List.append_assoc, List.cons_append] at h
    have hN := numS_at (Z := 47 :: (decN q.den ++ Z)) h d1 d3 (fun c hc => by cases hc; decide)
    unfold coefS at hr
    rw [hN] at hr
    by_cases h12 : 12 < (decN a).length
    · rw [if_pos h12] at hr; cases hr
    · rw [if_neg h12] at hr
      have hm := drop_more h
      have hs : skB l (I + (decN a).length) = I + (decN a).length := skB_at hm (by simp)
      have hm2 : l.drop (I + (decN a).length + 1) = decN q.den ++ Z := drop_more (A := [47]) (by rw [hm]; rfl)
      have hN2 := numS_at hm2 b1 b3 (fun c hc => (hZ c hc).1)
      simp only [hs, isAt_at hm, d2] at hr
      rw [if_pos (by simp)] at hr
      simp only [hN2] at hr
      by_cases h13 : 12 < (decN q.den).length
      · rw [if_pos h13] at hr; cases hr
      · rw [if_neg h13] at hr
        simp only [b2] at hr
        rw [if_neg q.den_nz] at hr
        cases hr
        refine ⟨?_, by rw [List.length_append, List.length_cons]; omega⟩
        rw [← ha]
        exact Rat.num_divInt_den q
theorem textQ_one {q : Rat} (h : textQ q = [49]) : q = 1 := by
  have hd : q.den = 1 := by
    by_cases h1 : q.den = 1
    · exact h1
    · exfalso
      unfold textQ at h
      rw [if_neg h1] at h
      have hl := congrArg List.length h
      rw [List.length_append, List.length_cons] at hl
      have h3 : (decZ (q.den : Int)).length ≠ 0 := by
        intro e
        have h4 := (decN_dig q.den).2.2
        unfold decZ at e
        rw [if_neg (by omega)] at e
        exact h4 (List.length_eq_zero_iff.1 e)
      simp at hl
      omega
  unfold textQ at h
  rw [if_pos hd] at h
  have h2 := dec_good (z := q.num) (by rw [h]; simp)
  rw [h] at h2
  have h3 : q.num = 1 := h2.2.symm.trans (by decide)
  rw [← Rat.num_divInt_den q, h3, hd]
  decide +kernel
theorem absQ_nn (c : Rat) : ¬ absQ c < 0 := fun h => by
  have h1 := neg_num.1 h
  rw [(absQ_num c).1] at h1
  omega
/-- What may stand behind a term. -/
def Stops (Z : List UInt8) : Prop := Z = [] ∨ ∃ t, Z = 43 :: t ∨ Z = 45 :: t
theorem Stops.head {Z : List UInt8} (h : Stops Z) {c : UInt8} (hc : Z.head? = some c) : isD c = false ∧ c ≠ 47 ∧ c ≠ 32 ∧ c ≠ 120 ∧ c ≠ 94 := by
  rcases h with rfl | ⟨t, rfl | rfl⟩
  · cases hc
  · cases hc; decide
  · cases hc; decide
theorem powS_at {l Z : List UInt8} {I n k j : Nat} (hj : j ≠ 0) (h : l.drop I = powL j ++ Z) (hZ : Stops Z) (hj8 : j ≤ 8) (hr : powS l (I + 1) = .ok n k) : n = j ∧ k = I + (powL j).length := by
  unfold powL at h ⊢
  rw [if_neg hj] at h ⊢
  by_cases h1 : j = 1
  · rw [if_pos h1] at h ⊢
    have hm : l.drop (I + 1) = Z := drop_more (A := [120]) h
    have hs : skB l (I + 1) = I + 1 := skB_at hm (fun e => (hZ.head e).2.2.1 rfl)
    unfold powS at hr
    rw [hs, isAt_at hm, if_neg (by intro e; rw [beq_iff_eq] at e; exact (hZ.head e).2.2.2.2 rfl)] at hr
    cases hr
    exact ⟨h1.symm, rfl⟩
  · rw [if_neg h1] at h ⊢
    have hm : l.drop (I + 1) = 94 :: (decN j ++ Z) := drop_more (A := [120]) h
    have hs : skB l (I + 1) = I + 1 := skB_at hm (by simp)
    have hm2 : l.drop (I + 1 + 1) = decN j ++ Z := drop_more (A := [94]) hm
    obtain ⟨d1, d2, d3⟩ := decN_dig j
    have hN := numS_at hm2 d1 d3 (fun c hc => (hZ.head hc).1)
    unfold powS at hr
    rw [hs, isAt_at hm, if_pos (by simp), hN] at hr
    by_cases h12 : 12 < (decN j).length
    · rw [if_pos h12] at hr; cases hr
    · rw [if_neg h12] at hr
      simp only [d2] at hr
      rw [if_neg (by omega)] at hr
      cases hr
      exact ⟨rfl, by rw [List.length_cons, List.length_cons]; omega⟩
/-- A term's text is read as that term. -/
theorem termS_at {l Z : List UInt8} {I n k j : Nat} {c c' : Rat} (h : l.drop I = coefL c j ++ (powL j ++ Z)) (hZ : Stops Z) (hj8 : j ≤ 8) (hr : termS l I = .ok (c', n) k) : c' = absQ c ∧ n = j ∧ k = I + ((coefL c j).length + (powL j).length) := by
  rw [termS_eq] at hr
  have hpz : ∀ d, (powL j ++ Z).head? = some d → isD d = false ∧ d ≠ 47 ∧ d ≠ 32 := by
    intro d hd
    by_cases hj : j = 0
    · rw [show powL j = [] by unfold powL; rw [if_pos hj], List.nil_append] at hd
      exact ⟨(hZ.head hd).1, (hZ.head hd).2.1, (hZ.head hd).2.2.1⟩
    · have : d = 120 := by
        unfold powL at hd
        rw [if_neg hj] at hd
        split at hd <;> (cases hd; rfl)
      subst this
      decide
  -- the coefficient
  have hh : ∀ c0 k0, headS l I = .ok c0 k0 → c0 = absQ c ∧ k0 = I + (coefL c j).length := by
    intro c0 k0 he
    unfold coefL at h ⊢
    unfold headS at he
    by_cases hc : textQ (absQ c) = [49] ∧ 0 < j
    · rw [if_pos hc] at h ⊢
      rw [List.nil_append] at h
      have hj : j ≠ 0 := by omega
      have hx : (powL j ++ Z).head? = some 120 := by
        unfold powL
        rw [if_neg hj]
        split <;> rfl
      have hs : skB l I = I := skB_at h (by rw [hx]; decide)
      rw [hs, isAt_at h, hx, if_pos (by decide)] at he
      cases he
      exact ⟨(textQ_one hc.1).symm, rfl⟩
    · rw [if_neg hc] at h ⊢
      have hd0 : ∀ d, (textQ (absQ c) ++ (powL j ++ Z)).head? = some d → isD d = true := by
        intro d hd
        have hn : ¬ (absQ c).num < 0 := fun h2 => absQ_nn c (neg_num.2 h2)
        have hz : decZ (absQ c).num = decN (absQ c).num.natAbs := by unfold decZ; rw [if_neg hn]
        obtain ⟨d1, _, d3⟩ := decN_dig (absQ c).num.natAbs
        have : ∃ x t, textQ (absQ c) = x :: t ∧ isD x = true := by
          cases hdn : decN (absQ c).num.natAbs with
          | nil => exact absurd hdn d3
          | cons x t =>
            rw [hdn] at d1 hz
            refine ⟨x, ?_⟩
            have hx := List.all_eq_true.1 d1 x (List.mem_cons_self ..)
            unfold textQ
            rw [hz]
            split
            · exact ⟨t, rfl, hx⟩
            · exact ⟨t ++ 47 :: decZ ((absQ c).den : Int), rfl, hx⟩
        obtain ⟨x, t, e, hx⟩ := this
        rw [e] at hd
        cases hd
        exact hx
      have hs : skB l I = I := skB_at h (fun e => absurd (hd0 _ e) (by decide))
      rw [hs, isAt_at h, if_neg (by intro e; rw [beq_iff_eq] at e; exact absurd (hd0 _ e) (by decide))] at he
      exact coefS_at (absQ_nn c) h hpz he
  cases hd : headS l I with
  | bad e p => rw [hd] at hr; cases hr
  | ok c0 k0 =>
    rw [hd] at hr
    obtain ⟨e1, e2⟩ := hh c0 k0 hd
    have hm := drop_more h
    rw [← e2] at hm
    have hs : skB l k0 = k0 := skB_at hm (fun e => (hpz _ e).2.2 rfl)
    simp only [hs] at hr
    by_cases hj : j = 0
    · have hp0 : powL j = [] := by unfold powL; rw [if_pos hj]
      rw [hp0, List.nil_append] at hm
      rw [isAt_at hm, if_neg (by intro e; rw [beq_iff_eq] at e; exact (hZ.head e).2.2.2.1 rfl)] at hr
      cases hr
      exact ⟨e1, hj.symm, by rw [hp0, e2]; rfl⟩
    · have hx : (powL j ++ Z).head? = some 120 := by
        unfold powL
        rw [if_neg hj]
        split <;> rfl
      rw [isAt_at hm, hx, if_pos (by decide)] at hr
      cases hp : powS l (k0 + 1) with
      | bad e p => rw [hp] at hr; cases hr
      | ok n0 m0 =>
        rw [hp] at hr
        cases hr
        obtain ⟨g1, g2⟩ := powS_at hj hm hZ hj8 hp
        exact ⟨e1, g1, by rw [g2, e2]; omega⟩

/-- The terms of the powers below m, behind others. -/
def lowT (ps : List Rat) : Nat → List UInt8
  | 0 => []
  | m + 1 => (if cf ps m = 0 then [] else termL (cf ps m) m false) ++ lowT ps m
theorem polyT_low (ps : List Rat) : ∀ m, m ≤ ps.length → polyT (ps.drop m) m ≠ [] → polyT ps 0 = polyT (ps.drop m) m ++ lowT ps m := by
  intro m
  induction m with
  | zero => intro _ _; rw [List.drop_zero, lowT, List.append_nil]
  | succ m ih =>
    intro hm hne
    have hd := polyT_drop ps (by omega : m < ps.length)
    have he : (polyT (ps.drop (m + 1)) (m + 1)).isEmpty = false := by
      cases h : polyT (ps.drop (m + 1)) (m + 1) with
      | nil => exact absurd h hne
      | cons a t => rfl
    rw [he] at hd
    rw [lowT]
    by_cases hc : cf ps m = 0
    · rw [if_pos hc] at hd ⊢
      rw [ih (by omega) (by rw [hd]; exact hne), hd, List.nil_append]
    · rw [if_neg hc] at hd ⊢
      rw [ih (by omega) (by rw [hd]; intro e; exact hne (List.append_eq_nil_iff.1 e).1), hd, List.append_assoc]
theorem lowT_next (ps : List Rat) : ∀ m, (lowT ps m = [] ∧ ∀ i, i < m → cf ps i = 0) ∨ ∃ j, j < m ∧ cf ps j ≠ 0 ∧ (∀ i, j < i → i < m → cf ps i = 0) ∧ lowT ps m = termL (cf ps j) j false ++ lowT ps j := by
  intro m
  induction m with
  | zero => exact Or.inl ⟨rfl, fun i hi => absurd hi (Nat.not_lt_zero _)⟩
  | succ m ih =>
    by_cases hc : cf ps m = 0
    · rw [lowT, if_pos hc, List.nil_append]
      rcases ih with ⟨h1, h2⟩ | ⟨j, h1, h2, h3, h4⟩
      · exact Or.inl ⟨h1, fun i hi => by by_cases e : i = m; · rw [e]; exact hc
                                         · exact h2 i (by omega)⟩
      · exact Or.inr ⟨j, by omega, h2, fun i a b => by by_cases e : i = m; · rw [e]; exact hc
                                                       · exact h3 i a (by omega), h4⟩
    · exact Or.inr ⟨m, by omega, hc, fun i a b => by omega, by rw [lowT, if_neg hc]⟩
theorem signL_two (c : Rat) : signL c false = if c < 0 then [45] else [43] := by unfold signL; split <;> rfl
theorem lowT_stops (ps : List Rat) (m : Nat) : Stops (lowT ps m) := by
  rcases lowT_next ps m with ⟨h, _⟩ | ⟨j, _, _, _, h⟩
  · exact Or.inl h
  · rw [h]
    unfold termL
    rw [signL_two]
    right
    split
    · exact ⟨_, Or.inr rfl⟩
    · exact ⟨_, Or.inl rfl⟩
theorem sumS_back {l : List UInt8} {ps : List Rat} : ∀ (f I j k : Nat) (b : Bool) (S S' : List Rat), j ≤ 8 → cf ps j ≠ 0 → b = decide (cf ps j < 0) → I ≤ l.length → l.drop I = coefL (cf ps j) j ++ (powL j ++ lowT ps j) → S.length = 9 → (∀ i, cf S i = if j < i then cf ps i else 0) → sumS l f b I S = .ok S' k → S'.length = 9 ∧ ∀ i, cf S' i = cf ps i := by
  intro f
  induction f with
  | zero => intro I j k b S S' _ _ _ _ _ _ _ h; cases h
  | succ f ih =>
    intro I j k b S S' hj8 hc hb hI hd hl hS h
    cases ht : termS l I with
    | bad e p => rw [sumS_bad ht] at h; cases h
    | ok a k5 =>
      obtain ⟨c', n⟩ := a
      obtain ⟨rfl, rfl, hk5⟩ := termS_at hd (lowT_stops ps j) hj8 ht
      have hlt := termS_lt hI ht
      have hm : l.drop k5 = lowT ps n := by
        rw [hk5, ← Nat.add_assoc]
        exact drop_more (drop_more hd)
      rw [sumS_ok ht] at h
      obtain ⟨S1, hS1⟩ : ∃ S1, S.set n (if b then cf S n - absQ (cf ps n) else cf S n + absQ (cf ps n)) = S1 := ⟨_, rfl⟩
      rw [hS1] at h
      have hl1 : S1.length = 9 := by rw [← hS1, List.length_set]; exact hl
      have h1 : ∀ i, cf S1 i = if n ≤ i then cf ps i else 0 := by
        intro i
        rw [← hS1, cf_set _ _ _ _ (by rw [hl]; omega)]
        by_cases e : i = n
        · rw [if_pos e, e, show (if n ≤ n then cf ps n else 0) = cf ps n from if_pos (Nat.le_refl _), hS n, show (if n < n then cf ps n else 0) = 0 from if_neg (Nat.lt_irrefl _)]
          by_cases hneg : cf ps n < 0
          · rw [hb, decide_eq_true hneg, if_pos rfl, absQ_neg hneg]; grind
          · rw [hb, decide_eq_false hneg, if_neg (by decide), absQ_pos hneg]; grind
        · rw [if_neg e, hS i]
          by_cases e2 : n < i
          · rw [if_pos e2, if_pos (by omega)]
          · rw [if_neg e2, if_neg (by omega)]
      have hs : skB l k5 = k5 := skB_at hm (fun e => ((lowT_stops ps n).head e).2.2.1 rfl)
      rw [hs, isAt_at hm, isAt_at hm] at h
      rcases lowT_next ps n with ⟨h2, h3⟩ | ⟨j', h2, h3, h4, h5⟩
      · rw [h2] at hm h
        rw [if_neg (by decide), if_neg (by decide)] at h
        have hke : k5 = l.length := by
          have := congrArg List.length hm
          rw [List.length_drop] at this
          simp at this
          omega
        rw [if_pos hke] at h
        cases h
        refine ⟨hl1, fun i => ?_⟩
        rw [h1 i]
        by_cases e : n ≤ i
        · rw [if_pos e]
        · rw [if_neg e, h3 i (by omega)]
      · have h1' : ∀ i, cf S1 i = if j' < i then cf ps i else 0 := by
          intro i
          rw [h1 i]
          by_cases e : n ≤ i
          · rw [if_pos e, if_pos (by omega)]
          · rw [if_neg e]
            by_cases e2 : j' < i
            · rw [if_pos e2, h4 i e2 (by omega)]
            · rw [if_neg e2]
        have hk1 : k5 + 1 ≤ l.length := by
          have e := congrArg List.length hm
          rw [List.length_drop, h5] at e
          have : (termL (cf ps j') j' false).length ≠ 0 := fun e0 => termL_ne _ _ _ (List.length_eq_zero_iff.1 e0)
          rw [List.length_append] at e
          omega
        by_cases hneg : cf ps j' < 0
        · have h6 : lowT ps n = 45 :: (coefL (cf ps j') j' ++ (powL j' ++ lowT ps j')) := by
            rw [h5]; unfold termL; rw [signL_two, if_pos hneg]; simp
          rw [h6] at hm h
          rw [if_neg (by simp), if_pos (by simp)] at h
          exact ih _ j' _ _ _ _ (by omega) h3 (by rw [decide_eq_true hneg]) hk1 (drop_more (A := [45]) hm) hl1 h1' h
        · have h6 : lowT ps n = 43 :: (coefL (cf ps j') j' ++ (powL j' ++ lowT ps j')) := by
            rw [h5]; unfold termL; rw [signL_two, if_neg hneg]; simp
          rw [h6] at hm h
          rw [if_pos (by simp)] at h
          exact ih _ j' _ _ _ _ (by omega) h3 (by rw [decide_eq_false hneg]) hk1 (drop_more (A := [43]) hm) hl1 h1' h

theorem sumS_pos {l : List UInt8} : ∀ (f : Nat) (b : Bool) (I : Nat) (S : List Rat) (e p : Nat), sumS l (f + 1) b I S = .bad e p → I ≤ l.length → l.length - I < f + 1 → e ≠ 0 := by
  intro f
  induction f with
  | zero =>
    intro b I S e p h hI hf
    cases ht : termS l I with
    | bad e' p' => rw [sumS_bad ht] at h; cases h; exact termS_pos l I _ _ ht
    | ok a k5 =>
      obtain ⟨c, n⟩ := a
      have := termS_lt hI ht
      omega
  | succ f ih =>
    intro b I S e p h hI hf
    cases ht : termS l I with
    | bad e' p' => rw [sumS_bad ht] at h; cases h; exact termS_pos l I _ _ ht
    | ok a k5 =>
      obtain ⟨c, n⟩ := a
      have h1 := termS_lt hI ht
      have h3 := skB_ge l k5
      rw [sumS_ok ht] at h
      split at h
      · rename_i h5; have := isAt_lt h5; exact ih _ _ _ _ _ h (by omega) (by omega)
      · split at h
        · rename_i h5; have := isAt_lt h5; exact ih _ _ _ _ _ h (by omega) (by omega)
        · split at h
          · cases h
          · cases h; decide
theorem coefL_head (c : Rat) (j : Nat) (Z : List UInt8) (d : UInt8) (h : (coefL c j ++ (powL j ++ Z)).head? = some d) : d ≠ 32 ∧ d ≠ 45 := by
  unfold coefL at h
  split at h
  · rename_i hc
    unfold powL at h
    rw [if_neg (by omega)] at h
    split at h <;> (cases h; decide)
  · have hn : ¬ (absQ c).num < 0 := fun h2 => absQ_nn c (neg_num.2 h2)
    have hz : decZ (absQ c).num = decN (absQ c).num.natAbs := by unfold decZ; rw [if_neg hn]
    obtain ⟨d1, _, d3⟩ := decN_dig (absQ c).num.natAbs
    cases hdn : decN (absQ c).num.natAbs with
    | nil => exact absurd hdn d3
    | cons x t =>
      rw [hdn] at d1 hz
      have hx := List.all_eq_true.1 d1 x (List.mem_cons_self ..)
      have hxd : x = d := by
        unfold textQ at h
        rw [hz] at h
        split at h <;> (cases h; rfl)
      rw [← hxd]
      exact ⟨dig_ne hx (by decide), dig_ne hx (by decide)⟩

/-- A polynomial's text, if it is read at all, is read as that polynomial. -/
theorem parseP_back {ps : List Rat} (htr : trimQ ps = ps) (hl : ps.length ≤ 9) (h : (parseP (textP ps)).2.1 = 0) : (parseP (textP ps)).1 = ps := by
  have hlen : ¬ 300 < (textP ps).length := by
    intro h2
    unfold parseP at h
    rw [if_pos h2] at h
    cases h
  rcases List.eq_nil_or_concat ps with hn | ⟨qs, c, hps⟩
  · rw [hn, show textP [] = [48] from by decide, show parseP [48] = ([], 0, 0) by decide +kernel]
  rw [List.concat_eq_append] at hps
  rw [parseP_eq hlen] at h ⊢
  cases ht : totS (textP ps) with
  | bad e p =>
    rw [ht] at h
    have hp : e ≠ 0 := by
      intro e0
      unfold totS at ht
      have h4 := skB_le (l := textP ps) (i := 0) (by omega)
      split at ht
      · rename_i h5; have := isAt_lt h5; exact sumS_pos _ _ _ _ _ _ ht (by omega) (by omega) e0
      · exact sumS_pos _ _ _ _ _ _ ht h4 (by omega) e0
    exact absurd h hp
  | ok S k =>
    show trimQ S = ps
    have hd : ps.length = qs.length + 1 := by rw [hps]; simp
    have hcf : cf ps qs.length = c := by rw [hps]; simp [cf]
    have hc : c ≠ 0 := by
      intro h0
      have h1 : trimQ ps = trimQ qs := trim_ext fun i => by
        by_cases hi : i < qs.length
        · rw [hps]; simp [cf, List.getElem?_append_left hi]
        · rw [cf_ge (p := qs) (by omega)]
          by_cases hi2 : i = qs.length
          · rw [hi2, hcf, h0]
          · rw [cf_ge (by omega)]
      have h2 := trim_length_le qs
      rw [← h1, htr] at h2
      omega
    clear hps
    have hT : polyT (ps.drop qs.length) qs.length = termL c qs.length true := by
      rw [polyT_drop ps (by omega), hcf, if_neg hc, List.drop_of_length_le (by omega)]
      simp [polyT]
    have hne : polyT (ps.drop qs.length) qs.length ≠ [] := by rw [hT]; exact termL_ne _ _ _
    have hlow := polyT_low ps qs.length (by omega) hne
    have htx : textP ps = termL c qs.length true ++ lowT ps qs.length := by
      unfold textP
      rw [hlow, hT, if_neg (by intro e; exact termL_ne _ _ _ (List.append_eq_nil_iff.1 e).1)]
    have hS0 : ∀ i, cf (List.replicate 9 0) i = if qs.length < i then cf ps i else 0 := fun i => by
      rw [cf_replicate]
      split
      · rw [cf_ge (by omega)]
      · rfl
    unfold totS at ht
    by_cases hneg : c < 0
    · have hx : (textP ps).drop 0 = 45 :: (coefL c qs.length ++ (powL qs.length ++ lowT ps qs.length)) := by
        rw [List.drop_zero, htx]; unfold termL signL; rw [if_pos hneg]; simp
      have hs : skB (textP ps) 0 = 0 := skB_at hx (by simp)
      rw [hs, isAt_at hx, if_pos (by simp)] at ht
      have h1 : 0 + 1 ≤ (textP ps).length := by
        have e := congrArg List.length hx
        rw [List.drop_zero, List.length_cons] at e
        omega
      have := sumS_back (ps := ps) _ _ qs.length _ _ _ _ (by omega) (by rw [hcf]; exact hc) (by rw [hcf, decide_eq_true hneg]) h1 (by rw [hcf]; exact drop_more (A := [45]) hx) rfl hS0 ht
      rw [← htr]
      exact trim_ext this.2
    · have hx : (textP ps).drop 0 = coefL c qs.length ++ (powL qs.length ++ lowT ps qs.length) := by
        rw [List.drop_zero, htx]; unfold termL signL; rw [if_neg hneg]; simp
      have hh := coefL_head c qs.length (lowT ps qs.length)
      have hs : skB (textP ps) 0 = 0 := skB_at hx (fun e => (hh _ e).1 rfl)
      rw [hs, isAt_at hx, if_neg (by intro e; rw [beq_iff_eq] at e; exact (hh _ e).2 rfl)] at ht
      have := sumS_back (ps := ps) _ _ qs.length _ _ _ _ (by omega) (by rw [hcf]; exact hc) (by rw [hcf, decide_eq_false hneg]) (Nat.zero_le _) (by rw [hcf]; exact hx) rfl hS0 ht
      rw [← htr]
      exact trim_ext this.2
end Go.Proofs.YtcahejkcdcjjgaaGreatDoor
namespace Go.Proofs.YtcahejkcdcjjgaaGreatDoor
open Go.RowKit Go.Shelf

attribute [local go_sem] Oper.semAt_some

/-- A world above another one. -/
def Abv (V0 V : World) : Prop := Below V0.heap.size V0 V
theorem Abv.below {V0 V V' : World} (h : Abv V0 V) (hb : Below V.heap.size V V') : Abv V0 V' := Below.then h hb
theorem Abv.drew (V : World) : Abv V V.drew := (Below.refl _ V).drew

set_option maxRecDepth 100000 in
set_option maxHeartbeats 8000000 in
theorem polyBack_c (s : ByteArray) (hs : s.size ≤ 140737488351232) (w : World) (htab : Pow10 w) :
    Calls Tryz.prog 8 #[.string s] w fun r w' => r = .returned (.bool true) ∧ Below w.heap.size w w' := by
  have hmx : Tryz.prog.follows .mixedOrders = true := by kernel_rfl
  have HT := hidD htab
  have hsm := parseP_small (wlst s)
  have htr := parseP_trim (wlst s)
  obtain ⟨ps, hps⟩ : ∃ ps, (parseP (wlst s)).1 = ps := ⟨_, rfl⟩
  obtain ⟨E, hE⟩ : ∃ E : Nat, (parseP (wlst s)).2.1 = E := ⟨_, rfl⟩
  have HC := hidD (fun (V : World) => yParse_c s V)
  have HD := hidD (fun (V : World) => xParse_c s hs V)
  unfold ParC at HC
  unfold ParOk at HD
  rw [hps, hE] at HC HD
  rw [hps] at hsm htr
  have hQ : Sqs ps := Sqs.of fun i => Sq.of (hsm.2 i) (by omega)
  have HQ := hidD hQ
  have HTL := hidD (fun m => polyT_ok hQ (by omega) m)
  obtain ⟨T1, hT1⟩ : ∃ S : ByteArray, ⟨(textP ps).toArray⟩ = S := ⟨_, rfl⟩
  have hwT : wlst T1 = textP ps := by rw [← hT1]; simp [wlst]
  have hzT : T1.size ≤ 140737488351232 := by
    rw [← wlst_len, hwT]
    have := textP_len hsm.2 (by unfold B64; omega)
    have h2 : ps.length * (40 * 601 + 40) ≤ 9 * (40 * 601 + 40) := Nat.mul_le_mul_right _ hsm.1
    omega
  have HT1 := hidD hT1
  have HBK := hidD (fun h => parseP_back htr hsm.1 h)
  obtain ⟨qs, hqs⟩ : ∃ qs, (parseP (wlst T1)).1 = qs := ⟨_, rfl⟩
  obtain ⟨G, hG⟩ : ∃ G : Nat, (parseP (wlst T1)).2.1 = G := ⟨_, rfl⟩
  have HC2 := hidD (fun (V : World) => yParse_c T1 V)
  have HD2 := hidD (fun (V : World) => xParse_c T1 hzT V)
  unfold ParC at HC2
  unfold ParOk at HD2
  rw [hqs, hG] at HC2 HD2
  rw [← hwT, hqs, hG] at HBK
  have hGc : (G : Int) = 0 ∨ (G : Int) ≠ 0 := by omega
  obtain ⟨n, hn⟩ : ∃ n, ps.length = n := ⟨_, rfl⟩
  have HN := hidD hn
  have M := hidD (Below.refl w.heap.size w)
  clear htab hps hE hsm htr hQ hn hT1 hs hwT hzT hqs hG
  go_enter Tryz.func8, Tryz.ntmps8
  go_upto_region 2 with (go_at_call 9; refine (HC.out _).mono ?_; clear HC; rintro e w1 ⟨u, e1, p1, rfl, ⟨rfl, _, hu⟩, hb⟩; obtain ⟨a1, l1, c1, rfl⟩ := hu.form)
  replace M := hidD (M.out.trans (hb.mono M.out.size))
  have hA : Below w1.heap.size w1 (w1.alloc (.cells #[.slice a1 l1 c1] 25)) := (Below.refl _ w1).alloc (Nat.le_refl _) _
  have nP := Boxed.new w1 25 (.slice a1 l1 c1)
  have rP := hu.row.below hA
  replace M := hidD (M.out.trans (hA.mono M.out.size))
  clear hA
  obtain ⟨VP, hV⟩ : ∃ V, w1.alloc (.cells #[.slice a1 l1 c1] 25) = V := ⟨_, rfl⟩
  obtain ⟨BP, hB⟩ : ∃ B, w1.heap.size = B := ⟨_, rfl⟩
  rw [hV] at rP M
  rw [hV, hB] at nP
  rw [hV]
  rw [hB]
  clear hV hB
  clear hu hb
  go_upto_region 3 with (go_at_call 10; refine (HD.out _).mono ?_; clear HD; rintro e w2 ⟨u2, e2, p2, rfl, ⟨rfl, _, _, _, _⟩, hb⟩)
  replace nP := nP.bel hb
  replace rP := rP.below hb
  replace M := hidD (M.out.trans (hb.mono M.out.size))
  clear hb
  have H1 := hidD (fun (V : World) (h : Below w2.heap.size w2 V) => yText_c _ ps V (rP.below h).isPoly HQ.out HTL.out (tab_below HT.out (M.out.trans (h.mono M.out.size))))
  rw [HT1.out] at H1
  have hq : Below w2.heap.size w2 w2 := Below.refl _ _
  have eP := (nP.bel hq).cell
  go_upto_region 4 with (go_at_call 13; refine (H1.out _ hq).mono ?_; clear H1; rintro e w3 ⟨rfl, hb⟩)
  replace hb := Below.then hq hb
  clear hq eP
  replace nP := nP.bel hb
  replace rP := rP.below hb
  replace M := hidD (M.out.trans (hb.mono M.out.size))
  clear hb
  go_upto_region 5 with (go_at_call 9; refine (HC2.out _).mono ?_; clear HC2; rintro e w4 ⟨u, e4, p4, rfl, ⟨rfl, _, hu⟩, hb⟩; obtain ⟨a4, l4, c4, rfl⟩ := hu.form)
  replace nP := nP.bel hb
  replace rP := rP.below hb
  replace M := hidD (M.out.trans (hb.mono M.out.size))
  clear hb
  have hA : Below w4.heap.size w4 (w4.alloc (.cells #[.slice a4 l4 c4] 25)) := (Below.refl _ w4).alloc (Nat.le_refl _) _
  have nQ := Boxed.new w4 25 (.slice a4 l4 c4)
  have rQ := hu.row.below hA
  replace nP := nP.bel hA
  replace rP := rP.below hA
  replace M := hidD (M.out.trans (hA.mono M.out.size))
  clear hA
  obtain ⟨VQ, hV⟩ : ∃ V, w4.alloc (.cells #[.slice a4 l4 c4] 25) = V := ⟨_, rfl⟩
  obtain ⟨BQ, hB⟩ : ∃ B, w4.heap.size = B := ⟨_, rfl⟩
  rw [hV] at nP rP rQ M
  rw [hV, hB] at nQ
  rw [hV]
  rw [hB]
  clear hV hB
  clear hu
  go_upto_region 6 with (go_at_call 10; refine (HD2.out _).mono ?_; clear HD2; rintro e w5 ⟨u5, e5, p5, rfl, ⟨rfl, _, _, _, _⟩, hb⟩)
  replace nP := nP.bel hb
  replace rP := rP.below hb
  replace nQ := nQ.bel hb
  replace rQ := rQ.below hb
  replace M := hidD (M.out.trans (hb.mono M.out.size))
  clear hb
  have HE := hidD (fun (V : World) (e : Int) => jnum_c e V)
  have hq : Below w5.heap.size w5 w5 := Below.refl _ _
  go_upto_region 8 with (go_at_call 12; refine (HE.out _ _).mono ?_; rintro e x ⟨rfl, hb⟩; replace hq := Below.then hq hb; clear hb)
  clear HE
  replace nP := nP.bel hq
  replace rP := rP.below hq
  replace nQ := nQ.bel hq
  replace rQ := rQ.below hq
  replace M := hidD (M.out.trans (hq.mono M.out.size))
  clear hq
  have ST0 : Abv x x.drew := Abv.drew x
  have H10 := hidD (fun (V : World) (h : Below x.heap.size x V) => jalive_c V (tab_below HT.out (M.out.trans (h.mono M.out.size))))
  rcases hGc with h0 | h0
  · have HQE := hidD (HBK.out (by omega))
    rw [HQE.out] at rQ
    rw [h0]
    clear h0 HBK HQE
    have H2 := hidD (fun (V : World) (h : Below x.heap.size x V) => yText_c _ ps V (rQ.below h).isPoly HQ.out HTL.out (tab_below HT.out (M.out.trans (h.mono M.out.size))))
    rw [HT1.out] at H2
    have H3 := hidD (fun (V : World) (h : Below x.heap.size x V) => yDegree_c _ ps V (rQ.below h).isPoly)
    rw [HN.out] at H3
    have H4 := hidD (fun (V : World) (h : Below x.heap.size x V) => yDegree_c _ ps V (rP.below h).isPoly)
    rw [HN.out] at H4
    refine wp_region_tab hmx [[], [0], [1], [2], [3, 2, 2], [2], [4, 5, 2], [6, 4, 2], [7], [8, 7, 7], [7], [10, 9, 7], [9, 11, 7], [7, 12, 2], [2, 13], [14, 11], [15, 15], [15, 16], [17, 16, 0, 1, 2, 3, 4, 5, 6, 7, 8, 9, 10, 11, 12, 13, 14, 15, 16, 17]] (by kernel_rfl) (by decide)
      (fun D act V => ∃ (t52x t53x t54x t55x t56x t57x t58x t59x t60x t61x t62x t63x t64x t65x t66x t67x t68x t69x t2x : Value), act = { tmps := #[Value.string s, undef, t2x, Value.pointer (some { block := BP, off := 0 }), Value.int IntKind.i64 ↑E, Value.int IntKind.i64 ↑(parseP (wlst s)).snd.snd, u2, Value.int IntKind.i64 ↑E, Value.int IntKind.i64 ↑(parseP (wlst s)).snd.snd, Value.string T1, Value.pointer (some { block := BQ, off := 0 }), Value.int IntKind.i64 0, Value.int IntKind.i64 ↑(parseP (wlst T1)).snd.snd, u5, Value.int IntKind.i64 0, Value.int IntKind.i64 ↑(parseP (wlst T1)).snd.snd, Value.tuple #[Value.agg #[Value.slice a1 l1 c1], Value.int IntKind.i64 ↑E, Value.int IntKind.i64 ↑(parseP (wlst s)).snd.snd], Value.string s, Value.tuple #[Value.agg #[Value.slice a1 l1 c1], Value.int IntKind.i64 ↑E, Value.int IntKind.i64 ↑(parseP (wlst s)).snd.snd], Value.agg #[Value.slice a1 l1 c1], Value.int IntKind.i64 ↑E, Value.int IntKind.i64 ↑(parseP (wlst s)).snd.snd, Value.tuple #[u2, Value.int IntKind.i64 ↑E, Value.int IntKind.i64 ↑(parseP (wlst s)).snd.snd], Value.string s, Value.tuple #[u2, Value.int IntKind.i64 ↑E, Value.int IntKind.i64 ↑(parseP (wlst s)).snd.snd], u2, Value.int IntKind.i64 ↑E, Value.int IntKind.i64 ↑(parseP (wlst s)).snd.snd, Value.agg #[Value.slice a1 l1 c1], Value.string T1, Value.tuple #[Value.agg #[Value.slice a4 l4 c4], Value.int IntKind.i64 0, Value.int IntKind.i64 ↑(parseP (wlst T1)).snd.snd], Value.string T1, Value.tuple #[Value.agg #[Value.slice a4 l4 c4], Value.int IntKind.i64 0, Value.int IntKind.i64 ↑(parseP (wlst T1)).snd.snd], Value.agg #[Value.slice a4 l4 c4], Value.int IntKind.i64 0, Value.int IntKind.i64 ↑(parseP (wlst T1)).snd.snd, Value.tuple #[u5, Value.int IntKind.i64 0, Value.int IntKind.i64 ↑(parseP (wlst T1)).snd.snd], Value.string T1, Value.tuple #[u5, Value.int IntKind.i64 0, Value.int IntKind.i64 ↑(parseP (wlst T1)).snd.snd], u5, Value.int IntKind.i64 0, Value.int IntKind.i64 ↑(parseP (wlst T1)).snd.snd, Value.int IntKind.i64 ↑E, Value.int IntKind.i64 ↑E, Value.int IntKind.i64 ↑E, Value.bool false, Value.bool false, Value.int IntKind.i64 0, Value.int IntKind.i64 0, Value.int IntKind.i64 0, Value.bool false, Value.bool false, t52x, t53x, t54x, t55x, t56x, t57x, t58x, t59x, t60x, t61x, t62x, t63x, t64x, t65x, t66x, t67x, t68x, t69x], defers := [] } ∧ Hid ((D 0 = true → t52x = .int .i64 0) ∧ (D 1 = true → t53x = .bool false) ∧ (D 2 = true → t54x = .bool false) ∧ (D 3 = true → t55x = .agg #[.slice a4 l4 c4]) ∧ (D 4 = true → t56x = .string T1) ∧ (D 5 = true → t57x = .string T1) ∧ (D 6 = true → t58x = .bool true) ∧ (D 7 = true → t59x = .bool true) ∧ (D 8 = true → t60x = .agg #[.slice a4 l4 c4]) ∧ (D 9 = true → t61x = .int .i64 ((n : Int) - 1)) ∧ (D 10 = true → t62x = .agg #[.slice a1 l1 c1]) ∧ (D 11 = true → t63x = .int .i64 ((n : Int) - 1)) ∧ (D 12 = true → t64x = .bool true) ∧ (D 13 = true → t65x = .bool true) ∧ (D 14 = true → t66x = .bool true) ∧ (D 15 = true → t67x = .bool true) ∧ (D 16 = true → t68x = .bool true) ∧ (D 17 = true → t69x = .bool true) ∧ (D 18 = true → t2x = .bool true)) ∧ Hid (Abv x V))
      ⟨_, _, _, _, _, _, _, _, _, _, _, _, _, _, _, _, _, _, _, rfl, hidD ⟨by simp, by simp, by simp, by simp, by simp, by simp, by simp, by simp, by simp, by simp, by simp, by simp, by simp, by simp, by simp, by simp, by simp, by simp, by simp⟩, hidD ST0⟩ ?step1 ?fin1
    case step1 =>
      rintro D act V i ds hcl hi hds hDi ⟨t52x, t53x, t54x, t55x, t56x, t57x, t58x, t59x, t60x, t61x, t62x, t63x, t64x, t65x, t66x, t67x, t68x, t69x, t2x, rfl, GG, SS0⟩
      have hi6 : i < 19 := (List.getElem?_eq_some_iff.1 hi).1
      obtain rfl | rfl | rfl | rfl | rfl | rfl | rfl | rfl | rfl | rfl | rfl | rfl | rfl | rfl | rfl | rfl | rfl | rfl | rfl : i = 0 ∨ i = 1 ∨ i = 2 ∨ i = 3 ∨ i = 4 ∨ i = 5 ∨ i = 6 ∨ i = 7 ∨ i = 8 ∨ i = 9 ∨ i = 10 ∨ i = 11 ∨ i = 12 ∨ i = 13 ∨ i = 14 ∨ i = 15 ∨ i = 16 ∨ i = 17 ∨ i = 18 := by omega
      all_goals
        simp only [List.getElem?_cons_zero, List.getElem?_cons_succ, Option.some.injEq] at hi
        subst hi
      · have hS0 := SS0.out
        clear hds
        refine wpOp_go rfl rfl (fun K hK => ?_)
        go_simp
        exact hK _ _ ⟨_, _, _, _, _, _, _, _, _, _, _, _, _, _, _, _, _, _, _, rfl, hidD ⟨fun _ => rfl, GG.out.2.1, GG.out.2.2.1, GG.out.2.2.2.1, GG.out.2.2.2.2.1, GG.out.2.2.2.2.2.1, GG.out.2.2.2.2.2.2.1, GG.out.2.2.2.2.2.2.2.1, GG.out.2.2.2.2.2.2.2.2.1, GG.out.2.2.2.2.2.2.2.2.2.1, GG.out.2.2.2.2.2.2.2.2.2.2.1, GG.out.2.2.2.2.2.2.2.2.2.2.2.1, GG.out.2.2.2.2.2.2.2.2.2.2.2.2.1, GG.out.2.2.2.2.2.2.2.2.2.2.2.2.2.1, GG.out.2.2.2.2.2.2.2.2.2.2.2.2.2.2.1, GG.out.2.2.2.2.2.2.2.2.2.2.2.2.2.2.2.1, GG.out.2.2.2.2.2.2.2.2.2.2.2.2.2.2.2.2.1, GG.out.2.2.2.2.2.2.2.2.2.2.2.2.2.2.2.2.2.1, GG.out.2.2.2.2.2.2.2.2.2.2.2.2.2.2.2.2.2.2⟩, hidD (SS0.out)⟩
      · have hS0 := SS0.out
        obtain rfl := GG.out.1 (hds 0 (by simp))
        clear hds
        refine wpOp_go rfl rfl (fun K hK => ?_)
        go_simp
        exact hK _ _ ⟨_, _, _, _, _, _, _, _, _, _, _, _, _, _, _, _, _, _, _, rfl, hidD ⟨fun _ => rfl, fun _ => rfl, GG.out.2.2.1, GG.out.2.2.2.1, GG.out.2.2.2.2.1, GG.out.2.2.2.2.2.1, GG.out.2.2.2.2.2.2.1, GG.out.2.2.2.2.2.2.2.1, GG.out.2.2.2.2.2.2.2.2.1, GG.out.2.2.2.2.2.2.2.2.2.1, GG.out.2.2.2.2.2.2.2.2.2.2.1, GG.out.2.2.2.2.2.2.2.2.2.2.2.1, GG.out.2.2.2.2.2.2.2.2.2.2.2.2.1, GG.out.2.2.2.2.2.2.2.2.2.2.2.2.2.1, GG.out.2.2.2.2.2.2.2.2.2.2.2.2.2.2.1, GG.out.2.2.2.2.2.2.2.2.2.2.2.2.2.2.2.1, GG.out.2.2.2.2.2.2.2.2.2.2.2.2.2.2.2.2.1, GG.out.2.2.2.2.2.2.2.2.2.2.2.2.2.2.2.2.2.1, GG.out.2.2.2.2.2.2.2.2.2.2.2.2.2.2.2.2.2.2⟩, hidD (SS0.out)⟩
      · have hS0 := SS0.out
        obtain rfl := GG.out.2.1 (hds 1 (by simp))
        clear hds
        refine wpOp_go rfl rfl (fun K hK => ?_)
        go_simp
        exact hK _ _ ⟨_, _, _, _, _, _, _, _, _, _, _, _, _, _, _, _, _, _, _, rfl, hidD ⟨GG.out.1, fun _ => rfl, fun _ => rfl, GG.out.2.2.2.1, GG.out.2.2.2.2.1, GG.out.2.2.2.2.2.1, GG.out.2.2.2.2.2.2.1, GG.out.2.2.2.2.2.2.2.1, GG.out.2.2.2.2.2.2.2.2.1, GG.out.2.2.2.2.2.2.2.2.2.1, GG.out.2.2.2.2.2.2.2.2.2.2.1, GG.out.2.2.2.2.2.2.2.2.2.2.2.1, GG.out.2.2.2.2.2.2.2.2.2.2.2.2.1, GG.out.2.2.2.2.2.2.2.2.2.2.2.2.2.1, GG.out.2.2.2.2.2.2.2.2.2.2.2.2.2.2.1, GG.out.2.2.2.2.2.2.2.2.2.2.2.2.2.2.2.1, GG.out.2.2.2.2.2.2.2.2.2.2.2.2.2.2.2.2.1, GG.out.2.2.2.2.2.2.2.2.2.2.2.2.2.2.2.2.2.1, GG.out.2.2.2.2.2.2.2.2.2.2.2.2.2.2.2.2.2.2⟩, hidD (SS0.out)⟩
      · have hS0 := SS0.out
        obtain rfl := GG.out.2.2.1 (hds 2 (by simp))
        have eQ := (nQ.bel hS0).cell
        clear hds
        refine wpOp_yes rfl rfl (fun K hK => ?_)
        go_simp
        exact hK _ _ ⟨_, _, _, _, _, _, _, _, _, _, _, _, _, _, _, _, _, _, _, rfl, hidD ⟨GG.out.1, GG.out.2.1, fun _ => rfl, fun _ => rfl, GG.out.2.2.2.2.1, GG.out.2.2.2.2.2.1, GG.out.2.2.2.2.2.2.1, GG.out.2.2.2.2.2.2.2.1, GG.out.2.2.2.2.2.2.2.2.1, GG.out.2.2.2.2.2.2.2.2.2.1, GG.out.2.2.2.2.2.2.2.2.2.2.1, GG.out.2.2.2.2.2.2.2.2.2.2.2.1, GG.out.2.2.2.2.2.2.2.2.2.2.2.2.1, GG.out.2.2.2.2.2.2.2.2.2.2.2.2.2.1, GG.out.2.2.2.2.2.2.2.2.2.2.2.2.2.2.1, GG.out.2.2.2.2.2.2.2.2.2.2.2.2.2.2.2.1, GG.out.2.2.2.2.2.2.2.2.2.2.2.2.2.2.2.2.1, GG.out.2.2.2.2.2.2.2.2.2.2.2.2.2.2.2.2.2.1, GG.out.2.2.2.2.2.2.2.2.2.2.2.2.2.2.2.2.2.2⟩, hidD (SS0.out)⟩
      · have hS0 := SS0.out
        obtain rfl := GG.out.2.2.2.1 (hds 3 (by simp))
        obtain rfl := GG.out.2.2.1 (hds 2 (by simp))
        clear hds
        have HC := hidD (H2.out V hS0)
        refine wpOp_yes rfl rfl (fun K hK => ?_)
        go_simp
        go_wp2_with (go_at_call 13; refine HC.out.mono ?_; rintro e w5 ⟨rfl, hb5⟩)
        exact ⟨_, _, _, _, _, _, _, _, _, _, _, _, _, _, _, _, _, _, _, rfl, hidD ⟨GG.out.1, GG.out.2.1, fun _ => rfl, fun _ => rfl, fun _ => rfl, GG.out.2.2.2.2.2.1, GG.out.2.2.2.2.2.2.1, GG.out.2.2.2.2.2.2.2.1, GG.out.2.2.2.2.2.2.2.2.1, GG.out.2.2.2.2.2.2.2.2.2.1, GG.out.2.2.2.2.2.2.2.2.2.2.1, GG.out.2.2.2.2.2.2.2.2.2.2.2.1, GG.out.2.2.2.2.2.2.2.2.2.2.2.2.1, GG.out.2.2.2.2.2.2.2.2.2.2.2.2.2.1, GG.out.2.2.2.2.2.2.2.2.2.2.2.2.2.2.1, GG.out.2.2.2.2.2.2.2.2.2.2.2.2.2.2.2.1, GG.out.2.2.2.2.2.2.2.2.2.2.2.2.2.2.2.2.1, GG.out.2.2.2.2.2.2.2.2.2.2.2.2.2.2.2.2.2.1, GG.out.2.2.2.2.2.2.2.2.2.2.2.2.2.2.2.2.2.2⟩, hidD (SS0.out.below hb5)⟩
      · have hS0 := SS0.out
        obtain rfl := GG.out.2.2.1 (hds 2 (by simp))
        clear hds
        refine wpOp_yes rfl rfl (fun K hK => ?_)
        go_simp
        exact hK _ _ ⟨_, _, _, _, _, _, _, _, _, _, _, _, _, _, _, _, _, _, _, rfl, hidD ⟨GG.out.1, GG.out.2.1, fun _ => rfl, GG.out.2.2.2.1, GG.out.2.2.2.2.1, fun _ => rfl, GG.out.2.2.2.2.2.2.1, GG.out.2.2.2.2.2.2.2.1, GG.out.2.2.2.2.2.2.2.2.1, GG.out.2.2.2.2.2.2.2.2.2.1, GG.out.2.2.2.2.2.2.2.2.2.2.1, GG.out.2.2.2.2.2.2.2.2.2.2.2.1, GG.out.2.2.2.2.2.2.2.2.2.2.2.2.1, GG.out.2.2.2.2.2.2.2.2.2.2.2.2.2.1, GG.out.2.2.2.2.2.2.2.2.2.2.2.2.2.2.1, GG.out.2.2.2.2.2.2.2.2.2.2.2.2.2.2.2.1, GG.out.2.2.2.2.2.2.2.2.2.2.2.2.2.2.2.2.1, GG.out.2.2.2.2.2.2.2.2.2.2.2.2.2.2.2.2.2.1, GG.out.2.2.2.2.2.2.2.2.2.2.2.2.2.2.2.2.2.2⟩, hidD (SS0.out)⟩
      · have hS0 := SS0.out
        obtain rfl := GG.out.2.2.2.2.1 (hds 4 (by simp))
        obtain rfl := GG.out.2.2.2.2.2.1 (hds 5 (by simp))
        obtain rfl := GG.out.2.2.1 (hds 2 (by simp))
        clear hds
        refine wpOp_yes rfl rfl (fun K hK => ?_)
        go_simp
        exact hK _ _ ⟨_, _, _, _, _, _, _, _, _, _, _, _, _, _, _, _, _, _, _, rfl, hidD ⟨GG.out.1, GG.out.2.1, fun _ => rfl, GG.out.2.2.2.1, fun _ => rfl, fun _ => rfl, fun _ => rfl, GG.out.2.2.2.2.2.2.2.1, GG.out.2.2.2.2.2.2.2.2.1, GG.out.2.2.2.2.2.2.2.2.2.1, GG.out.2.2.2.2.2.2.2.2.2.2.1, GG.out.2.2.2.2.2.2.2.2.2.2.2.1, GG.out.2.2.2.2.2.2.2.2.2.2.2.2.1, GG.out.2.2.2.2.2.2.2.2.2.2.2.2.2.1, GG.out.2.2.2.2.2.2.2.2.2.2.2.2.2.2.1, GG.out.2.2.2.2.2.2.2.2.2.2.2.2.2.2.2.1, GG.out.2.2.2.2.2.2.2.2.2.2.2.2.2.2.2.2.1, GG.out.2.2.2.2.2.2.2.2.2.2.2.2.2.2.2.2.2.1, GG.out.2.2.2.2.2.2.2.2.2.2.2.2.2.2.2.2.2.2⟩, hidD (SS0.out)⟩
      · have hS0 := SS0.out
        obtain rfl := GG.out.2.2.2.2.2.2.1 (hds 6 (by simp))
        obtain rfl := GG.out.2.2.1 (hds 2 (by simp))
        clear hds
        refine wpOp_yes rfl rfl (fun K hK => ?_)
        go_simp
        exact hK _ _ ⟨_, _, _, _, _, _, _, _, _, _, _, _, _, _, _, _, _, _, _, rfl, hidD ⟨GG.out.1, GG.out.2.1, fun _ => rfl, GG.out.2.2.2.1, GG.out.2.2.2.2.1, GG.out.2.2.2.2.2.1, fun _ => rfl, fun _ => rfl, GG.out.2.2.2.2.2.2.2.2.1, GG.out.2.2.2.2.2.2.2.2.2.1, GG.out.2.2.2.2.2.2.2.2.2.2.1, GG.out.2.2.2.2.2.2.2.2.2.2.2.1, GG.out.2.2.2.2.2.2.2.2.2.2.2.2.1, GG.out.2.2.2.2.2.2.2.2.2.2.2.2.2.1, GG.out.2.2.2.2.2.2.2.2.2.2.2.2.2.2.1, GG.out.2.2.2.2.2.2.2.2.2.2.2.2.2.2.2.1, GG.out.2.2.2.2.2.2.2.2.2.2.2.2.2.2.2.2.1, GG.out.2.2.2.2.2.2.2.2.2.2.2.2.2.2.2.2.2.1, GG.out.2.2.2.2.2.2.2.2.2.2.2.2.2.2.2.2.2.2⟩, hidD (SS0.out)⟩
      · have hS0 := SS0.out
        obtain rfl := GG.out.2.2.2.2.2.2.2.1 (hds 7 (by simp))
        have eQ := (nQ.bel hS0).cell
        clear hds
        refine wpOp_yes rfl rfl (fun K hK => ?_)
        go_simp
        exact hK _ _ ⟨_, _, _, _, _, _, _, _, _, _, _, _, _, _, _, _, _, _, _, rfl, hidD ⟨GG.out.1, GG.out.2.1, GG.out.2.2.1, GG.out.2.2.2.1, GG.out.2.2.2.2.1, GG.out.2.2.2.2.2.1, GG.out.2.2.2.2.2.2.1, fun _ => rfl, fun _ => rfl, GG.out.2.2.2.2.2.2.2.2.2.1, GG.out.2.2.2.2.2.2.2.2.2.2.1, GG.out.2.2.2.2.2.2.2.2.2.2.2.1, GG.out.2.2.2.2.2.2.2.2.2.2.2.2.1, GG.out.2.2.2.2.2.2.2.2.2.2.2.2.2.1, GG.out.2.2.2.2.2.2.2.2.2.2.2.2.2.2.1, GG.out.2.2.2.2.2.2.2.2.2.2.2.2.2.2.2.1, GG.out.2.2.2.2.2.2.2.2.2.2.2.2.2.2.2.2.1, GG.out.2.2.2.2.2.2.2.2.2.2.2.2.2.2.2.2.2.1, GG.out.2.2.2.2.2.2.2.2.2.2.2.2.2.2.2.2.2.2⟩, hidD (SS0.out)⟩
      · have hS0 := SS0.out
        obtain rfl := GG.out.2.2.2.2.2.2.2.2.1 (hds 8 (by simp))
        obtain rfl := GG.out.2.2.2.2.2.2.2.1 (hds 7 (by simp))
        clear hds
        have HC := hidD (H3.out V hS0)
        refine wpOp_yes rfl rfl (fun K hK => ?_)
        go_simp
        go_wp2_with (go_at_call 15; refine HC.out.mono ?_; rintro e w5 ⟨rfl, hb5⟩)
        exact ⟨_, _, _, _, _, _, _, _, _, _, _, _, _, _, _, _, _, _, _, rfl, hidD ⟨GG.out.1, GG.out.2.1, GG.out.2.2.1, GG.out.2.2.2.1, GG.out.2.2.2.2.1, GG.out.2.2.2.2.2.1, GG.out.2.2.2.2.2.2.1, fun _ => rfl, fun _ => rfl, fun _ => rfl, GG.out.2.2.2.2.2.2.2.2.2.2.1, GG.out.2.2.2.2.2.2.2.2.2.2.2.1, GG.out.2.2.2.2.2.2.2.2.2.2.2.2.1, GG.out.2.2.2.2.2.2.2.2.2.2.2.2.2.1, GG.out.2.2.2.2.2.2.2.2.2.2.2.2.2.2.1, GG.out.2.2.2.2.2.2.2.2.2.2.2.2.2.2.2.1, GG.out.2.2.2.2.2.2.2.2.2.2.2.2.2.2.2.2.1, GG.out.2.2.2.2.2.2.2.2.2.2.2.2.2.2.2.2.2.1, GG.out.2.2.2.2.2.2.2.2.2.2.2.2.2.2.2.2.2.2⟩, hidD (SS0.out.below hb5)⟩
      · have hS0 := SS0.out
        obtain rfl := GG.out.2.2.2.2.2.2.2.1 (hds 7 (by simp))
        have eP := (nP.bel hS0).cell
        clear hds
        refine wpOp_yes rfl rfl (fun K hK => ?_)
        go_simp
        exact hK _ _ ⟨_, _, _, _, _, _, _, _, _, _, _, _, _, _, _, _, _, _, _, rfl, hidD ⟨GG.out.1, GG.out.2.1, GG.out.2.2.1, GG.out.2.2.2.1, GG.out.2.2.2.2.1, GG.out.2.2.2.2.2.1, GG.out.2.2.2.2.2.2.1, fun _ => rfl, GG.out.2.2.2.2.2.2.2.2.1, GG.out.2.2.2.2.2.2.2.2.2.1, fun _ => rfl, GG.out.2.2.2.2.2.2.2.2.2.2.2.1, GG.out.2.2.2.2.2.2.2.2.2.2.2.2.1, GG.out.2.2.2.2.2.2.2.2.2.2.2.2.2.1, GG.out.2.2.2.2.2.2.2.2.2.2.2.2.2.2.1, GG.out.2.2.2.2.2.2.2.2.2.2.2.2.2.2.2.1, GG.out.2.2.2.2.2.2.2.2.2.2.2.2.2.2.2.2.1, GG.out.2.2.2.2.2.2.2.2.2.2.2.2.2.2.2.2.2.1, GG.out.2.2.2.2.2.2.2.2.2.2.2.2.2.2.2.2.2.2⟩, hidD (SS0.out)⟩
      · have hS0 := SS0.out
        obtain rfl := GG.out.2.2.2.2.2.2.2.2.2.2.1 (hds 10 (by simp))
        obtain rfl := GG.out.2.2.2.2.2.2.2.1 (hds 7 (by simp))
        clear hds
        have HC := hidD (H4.out V hS0)
        refine wpOp_yes rfl rfl (fun K hK => ?_)
        go_simp
        go_wp2_with (go_at_call 15; refine HC.out.mono ?_; rintro e w5 ⟨rfl, hb5⟩)
        exact ⟨_, _, _, _, _, _, _, _, _, _, _, _, _, _, _, _, _, _, _, rfl, hidD ⟨GG.out.1, GG.out.2.1, GG.out.2.2.1, GG.out.2.2.2.1, GG.out.2.2.2.2.1, GG.out.2.2.2.2.2.1, GG.out.2.2.2.2.2.2.1, fun _ => rfl, GG.out.2.2.2.2.2.2.2.2.1, GG.out.2.2.2.2.2.2.2.2.2.1, fun _ => rfl, fun _ => rfl, GG.out.2.2.2.2.2.2.2.2.2.2.2.2.1, GG.out.2.2.2.2.2.2.2.2.2.2.2.2.2.1, GG.out.2.2.2.2.2.2.2.2.2.2.2.2.2.2.1, GG.out.2.2.2.2.2.2.2.2.2.2.2.2.2.2.2.1, GG.out.2.2.2.2.2.2.2.2.2.2.2.2.2.2.2.2.1, GG.out.2.2.2.2.2.2.2.2.2.2.2.2.2.2.2.2.2.1, GG.out.2.2.2.2.2.2.2.2.2.2.2.2.2.2.2.2.2.2⟩, hidD (SS0.out.below hb5)⟩
      · have hS0 := SS0.out
        obtain rfl := GG.out.2.2.2.2.2.2.2.2.2.1 (hds 9 (by simp))
        obtain rfl := GG.out.2.2.2.2.2.2.2.2.2.2.2.1 (hds 11 (by simp))
        obtain rfl := GG.out.2.2.2.2.2.2.2.1 (hds 7 (by simp))
        clear hds
        refine wpOp_yes rfl rfl (fun K hK => ?_)
        go_simp
        exact hK _ _ ⟨_, _, _, _, _, _, _, _, _, _, _, _, _, _, _, _, _, _, _, rfl, hidD ⟨GG.out.1, GG.out.2.1, GG.out.2.2.1, GG.out.2.2.2.1, GG.out.2.2.2.2.1, GG.out.2.2.2.2.2.1, GG.out.2.2.2.2.2.2.1, fun _ => rfl, GG.out.2.2.2.2.2.2.2.2.1, fun _ => rfl, GG.out.2.2.2.2.2.2.2.2.2.2.1, fun _ => rfl, fun _ => rfl, GG.out.2.2.2.2.2.2.2.2.2.2.2.2.2.1, GG.out.2.2.2.2.2.2.2.2.2.2.2.2.2.2.1, GG.out.2.2.2.2.2.2.2.2.2.2.2.2.2.2.2.1, GG.out.2.2.2.2.2.2.2.2.2.2.2.2.2.2.2.2.1, GG.out.2.2.2.2.2.2.2.2.2.2.2.2.2.2.2.2.2.1, GG.out.2.2.2.2.2.2.2.2.2.2.2.2.2.2.2.2.2.2⟩, hidD (SS0.out)⟩
      · have hS0 := SS0.out
        obtain rfl := GG.out.2.2.2.2.2.2.2.1 (hds 7 (by simp))
        obtain rfl := GG.out.2.2.2.2.2.2.2.2.2.2.2.2.1 (hds 12 (by simp))
        obtain rfl := GG.out.2.2.1 (hds 2 (by simp))
        clear hds
        refine wpOp_yes rfl rfl (fun K hK => ?_)
        go_simp
        exact hK _ _ ⟨_, _, _, _, _, _, _, _, _, _, _, _, _, _, _, _, _, _, _, rfl, hidD ⟨GG.out.1, GG.out.2.1, fun _ => rfl, GG.out.2.2.2.1, GG.out.2.2.2.2.1, GG.out.2.2.2.2.2.1, GG.out.2.2.2.2.2.2.1, fun _ => rfl, GG.out.2.2.2.2.2.2.2.2.1, GG.out.2.2.2.2.2.2.2.2.2.1, GG.out.2.2.2.2.2.2.2.2.2.2.1, GG.out.2.2.2.2.2.2.2.2.2.2.2.1, fun _ => rfl, fun _ => rfl, GG.out.2.2.2.2.2.2.2.2.2.2.2.2.2.2.1, GG.out.2.2.2.2.2.2.2.2.2.2.2.2.2.2.2.1, GG.out.2.2.2.2.2.2.2.2.2.2.2.2.2.2.2.2.1, GG.out.2.2.2.2.2.2.2.2.2.2.2.2.2.2.2.2.2.1, GG.out.2.2.2.2.2.2.2.2.2.2.2.2.2.2.2.2.2.2⟩, hidD (SS0.out)⟩
      · have hS0 := SS0.out
        obtain rfl := GG.out.2.2.1 (hds 2 (by simp))
        obtain rfl := GG.out.2.2.2.2.2.2.2.2.2.2.2.2.2.1 (hds 13 (by simp))
        clear hds
        refine wpOp_go rfl rfl (fun K hK => ?_)
        go_simp
        exact hK _ _ ⟨_, _, _, _, _, _, _, _, _, _, _, _, _, _, _, _, _, _, _, rfl, hidD ⟨GG.out.1, GG.out.2.1, fun _ => rfl, GG.out.2.2.2.1, GG.out.2.2.2.2.1, GG.out.2.2.2.2.2.1, GG.out.2.2.2.2.2.2.1, GG.out.2.2.2.2.2.2.2.1, GG.out.2.2.2.2.2.2.2.2.1, GG.out.2.2.2.2.2.2.2.2.2.1, GG.out.2.2.2.2.2.2.2.2.2.2.1, GG.out.2.2.2.2.2.2.2.2.2.2.2.1, GG.out.2.2.2.2.2.2.2.2.2.2.2.2.1, fun _ => rfl, fun _ => rfl, GG.out.2.2.2.2.2.2.2.2.2.2.2.2.2.2.2.1, GG.out.2.2.2.2.2.2.2.2.2.2.2.2.2.2.2.2.1, GG.out.2.2.2.2.2.2.2.2.2.2.2.2.2.2.2.2.2.1, GG.out.2.2.2.2.2.2.2.2.2.2.2.2.2.2.2.2.2.2⟩, hidD (SS0.out)⟩
      · have hS0 := SS0.out
        obtain rfl := GG.out.2.2.2.2.2.2.2.2.2.2.2.2.2.2.1 (hds 14 (by simp))
        clear hds
        refine wpOp_go rfl rfl (fun K hK => ?_)
        go_simp
        exact hK _ _ ⟨_, _, _, _, _, _, _, _, _, _, _, _, _, _, _, _, _, _, _, rfl, hidD ⟨GG.out.1, GG.out.2.1, GG.out.2.2.1, GG.out.2.2.2.1, GG.out.2.2.2.2.1, GG.out.2.2.2.2.2.1, GG.out.2.2.2.2.2.2.1, GG.out.2.2.2.2.2.2.2.1, GG.out.2.2.2.2.2.2.2.2.1, GG.out.2.2.2.2.2.2.2.2.2.1, GG.out.2.2.2.2.2.2.2.2.2.2.1, GG.out.2.2.2.2.2.2.2.2.2.2.2.1, GG.out.2.2.2.2.2.2.2.2.2.2.2.2.1, GG.out.2.2.2.2.2.2.2.2.2.2.2.2.2.1, fun _ => rfl, fun _ => rfl, GG.out.2.2.2.2.2.2.2.2.2.2.2.2.2.2.2.2.1, GG.out.2.2.2.2.2.2.2.2.2.2.2.2.2.2.2.2.2.1, GG.out.2.2.2.2.2.2.2.2.2.2.2.2.2.2.2.2.2.2⟩, hidD (SS0.out)⟩
      · have hS0 := SS0.out
        obtain rfl := GG.out.2.2.2.2.2.2.2.2.2.2.2.2.2.2.2.1 (hds 15 (by simp))
        clear hds
        have HC := hidD (H10.out V hS0)
        refine wpOp_yes rfl rfl (fun K hK => ?_)
        go_simp
        go_wp2_with (go_at_call 19; refine HC.out.mono ?_; rintro e w5 ⟨rfl, hb5⟩)
        exact ⟨_, _, _, _, _, _, _, _, _, _, _, _, _, _, _, _, _, _, _, rfl, hidD ⟨GG.out.1, GG.out.2.1, GG.out.2.2.1, GG.out.2.2.2.1, GG.out.2.2.2.2.1, GG.out.2.2.2.2.2.1, GG.out.2.2.2.2.2.2.1, GG.out.2.2.2.2.2.2.2.1, GG.out.2.2.2.2.2.2.2.2.1, GG.out.2.2.2.2.2.2.2.2.2.1, GG.out.2.2.2.2.2.2.2.2.2.2.1, GG.out.2.2.2.2.2.2.2.2.2.2.2.1, GG.out.2.2.2.2.2.2.2.2.2.2.2.2.1, GG.out.2.2.2.2.2.2.2.2.2.2.2.2.2.1, GG.out.2.2.2.2.2.2.2.2.2.2.2.2.2.2.1, fun _ => rfl, fun _ => rfl, GG.out.2.2.2.2.2.2.2.2.2.2.2.2.2.2.2.2.2.1, GG.out.2.2.2.2.2.2.2.2.2.2.2.2.2.2.2.2.2.2⟩, hidD (SS0.out.below hb5)⟩
      · have hS0 := SS0.out
        obtain rfl := GG.out.2.2.2.2.2.2.2.2.2.2.2.2.2.2.2.1 (hds 15 (by simp))
        obtain rfl := GG.out.2.2.2.2.2.2.2.2.2.2.2.2.2.2.2.2.1 (hds 16 (by simp))
        clear hds
        refine wpOp_go rfl rfl (fun K hK => ?_)
        go_simp
        exact hK _ _ ⟨_, _, _, _, _, _, _, _, _, _, _, _, _, _, _, _, _, _, _, rfl, hidD ⟨GG.out.1, GG.out.2.1, GG.out.2.2.1, GG.out.2.2.2.1, GG.out.2.2.2.2.1, GG.out.2.2.2.2.2.1, GG.out.2.2.2.2.2.2.1, GG.out.2.2.2.2.2.2.2.1, GG.out.2.2.2.2.2.2.2.2.1, GG.out.2.2.2.2.2.2.2.2.2.1, GG.out.2.2.2.2.2.2.2.2.2.2.1, GG.out.2.2.2.2.2.2.2.2.2.2.2.1, GG.out.2.2.2.2.2.2.2.2.2.2.2.2.1, GG.out.2.2.2.2.2.2.2.2.2.2.2.2.2.1, GG.out.2.2.2.2.2.2.2.2.2.2.2.2.2.2.1, fun _ => rfl, fun _ => rfl, fun _ => rfl, GG.out.2.2.2.2.2.2.2.2.2.2.2.2.2.2.2.2.2.2⟩, hidD (SS0.out)⟩
      · have hS0 := SS0.out
        obtain rfl := GG.out.2.2.2.2.2.2.2.2.2.2.2.2.2.2.2.2.2.1 (hds 17 (by simp))
        clear hds
        refine wpOp_go rfl rfl (fun K hK => ?_)
        go_simp
        exact hK _ _ ⟨_, _, _, _, _, _, _, _, _, _, _, _, _, _, _, _, _, _, _, rfl, hidD ⟨GG.out.1, GG.out.2.1, GG.out.2.2.1, GG.out.2.2.2.1, GG.out.2.2.2.2.1, GG.out.2.2.2.2.2.1, GG.out.2.2.2.2.2.2.1, GG.out.2.2.2.2.2.2.2.1, GG.out.2.2.2.2.2.2.2.2.1, GG.out.2.2.2.2.2.2.2.2.2.1, GG.out.2.2.2.2.2.2.2.2.2.2.1, GG.out.2.2.2.2.2.2.2.2.2.2.2.1, GG.out.2.2.2.2.2.2.2.2.2.2.2.2.1, GG.out.2.2.2.2.2.2.2.2.2.2.2.2.2.1, GG.out.2.2.2.2.2.2.2.2.2.2.2.2.2.2.1, GG.out.2.2.2.2.2.2.2.2.2.2.2.2.2.2.2.1, GG.out.2.2.2.2.2.2.2.2.2.2.2.2.2.2.2.2.1, fun _ => rfl, fun _ => rfl⟩, hidD (SS0.out)⟩
    case fin1 =>
      rintro D act V hDD ⟨t52x, t53x, t54x, t55x, t56x, t57x, t58x, t59x, t60x, t61x, t62x, t63x, t64x, t65x, t66x, t67x, t68x, t69x, t2x, rfl, GG, SS0⟩
      obtain rfl := GG.out.2.2.2.2.2.2.2.2.2.2.2.2.2.2.2.2.2.2 (hDD 18 (by decide))
      have hq := SS0.out
      clear GG SS0 hDD
      go_wp2_with fail
      go_ret
      exact ⟨rfl, M.out.trans (Below.mono hq M.out.size)⟩
  · have h1 : ((G : Int) != 0) = true := by simpa using h0
    clear h0 HBK
    refine wp_region_tab hmx [[], [0], [1], [2], [3, 2, 2], [2], [4, 5, 2], [6, 4, 2], [7], [8, 7, 7], [7], [10, 9, 7], [9, 11, 7], [7, 12, 2], [2, 13], [14, 11], [15, 15], [15, 16], [17, 16, 0, 1, 2, 3, 4, 5, 6, 7, 8, 9, 10, 11, 12, 13, 14, 15, 16, 17]] (by kernel_rfl) (by decide)
      (fun D act V => ∃ (t52x t53x t54x t66x t67x t68x t69x t2x : Value), act = { tmps := #[Value.string s, undef, t2x, Value.pointer (some { block := BP, off := 0 }), Value.int IntKind.i64 ↑E, Value.int IntKind.i64 ↑(parseP (wlst s)).snd.snd, u2, Value.int IntKind.i64 ↑E, Value.int IntKind.i64 ↑(parseP (wlst s)).snd.snd, Value.string T1, Value.pointer (some { block := BQ, off := 0 }), Value.int IntKind.i64 ↑G, Value.int IntKind.i64 ↑(parseP (wlst T1)).snd.snd, u5, Value.int IntKind.i64 ↑G, Value.int IntKind.i64 ↑(parseP (wlst T1)).snd.snd, Value.tuple #[Value.agg #[Value.slice a1 l1 c1], Value.int IntKind.i64 ↑E, Value.int IntKind.i64 ↑(parseP (wlst s)).snd.snd], Value.string s, Value.tuple #[Value.agg #[Value.slice a1 l1 c1], Value.int IntKind.i64 ↑E, Value.int IntKind.i64 ↑(parseP (wlst s)).snd.snd], Value.agg #[Value.slice a1 l1 c1], Value.int IntKind.i64 ↑E, Value.int IntKind.i64 ↑(parseP (wlst s)).snd.snd, Value.tuple #[u2, Value.int IntKind.i64 ↑E, Value.int IntKind.i64 ↑(parseP (wlst s)).snd.snd], Value.string s, Value.tuple #[u2, Value.int IntKind.i64 ↑E, Value.int IntKind.i64 ↑(parseP (wlst s)).snd.snd], u2, Value.int IntKind.i64 ↑E, Value.int IntKind.i64 ↑(parseP (wlst s)).snd.snd, Value.agg #[Value.slice a1 l1 c1], Value.string T1, Value.tuple #[Value.agg #[Value.slice a4 l4 c4], Value.int IntKind.i64 ↑G, Value.int IntKind.i64 ↑(parseP (wlst T1)).snd.snd], Value.string T1, Value.tuple #[Value.agg #[Value.slice a4 l4 c4], Value.int IntKind.i64 ↑G, Value.int IntKind.i64 ↑(parseP (wlst T1)).snd.snd], Value.agg #[Value.slice a4 l4 c4], Value.int IntKind.i64 ↑G, Value.int IntKind.i64 ↑(parseP (wlst T1)).snd.snd, Value.tuple #[u5, Value.int IntKind.i64 ↑G, Value.int IntKind.i64 ↑(parseP (wlst T1)).snd.snd], Value.string T1, Value.tuple #[u5, Value.int IntKind.i64 ↑G, Value.int IntKind.i64 ↑(parseP (wlst T1)).snd.snd], u5, Value.int IntKind.i64 ↑G, Value.int IntKind.i64 ↑(parseP (wlst T1)).snd.snd, Value.int IntKind.i64 ↑E, Value.int IntKind.i64 ↑E, Value.int IntKind.i64 ↑E, Value.bool false, Value.bool false, Value.int IntKind.i64 ↑G, Value.int IntKind.i64 ↑G, Value.int IntKind.i64 ↑G, Value.bool false, Value.bool false, t52x, t53x, t54x, undef, undef, undef, undef, undef, undef, undef, undef, undef, undef, undef, t66x, t67x, t68x, t69x], defers := [] } ∧ Hid ((D 0 = true → t52x = .int .i64 (G : Int)) ∧ (D 1 = true → t53x = .bool true) ∧ (D 2 = true → t54x = .bool true) ∧ (D 14 = true → t66x = .bool true) ∧ (D 15 = true → t67x = .bool true) ∧ (D 16 = true → t68x = .bool true) ∧ (D 17 = true → t69x = .bool true) ∧ (D 18 = true → t2x = .bool true)) ∧ Hid (Abv x V))
      ⟨_, _, _, _, _, _, _, _, rfl, hidD ⟨by simp, by simp, by simp, by simp, by simp, by simp, by simp, by simp⟩, hidD ST0⟩ ?step2 ?fin2
    case step2 =>
      rintro D act V i ds hcl hi hds hDi ⟨t52x, t53x, t54x, t66x, t67x, t68x, t69x, t2x, rfl, GG, SS0⟩
      have hi6 : i < 19 := (List.getElem?_eq_some_iff.1 hi).1
      obtain rfl | rfl | rfl | rfl | rfl | rfl | rfl | rfl | rfl | rfl | rfl | rfl | rfl | rfl | rfl | rfl | rfl | rfl | rfl : i = 0 ∨ i = 1 ∨ i = 2 ∨ i = 3 ∨ i = 4 ∨ i = 5 ∨ i = 6 ∨ i = 7 ∨ i = 8 ∨ i = 9 ∨ i = 10 ∨ i = 11 ∨ i = 12 ∨ i = 13 ∨ i = 14 ∨ i = 15 ∨ i = 16 ∨ i = 17 ∨ i = 18 := by omega
      all_goals
        simp only [List.getElem?_cons_zero, List.getElem?_cons_succ, Option.some.injEq] at hi
        subst hi
      · have hS0 := SS0.out
        clear hds
        refine wpOp_go rfl rfl (fun K hK => ?_)
        go_simp
        exact hK _ _ ⟨_, _, _, _, _, _, _, _, rfl, hidD ⟨fun _ => rfl, GG.out.2.1, GG.out.2.2.1, GG.out.2.2.2.1, GG.out.2.2.2.2.1, GG.out.2.2.2.2.2.1, GG.out.2.2.2.2.2.2.1, GG.out.2.2.2.2.2.2.2⟩, hidD (SS0.out)⟩
      · have hS0 := SS0.out
        obtain rfl := GG.out.1 (hds 0 (by simp))
        clear hds
        refine wpOp_go rfl rfl (fun K hK => ?_)
        go_simp
        exact hK _ _ ⟨_, _, _, _, _, _, _, _, rfl, hidD ⟨fun _ => rfl, fun _ => rfl, GG.out.2.2.1, GG.out.2.2.2.1, GG.out.2.2.2.2.1, GG.out.2.2.2.2.2.1, GG.out.2.2.2.2.2.2.1, GG.out.2.2.2.2.2.2.2⟩, hidD (SS0.out)⟩
      · have hS0 := SS0.out
        obtain rfl := GG.out.2.1 (hds 1 (by simp))
        clear hds
        refine wpOp_go rfl rfl (fun K hK => ?_)
        go_simp
        exact hK _ _ ⟨_, _, _, _, _, _, _, _, rfl, hidD ⟨GG.out.1, fun _ => rfl, fun _ => rfl, GG.out.2.2.2.1, GG.out.2.2.2.2.1, GG.out.2.2.2.2.2.1, GG.out.2.2.2.2.2.2.1, GG.out.2.2.2.2.2.2.2⟩, hidD (SS0.out)⟩
      · have hS0 := SS0.out
        obtain rfl := GG.out.2.2.1 (hds 2 (by simp))
        clear hds
        refine wpOp_no rfl rfl ?_
        exact ⟨_, _, _, _, _, _, _, _, rfl, hidD ⟨GG.out.1, GG.out.2.1, fun _ => rfl, GG.out.2.2.2.1, GG.out.2.2.2.2.1, GG.out.2.2.2.2.2.1, GG.out.2.2.2.2.2.2.1, GG.out.2.2.2.2.2.2.2⟩, hidD (SS0.out)⟩
      · have hS0 := SS0.out
        obtain rfl := GG.out.2.2.1 (hds 2 (by simp))
        clear hds
        refine wpOp_no rfl rfl ?_
        exact ⟨_, _, _, _, _, _, _, _, rfl, hidD ⟨GG.out.1, GG.out.2.1, fun _ => rfl, GG.out.2.2.2.1, GG.out.2.2.2.2.1, GG.out.2.2.2.2.2.1, GG.out.2.2.2.2.2.2.1, GG.out.2.2.2.2.2.2.2⟩, hidD (SS0.out)⟩
      · have hS0 := SS0.out
        obtain rfl := GG.out.2.2.1 (hds 2 (by simp))
        clear hds
        refine wpOp_no rfl rfl ?_
        exact ⟨_, _, _, _, _, _, _, _, rfl, hidD ⟨GG.out.1, GG.out.2.1, fun _ => rfl, GG.out.2.2.2.1, GG.out.2.2.2.2.1, GG.out.2.2.2.2.2.1, GG.out.2.2.2.2.2.2.1, GG.out.2.2.2.2.2.2.2⟩, hidD (SS0.out)⟩
      · have hS0 := SS0.out
        obtain rfl := GG.out.2.2.1 (hds 2 (by simp))
        clear hds
        refine wpOp_no rfl rfl ?_
        exact ⟨_, _, _, _, _, _, _, _, rfl, hidD ⟨GG.out.1, GG.out.2.1, fun _ => rfl, GG.out.2.2.2.1, GG.out.2.2.2.2.1, GG.out.2.2.2.2.2.1, GG.out.2.2.2.2.2.2.1, GG.out.2.2.2.2.2.2.2⟩, hidD (SS0.out)⟩
      · have hS0 := SS0.out
        obtain rfl := GG.out.2.2.1 (hds 2 (by simp))
        clear hds
        refine wpOp_no rfl rfl ?_
        exact ⟨_, _, _, _, _, _, _, _, rfl, hidD ⟨GG.out.1, GG.out.2.1, fun _ => rfl, GG.out.2.2.2.1, GG.out.2.2.2.2.1, GG.out.2.2.2.2.2.1, GG.out.2.2.2.2.2.2.1, GG.out.2.2.2.2.2.2.2⟩, hidD (SS0.out)⟩
      · have hS0 := SS0.out
        clear hds
        refine wpOp_no rfl rfl ?_
        exact ⟨_, _, _, _, _, _, _, _, rfl, hidD ⟨GG.out.1, GG.out.2.1, GG.out.2.2.1, GG.out.2.2.2.1, GG.out.2.2.2.2.1, GG.out.2.2.2.2.2.1, GG.out.2.2.2.2.2.2.1, GG.out.2.2.2.2.2.2.2⟩, hidD (SS0.out)⟩
      · have hS0 := SS0.out
        clear hds
        refine wpOp_no rfl rfl ?_
        exact ⟨_, _, _, _, _, _, _, _, rfl, hidD ⟨GG.out.1, GG.out.2.1, GG.out.2.2.1, GG.out.2.2.2.1, GG.out.2.2.2.2.1, GG.out.2.2.2.2.2.1, GG.out.2.2.2.2.2.2.1, GG.out.2.2.2.2.2.2.2⟩, hidD (SS0.out)⟩
      · have hS0 := SS0.out
        clear hds
        refine wpOp_no rfl rfl ?_
        exact ⟨_, _, _, _, _, _, _, _, rfl, hidD ⟨GG.out.1, GG.out.2.1, GG.out.2.2.1, GG.out.2.2.2.1, GG.out.2.2.2.2.1, GG.out.2.2.2.2.2.1, GG.out.2.2.2.2.2.2.1, GG.out.2.2.2.2.2.2.2⟩, hidD (SS0.out)⟩
      · have hS0 := SS0.out
        clear hds
        refine wpOp_no rfl rfl ?_
        exact ⟨_, _, _, _, _, _, _, _, rfl, hidD ⟨GG.out.1, GG.out.2.1, GG.out.2.2.1, GG.out.2.2.2.1, GG.out.2.2.2.2.1, GG.out.2.2.2.2.2.1, GG.out.2.2.2.2.2.2.1, GG.out.2.2.2.2.2.2.2⟩, hidD (SS0.out)⟩
      · have hS0 := SS0.out
        clear hds
        refine wpOp_no rfl rfl ?_
        exact ⟨_, _, _, _, _, _, _, _, rfl, hidD ⟨GG.out.1, GG.out.2.1, GG.out.2.2.1, GG.out.2.2.2.1, GG.out.2.2.2.2.1, GG.out.2.2.2.2.2.1, GG.out.2.2.2.2.2.2.1, GG.out.2.2.2.2.2.2.2⟩, hidD (SS0.out)⟩
      · have hS0 := SS0.out
        obtain rfl := GG.out.2.2.1 (hds 2 (by simp))
        clear hds
        refine wpOp_no rfl rfl ?_
        exact ⟨_, _, _, _, _, _, _, _, rfl, hidD ⟨GG.out.1, GG.out.2.1, fun _ => rfl, GG.out.2.2.2.1, GG.out.2.2.2.2.1, GG.out.2.2.2.2.2.1, GG.out.2.2.2.2.2.2.1, GG.out.2.2.2.2.2.2.2⟩, hidD (SS0.out)⟩
      · have hS0 := SS0.out
        obtain rfl := GG.out.2.2.1 (hds 2 (by simp))
        clear hds
        refine wpOp_go rfl rfl (fun K hK => ?_)
        go_simp
        exact hK _ _ ⟨_, _, _, _, _, _, _, _, rfl, hidD ⟨GG.out.1, GG.out.2.1, fun _ => rfl, fun _ => rfl, GG.out.2.2.2.2.1, GG.out.2.2.2.2.2.1, GG.out.2.2.2.2.2.2.1, GG.out.2.2.2.2.2.2.2⟩, hidD (SS0.out)⟩
      · have hS0 := SS0.out
        obtain rfl := GG.out.2.2.2.1 (hds 14 (by simp))
        clear hds
        refine wpOp_go rfl rfl (fun K hK => ?_)
        go_simp
        exact hK _ _ ⟨_, _, _, _, _, _, _, _, rfl, hidD ⟨GG.out.1, GG.out.2.1, GG.out.2.2.1, fun _ => rfl, fun _ => rfl, GG.out.2.2.2.2.2.1, GG.out.2.2.2.2.2.2.1, GG.out.2.2.2.2.2.2.2⟩, hidD (SS0.out)⟩
      · have hS0 := SS0.out
        obtain rfl := GG.out.2.2.2.2.1 (hds 15 (by simp))
        clear hds
        have HC := hidD (H10.out V hS0)
        refine wpOp_yes rfl rfl (fun K hK => ?_)
        go_simp
        go_wp2_with (go_at_call 19; refine HC.out.mono ?_; rintro e w5 ⟨rfl, hb5⟩)
        exact ⟨_, _, _, _, _, _, _, _, rfl, hidD ⟨GG.out.1, GG.out.2.1, GG.out.2.2.1, GG.out.2.2.2.1, fun _ => rfl, fun _ => rfl, GG.out.2.2.2.2.2.2.1, GG.out.2.2.2.2.2.2.2⟩, hidD (SS0.out.below hb5)⟩
      · have hS0 := SS0.out
        obtain rfl := GG.out.2.2.2.2.1 (hds 15 (by simp))
        obtain rfl := GG.out.2.2.2.2.2.1 (hds 16 (by simp))
        clear hds
        refine wpOp_go rfl rfl (fun K hK => ?_)
        go_simp
        exact hK _ _ ⟨_, _, _, _, _, _, _, _, rfl, hidD ⟨GG.out.1, GG.out.2.1, GG.out.2.2.1, GG.out.2.2.2.1, fun _ => rfl, fun _ => rfl, fun _ => rfl, GG.out.2.2.2.2.2.2.2⟩, hidD (SS0.out)⟩
      · have hS0 := SS0.out
        obtain rfl := GG.out.2.2.2.2.2.2.1 (hds 17 (by simp))
        clear hds
        refine wpOp_go rfl rfl (fun K hK => ?_)
        go_simp
        exact hK _ _ ⟨_, _, _, _, _, _, _, _, rfl, hidD ⟨GG.out.1, GG.out.2.1, GG.out.2.2.1, GG.out.2.2.2.1, GG.out.2.2.2.2.1, GG.out.2.2.2.2.2.1, fun _ => rfl, fun _ => rfl⟩, hidD (SS0.out)⟩
    case fin2 =>
      rintro D act V hDD ⟨t52x, t53x, t54x, t66x, t67x, t68x, t69x, t2x, rfl, GG, SS0⟩
      obtain rfl := GG.out.2.2.2.2.2.2.2 (hDD 18 (by decide))
      have hq := SS0.out
      clear GG SS0 hDD
      go_wp2_with fail
      go_ret
      exact ⟨rfl, M.out.trans (Below.mono hq M.out.size)⟩
end Go.Proofs.YtcahejkcdcjjgaaGreatDoor
namespace Go.Proofs.YtcahejkcdcjjgaaGreatDoor.M3
open Go.RowKit Go.Shelf

attribute [local go_sem] Oper.semAt_some

/-- A slope's row, its first i told. -/
def SlAt (ps : List Rat) (n i : Nat) (S : List Rat) : Prop := S.length = n ∧ ∀ j, cf S j = if j < i then slF ps j else 0
theorem SlAt.next {ps : List Rat} {n i : Nat} {S : List Rat} (h : SlAt ps n i S) (hi : i < n) : SlAt ps n (i + 1) (S.set i (slF ps i)) := by
  refine ⟨by rw [List.length_set]; exact h.1, fun j => ?_⟩
  rw [cf_set _ _ _ _ (by rw [h.1]; exact hi), h.2 j]
  by_cases e : j = i
  · rw [if_pos e, if_pos (by omega), e]
  · rw [if_neg e]
    by_cases e2 : j < i
    · rw [if_pos e2, if_pos (by omega)]
    · rw [if_neg e2, if_neg (by omega)]
theorem SlAt.done {ps : List Rat} {n : Nat} {S : List Rat} (h : SlAt ps n n S) (hn : n = ps.length - 1) : trimQ S = slopeQ ps := trim_ext fun j => by
  rw [h.2 j, cf_slopeR]
  split
  · rfl
  · rw [cf_ge (p := ps) (by omega), Rat.zero_mul]

set_option maxRecDepth 100000 in
set_option maxHeartbeats 8000000 in
theorem ySlope_c (v : Value) (ps : List Rat) (w : World) (h : IsPoly w v ps) (hps : Sqs ps) (hsl : ∀ i, Sq (slF ps i)) :
    Calls Tryz.prog 35 #[v] w fun e w' => ∃ u, e = .returned u ∧ IsPoly w' u (slopeQ ps) ∧ Below w.heap.size w w' := by
  have hmx : Tryz.prog.follows .mixedOrders = true := by kernel_rfl
  obtain ⟨pa, la, pc, rfl⟩ := h.form
  have ha := h.row
  obtain ⟨hla, hca, hcma, hlma, s, t, aa, bb, ll, cc, kk, dd, hcp⟩ := ha.forms
  have M0 : Mem w _ _ := ((Mem.nil w).push (.cell 25 (.slice pa la pc)) (cs := #[.slice pa la pc]) ⟨rfl, rfl⟩).push (.cell 25 (.slice none 0 0)) (cs := #[.slice none 0 0]) ⟨rfl, rfl⟩
  simp only [World.size_alloc] at M0
  obtain ⟨V0, hV0⟩ : ∃ V, (w.alloc (.cells #[.slice pa la pc] 25)).alloc (.cells #[.slice none 0 0] 25) = V := ⟨_, rfl⟩
  have M1 : Mem w V0 [some (w.heap.size, .cell 25 (.slice pa la pc)), some (w.heap.size + 1, .cell 25 (.slice none 0 0))] := by rw [← hV0]; exact M0
  have HM1 := hidD M1
  obtain ⟨d, hd⟩ : ∃ d : Int, (ps.length : Int) - 1 = d := ⟨_, rfl⟩
  have HDG := hidD (yDegree_c (.agg #[.slice pa la pc]) ps V0 (h.below M1.2.2))
  rw [hd] at HDG
  obtain ⟨n, hn⟩ : ∃ n : Nat, ps.length - 1 = n := ⟨_, rfl⟩
  have hmax : max (0 : Int) d = (n : Int) := by omega
  have hmk : ∀ W : World, (Instr.makeSlice 23 (.int .i64 (n : Int)) (.int .i64 (n : Int))).run Tryz.prog W = .ok (.slice (some ⟨W.heap.size, 0, none⟩) n n) (W.alloc (.cells (zeroQ n) 38)) := fun W => make_rats n (by omega) W
  have HP := hidD hcp
  have HPS := hidD hps
  have HSL := hidD hsl
  have HN := hidD (show n = ps.length - 1 ∧ la = ps.length from ⟨hn.symm, hla⟩)
  have hnle : n ≤ 1099511627776 := by omega
  have HV0 := hidD hV0
  clear h ha hcp hps hsl hla hca hcma hn hd M0 M1 hV0
  go_enter Tryz.func35, Tryz.ntmps35
  go_upto_region 1 with fail
  rw [HV0.out]
  have c0 := (HM1.out.cell (i := 0) rfl).1.cell
  go_upto_region 2 with (go_at_call 15; refine HDG.out.mono ?_; clear HDG; rintro e w1 ⟨rfl, hb1⟩)
  have hM2 : Mem w (w1.alloc (.cells (zeroQ n) 38)) [some (w.heap.size, .cell 25 (.slice pa la pc)), some (w.heap.size + 1, .cell 25 (.slice none 0 0)), some (w1.heap.size, .rats (List.replicate n 0))] := (HM1.out.below hb1).push (.rats (List.replicate n 0)) (has_zeros _ n)
  obtain ⟨V1, hV1⟩ : ∃ V, w1.alloc (.cells (zeroQ n) 38) = V := ⟨_, rfl⟩
  obtain ⟨gS, hgS⟩ : ∃ g, w1.heap.size = g := ⟨_, rfl⟩
  rw [hV1, hgS] at hM2
  rw [hV1, hgS]
  have HM2 := hidD hM2
  clear hM2 hV1 hgS hb1 c0 HM1 HV0 hmk hmax
  go_wp2
  go_loopw [11] (fun iv wr => ∃ (i : Nat) (S : List Rat), i ≤ n ∧ iv = .int .i64 (i : Int) ∧ Hid (SlAt ps n i S) ∧ Hid (Mem w wr [some (w.heap.size, .cell 25 (.slice pa la pc)), some (w.heap.size + 1, .cell 25 (.slice none 0 0)), some (gS, .rats S)])) (fun iv _ => n - (intOf iv).toNat)
  case atStart => exact ⟨0, _, Nat.zero_le _, rfl, hidD ⟨List.length_replicate, fun j => by rw [cf_replicate, if_neg (by omega)]⟩, HM2⟩
  case round =>
    obtain ⟨i, S, hi, rfl, HS, HM⟩ := hrel
    clear HM2
    by_cases hlt : i < n
    · have hlt2 : (i : Int) < (n : Int) := by omega
      obtain ⟨K, hK⟩ : ∃ K : Nat, i + 1 = K := ⟨_, rfl⟩
      have hK1 : (i : Int) + 1 = (K : Int) := by omega
      have hKw : IntKind.i64.wrap (K : Int) = (K : Int) := by rw [IntKind.wrap_i64]; omega
      have hKl : (K : Int) < (la : Int) := by have := HN.out; omega
      obtain ⟨hip, bp, rfl, hbp, p0, p1, p2, p3⟩ := HP.out K (by have := HN.out; omega)
      have HCL := hidD (show ∀ V, Below w.heap.size w V → (V.cell? ⟨bp, K * 4, none⟩ = some (.bool (s K)) ∧ V.cell? ⟨bp, K * 4 + 1, none⟩ = some (.slice (aa K) (ll K) (cc K)) ∧ V.cell? ⟨bp, K * 4 + 2, none⟩ = some (.bool (t K)) ∧ V.cell? ⟨bp, K * 4 + 3, none⟩ = some (.slice (bb K) (kk K) (dd K))) ∧ IsRat V (.agg #[.bool (s K), .slice (aa K) (ll K) (cc K), .bool (t K), .slice (bb K) (kk K) (dd K)]) (cf ps K) from fun V hB => by
        exact ⟨⟨(hB.cell (p := ⟨bp, _, none⟩) hbp).trans p0, (hB.cell (p := ⟨bp, _, none⟩) hbp).trans p1, (hB.cell (p := ⟨bp, _, none⟩) hbp).trans p2, (hB.cell (p := ⟨bp, _, none⟩) hbp).trans p3⟩, hip.below hB⟩)
      have HKK := hidD (show K ≤ 1099511627776 ∧ K = i + 1 by omega)
      have HFN := hidD (show cf ps K * ((K : Int) : Rat) = slF ps i by rw [HKK.out.2]; rfl)
      have HIL := hidD (show i < S.length by rw [HS.out.1]; exact hlt)
      clear hip hbp p0 p1 p2 p3 hK
      go_wp2_with fail
      have ST0 := HM.out.drew
      refine wp_region_tab hmx [[], [], [], [2], [], [4], [3, 5], [6], [], [8], [9], [7, 10, 10], [0, 1, 0, 1, 2, 3, 4, 5, 6, 7, 8, 9, 10, 11], [12, 11, 11, 0, 1, 2, 3, 4, 5, 6, 7, 8, 9, 10, 11]] (by kernel_rfl) (by decide)
        (fun D act V => ∃ (t14x t15x t16x t17x t18x t19x t20x t21x t22x t23x t24x t25x t26x : Value), act = { tmps := #[Value.agg #[Value.slice (some { block := bp, off := 0 }) la pc], Value.pointer (some { block := w.heap.size, off := 0 }), Value.pointer (some { block := w.heap.size + 1, off := 0 }), Value.slice (some { block := gS, off := 0 }) n n, Value.int IntKind.i64 ↑i, Value.agg #[Value.slice (some { block := bp, off := 0 }) la pc], Value.int IntKind.i64 d, Value.int IntKind.i64 ↑n, Value.slice (some { block := gS, off := 0 }) n n, Value.slice (some { block := gS, off := 0 }) n n, Value.int IntKind.i64 ↑n, Value.int IntKind.i64 ↑i, Value.bool true, Value.int IntKind.i64 ↑i, t14x, t15x, t16x, t17x, t18x, t19x, t20x, t21x, t22x, t23x, t24x, t25x, t26x, u27, undef, undef], defers := [] } ∧ Hid ((D 0 = true → t14x = .slice (some ⟨gS, 0, none⟩) n n) ∧ (D 1 = true → t15x = .int .i64 (i : Int)) ∧ (D 2 = true → t16x = .pointer (some ⟨w.heap.size, 0, none⟩)) ∧ (D 3 = true → t17x = .slice (some ⟨bp, 0, none⟩) la pc) ∧ (D 4 = true → t18x = .int .i64 (i : Int)) ∧ (D 5 = true → t19x = .int .i64 (K : Int)) ∧ (D 6 = true → t20x = .pointer (some ⟨bp, K * 4, none⟩)) ∧ (D 7 = true → D 13 = false → IsRat V t21x (cf ps K)) ∧ (D 8 = true → t22x = .int .i64 (i : Int)) ∧ (D 9 = true → t23x = .int .i64 (K : Int)) ∧ (D 10 = true → D 13 = false → IsRat V t24x ((K : Int) : Rat)) ∧ (D 11 = true → D 13 = false → IsRat V t25x (slF ps i)) ∧ (D 12 = true → t26x = .pointer (some ⟨gS, i * 4, none⟩))) ∧ Hid ((D 13 = false → Mem w V [some (w.heap.size, .cell 25 (.slice (some ⟨bp, 0, none⟩) la pc)), some (w.heap.size + 1, .cell 25 (.slice none 0 0)), some (gS, .rats (S))]) ∧ (D 13 = true → Mem w V [some (w.heap.size, .cell 25 (.slice (some ⟨bp, 0, none⟩) la pc)), some (w.heap.size + 1, .cell 25 (.slice none 0 0)), some (gS, .rats (S.set i (slF ps i)))])))
        ⟨_, _, _, _, _, _, _, _, _, _, _, _, _, rfl, hidD ⟨by simp, by simp, by simp, by simp, by simp, by simp, by simp, by simp, by simp, by simp, by simp, by simp, by simp⟩, hidD ⟨fun _ => ST0, by simp⟩⟩ ?step1 ?fin1
      case step1 =>
        rintro D act V i ds hcl hi hds hDi ⟨t14x, t15x, t16x, t17x, t18x, t19x, t20x, t21x, t22x, t23x, t24x, t25x, t26x, rfl, GG, SS0⟩
        have hi6 : i < 14 := (List.getElem?_eq_some_iff.1 hi).1
        obtain rfl | rfl | rfl | rfl | rfl | rfl | rfl | rfl | rfl | rfl | rfl | rfl | rfl | rfl : i = 0 ∨ i = 1 ∨ i = 2 ∨ i = 3 ∨ i = 4 ∨ i = 5 ∨ i = 6 ∨ i = 7 ∨ i = 8 ∨ i = 9 ∨ i = 10 ∨ i = 11 ∨ i = 12 ∨ i = 13 := by omega
        all_goals
          simp only [List.getElem?_cons_zero, List.getElem?_cons_succ, Option.some.injEq] at hi
          subst hi
        · have hf0 : D 13 = false := by
            cases h : D 13 with
            | false => rfl
            | true => rw [(hcl 13 _ rfl h 0 (by simp))] at hDi; cases hDi
          have hS0 := SS0.out.1 hf0
          clear hds
          refine wpOp_go rfl rfl (fun K hK => ?_)
          go_simp
          exact hK _ _ ⟨_, _, _, _, _, _, _, _, _, _, _, _, _, rfl, hidD ⟨fun _ => rfl, GG.out.2.1, GG.out.2.2.1, GG.out.2.2.2.1, GG.out.2.2.2.2.1, GG.out.2.2.2.2.2.1, GG.out.2.2.2.2.2.2.1, fun h h2 => (GG.out.2.2.2.2.2.2.2.1 h (by simpa using h2)), GG.out.2.2.2.2.2.2.2.2.1, GG.out.2.2.2.2.2.2.2.2.2.1, fun h h2 => (GG.out.2.2.2.2.2.2.2.2.2.2.1 h (by simpa using h2)), fun h h2 => (GG.out.2.2.2.2.2.2.2.2.2.2.2.1 h (by simpa using h2)), GG.out.2.2.2.2.2.2.2.2.2.2.2.2⟩, hidD ⟨fun h => (SS0.out.1 (by simpa using h)), fun h => (SS0.out.2 (by simpa using h))⟩⟩
        · have hf0 : D 13 = false := by
            cases h : D 13 with
            | false => rfl
            | true => rw [(hcl 13 _ rfl h 1 (by simp))] at hDi; cases hDi
          have hS0 := SS0.out.1 hf0
          clear hds
          refine wpOp_go rfl rfl (fun K hK => ?_)
          go_simp
          exact hK _ _ ⟨_, _, _, _, _, _, _, _, _, _, _, _, _, rfl, hidD ⟨GG.out.1, fun _ => rfl, GG.out.2.2.1, GG.out.2.2.2.1, GG.out.2.2.2.2.1, GG.out.2.2.2.2.2.1, GG.out.2.2.2.2.2.2.1, fun h h2 => (GG.out.2.2.2.2.2.2.2.1 h (by simpa using h2)), GG.out.2.2.2.2.2.2.2.2.1, GG.out.2.2.2.2.2.2.2.2.2.1, fun h h2 => (GG.out.2.2.2.2.2.2.2.2.2.2.1 h (by simpa using h2)), fun h h2 => (GG.out.2.2.2.2.2.2.2.2.2.2.2.1 h (by simpa using h2)), GG.out.2.2.2.2.2.2.2.2.2.2.2.2⟩, hidD ⟨fun h => (SS0.out.1 (by simpa using h)), fun h => (SS0.out.2 (by simpa using h))⟩⟩
        · have hf0 : D 13 = false := by
            cases h : D 13 with
            | false => rfl
            | true => rw [(hcl 13 _ rfl h 2 (by simp))] at hDi; cases hDi
          have hS0 := SS0.out.1 hf0
          clear hds
          refine wpOp_go rfl rfl (fun K hK => ?_)
          go_simp
          exact hK _ _ ⟨_, _, _, _, _, _, _, _, _, _, _, _, _, rfl, hidD ⟨GG.out.1, GG.out.2.1, fun _ => rfl, GG.out.2.2.2.1, GG.out.2.2.2.2.1, GG.out.2.2.2.2.2.1, GG.out.2.2.2.2.2.2.1, fun h h2 => (GG.out.2.2.2.2.2.2.2.1 h (by simpa using h2)), GG.out.2.2.2.2.2.2.2.2.1, GG.out.2.2.2.2.2.2.2.2.2.1, fun h h2 => (GG.out.2.2.2.2.2.2.2.2.2.2.1 h (by simpa using h2)), fun h h2 => (GG.out.2.2.2.2.2.2.2.2.2.2.2.1 h (by simpa using h2)), GG.out.2.2.2.2.2.2.2.2.2.2.2.2⟩, hidD ⟨fun h => (SS0.out.1 (by simpa using h)), fun h => (SS0.out.2 (by simpa using h))⟩⟩
        · have hf0 : D 13 = false := by
            cases h : D 13 with
            | false => rfl
            | true => rw [(hcl 13 _ rfl h 3 (by simp))] at hDi; cases hDi
          have hS0 := SS0.out.1 hf0
          obtain rfl := GG.out.2.2.1 (hds 2 (by simp))
          have e0 := (hS0.cell (i := 0) rfl).1.cell
          clear hds
          refine wpOp_go rfl rfl (fun K hK => ?_)
          go_simp
          exact hK _ _ ⟨_, _, _, _, _, _, _, _, _, _, _, _, _, rfl, hidD ⟨GG.out.1, GG.out.2.1, fun _ => rfl, fun _ => rfl, GG.out.2.2.2.2.1, GG.out.2.2.2.2.2.1, GG.out.2.2.2.2.2.2.1, fun h h2 => (GG.out.2.2.2.2.2.2.2.1 h (by simpa using h2)), GG.out.2.2.2.2.2.2.2.2.1, GG.out.2.2.2.2.2.2.2.2.2.1, fun h h2 => (GG.out.2.2.2.2.2.2.2.2.2.2.1 h (by simpa using h2)), fun h h2 => (GG.out.2.2.2.2.2.2.2.2.2.2.2.1 h (by simpa using h2)), GG.out.2.2.2.2.2.2.2.2.2.2.2.2⟩, hidD ⟨fun h => (SS0.out.1 (by simpa using h)), fun h => (SS0.out.2 (by simpa using h))⟩⟩
        · have hf0 : D 13 = false := by
            cases h : D 13 with
            | false => rfl
            | true => rw [(hcl 13 _ rfl h 4 (by simp))] at hDi; cases hDi
          have hS0 := SS0.out.1 hf0
          clear hds
          refine wpOp_go rfl rfl (fun K hK => ?_)
          go_simp
          exact hK _ _ ⟨_, _, _, _, _, _, _, _, _, _, _, _, _, rfl, hidD ⟨GG.out.1, GG.out.2.1, GG.out.2.2.1, GG.out.2.2.2.1, fun _ => rfl, GG.out.2.2.2.2.2.1, GG.out.2.2.2.2.2.2.1, fun h h2 => (GG.out.2.2.2.2.2.2.2.1 h (by simpa using h2)), GG.out.2.2.2.2.2.2.2.2.1, GG.out.2.2.2.2.2.2.2.2.2.1, fun h h2 => (GG.out.2.2.2.2.2.2.2.2.2.2.1 h (by simpa using h2)), fun h h2 => (GG.out.2.2.2.2.2.2.2.2.2.2.2.1 h (by simpa using h2)), GG.out.2.2.2.2.2.2.2.2.2.2.2.2⟩, hidD ⟨fun h => (SS0.out.1 (by simpa using h)), fun h => (SS0.out.2 (by simpa using h))⟩⟩
        · have hf0 : D 13 = false := by
            cases h : D 13 with
            | false => rfl
            | true => rw [(hcl 13 _ rfl h 5 (by simp))] at hDi; cases hDi
          have hS0 := SS0.out.1 hf0
          obtain rfl := GG.out.2.2.2.2.1 (hds 4 (by simp))
          clear hds
          refine wpOp_go rfl rfl (fun K hK => ?_)
          go_simp
          exact hK _ _ ⟨_, _, _, _, _, _, _, _, _, _, _, _, _, rfl, hidD ⟨GG.out.1, GG.out.2.1, GG.out.2.2.1, GG.out.2.2.2.1, fun _ => rfl, fun _ => rfl, GG.out.2.2.2.2.2.2.1, fun h h2 => (GG.out.2.2.2.2.2.2.2.1 h (by simpa using h2)), GG.out.2.2.2.2.2.2.2.2.1, GG.out.2.2.2.2.2.2.2.2.2.1, fun h h2 => (GG.out.2.2.2.2.2.2.2.2.2.2.1 h (by simpa using h2)), fun h h2 => (GG.out.2.2.2.2.2.2.2.2.2.2.2.1 h (by simpa using h2)), GG.out.2.2.2.2.2.2.2.2.2.2.2.2⟩, hidD ⟨fun h => (SS0.out.1 (by simpa using h)), fun h => (SS0.out.2 (by simpa using h))⟩⟩
        · have hf0 : D 13 = false := by
            cases h : D 13 with
            | false => rfl
            | true => rw [(hcl 13 _ rfl h 6 (by simp))] at hDi; cases hDi
          have hS0 := SS0.out.1 hf0
          obtain rfl := GG.out.2.2.2.1 (hds 3 (by simp))
          obtain rfl := GG.out.2.2.2.2.2.1 (hds 5 (by simp))
          clear hds
          refine wpOp_go rfl rfl (fun K hK => ?_)
          go_simp
          exact hK _ _ ⟨_, _, _, _, _, _, _, _, _, _, _, _, _, rfl, hidD ⟨GG.out.1, GG.out.2.1, GG.out.2.2.1, fun _ => rfl, GG.out.2.2.2.2.1, fun _ => rfl, fun _ => rfl, fun h h2 => (GG.out.2.2.2.2.2.2.2.1 h (by simpa using h2)), GG.out.2.2.2.2.2.2.2.2.1, GG.out.2.2.2.2.2.2.2.2.2.1, fun h h2 => (GG.out.2.2.2.2.2.2.2.2.2.2.1 h (by simpa using h2)), fun h h2 => (GG.out.2.2.2.2.2.2.2.2.2.2.2.1 h (by simpa using h2)), GG.out.2.2.2.2.2.2.2.2.2.2.2.2⟩, hidD ⟨fun h => (SS0.out.1 (by simpa using h)), fun h => (SS0.out.2 (by simpa using h))⟩⟩
        · have hf0 : D 13 = false := by
            cases h : D 13 with
            | false => rfl
            | true => rw [(hcl 13 _ rfl h 7 (by simp))] at hDi; cases hDi
          have hS0 := SS0.out.1 hf0
          obtain rfl := GG.out.2.2.2.2.2.2.1 (hds 6 (by simp))
          obtain ⟨⟨e0, e1, e2, e3⟩, hr⟩ := HCL.out V hS0.2.2
          clear hds
          refine wpOp_go rfl rfl (fun K hK => ?_)
          go_simp
          exact hK _ _ ⟨_, _, _, _, _, _, _, _, _, _, _, _, _, rfl, hidD ⟨GG.out.1, GG.out.2.1, GG.out.2.2.1, GG.out.2.2.2.1, GG.out.2.2.2.2.1, GG.out.2.2.2.2.2.1, fun _ => rfl, fun _ _ => hr, GG.out.2.2.2.2.2.2.2.2.1, GG.out.2.2.2.2.2.2.2.2.2.1, fun h h2 => (GG.out.2.2.2.2.2.2.2.2.2.2.1 h (by simpa using h2)), fun h h2 => (GG.out.2.2.2.2.2.2.2.2.2.2.2.1 h (by simpa using h2)), GG.out.2.2.2.2.2.2.2.2.2.2.2.2⟩, hidD ⟨fun h => (SS0.out.1 (by simpa using h)), fun h => (SS0.out.2 (by simpa using h))⟩⟩
        · have hf0 : D 13 = false := by
            cases h : D 13 with
            | false => rfl
            | true => rw [(hcl 13 _ rfl h 8 (by simp))] at hDi; cases hDi
          have hS0 := SS0.out.1 hf0
          clear hds
          refine wpOp_go rfl rfl (fun K hK => ?_)
          go_simp
          exact hK _ _ ⟨_, _, _, _, _, _, _, _, _, _, _, _, _, rfl, hidD ⟨GG.out.1, GG.out.2.1, GG.out.2.2.1, GG.out.2.2.2.1, GG.out.2.2.2.2.1, GG.out.2.2.2.2.2.1, GG.out.2.2.2.2.2.2.1, fun h h2 => (GG.out.2.2.2.2.2.2.2.1 h (by simpa using h2)), fun _ => rfl, GG.out.2.2.2.2.2.2.2.2.2.1, fun h h2 => (GG.out.2.2.2.2.2.2.2.2.2.2.1 h (by simpa using h2)), fun h h2 => (GG.out.2.2.2.2.2.2.2.2.2.2.2.1 h (by simpa using h2)), GG.out.2.2.2.2.2.2.2.2.2.2.2.2⟩, hidD ⟨fun h => (SS0.out.1 (by simpa using h)), fun h => (SS0.out.2 (by simpa using h))⟩⟩
        · have hf0 : D 13 = false := by
            cases h : D 13 with
            | false => rfl
            | true => rw [(hcl 13 _ rfl h 9 (by simp))] at hDi; cases hDi
          have hS0 := SS0.out.1 hf0
          obtain rfl := GG.out.2.2.2.2.2.2.2.2.1 (hds 8 (by simp))
          clear hds
          refine wpOp_go rfl rfl (fun K hK => ?_)
          go_simp
          exact hK _ _ ⟨_, _, _, _, _, _, _, _, _, _, _, _, _, rfl, hidD ⟨GG.out.1, GG.out.2.1, GG.out.2.2.1, GG.out.2.2.2.1, GG.out.2.2.2.2.1, GG.out.2.2.2.2.2.1, GG.out.2.2.2.2.2.2.1, fun h h2 => (GG.out.2.2.2.2.2.2.2.1 h (by simpa using h2)), fun _ => rfl, fun _ => rfl, fun h h2 => (GG.out.2.2.2.2.2.2.2.2.2.2.1 h (by simpa using h2)), fun h h2 => (GG.out.2.2.2.2.2.2.2.2.2.2.2.1 h (by simpa using h2)), GG.out.2.2.2.2.2.2.2.2.2.2.2.2⟩, hidD ⟨fun h => (SS0.out.1 (by simpa using h)), fun h => (SS0.out.2 (by simpa using h))⟩⟩
        · have hf0 : D 13 = false := by
            cases h : D 13 with
            | false => rfl
            | true => rw [(hcl 13 _ rfl h 10 (by simp))] at hDi; cases hDi
          have hS0 := SS0.out.1 hf0
          obtain rfl := GG.out.2.2.2.2.2.2.2.2.2.1 (hds 9 (by simp))
          clear hds
          have HC := hidD (ywholeRat_c (K : Int) (by omega) (by have := HKK.out; omega) V)
          refine wpOp_go rfl rfl (fun K hK => ?_)
          go_simp
          go_wp2_with (go_at_call 77; refine HC.out.mono ?_; rintro e w5 ⟨v5, rfl, hv5, hb5⟩)
          exact ⟨_, _, _, _, _, _, _, _, _, _, _, _, _, rfl, hidD ⟨GG.out.1, GG.out.2.1, GG.out.2.2.1, GG.out.2.2.2.1, GG.out.2.2.2.2.1, GG.out.2.2.2.2.2.1, GG.out.2.2.2.2.2.2.1, fun h h2 => (GG.out.2.2.2.2.2.2.2.1 h (by simpa using h2)).below hb5, GG.out.2.2.2.2.2.2.2.2.1, fun _ => rfl, fun _ _ => hv5, fun h h2 => (GG.out.2.2.2.2.2.2.2.2.2.2.2.1 h (by simpa using h2)).below hb5, GG.out.2.2.2.2.2.2.2.2.2.2.2.2⟩, hidD ⟨fun h => (SS0.out.1 (by simpa using h)).below hb5, fun h => (SS0.out.2 (by simpa using h)).below hb5⟩⟩
        · have hf0 : D 13 = false := by
            cases h : D 13 with
            | false => rfl
            | true => rw [(hcl 13 _ rfl h 11 (by simp))] at hDi; cases hDi
          have hS0 := SS0.out.1 hf0
          have h0 := GG.out.2.2.2.2.2.2.2.1 (hds 7 (by simp)) hf0
          have h1 := GG.out.2.2.2.2.2.2.2.2.2.2.1 (hds 10 (by simp)) hf0
          clear hds
          have HC := hidD (qtimes_c _ _ (cf ps K) ((K : Int) : Rat) V h0 h1 (HPS.out.at K) (cast_sq HKK.out.1))
          rw [HFN.out] at HC
          clear h0 h1
          refine wpOp_go rfl rfl (fun K hK => ?_)
          go_simp
          go_wp2_with (go_at_call 41; refine HC.out.mono ?_; rintro e w5 ⟨v5, rfl, hv5, hb5⟩)
          exact ⟨_, _, _, _, _, _, _, _, _, _, _, _, _, rfl, hidD ⟨GG.out.1, GG.out.2.1, GG.out.2.2.1, GG.out.2.2.2.1, GG.out.2.2.2.2.1, GG.out.2.2.2.2.2.1, GG.out.2.2.2.2.2.2.1, fun h h2 => (GG.out.2.2.2.2.2.2.2.1 h (by simpa using h2)).below hb5, GG.out.2.2.2.2.2.2.2.2.1, GG.out.2.2.2.2.2.2.2.2.2.1, fun h h2 => (GG.out.2.2.2.2.2.2.2.2.2.2.1 h (by simpa using h2)).below hb5, fun _ _ => hv5, GG.out.2.2.2.2.2.2.2.2.2.2.2.2⟩, hidD ⟨fun h => (SS0.out.1 (by simpa using h)).below hb5, fun h => (SS0.out.2 (by simpa using h)).below hb5⟩⟩
        · have hf0 : D 13 = false := by
            cases h : D 13 with
            | false => rfl
            | true => rw [(hcl 13 _ rfl h 12 (by simp))] at hDi; cases hDi
          have hS0 := SS0.out.1 hf0
          obtain rfl := GG.out.1 (hds 0 (by simp))
          obtain rfl := GG.out.2.1 (hds 1 (by simp))
          clear hds
          refine wpOp_go rfl rfl (fun K hK => ?_)
          go_simp
          exact hK _ _ ⟨_, _, _, _, _, _, _, _, _, _, _, _, _, rfl, hidD ⟨fun _ => rfl, fun _ => rfl, GG.out.2.2.1, GG.out.2.2.2.1, GG.out.2.2.2.2.1, GG.out.2.2.2.2.2.1, GG.out.2.2.2.2.2.2.1, fun h h2 => (GG.out.2.2.2.2.2.2.2.1 h (by simpa using h2)), GG.out.2.2.2.2.2.2.2.2.1, GG.out.2.2.2.2.2.2.2.2.2.1, fun h h2 => (GG.out.2.2.2.2.2.2.2.2.2.2.1 h (by simpa using h2)), fun h h2 => (GG.out.2.2.2.2.2.2.2.2.2.2.2.1 h (by simpa using h2)), fun _ => rfl⟩, hidD ⟨fun h => (SS0.out.1 (by simpa using h)), fun h => (SS0.out.2 (by simpa using h))⟩⟩
        · have hS0 := SS0.out.1 hDi
          have h0 := GG.out.2.2.2.2.2.2.2.2.2.2.2.1 (hds 11 (by simp)) hDi
          obtain rfl := GG.out.2.2.2.2.2.2.2.2.2.2.2.2 (hds 12 (by simp))
          have hE := hS0.rats (i := 2) rfl
          obtain ⟨xa, xb, xc, xd, e0, e1, e2, e3, _⟩ := hE.at HIL.out
          have f0 := hE.frozen (i * 4)
          have f1 := hE.frozen (i * 4 + 1)
          have f2 := hE.frozen (i * 4 + 2)
          have f3 := hE.frozen (i * 4 + 3)
          obtain ⟨s9, a9, l9, c9, t9, b9, k9, d9, rfl⟩ := IsRat.form h0
          clear hds
          refine wpOp_go rfl rfl (fun K hK => ?_)
          go_simp
          exact hK _ _ ⟨_, _, _, _, _, _, _, _, _, _, _, _, _, rfl, hidD ⟨GG.out.1, GG.out.2.1, GG.out.2.2.1, GG.out.2.2.2.1, GG.out.2.2.2.2.1, GG.out.2.2.2.2.2.1, GG.out.2.2.2.2.2.2.1, fun _ h => by simp at h, GG.out.2.2.2.2.2.2.2.2.1, GG.out.2.2.2.2.2.2.2.2.2.1, fun _ h => by simp at h, fun _ h => by simp at h, fun _ => rfl⟩, hidD ⟨fun h => by simp at h, fun _ => hS0.putRats (i := 2) rfl HIL.out h0⟩⟩
      case fin1 =>
        rintro D act V hDD ⟨t14x, t15x, t16x, t17x, t18x, t19x, t20x, t21x, t22x, t23x, t24x, t25x, t26x, rfl, GG, SS0⟩
        have HO := hidD (SS0.out.2 (hDD 13 (by decide)))
        clear GG SS0 hDD
        go_wp2_with fail
        go_roundw
        case rel => exact ⟨i + 1, _, by omega, by go_num, hidD (HS.out.next hlt), HO⟩
        case measure => simp [intOf]; omega
    · obtain rfl : i = n := by omega
      have hE := HM.out.rats (i := 2) rfl
      have hrow := hE.row (n := i) (cap := i) (by rw [HS.out.1]; exact Nat.le_refl _) (Nat.le_refl _) (by omega) hnle
      rw [List.take_of_length_le (by rw [HS.out.1]; exact Nat.le_refl _)] at hrow
      have HMD := hidD (ymade_c _ S wr hrow (Sqs.of fun j => by
        rw [HS.out.2 j]
        split
        · exact HSL.out j
        · exact sq0))
      rw [HS.out.done HN.out.1] at HMD
      clear hE hrow
      go_wp2_with (go_at_call 65; refine HMD.out.mono ?_; clear HMD; rintro e w5 ⟨u5, rfl, hu5, _, hb5⟩; obtain ⟨a7, l7, c7, rfl⟩ := hu5.form; have n5 := boxed_below (HM.out.cell (i := 1) rfl).1 hb5; have x0 := n5.cell; have x1 := n5.frozen; have HU5 := hidD (boxP n5 (.slice a7 l7 c7) hu5.row); have HB5 := hidD ((HM.out.2.2.trans (hb5.mono HM.out.2.2.size)).setCell (p := ⟨w.heap.size + 1, 0, none⟩) (by show w.heap.size ≤ w.heap.size + 1; omega) (.slice a7 l7 c7)); clear hu5 hb5 n5)
      exact bodyPost_ret (v := .agg #[.slice a7 l7 c7]) (by simp [results, Tryz.results35, go_sem, x0]) rfl ⟨_, rfl, ⟨_, rfl, HU5.out⟩, HB5.out⟩
end Go.Proofs.YtcahejkcdcjjgaaGreatDoor.M3
namespace Go.Proofs.YtcahejkcdcjjgaaGreatDoor
open Go.RowKit Go.Shelf

/-! Fractions over one denominator: how great moved polynomials are. -/
/-- c is a whole number of at most K words, over D. -/
def CD (D : Int) (K : Nat) (c : Rat) : Prop := ∃ n : Int, c = Rat.divInt n D ∧ Sm K n
section
variable {D E : Int} {K M : Nat} {c d : Rat}
theorem CD.mono (h : CD D K c) (hk : K ≤ M) : CD D M c := by
  obtain ⟨n, e, h⟩ := h
  exact ⟨n, e, h.mono hk⟩
theorem CD.smq (h : CD D K c) (hD : D ≠ 0) (hs : Sm K D) : SmQ K c := by
  obtain ⟨n, rfl, h⟩ := h
  exact SmQ.divInt hD h hs
theorem CD.zero (D : Int) (K : Nat) : CD D K 0 := ⟨0, by rw [Rat.zero_divInt], Sm.zero K⟩
theorem CD.add (h : CD D K c) (h2 : CD D M d) (hD : D ≠ 0) : CD D (max K M + 1) (c + d) := by
  obtain ⟨n, rfl, h⟩ := h
  obtain ⟨m, rfl, h2⟩ := h2
  refine ⟨n + m, ?_, ?_⟩
  · rw [Rat.divInt_add_divInt _ _ hD hD, ← Int.add_mul, Rat.divInt_mul_right hD]
  · exact (h.mono (Nat.le_max_left ..)).add (h2.mono (Nat.le_max_right ..))
theorem CD.mul (h : CD D K c) (h2 : CD E M d) : CD (D * E) (K + M) (c * d) := by
  obtain ⟨n, rfl, h⟩ := h
  obtain ⟨m, rfl, h2⟩ := h2
  exact ⟨n * m, by rw [Rat.divInt_mul_divInt], h.mul h2⟩
theorem CD.wide (h : CD D K c) (hE : Sm M E) (h0 : E ≠ 0) : CD (D * E) (K + M) c := by
  obtain ⟨n, rfl, h⟩ := h
  exact ⟨n * E, by rw [Rat.divInt_mul_right h0], h.mul hE⟩
theorem CD.of (h : SmQ K c) : CD (c.den : Int) K c := ⟨c.num, (Rat.num_divInt_den c).symm, h.1⟩
end
/-- Each coefficient is. -/
def CDL (D : Int) (K : Nat) (ps : List Rat) : Prop := ∀ i, CD D K (cf ps i)
/-- A list has a denominator in common. -/
theorem CDL.some {A : Nat} : ∀ {ps : List Rat}, (∀ i, SmQ A (cf ps i)) → ∃ D : Int, D ≠ 0 ∧ Sm (ps.length * A + 1) D ∧ CDL D (ps.length * A + 1) ps := by
  intro ps
  induction ps with
  | nil => intro _; exact ⟨1, by decide, Sm.one _ (by omega), fun i => by rw [cf_nil]; exact CD.zero _ _⟩
  | cons c t ih =>
    intro h
    obtain ⟨D, h1, h2, h3⟩ := ih (fun i => by have := h (i + 1); rwa [cf_succ] at this)
    have hc := h 0
    rw [cf_zero] at hc
    have hd : (c.den : Int) ≠ 0 := by have := c.den_nz; omega
    have e : (c :: t).length * A + 1 = t.length * A + 1 + A := by rw [List.length_cons, Nat.add_mul]; omega
    rw [e]
    refine ⟨D * c.den, Int.mul_ne_zero h1 hd, h2.mul hc.2, fun i => ?_⟩
    cases i with
    | zero =>
      rw [cf_zero]
      have := (CD.of hc).wide h2 h1
      rw [Int.mul_comm] at this
      exact this.mono (by omega)
    | succ i => rw [cf_succ]; exact (h3 i).wide hc.2 hd
theorem mulAt_cd {D : Int} {K : Nat} {ps qs : List Rat} (hD : D ≠ 0) (h : ∀ i j, CD D K (cf ps i * cf qs j)) (n : Nat) : ∀ (i k : Nat), CD D (K + min i ps.length) (cf (mulAt ps qs n i) k) := by
  intro i
  induction i with
  | zero => intro k; rw [mulAt, cf_replicate]; exact CD.zero _ _
  | succ i ih =>
    intro k
    rw [mulAt]
    rcases cf_addAt_or (mulAt ps qs n i) i (cf ps i) qs qs.length k with e | e
    · rw [e]; exact (ih k).mono (by omega)
    · rw [e]
      by_cases hi : i < ps.length
      · exact ((ih k).add (h i (k - i)) hD).mono (by omega)
      · rw [cf_ge (p := ps) (by omega), Rat.zero_mul, Rat.add_zero]; exact (ih k).mono (by omega)
theorem timesOk_cd {D : Int} {K : Nat} {ps qs : List Rat} (hD : D ≠ 0) (hs : Sm 1000000 D) (h : ∀ i j, CD D K (cf ps i * cf qs j)) (hk : K + ps.length + 1 ≤ 1000000) : M3.TimesOk ps qs := by
  have hq : ∀ c, CD D (K + ps.length + 1) c → Sq c := fun c hc => Sq.of ((hc.mono hk).smq hD hs) (Nat.le_refl _)
  refine ⟨fun i j => hq _ ((h i j).mono (by omega)), fun n i j k => ?_⟩
  have h1 := mulAt_cd hD h n i k
  rcases cf_addAt_or (mulAt ps qs n i) i (cf ps i) qs j k with e | e
  · rw [e]; exact hq _ (h1.mono (by omega))
  · rw [e]; exact hq _ ((h1.add (h i (k - i)) hD).mono (by omega))
theorem mulQ_cd {D : Int} {K : Nat} {ps qs : List Rat} (hD : D ≠ 0) (h : ∀ i j, CD D K (cf ps i * cf qs j)) : CDL D (K + ps.length) (mulQ ps qs) := fun k => by
  unfold mulQ
  rw [cf_trim, cf_mulR]
  have h1 := mulAt_cd hD h (ps.length + qs.length) ps.length k
  rwa [cf_mulAt _ _ _ _ _ (Or.inr (by omega)), Nat.min_self] at h1
theorem line_cf (a : Rat) (j : Nat) : cf (lineQ a) j = a ∨ cf (lineQ a) j = 1 ∨ cf (lineQ a) j = 0 := by
  rcases j with _ | _ | j
  · exact Or.inl rfl
  · exact Or.inr (Or.inl rfl)
  · exact Or.inr (Or.inr (cf_ge (by simp [lineQ])))
theorem line_cd {A : Nat} {a : Rat} (h : SmQ A a) (j : Nat) : CD (a.den : Int) A (cf (lineQ a) j) := by
  have hd : (a.den : Int) ≠ 0 := by have := a.den_nz; omega
  rcases line_cf a j with e | e | e
  · rw [e]; exact CD.of h
  · rw [e]; exact ⟨a.den, by rw [Rat.divInt_self' hd], h.2⟩
  · rw [e]; exact CD.zero _ _
theorem mulQ_len (p q : List Rat) : (mulQ p q).length ≤ p.length + q.length := trim_len (mulQ_trim _ _) fun i hi => by unfold mulQ; rw [cf_trim, cf_mulR, conv_far p q hi]
theorem movQ_len (a : Rat) (l : List Rat) : (movQ a l).length ≤ 2 * l.length := by
  induction l with
  | nil => simp [movQ]
  | cons c t ih =>
    rw [movQ]
    have h1 := addQ_length (mulQ (movQ a t) (lineQ a)) (trimQ [c])
    have h2 := mulQ_len (movQ a t) (lineQ a)
    have h3 := trim_length_le [c]
    have h4 : (lineQ a).length = 2 := rfl
    have h5 : ([c] : List Rat).length = 1 := rfl
    rw [List.length_cons]
    omega
theorem Sm.powZ {A : Nat} {v : Int} (h : Sm A v) : ∀ n, Sm (n * A + 1) (v ^ n) := by
  intro n
  induction n with
  | zero => rw [Int.pow_zero]; exact Sm.one _ (by omega)
  | succ n ih => rw [Int.pow_succ, Nat.add_mul, show n * A + 1 * A + 1 = n * A + 1 + A by omega]; exact ih.mul h
/-- A moved polynomial, over one denominator. -/
theorem mov_cd {D : Int} {K A L : Nat} {a : Rat} (hD : D ≠ 0) (ha : SmQ A a) : ∀ l : List Rat, l.length ≤ L → CDL D K l → CDL (D * (a.den : Int) ^ l.length) (K + l.length * (A + 2 * L + 3)) (movQ a l) := by
  have hd : (a.den : Int) ≠ 0 := by have := a.den_nz; omega
  intro l
  induction l with
  | nil => intro _ _ i; rw [movQ, cf_nil]; exact CD.zero _ _
  | cons c t ih =>
    intro hl h
    rw [List.length_cons] at hl
    have ih := ih (by omega) (fun i => by have := h (i + 1); rwa [cf_succ] at this)
    have hc := h 0
    rw [cf_zero] at hc
    have hlen := movQ_len a t
    have hv : (a.den : Int) ^ t.length ≠ 0 := Int.pow_ne_zero hd
    have h1 : ∀ i j, CD (D * (a.den : Int) ^ t.length * a.den) (K + t.length * (A + 2 * L + 3) + A) (cf (movQ a t) i * cf (lineQ a) j) := fun i j => (ih i).mul (line_cd ha j)
    have h2 := mulQ_cd (Int.mul_ne_zero (Int.mul_ne_zero hD hv) hd) h1
    have e : D * (a.den : Int) ^ t.length * a.den = D * (a.den : Int) ^ (c :: t).length := by rw [List.length_cons, Int.pow_succ, Int.mul_assoc]
    rw [e] at h2
    have hE : D * (a.den : Int) ^ (c :: t).length ≠ 0 := Int.mul_ne_zero hD (Int.pow_ne_zero hd)
    have h3 : CD (D * (a.den : Int) ^ (c :: t).length) (K + ((c :: t).length * A + 1)) c := hc.wide (ha.2.powZ _) (Int.pow_ne_zero hd)
    intro i
    rw [movQ, cf_addQ, cf_trim]
    have h4 : CD (D * (a.den : Int) ^ (c :: t).length) (K + ((c :: t).length * A + 1)) (cf [c] i) := by
      rcases i with _ | i
      · exact h3
      · rw [cf_ge (by simp)]; exact CD.zero _ _
    refine ((h2 i).add h4 hE).mono ?_
    rw [List.length_cons, Nat.add_mul, Nat.add_mul, Nat.mul_add t.length, Nat.mul_add t.length]
    omega
/-- The sizes that moving needs. -/
def MvOk (a : Rat) (ps : List Rat) : Prop := ∀ k, Sqs (movQ a (ps.drop k)) ∧ M3.TimesOk (movQ a (ps.drop k)) (lineQ a) ∧ Sqs (mulQ (movQ a (ps.drop k)) (lineQ a))
theorem mvOk_of {D : Int} {K A L : Nat} {a : Rat} {ps : List Rat} (hD : D ≠ 0) (hsD : Sm K D) (hp : CDL D K ps) (ha : SmQ A a) (hl : ps.length ≤ L) (hb : K + (L + 1) * (A + 2 * L + 3) + 2 * L + 2 ≤ 1000000) : MvOk a ps := fun k => by
  have hd : (a.den : Int) ≠ 0 := by have := a.den_nz; omega
  obtain ⟨l, hll⟩ : ∃ l, ps.drop k = l := ⟨_, rfl⟩
  have hlen : l.length ≤ L := by rw [← hll, List.length_drop]; omega
  have hcl : CDL D K l := fun i => by
    have e : cf l i = cf ps (k + i) := by rw [← hll]; simp [cf]
    rw [e]; exact hp _
  rw [hll]
  have h1 := mov_cd hD ha l hlen hcl
  have hv : (a.den : Int) ^ l.length ≠ 0 := Int.pow_ne_zero hd
  have hE : D * (a.den : Int) ^ l.length ≠ 0 := Int.mul_ne_zero hD hv
  have hm : l.length * (A + 2 * L + 3) ≤ L * (A + 2 * L + 3) := Nat.mul_le_mul_right _ hlen
  have hm2 : l.length * A ≤ L * A := Nat.mul_le_mul_right _ hlen
  have hm3 : L * A ≤ L * (A + 2 * L + 3) := Nat.mul_le_mul_left _ (by omega)
  rw [Nat.add_mul] at hb
  have hsE : Sm (K + (l.length * A + 1)) (D * (a.den : Int) ^ l.length) := hsD.mul (ha.2.powZ _)
  have hsE2 : Sm 1000000 (D * (a.den : Int) ^ l.length * a.den) := (hsE.mul ha.2).mono (by omega)
  have hE2 : D * (a.den : Int) ^ l.length * a.den ≠ 0 := Int.mul_ne_zero hE hd
  have h2 : ∀ i j, CD (D * (a.den : Int) ^ l.length * a.den) (K + l.length * (A + 2 * L + 3) + A) (cf (movQ a l) i * cf (lineQ a) j) := fun i j => (h1 i).mul (line_cd ha j)
  have hlm := movQ_len a l
  refine ⟨Sqs.of fun i => Sq.of (((h1 i).mono (by omega : _ ≤ 1000000)).smq hE (hsE.mono (by omega))) (Nat.le_refl _), timesOk_cd hE2 hsE2 h2 (by omega), Sqs.of fun i => ?_⟩
  exact Sq.of (((mulQ_cd hE2 h2 i).mono (by omega : _ ≤ 1000000)).smq hE2 hsE2) (Nat.le_refl _)
end Go.Proofs.YtcahejkcdcjjgaaGreatDoor
namespace Go.Proofs.YtcahejkcdcjjgaaGreatDoor.M3
open Go.RowKit Go.Shelf

attribute [local go_sem] Oper.semAt_some

theorem Tryz.infoPoly : (Tryz.prog.info? 25).map (fun i => (i.zero, i.size, i.bytes)) = some (some (.agg #[.slice none 0 0]), 1, 24) := by kernel_rfl
/-- The cells of n polynomials 0. -/
def zeroP (n : Nat) : Array Value := madeCells #[.slice none 0 0] (n * 1)
theorem zeroP_at {n j : Nat} (hj : j < n) : (zeroP n)[j]? = some (.slice none 0 0) := by
  unfold zeroP madeCells
  rw [Array.getElem?_map, Array.getElem?_range]
  simp [hj]
  have : j % 1 = 0 := by omega
  simp [this]
theorem make_polys (n : Nat) (h : n ≤ 1099511627776) (w : World) : (Instr.makeSlice 115 (.int .i64 (n : Int)) (.int .i64 (n : Int))).run Tryz.prog w = .ok (.slice (some ⟨w.heap.size, 0, none⟩) n n) (w.alloc (.cells (zeroP n) 25)) := by
  obtain ⟨i, hi, hzz⟩ := Option.map_eq_some_iff.1 Tryz.infoPoly
  simp only [Prod.mk.injEq] at hzz
  obtain ⟨hz, hs, hb⟩ := hzz
  have hr := run_make (P := Tryz.prog) w 115 25 i _ Tryz.underlying115 hi hz .i64 .i64 n n (by omega) (Int.le_refl _) (by rw [hb]; omega) (by omega)
  simp only [Int.toNat_natCast, hs] at hr
  exact hr
/-- A block of polynomials. -/
def PEls (V : World) (g n : Nat) (f : Nat → List Rat) : Prop := ∃ cs : Array Value, V.heap[g]? = some (.cells cs 25 (0, 0)) ∧ ∀ j, j < n → ∃ a l c, cs[j]? = some (.slice a l c) ∧ RowK true V (.slice a l c) (f j)
theorem PEls.lt {V : World} {g n : Nat} {f : Nat → List Rat} (h : PEls V g n f) : g < V.heap.size := by obtain ⟨cs, h, _⟩ := h; exact (Array.getElem?_eq_some_iff.1 h).1
theorem PEls.below {V V' : World} {g n : Nat} {f : Nat → List Rat} (h : PEls V g n f) (hb : Below V.heap.size V V') : PEls V' g n f := by
  have hl := h.lt
  obtain ⟨cs, h1, h2⟩ := h
  refine ⟨cs, (hb.block g hl).trans h1, fun j hj => ?_⟩
  obtain ⟨a, l, c, e, h3⟩ := h2 j hj
  exact ⟨a, l, c, e, h3.below hb⟩
theorem PEls.new (V : World) (n : Nat) : PEls (V.alloc (.cells (zeroP n) 25)) V.heap.size n (fun _ => []) := ⟨zeroP n, World.alloc_heap_new V _, fun _ hj => ⟨_, _, _, zeroP_at hj, RowK.nil _ _⟩⟩
theorem PEls.cell {V : World} {g n : Nat} {f : Nat → List Rat} (h : PEls V g n f) {j : Nat} (hj : j < n) : ∃ a l c, V.cell? ⟨g, j, none⟩ = some (.slice a l c) ∧ RowK true V (.slice a l c) (f j) := by
  obtain ⟨cs, h1, h2⟩ := h
  obtain ⟨a, l, c, e, h3⟩ := h2 j hj
  exact ⟨a, l, c, cell_of h1 e, h3⟩
theorem PEls.frozen {V : World} {g n : Nat} {f : Nat → List Rat} (h : PEls V g n f) (o : Nat) : V.frozen? ⟨g, o, none⟩ = false := by obtain ⟨cs, h1, _⟩ := h; simp [World.frozen?, h1]
theorem PEls.set {V : World} {g n : Nat} {f : Nat → List Rat} (h : PEls V g n f) {j : Nat} (hj : j < n) {a : Option Addr} {l c : Nat} {q : List Rat} (hv : RowK true V (.slice a l c) q) : PEls (V.setCell ⟨g, j, none⟩ (.slice a l c)) g n (fun k => if k = j then q else f k) := by
  obtain ⟨cs, h1, h2⟩ := h
  obtain ⟨a0, l0, c0, e0, _⟩ := h2 j hj
  have hk : ∀ v qs, RowK true V v qs → RowK true (V.setCell ⟨g, j, none⟩ (.slice a l c)) v qs := fun v qs hr => rowK_set h1 e0 rfl true (by decide) _ v qs hr
  refine ⟨cs.setIfInBounds j (.slice a l c), setCell_heap h1 _, fun k hk2 => ?_⟩
  have hjs : j < cs.size := (Array.getElem?_eq_some_iff.1 e0).1
  by_cases e : k = j
  · subst e
    refine ⟨a, l, c, ?_, ?_⟩
    · rw [Array.getElem?_setIfInBounds_self_of_lt hjs]
    · show RowK true _ _ (if k = k then q else f k)
      rw [if_pos rfl]; exact hk _ _ hv
  · obtain ⟨a1, l1, c1, e1, h3⟩ := h2 k hk2
    refine ⟨a1, l1, c1, ?_, ?_⟩
    · rw [Array.getElem?_setIfInBounds_ne (by omega)]; exact e1
    · show RowK true _ _ (if k = j then q else f k)
      rw [if_neg e]; exact hk _ _ h3
theorem PEls.cong {V : World} {g n : Nat} {f f' : Nat → List Rat} (h : PEls V g n f) (e : ∀ j, j < n → f j = f' j) : PEls V g n f' := by
  obtain ⟨cs, h1, h2⟩ := h
  refine ⟨cs, h1, fun j hj => ?_⟩
  rw [← e j hj]
  exact h2 j hj
theorem sqs_one {q : Rat} (h : Sq q) : Sqs (trimQ [q]) := Sqs.of fun i => by
  rw [cf_trim]
  rcases i with _ | i
  · exact h
  · rw [cf_ge (by simp)]; exact sq0

set_option maxRecDepth 100000 in
set_option maxHeartbeats 4000000 in
theorem omapped_w (pa : Option Addr) (la pc : Nat) (ps : List Rat) (w : World) (ha : RowK true w (.slice pa la pc) ps) (hps : Sqs ps) :
    Calls Tryz.prog 78 #[.slice pa la pc, .func (.func 79) #[] #[]] w fun e w' => ∃ g, e = .returned (.slice (some ⟨g, 0, none⟩) la la) ∧ w.heap.size ≤ g ∧ PEls w' g la (fun j => trimQ [cf ps j]) ∧ Below w.heap.size w w' := by
  obtain ⟨hla, hca, hcma, hlma, s, t, aa, bb, ll, cc, kk, dd, hcp⟩ := ha.forms
  have hmk := make_polys la hlma w
  have hE0 := PEls.new w la
  have hB0 : Below w.heap.size w (w.alloc (.cells (zeroP la) 25)) := (Below.refl _ w).alloc (Nat.le_refl _) _
  obtain ⟨W0, hW0⟩ : ∃ W0, w.alloc (.cells (zeroP la) 25) = W0 := ⟨_, rfl⟩
  rw [hW0] at hE0 hB0 hmk
  have HE0 := hidD (hE0.cong (f' := fun j => if j < 0 then trimQ [cf ps j] else []) (fun j _ => rfl))
  have HB0 := hidD hB0
  have HP := hidD hcp
  have HPS := hidD hps
  obtain ⟨g, hg⟩ : ∃ g, w.heap.size = g := ⟨_, rfl⟩
  rw [hg] at HE0 hmk
  have HG := hidD hg
  clear ha hps hcp hla hca hcma hE0 hB0 hW0 hg
  go_enter Tryz.func78, Tryz.ntmps78
  go_wp2
  clear hmk
  go_loopw [13] (fun iv wr => ∃ i : Nat, i ≤ la ∧ iv = .int .i64 (i : Int) ∧ Hid (PEls wr g la (fun j => if j < i then trimQ [cf ps j] else []) ∧ Below w.heap.size w wr)) (fun iv _ => la - (intOf iv).toNat)
  case atStart => exact ⟨0, Nat.zero_le _, rfl, hidD ⟨HE0.out, HB0.out⟩⟩
  case round =>
    obtain ⟨i, hi, rfl, HR⟩ := hrel
    clear HE0 HB0
    by_cases hlt : i < la
    · have hlt2 : (i : Int) < (la : Int) := by omega
      obtain ⟨hip, bp, rfl, hbp, p0, p1, p2, p3⟩ := HP.out i hlt
      have e0 := (HR.out.2.cell (p := ⟨bp, _, none⟩) hbp).trans p0
      have e1 := (HR.out.2.cell (p := ⟨bp, _, none⟩) hbp).trans p1
      have e2 := (HR.out.2.cell (p := ⟨bp, _, none⟩) hbp).trans p2
      have e3 := (HR.out.2.cell (p := ⟨bp, _, none⟩) hbp).trans p3
      have hA : Below wr.heap.size wr (wr.alloc (.cells #[.bool (s i), .slice (aa i) (ll i) (cc i), .bool (t i), .slice (bb i) (kk i) (dd i)] 38)) := (Below.refl _ wr).alloc (Nat.le_refl _) _
      have HC := hidD (yconstant_c _ (cf ps i) _ ((hip.below HR.out.2).below hA) (HPS.out.at i))
      have HR1 := hidD (show PEls _ g la (fun j => if j < i then trimQ [cf ps j] else []) ∧ Below w.heap.size w _ from ⟨HR.out.1.below hA, HR.out.2.trans (hA.mono HR.out.2.size)⟩)
      clear hip p0 p1 p2 p3 hA
      go_wp2_with (go_at_call 79; refine HC.out.mono ?_; clear HC; rintro e w5 ⟨u5, rfl, hu5, _, hb5⟩; obtain ⟨a5, l5, c5, rfl⟩ := hu5.form; have hE := HR1.out.1.below hb5; obtain ⟨a6, l6, c6, x0, _⟩ := hE.cell hlt; have x1 := hE.frozen i; have HE := hidD (hE.set hlt hu5.row); have HB := hidD ((HR1.out.2.trans (hb5.mono HR1.out.2.size)).setCell (p := ⟨g, i, none⟩) (by rw [HG.out]; exact Nat.le_refl _) (.slice a5 l5 c5)); clear hE hu5 hb5)
      go_roundw
      case rel => exact ⟨i + 1, by omega, by go_num, hidD ⟨HE.out.cong (fun j _ => by
        by_cases e : j = i
        · subst e; rw [if_pos rfl, if_pos (by omega)]
        · rw [if_neg e]
          by_cases e2 : j < i
          · rw [if_pos e2, if_pos (by omega)]
          · rw [if_neg e2, if_neg (by omega)]), HB.out⟩⟩
      case measure => simp [intOf]; omega
    · obtain rfl : i = la := by omega
      go_wp2
      go_ret
      exact ⟨g, rfl, by rw [HG.out]; exact Nat.le_refl _, HR.out.1.cong (fun j hj => if_pos hj), HR.out.2⟩
end Go.Proofs.YtcahejkcdcjjgaaGreatDoor.M3
