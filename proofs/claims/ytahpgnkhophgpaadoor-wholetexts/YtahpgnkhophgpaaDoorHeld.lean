import Derived.Test.YtahpgnkhophgpaaDoorMks
namespace Go.Proofs.YtahpgnkhophgpaaDoor
open Go.RowKit Go.Shelf

/-- How many operations are not listed yet. -/
def notListed (listed : Array Bool) : Nat := listed.toList.countP (fun b => !b)

theorem notListed_set {listed : Array Bool} {i : Nat} (hi : i < listed.size) (h : listed.getD i true = false) : notListed (listed.setIfInBounds i true) + 1 = notListed listed := by
  obtain ⟨l⟩ := listed
  simp only [List.size_toArray] at hi
  simp only [Array.getD, List.size_toArray, hi, dif_pos, Array.getInternal_eq_getElem, List.getElem_toArray] at h
  simp only [notListed, List.setIfInBounds_toArray]
  induction l generalizing i with
  | nil => simp at hi
  | cons x l ih =>
    cases i with
    | zero => simp at h; subst h; simp
    | succ i =>
      simp only [List.length_cons] at hi
      simp only [List.getElem_cons_succ] at h
      have := ih (by omega) h
      simp only [List.set_cons_succ, List.countP_cons]
      omega

/-- A region that draws its order, by one assertion for all that may be listed: also within a round. -/
theorem wpAnyIn_held {F : Fence} {n : Nat} {P : Program} {md : Region.Mode} {ops : Array Oper} {Q : Exit → Act → World → Prop} (I : Array Bool → Act → World → Prop)
    (step : ∀ listed a w i, listed.size = ops.size → I listed a w → i ∈ Region.ready md ops listed → wpOpIn F n P ops Q i (I (listed.setIfInBounds i true)) a w)
    (fin : ∀ listed a w, listed.size = ops.size → I listed a w → Region.ready md ops listed = [] → Q .normal a w) :
    ∀ (fuel : Nat) (listed : Array Bool) (a : Act) (w : World), listed.size = ops.size → notListed listed ≤ fuel → I listed a w → wpAnyIn F n P md ops Q fuel listed a w := by
  intro fuel
  have hmem : ∀ {listed : Array Bool} {i : Nat}, i ∈ Region.ready md ops listed → i < ops.size ∧ listed.getD i true = false := by
    intro listed i hi
    simp only [Region.ready, List.mem_filter, List.mem_range, Bool.and_eq_true, Bool.not_eq_true'] at hi
    exact ⟨hi.1, hi.2.1⟩
  induction fuel with
  | zero =>
    intro listed a w hs hf hI
    have hn : Region.ready md ops listed = [] := by
      cases hr : Region.ready md ops listed with
      | nil => rfl
      | cons i l =>
        obtain ⟨h1, h2⟩ := hmem (show i ∈ Region.ready md ops listed by rw [hr]; exact List.mem_cons_self)
        have := notListed_set (i := i) (by omega) h2
        omega
    exact ⟨hn, fin _ _ _ hs hI hn⟩
  | succ fuel ih =>
    intro listed a w hs hf hI
    refine ⟨fin _ _ _ hs hI, fun i hi => ?_⟩
    obtain ⟨h1, h2⟩ := hmem hi
    have := notListed_set (i := i) (by omega) h2
    exact wpOpIn_mono (fun a' w' h => ih _ a' w' (by simp [hs]) (by omega) h) (step listed a w i hs hI hi)

theorem wpIn_region_held {F : Fence} {n : Nat} {P : Program} {ops : Array Oper} {Q : Exit → Act → World → Prop} {id : Nat} {a : Act} {w : World} (hm : P.follows .mixedOrders = true) (I : Array Bool → Act → World → Prop)
    (start : I (Array.replicate ops.size false) a w.drew)
    (step : ∀ listed a w i, listed.size = ops.size → I listed a w → i ∈ Region.ready .any ops listed → wpOpIn F n P ops Q i (I (listed.setIfInBounds i true)) a w)
    (fin : ∀ listed a w, listed.size = ops.size → I listed a w → Region.ready .any ops listed = [] → Q .normal a w) :
    (Code.region id ops true).wpIn F n P Q a w :=
  wpIn_region_any hm (wpAnyIn_held I step fin _ _ _ _ (by simp) (by rw [notListed]; exact Nat.le_trans List.countP_le_length (by simp)) start)

/-- Each waits only on elder ones. -/
def tabOrdered (tab : List (List Nat)) : Bool := tab.zipIdx.all fun p => p.1.all (· < p.2)

theorem tabOrdered_lt {tab : List (List Nat)} (h : tabOrdered tab = true) {i : Nat} {ds : List Nat} (hi : tab[i]? = some ds) {j : Nat} (hj : j ∈ ds) : j < i := by
  simp only [tabOrdered, List.all_eq_true, decide_eq_true_eq] at h
  exact h (ds, i) (List.mk_mem_zipIdx_iff_getElem?.2 hi) j hj

theorem mem_ready {md : Region.Mode} {ops : Array Oper} {listed : Array Bool} {i : Nat} {tab : List (List Nat)} (ht : Region.tabAfter md ops = tab) :
    i ∈ Region.ready md ops listed ↔ listed.getD i true = false ∧ ∃ ds, tab[i]? = some ds ∧ ∀ j ∈ ds, listed.getD j false = true := by
  subst ht
  simp only [Region.ready, List.mem_filter, List.mem_range, Bool.and_eq_true, Bool.not_eq_true', Region.tabAfter, List.getElem?_map, Array.getElem?_toList]
  constructor
  · rintro ⟨h1, h2, h3⟩
    rw [Array.getElem?_eq_getElem h1] at h3 ⊢
    simp only [Option.map_some, Option.getD_some, Array.all_eq_true', Bool.or_eq_true, Bool.not_eq_true'] at h3
    refine ⟨h2, _, rfl, fun j hj => ?_⟩
    simp only [List.mem_map, List.mem_filter] at hj
    obtain ⟨e, ⟨he, hb⟩, rfl⟩ := hj
    rcases h3 e (by simpa using he) with h | h
    · rw [hb] at h; cases h
    · exact h
  · rintro ⟨h2, ds, hds, h3⟩
    cases ho : ops[i]? with
    | none => rw [ho] at hds; simp at hds
    | some o =>
      rw [ho] at hds
      simp only [Option.map_some, Option.some.injEq] at hds
      subst hds
      have h1 : i < ops.size := by
        rcases Nat.lt_or_ge i ops.size with h | h
        · exact h
        · rw [Array.getElem?_eq_none h] at ho; cases ho
      refine ⟨h1, h2, ?_⟩
      simp only [Option.map_some, Option.getD_some, Array.all_eq_true', Bool.or_eq_true, Bool.not_eq_true']
      intro e he
      cases hb : Region.binds md e with
      | false => exact Or.inl rfl
      | true => exact Or.inr (h3 e.on (by simp only [List.mem_map, List.mem_filter]; exact ⟨e, ⟨by simpa using he, hb⟩, rfl⟩))

/-- The same, with a table of who waits on whom; what is done is closed under it. -/
theorem wpIn_region_tab {F : Fence} {n : Nat} {P : Program} {ops : Array Oper} {Q : Exit → Act → World → Prop} {id : Nat} {a : Act} {w : World} (hm : P.follows .mixedOrders = true)
    (tab : List (List Nat)) (ht : Region.tabAfter .any ops = tab) (hlt : tabOrdered tab = true) (I : (Nat → Bool) → Act → World → Prop)
    (start : I (fun _ => false) a w.drew)
    (step : ∀ (D : Nat → Bool) a w i ds, (∀ i ds, tab[i]? = some ds → D i = true → ∀ j ∈ ds, D j = true) → tab[i]? = some ds → (∀ j ∈ ds, D j = true) → D i = false → I D a w → wpOpIn F n P ops Q i (I (fun j => j == i || D j)) a w)
    (fin : ∀ (D : Nat → Bool) a w, (∀ i, i < tab.length → D i = true) → I D a w → Q .normal a w) :
    (Code.region id ops true).wpIn F n P Q a w := by
  have hlen : tab.length = ops.size := by rw [← ht]; simp [Region.tabAfter]
  refine wpIn_region_held hm (fun listed a w => (∀ i ds, tab[i]? = some ds → listed.getD i false = true → ∀ j ∈ ds, listed.getD j false = true) ∧ I (fun j => listed.getD j false) a w) ⟨fun i ds _ h => ?_, ?_⟩ ?_ ?_
  · simp only [Array.getD, Array.size_replicate] at h
    split at h <;> simp at h
  · have e : (fun j => (Array.replicate ops.size false).getD j false) = fun _ => false := by
      funext j; simp only [Array.getD, Array.size_replicate]; split <;> simp
    rw [e]; exact start
  · rintro listed a w i hs ⟨hcl, hI⟩ hi
    obtain ⟨h2, ds, hds, h3⟩ := (mem_ready ht).1 hi
    have hil : i < listed.size := by
      rw [hs, ← hlen]
      rcases Nat.lt_or_ge i tab.length with h | h
      · exact h
      · rw [List.getElem?_eq_none h] at hds; cases hds
    have hf : listed.getD i false = false := by
      simp only [Array.getD, hil, dif_pos] at h2 ⊢; exact h2
    have e : ∀ j, (listed.setIfInBounds i true).getD j false = (j == i || listed.getD j false) := by
      intro j
      rw [Array.getD_eq_getD_getElem?, Array.getD_eq_getD_getElem?, Array.getElem?_setIfInBounds]
      by_cases hji : i = j
      · subst hji; simp [hil]
      · simp [hji, Ne.symm hji]
    refine wpOpIn_mono (fun a' w' h => ⟨fun i' ds' hi' hd j hj => ?_, ?_⟩) (step _ a w i ds hcl hds h3 hf hI)
    · rw [e] at hd ⊢
      simp only [Bool.or_eq_true, beq_iff_eq] at hd ⊢
      rcases hd with rfl | hd
      · rw [hds] at hi'; cases hi'; exact Or.inr (h3 j hj)
      · exact Or.inr (hcl i' ds' hi' hd j hj)
    · rw [show (fun j => (listed.setIfInBounds i true).getD j false) = fun j => (j == i || listed.getD j false) from funext e]; exact h
  · rintro listed a w hs ⟨hcl, hI⟩ hn
    refine fin _ a w (fun i => ?_) hI
    induction i using Nat.strongRecOn with
    | _ i ih =>
      intro hi
      cases hd : listed.getD i false with
      | true => rfl
      | false =>
        exfalso
        have hds : tab[i]? = some tab[i] := List.getElem?_eq_getElem hi
        have : i ∈ Region.ready .any ops listed := (mem_ready ht).2 ⟨by
          have hil : i < listed.size := by omega
          simp only [Array.getD, hil, dif_pos] at hd ⊢; exact hd, _, hds, fun j hj => ih j (tabOrdered_lt hlt hds hj) (by have := tabOrdered_lt hlt hds hj; omega)⟩
        rw [hn] at this; cases this
end Go.Proofs.YtahpgnkhophgpaaDoor
