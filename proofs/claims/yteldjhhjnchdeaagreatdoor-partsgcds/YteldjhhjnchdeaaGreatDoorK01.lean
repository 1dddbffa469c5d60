namespace Go.Proofs.YteldjhhjnchdeaaGreatDoor

/-- The coefficient of a power. -/
def cf (p : List Rat) (i : Nat) : Rat := p[i]?.getD 0

theorem cf_nil (i : Nat) : cf [] i = 0 := by simp [cf]
theorem cf_zero (c : Rat) (t : List Rat) : cf (c :: t) 0 = c := by simp [cf]
theorem cf_succ (c : Rat) (t : List Rat) (i : Nat) : cf (c :: t) (i + 1) = cf t i := by simp [cf]
theorem cf_ge {p : List Rat} {i : Nat} (h : p.length ≤ i) : cf p i = 0 := by simp [cf, List.getElem?_eq_none h]
theorem cf_lt {p : List Rat} {i : Nat} (h : i < p.length) : cf p i = p[i] := by simp [cf, List.getElem?_eq_getElem h]
theorem cf_snoc (p : List Rat) (c : Rat) (i : Nat) : cf (p ++ [c]) i = if i = p.length then c else cf p i := by
  unfold cf
  by_cases h : i < p.length
  · rw [List.getElem?_append_left h, if_neg (by omega)]
  · rw [List.getElem?_append_right (by omega)]
    by_cases h2 : i = p.length
    · rw [if_pos h2, h2]; simp
    · rw [if_neg h2, List.getElem?_eq_none (by simp; omega), List.getElem?_eq_none (by omega)]
theorem cf_set (p : List Rat) (k : Nat) (c : Rat) (i : Nat) (hk : k < p.length) : cf (p.set k c) i = if i = k then c else cf p i := by
  unfold cf
  by_cases h : i = k
  · subst h; rw [if_pos rfl, List.getElem?_set_self hk]; rfl
  · rw [if_neg h, List.getElem?_set_ne (fun e => h e.symm)]
theorem cf_replicate (n : Nat) (i : Nat) : cf (List.replicate n 0) i = 0 := by
  unfold cf
  rw [List.getElem?_replicate]
  split <;> rfl
theorem cf_map_range (n : Nat) (f : Nat → Rat) (i : Nat) : cf ((List.range n).map f) i = if i < n then f i else 0 := by
  unfold cf
  rw [List.getElem?_map]
  by_cases h : i < n
  · rw [List.getElem?_range h, if_pos h]; rfl
  · rw [List.getElem?_eq_none (by simp; omega), if_neg h]; rfl
theorem cf_take (p : List Rat) (n i : Nat) : cf (p.take n) i = if i < n then cf p i else 0 := by
  unfold cf
  rw [List.getElem?_take]
  split <;> rfl

/-- Without the zeros at the end. -/
def trimQ : List Rat → List Rat
  | [] => []
  | c :: t => match trimQ t with
    | [] => if c = 0 then [] else [c]
    | d :: s => c :: d :: s

theorem cf_trim (p : List Rat) (i : Nat) : cf (trimQ p) i = cf p i := by
  induction p generalizing i with
  | nil => rfl
  | cons c t ih =>
    have h0 := ih
    rw [trimQ]
    split
    · rename_i h
      rw [h] at h0
      cases i with
      | zero => split <;> simp_all [cf]
      | succ i =>
        rw [cf_succ, ← h0 i, cf_nil]
        split
        · rfl
        · rw [cf_succ, cf_nil]
    · rename_i d s h
      rw [← h]
      cases i with
      | zero => rfl
      | succ i => rw [cf_succ, cf_succ, h0]

theorem trimQ_cons {c : Rat} {t : List Rat} (h : ¬ (trimQ t = [] ∧ c = 0)) : trimQ (c :: t) = c :: trimQ t := by
  rw [trimQ]
  split
  · rename_i h1
    rw [if_neg (fun h2 => h ⟨h1, h2⟩), h1]
  · rename_i d s h1
    rw [h1]
theorem trimQ_nil {p : List Rat} (h : ∀ i, cf p i = 0) : trimQ p = [] := by
  induction p with
  | nil => rfl
  | cons c t ih =>
    have h1 := ih (fun i => by rw [← cf_succ c t i]; exact h (i + 1))
    have h2 : c = 0 := by rw [← cf_zero c t]; exact h 0
    rw [trimQ, h1]
    show (if c = 0 then [] else [c]) = []
    rw [if_pos h2]
theorem trimQ_eq_nil {p : List Rat} (h : trimQ p = []) (i : Nat) : cf p i = 0 := by rw [← cf_trim, h, cf_nil]

theorem trim_ext {p q : List Rat} (h : ∀ i, cf p i = cf q i) : trimQ p = trimQ q := by
  induction p generalizing q with
  | nil => rw [trimQ_nil (p := q) (fun i => by rw [← h i, cf_nil])]; rfl
  | cons c t ih =>
    cases q with
    | nil => rw [trimQ_nil (p := c :: t) (fun i => by rw [h i, cf_nil])]; rfl
    | cons d s =>
      have h1 : c = d := by have := h 0; rwa [cf_zero, cf_zero] at this
      have h2 := ih (q := s) (fun i => by have := h (i + 1); rwa [cf_succ, cf_succ] at this)
      rw [trimQ, trimQ, h1, h2]

theorem trim_trim (p : List Rat) : trimQ (trimQ p) = trimQ p := trim_ext (cf_trim p)
theorem trim_length_le (p : List Rat) : (trimQ p).length ≤ p.length := by
  induction p with
  | nil => exact Nat.le_refl _
  | cons c t ih =>
    rw [trimQ]
    split
    · split <;> simp
    · rename_i d s h
      rw [h] at ih
      simp only [List.length_cons] at ih ⊢
      omega

/-- The last one is not 0. -/
theorem trim_last {p : List Rat} (h : trimQ p = p) (h0 : p ≠ []) : cf p (p.length - 1) ≠ 0 := by
  induction p with
  | nil => exact absurd rfl h0
  | cons c t ih =>
    rw [trimQ] at h
    split at h
    · rename_i h1
      split at h
      · cases h
      · rename_i h2
        simp only [List.cons.injEq, true_and] at h
        subst h
        simpa [cf] using h2
    · rename_i d s h1
      simp only [List.cons.injEq, true_and] at h
      have h2 : trimQ t = t := by rw [h1, h]
      have h3 := ih h2 (by rw [← h]; simp)
      have e : (c :: t).length - 1 = (t.length - 1) + 1 := by rw [← h]; simp
      rw [e, cf_succ]
      exact h3
theorem trim_of_last {p : List Rat} (h : p = [] ∨ cf p (p.length - 1) ≠ 0) : trimQ p = p := by
  induction p with
  | nil => rfl
  | cons c t ih =>
    rcases h with h | h
    · cases h
    · cases t with
      | nil => rw [trimQ]; show (if c = 0 then [] else [c]) = [c]; rw [if_neg (by simpa [cf] using h)]
      | cons d s =>
        have e : (c :: d :: s).length - 1 = ((d :: s).length - 1) + 1 := by simp
        rw [e, cf_succ] at h
        rw [trimQ, ih (Or.inr h)]
/-- Cut where the last one is not 0, and zeros alone come behind it. -/
theorem trim_take {p : List Rat} {n : Nat} (hn : n ≤ p.length) (h1 : n = 0 ∨ cf p (n - 1) ≠ 0) (h2 : ∀ j, n ≤ j → cf p j = 0) : trimQ p = p.take n := by
  have e : trimQ p = trimQ (p.take n) := trim_ext fun i => by
    rw [cf_take]
    split
    · rfl
    · exact h2 i (by omega)
  rw [e]
  refine trim_of_last ?_
  rcases h1 with h1 | h1
  · left; rw [h1]; rfl
  · by_cases h0 : n = 0
    · left; rw [h0]; rfl
    · right
      rw [List.length_take, Nat.min_eq_left hn, cf_take, if_pos (by omega)]
      exact h1
theorem trim_length_lt {p : List Rat} {n : Nat} (h : ∀ j, n ≤ j → cf p j = 0) : (trimQ p).length ≤ n := by
  rcases Nat.lt_or_ge n (trimQ p).length with h1 | h1
  · have h2 := trim_last (trim_trim p) (by intro h3; rw [h3] at h1; simp at h1)
    rw [cf_trim] at h2
    exact absurd (h _ (by omega)) h2
  · exact h1

/-- What a polynomial is worth. -/
def ev : List Rat → Rat → Rat
  | [], _ => 0
  | c :: t, x => c + x * ev t x

theorem ev_zero {p : List Rat} (h : ∀ i, cf p i = 0) (x : Rat) : ev p x = 0 := by
  induction p with
  | nil => rfl
  | cons c t ih =>
    have h1 := ih (fun i => by rw [← cf_succ c t i]; exact h (i + 1))
    have h2 : c = 0 := by rw [← cf_zero c t]; exact h 0
    rw [ev, h1, h2]
    grind
theorem ev_ext {p q : List Rat} (h : ∀ i, cf p i = cf q i) (x : Rat) : ev p x = ev q x := by
  induction p generalizing q with
  | nil => rw [ev_zero (p := q) (fun i => by rw [← h i, cf_nil])]; rfl
  | cons c t ih =>
    cases q with
    | nil => rw [ev_zero (p := c :: t) (fun i => by rw [h i, cf_nil])]; rfl
    | cons d s =>
      have h1 : c = d := by have := h 0; rwa [cf_zero, cf_zero] at this
      have h2 := ih (q := s) (fun i => by have := h (i + 1); rwa [cf_succ, cf_succ] at this)
      rw [ev, ev, h1, h2]
theorem ev_trim (p : List Rat) (x : Rat) : ev (trimQ p) x = ev p x := ev_ext (cf_trim p) x

/-- The slope, worth. -/
def dv : List Rat → Rat → Rat
  | [], _ => 0
  | _ :: t, x => ev t x + x * dv t x
theorem dv_zero {p : List Rat} (h : ∀ i, cf p i = 0) (x : Rat) : dv p x = 0 := by
  induction p with
  | nil => rfl
  | cons c t ih =>
    have h0 : ∀ i, cf t i = 0 := fun i => by rw [← cf_succ c t i]; exact h (i + 1)
    rw [dv, ih h0, ev_zero h0]
    grind
theorem dv_ext {p q : List Rat} (h : ∀ i, cf p i = cf q i) (x : Rat) : dv p x = dv q x := by
  induction p generalizing q with
  | nil => rw [dv_zero (p := q) (fun i => by rw [← h i, cf_nil])]; rfl
  | cons c t ih =>
    cases q with
    | nil => rw [dv_zero (p := c :: t) (fun i => by rw [h i, cf_nil])]; rfl
    | cons d s =>
      have h2 : ∀ i, cf t i = cf s i := fun i => by have := h (i + 1); rwa [cf_succ, cf_succ] at this
      rw [dv, dv, ih h2, ev_ext h2]

/-- What is left of it when x - a is divided off. -/
def sdiv : List Rat → Rat → List Rat
  | [], _ => []
  | _ :: t, a => match t with
    | [] => []
    | d :: s => ev (d :: s) a :: sdiv (d :: s) a
theorem sdiv_length (p : List Rat) (a : Rat) : (sdiv p a).length = p.length - 1 := by
  induction p with
  | nil => rfl
  | cons c t ih =>
    cases t with
    | nil => rfl
    | cons d s =>
      rw [sdiv, List.length_cons, ih]
      simp
theorem ev_sdiv (p : List Rat) (a x : Rat) : ev p x = ev p a + (x - a) * ev (sdiv p a) x := by
  induction p with
  | nil => simp [ev, sdiv]; grind
  | cons c t ih =>
    cases t with
    | nil => simp [ev, sdiv]; grind
    | cons d s =>
      rw [sdiv]
      generalize hq : d :: s = q at *
      rw [ev, ev, ev, ih]
      grind

/-- A polynomial that is 0 from some number on is 0. -/
theorem ev_none {p : List Rat} {m : Nat} (h : ∀ n : Nat, m ≤ n → ev p (n : Rat) = 0) (x : Rat) : ev p x = 0 := by
  obtain ⟨k, hk⟩ : ∃ k, p.length = k := ⟨_, rfl⟩
  induction k generalizing p m with
  | zero =>
    have : p = [] := List.eq_nil_of_length_eq_zero hk
    rw [this]; rfl
  | succ k ih =>
    have h0 := h m (Nat.le_refl _)
    have h1 : ∀ n : Nat, m + 1 ≤ n → ev (sdiv p m) (n : Rat) = 0 := fun n hn => by
      have h2 := ev_sdiv p (m : Rat) (n : Rat)
      rw [h n (by omega), h0] at h2
      have h3 : ((n : Rat) - (m : Rat)) ≠ 0 := by
        intro h4
        have h5 : (n : Rat) = (m : Rat) := by grind
        have := Rat.natCast_inj.1 h5
        omega
      have h6 : ((n : Rat) - (m : Rat)) * ev (sdiv p m) n = 0 := by grind
      rcases Rat.mul_eq_zero.1 h6 with h7 | h7
      · exact absurd h7 h3
      · exact h7
    have h2 := ih h1 (by rw [sdiv_length, hk]; rfl)
    rw [ev_sdiv p (m : Rat) x, h0, h2]
    grind
theorem cf_none {p : List Rat} (h : ∀ x, ev p x = 0) (i : Nat) : cf p i = 0 := by
  induction p generalizing i with
  | nil => rfl
  | cons c t ih =>
    have h0 : c = 0 := by have := h 0; rw [ev] at this; grind
    have h1 : ∀ x, ev t x = 0 := fun x => ev_none (m := 1) (fun n hn => by
      have h2 := h (n : Rat)
      rw [ev, h0] at h2
      have h3 : (n : Rat) ≠ 0 := fun h4 => by
        have h5 : (n : Rat) = ((0 : Nat) : Rat) := h4
        have := Rat.natCast_inj.1 h5
        omega
      have h6 : (n : Rat) * ev t n = 0 := by grind
      rcases Rat.mul_eq_zero.1 h6 with h7 | h7
      · exact absurd h7 h3
      · exact h7) x
    cases i with
    | zero => rw [cf_zero]; exact h0
    | succ i => rw [cf_succ]; exact ih h1 i

/-- Sums, power by power. -/
def addR : List Rat → List Rat → List Rat
  | [], q => q
  | p, [] => p
  | c :: t, d :: s => (c + d) :: addR t s
def scaleR (a : Rat) (p : List Rat) : List Rat := p.map (fun c => c * a)
def mulR : List Rat → List Rat → List Rat
  | [], _ => []
  | c :: t, q => addR (scaleR c q) (0 :: mulR t q)

theorem cf_addR (p q : List Rat) (i : Nat) : cf (addR p q) i = cf p i + cf q i := by
  induction p generalizing q i with
  | nil => rw [addR, cf_nil]; grind
  | cons c t ih =>
    cases q with
    | nil => rw [addR, cf_nil]; · grind
             · intro h; cases h
    | cons d s =>
      rw [addR]
      cases i with
      | zero => simp [cf]
      | succ i => rw [cf_succ, cf_succ, cf_succ, ih]
theorem cf_scaleR (a : Rat) (p : List Rat) (i : Nat) : cf (scaleR a p) i = cf p i * a := by
  unfold cf scaleR
  rw [List.getElem?_map]
  cases p[i]? with
  | none => simp
  | some c => rfl
theorem ev_addR (p q : List Rat) (x : Rat) : ev (addR p q) x = ev p x + ev q x := by
  induction p generalizing q with
  | nil => rw [addR, ev]; grind
  | cons c t ih =>
    cases q with
    | nil => rw [addR]; · rw [show ev [] x = 0 from rfl]; grind
             · intro h; cases h
    | cons d s => rw [addR, ev, ev, ev, ih]; grind
theorem ev_scaleR (a : Rat) (p : List Rat) (x : Rat) : ev (scaleR a p) x = ev p x * a := by
  induction p with
  | nil => simp [scaleR, ev]
  | cons c t ih =>
    rw [show scaleR a (c :: t) = (c * a) :: scaleR a t from rfl, ev, ev, ih]; grind
theorem ev_mulR (p q : List Rat) (x : Rat) : ev (mulR p q) x = ev p x * ev q x := by
  induction p with
  | nil => rw [mulR, ev]; grind
  | cons c t ih => rw [mulR, ev_addR, ev_scaleR, ev, ev, ih]; grind
theorem dv_addR (p q : List Rat) (x : Rat) : dv (addR p q) x = dv p x + dv q x := by
  induction p generalizing q with
  | nil => rw [addR, dv]; grind
  | cons c t ih =>
    cases q with
    | nil => rw [addR]; · rw [show dv [] x = 0 from rfl]; grind
             · intro h; cases h
    | cons d s => rw [addR, dv, dv, dv, ih, ev_addR]; grind
theorem dv_scaleR (a : Rat) (p : List Rat) (x : Rat) : dv (scaleR a p) x = dv p x * a := by
  induction p with
  | nil => simp [scaleR, dv]
  | cons c t ih =>
    rw [show scaleR a (c :: t) = (c * a) :: scaleR a t from rfl, dv, dv, ih, ev_scaleR]; grind
theorem dv_mulR (p q : List Rat) (x : Rat) : dv (mulR p q) x = dv p x * ev q x + ev p x * dv q x := by
  induction p with
  | nil => rw [mulR, dv, ev]; grind
  | cons c t ih => rw [mulR, dv_addR, dv_scaleR, dv, dv, ev, ih, ev_mulR]; grind

/-- Two that are worth the same everywhere are one. -/
theorem ev_inj {p q : List Rat} (h : ∀ x, ev p x = ev q x) : trimQ p = trimQ q := by
  have h1 : ∀ i, cf (addR p (scaleR (-1) q)) i = 0 := cf_none (fun x => by rw [ev_addR, ev_scaleR, h x]; grind)
  refine trim_ext fun i => ?_
  have := h1 i
  rw [cf_addR, cf_scaleR] at this
  grind

/-- Sums over the first numbers. -/
def sumN : Nat → (Nat → Rat) → Rat
  | 0, _ => 0
  | n + 1, f => sumN n f + f n
theorem sumN_congr {n : Nat} {f g : Nat → Rat} (h : ∀ k, k < n → f k = g k) : sumN n f = sumN n g := by
  induction n with
  | zero => rfl
  | succ n ih => rw [sumN, sumN, ih (fun k hk => h k (by omega)), h n (by omega)]
theorem sumN_zero {n : Nat} {f : Nat → Rat} (h : ∀ k, k < n → f k = 0) : sumN n f = 0 := by
  induction n with
  | zero => rfl
  | succ n ih => rw [sumN, ih (fun k hk => h k (by omega)), h n (by omega)]; grind
theorem sumN_shift (n : Nat) (f : Nat → Rat) : sumN (n + 1) f = f 0 + sumN n (fun k => f (k + 1)) := by
  induction n with
  | zero => simp [sumN]; grind
  | succ n ih => rw [sumN, ih, sumN]; grind

/-- A product's coefficient. -/
def conv (p q : List Rat) (n k : Nat) : Rat := sumN n (fun i => if i ≤ k then cf p i * cf q (k - i) else 0)
theorem cf_mulR (p q : List Rat) (k : Nat) : cf (mulR p q) k = conv p q p.length k := by
  induction p generalizing k with
  | nil => rfl
  | cons c t ih =>
    rw [mulR, cf_addR, cf_scaleR, conv, List.length_cons, sumN_shift]
    rw [if_pos (Nat.zero_le _), cf_zero, Nat.sub_zero]
    have e : cf (0 :: mulR t q) k = sumN t.length (fun i => if i + 1 ≤ k then cf (c :: t) (i + 1) * cf q (k - (i + 1)) else 0) := by
      cases k with
      | zero =>
        rw [cf_zero, sumN_zero]
        intro i hi
        rw [if_neg (by omega)]
      | succ k =>
        rw [cf_succ, ih, conv]
        refine sumN_congr fun i hi => ?_
        by_cases h : i ≤ k
        · rw [if_pos h, if_pos (by omega), cf_succ, show k + 1 - (i + 1) = k - i from by omega]
        · rw [if_neg h, if_neg (by omega)]
    rw [e]
    grind
theorem conv_more (p q : List Rat) {n k : Nat} (h : p.length ≤ n) : conv p q n k = conv p q p.length k := by
  induction n with
  | zero => rw [show p.length = 0 from by omega]
  | succ n ih =>
    by_cases h1 : p.length = n + 1
    · rw [h1]
    · rw [← ih (by omega)]
      show conv p q n k + _ = _
      dsimp only
      rw [cf_ge (show p.length ≤ n from by omega)]
      split <;> grind
theorem conv_few (p q : List Rat) {n k : Nat} (h : k + 1 ≤ n) : conv p q n k = conv p q (k + 1) k := by
  induction n with
  | zero => omega
  | succ n ih =>
    by_cases h1 : k + 1 = n + 1
    · rw [h1]
    · rw [← ih (by omega)]
      show conv p q n k + _ = _
      dsimp only
      rw [if_neg (by omega)]
      grind
/-- No power above both degrees; and the highest. -/
theorem cf_mulR_ge {p q : List Rat} {k : Nat} (h : p.length + q.length ≤ k + 1) : cf (mulR p q) k = 0 := by
  rw [cf_mulR]
  refine sumN_zero fun i hi => ?_
  split
  · rw [cf_ge (p := q) (by omega)]; grind
  · rfl
theorem cf_mulR_top (p q : List Rat) (m n : Nat) (hp : p.length = m + 1) (hq : q.length = n + 1) : cf (mulR p q) (m + n) = cf p m * cf q n := by
  rw [cf_mulR, hp, conv, sumN, if_pos (by omega), show m + n - m = n from by omega]
  rw [sumN_zero]
  · grind
  · intro i hi
    split
    · rw [cf_ge (p := q) (by omega)]; grind
    · rfl
theorem trim_mulR_length {p q : List Rat} (hp : trimQ p = p) (hq : trimQ q = q) (hp0 : p ≠ []) (hq0 : q ≠ []) : (trimQ (mulR p q)).length = p.length + q.length - 1 := by
  have h1 := trim_last hp hp0
  have h2 := trim_last hq hq0
  have l1 : 0 < p.length := List.length_pos_iff.2 hp0
  have l2 : 0 < q.length := List.length_pos_iff.2 hq0
  have h3 := cf_mulR_top p q (p.length - 1) (q.length - 1) (by omega) (by omega)
  have h4 : cf (mulR p q) (p.length - 1 + (q.length - 1)) ≠ 0 := by
    rw [h3]
    intro h5
    rcases Rat.mul_eq_zero.1 h5 with h6 | h6
    · exact h1 h6
    · exact h2 h6
  have h5 : (trimQ (mulR p q)).length ≤ p.length + q.length - 1 := trim_length_lt fun j hj => cf_mulR_ge (by omega)
  rcases Nat.lt_or_ge (trimQ (mulR p q)).length (p.length + q.length - 1) with h6 | h6
  · rw [← cf_trim] at h4
    exact absurd (cf_ge (by omega)) h4
  · omega

/-- The slope. -/
def slopeR (p : List Rat) : List Rat := (List.range (p.length - 1)).map (fun i => cf p (i + 1) * ((i + 1 : Nat) : Rat))
theorem cf_slopeR (p : List Rat) (i : Nat) : cf (slopeR p) i = cf p (i + 1) * ((i + 1 : Nat) : Rat) := by
  unfold slopeR
  rw [cf_map_range]
  split
  · rfl
  · rw [cf_ge (by omega)]; grind
theorem ev_slopeR (p : List Rat) (x : Rat) : ev (slopeR p) x = dv p x := by
  induction p with
  | nil => rfl
  | cons c t ih =>
    have e : ∀ i, cf (slopeR (c :: t)) i = cf (addR t (0 :: slopeR t)) i := fun i => by
      rw [cf_slopeR, cf_addR, cf_succ]
      cases i with
      | zero => rw [cf_zero]; grind
      | succ i => rw [cf_succ, cf_slopeR]; grind
    rw [ev_ext e, ev_addR, ev, ih, dv]
    grind

theorem addR_self_nil (p : List Rat) : addR p [] = p := by cases p <;> rfl

/-- Quotient and rest are told by what they do. -/
theorem split_unique {q u v u' v' : List Rat} (hq : trimQ q = q) (hq0 : q ≠ []) (hu : trimQ u = u) (hu' : trimQ u' = u') (hv : trimQ v = v) (hv' : trimQ v' = v') (lv : v.length < q.length) (lv' : v'.length < q.length)
    (h : ∀ x, ev q x * ev u x + ev v x = ev q x * ev u' x + ev v' x) : u = u' ∧ v = v' := by
  obtain ⟨d, hd⟩ : ∃ d, trimQ (addR u (scaleR (-1) u')) = d := ⟨_, rfl⟩
  have hdt : trimQ d = d := by rw [← hd, trim_trim]
  have hdx : ∀ x, ev d x = ev u x - ev u' x := fun x => by rw [← hd, ev_trim, ev_addR, ev_scaleR]; grind
  have hev : ∀ x, ev (mulR d q) x = ev (addR v' (scaleR (-1) v)) x := fun x => by
    rw [ev_mulR, ev_addR, ev_scaleR, hdx]
    have := h x
    grind
  have h1 := ev_inj hev
  have h2 : (trimQ (addR v' (scaleR (-1) v))).length < q.length := by
    refine Nat.lt_of_le_of_lt (trim_length_lt (n := q.length - 1) fun j hj => ?_) (by omega)
    rw [cf_addR, cf_scaleR, cf_ge (by omega), cf_ge (by omega)]
    grind
  have hd0 : d = [] := by
    by_cases h3 : d = []
    · exact h3
    · have h4 := trim_mulR_length hdt hq h3 hq0
      have h5 : 0 < d.length := List.length_pos_iff.2 h3
      rw [h1] at h4
      omega
  have e1 : ∀ x, ev u x = ev u' x := fun x => by
    have := hdx x
    rw [hd0, show ev [] x = 0 from rfl] at this
    grind
  have e2 : u = u' := by rw [← hu, ← hu']; exact ev_inj e1
  refine ⟨e2, ?_⟩
  rw [← hv, ← hv']
  exact ev_inj fun x => by
    have := h x
    rw [e2] at this
    grind
end Go.Proofs.YteldjhhjnchdeaaGreatDoor
namespace Go.Proofs.YteldjhhjnchdeaaGreatDoor

/-- Multiplied with a power of x. -/
def upR (i : Nat) (q : List Rat) : List Rat := List.replicate i 0 ++ q
theorem cf_upR (i : Nat) (q : List Rat) (k : Nat) : cf (upR i q) k = if i ≤ k then cf q (k - i) else 0 := by
  unfold cf upR
  by_cases h : k < i
  · rw [List.getElem?_append_left (by simpa using h), if_neg (by omega), List.getElem?_replicate]
    split <;> rfl
  · rw [List.getElem?_append_right (by simp; omega), if_pos (by omega)]
    simp
theorem ev_upR (i : Nat) (q : List Rat) (x : Rat) : ev (upR i q) x = x ^ i * ev q x := by
  induction i with
  | zero => rw [show upR 0 q = q from rfl]; grind
  | succ i ih =>
    rw [show upR (i + 1) q = 0 :: upR i q from rfl, ev, ih]
    grind

/-- A row to which a multiple of another one has been added, from a place on: the first j of it. -/
def addAt (z : List Rat) (i : Nat) (a : Rat) (q : List Rat) : Nat → List Rat
  | 0 => z
  | j + 1 => (addAt z i a q j).set (i + j) (cf (addAt z i a q j) (i + j) + a * cf q j)
theorem addAt_length (z : List Rat) (i : Nat) (a : Rat) (q : List Rat) (j : Nat) : (addAt z i a q j).length = z.length := by
  induction j with
  | zero => rfl
  | succ j ih => rw [addAt, List.length_set, ih]
theorem cf_addAt (z : List Rat) (i : Nat) (a : Rat) (q : List Rat) (j k : Nat) (h : i + j ≤ z.length) : cf (addAt z i a q j) k = cf z k + (if i ≤ k ∧ k < i + j then a * cf q (k - i) else 0) := by
  induction j with
  | zero => rw [addAt, if_neg (by omega)]; grind
  | succ j ih =>
    have ih := ih (by omega)
    rw [addAt, cf_set _ _ _ _ (by rw [addAt_length]; omega)]
    by_cases h1 : k = i + j
    · subst h1
      rw [if_pos rfl, ih, if_neg (by omega), if_pos (by omega), show i + j - i = j from by omega]
      grind
    · rw [if_neg h1, ih]
      by_cases h2 : i ≤ k ∧ k < i + j
      · rw [if_pos h2, if_pos (by omega)]
      · rw [if_neg h2, if_neg (by omega)]
theorem cf_addAt_all (z : List Rat) (i : Nat) (a : Rat) (q : List Rat) (k : Nat) (h : i + q.length ≤ z.length) : cf (addAt z i a q q.length) k = cf z k + a * cf (upR i q) k := by
  rw [cf_addAt _ _ _ _ _ _ h, cf_upR]
  by_cases h1 : i ≤ k
  · by_cases h2 : k < i + q.length
    · rw [if_pos ⟨h1, h2⟩, if_pos h1]
    · rw [if_neg (by omega), if_pos h1, cf_ge (p := q) (by omega)]; grind
  · rw [if_neg (by omega), if_neg h1]; grind
theorem ev_addAt (z : List Rat) (i : Nat) (a : Rat) (q : List Rat) (x : Rat) (h : i + q.length ≤ z.length) : ev (addAt z i a q q.length) x = ev z x + a * (x ^ i * ev q x) := by
  have e : ∀ k, cf (addAt z i a q q.length) k = cf (addR z (scaleR a (upR i q))) k := fun k => by
    rw [cf_addAt_all _ _ _ _ _ h, cf_addR, cf_scaleR]; grind
  rw [ev_ext e, ev_addR, ev_scaleR, ev_upR]
  grind

/-- A product, row by row: the first i rows. -/
def mulAt (p q : List Rat) (n : Nat) : Nat → List Rat
  | 0 => List.replicate n 0
  | i + 1 => addAt (mulAt p q n i) i (cf p i) q q.length
theorem mulAt_length (p q : List Rat) (n i : Nat) : (mulAt p q n i).length = n := by
  induction i with
  | zero => rw [mulAt, List.length_replicate]
  | succ i ih => rw [mulAt, addAt_length, ih]
theorem cf_mulAt (p q : List Rat) (n i k : Nat) (h : i = 0 ∨ i + q.length ≤ n + 1) : cf (mulAt p q n i) k = conv p q i k := by
  induction i with
  | zero => rw [mulAt, cf_replicate]; rfl
  | succ i ih =>
    rw [mulAt, cf_addAt_all _ _ _ _ _ (by rw [mulAt_length]; omega), ih (by omega), cf_upR]
    show _ = conv p q i k + _
    dsimp only
    split <;> grind
theorem trim_mulAt (p q : List Rat) (n : Nat) (h : p.length + q.length ≤ n + 1) : trimQ (mulAt p q n p.length) = trimQ (mulR p q) := trim_ext fun k => by
  rw [cf_mulAt _ _ _ _ _ (Or.inr h), cf_mulR]

/-- The quotient's highest coefficients, and what is left: the last k steps of n. -/
def splitAt (p q : List Rat) (n m : Nat) : Nat → List Rat × List Rat
  | 0 => (List.replicate m 0, p)
  | k + 1 =>
    let s := splitAt p q n m k
    let i := m - (k + 1)
    let c := cf s.2 (i + n) / cf q n
    (s.1.set i c, addAt s.2 i (-c) q q.length)
theorem splitAt_length (p q : List Rat) (n m k : Nat) : (splitAt p q n m k).1.length = m ∧ (splitAt p q n m k).2.length = p.length := by
  induction k with
  | zero => exact ⟨List.length_replicate, rfl⟩
  | succ k ih => rw [splitAt]; exact ⟨by rw [List.length_set]; exact ih.1, by rw [addAt_length]; exact ih.2⟩
theorem ev_set (p : List Rat) (i : Nat) (c : Rat) (x : Rat) (hi : i < p.length) (h0 : cf p i = 0) : ev (p.set i c) x = ev p x + c * x ^ i := by
  have e : ∀ k, cf (p.set i c) k = cf (addR p (upR i [c])) k := fun k => by
    rw [cf_set _ _ _ _ hi, cf_addR, cf_upR]
    by_cases h : k = i
    · subst h
      rw [if_pos rfl, if_pos (Nat.le_refl _), h0, Nat.sub_self, cf_zero]; grind
    · rw [if_neg h]
      by_cases h1 : i ≤ k
      · rw [if_pos h1, cf_ge (p := [c]) (by simp; omega)]; grind
      · rw [if_neg h1]; grind
  rw [ev_ext e, ev_addR, ev_upR]
  simp [ev]
  grind
theorem splitAt_inv (p q : List Rat) (n m : Nat) (hq : q.length = n + 1) (hl : cf q n ≠ 0) (hm : m + n = p.length) : ∀ k, k ≤ m →
    (∀ x, ev p x = ev q x * ev (splitAt p q n m k).1 x + ev (splitAt p q n m k).2 x) ∧ (∀ j, j < m - k → cf (splitAt p q n m k).1 j = 0) ∧ (∀ j, m - k + n ≤ j → cf (splitAt p q n m k).2 j = 0) := by
  intro k
  induction k with
  | zero =>
    intro _
    refine ⟨fun x => ?_, fun j _ => cf_replicate _ _, fun j hj => cf_ge (by show p.length ≤ j; omega)⟩
    rw [splitAt]
    dsimp only
    rw [ev_zero (cf_replicate m)]
    grind
  | succ k ih =>
    intro hk
    obtain ⟨h1, h2, h3⟩ := ih (by omega)
    obtain ⟨l1, l2⟩ := splitAt_length p q n m k
    rw [splitAt]
    dsimp only
    generalize hs : splitAt p q n m k = s at *
    obtain ⟨i, hi⟩ : ∃ i, m - (k + 1) = i := ⟨_, rfl⟩
    rw [hi]
    obtain ⟨c, hc⟩ : ∃ c, cf s.2 (i + n) / cf q n = c := ⟨_, rfl⟩
    rw [hc]
    have hin : i + q.length ≤ s.2.length := by omega
    have hcq : c * cf q n = cf s.2 (i + n) := by rw [← hc]; exact Rat.div_mul_cancel hl
    refine ⟨fun x => ?_, fun j hj => ?_, fun j hj => ?_⟩
    · rw [ev_set _ _ _ _ (by omega) (h2 i (by omega)), ev_addAt _ _ _ _ _ hin, h1 x]
      grind
    · rw [cf_set _ _ _ _ (by omega), if_neg (by omega)]
      exact h2 j (by omega)
    · rw [cf_addAt_all _ _ _ _ _ hin, cf_upR, if_pos (by omega)]
      by_cases h4 : j = i + n
      · subst h4
        rw [show i + n - i = n from by omega]
        grind
      · rw [h3 j (by omega), cf_ge (p := q) (by omega)]
        grind

/-- Quotient and rest. -/
def quoQ (p q : List Rat) : List Rat := trimQ (splitAt p q (q.length - 1) (p.length - (q.length - 1)) (p.length - (q.length - 1))).1
def remQ (p q : List Rat) : List Rat := trimQ (splitAt p q (q.length - 1) (p.length - (q.length - 1)) (p.length - (q.length - 1))).2
theorem split_ok (p q : List Rat) (hq : trimQ q = q) (hq0 : q ≠ []) : (∀ x, ev p x = ev q x * ev (quoQ p q) x + ev (remQ p q) x) ∧ (remQ p q).length < q.length ∧ trimQ (quoQ p q) = quoQ p q ∧ trimQ (remQ p q) = remQ p q := by
  have l1 : 0 < q.length := List.length_pos_iff.2 hq0
  refine ⟨fun x => ?_, ?_, trim_trim _, trim_trim _⟩
  · unfold quoQ remQ
    rw [ev_trim, ev_trim]
    by_cases h : q.length - 1 ≤ p.length
    · exact (splitAt_inv p q (q.length - 1) (p.length - (q.length - 1)) (by omega) (trim_last hq hq0) (by omega) _ (Nat.le_refl _)).1 x
    · rw [show p.length - (q.length - 1) = 0 from by omega, splitAt]
      dsimp only
      rw [ev_zero (cf_replicate 0)]
      grind
  · unfold remQ
    refine Nat.lt_of_le_of_lt (trim_length_lt (n := q.length - 1) fun j hj => ?_) (by omega)
    by_cases h : q.length - 1 ≤ p.length
    · exact (splitAt_inv p q (q.length - 1) (p.length - (q.length - 1)) (by omega) (trim_last hq hq0) (by omega) _ (Nat.le_refl _)).2.2 j (by omega)
    · rw [show p.length - (q.length - 1) = 0 from by omega, splitAt]
      exact cf_ge (by dsimp only; omega)
end Go.Proofs.YteldjhhjnchdeaaGreatDoor
namespace Go.Proofs.YteldjhhjnchdeaaGreatDoor

/-- The polynomials' own works. -/
def addQ (p q : List Rat) : List Rat := trimQ (addR p q)
def subQ (p q : List Rat) : List Rat := trimQ (addR p (scaleR (-1) q))
def mulQ (p q : List Rat) : List Rat := trimQ (mulR p q)
def slopeQ (p : List Rat) : List Rat := trimQ (slopeR p)
theorem addQ_trim (p q : List Rat) : trimQ (addQ p q) = addQ p q := trim_trim _
theorem subQ_trim (p q : List Rat) : trimQ (subQ p q) = subQ p q := trim_trim _
theorem mulQ_trim (p q : List Rat) : trimQ (mulQ p q) = mulQ p q := trim_trim _
theorem slopeQ_trim (p : List Rat) : trimQ (slopeQ p) = slopeQ p := trim_trim _
theorem ev_addQ (p q : List Rat) (x : Rat) : ev (addQ p q) x = ev p x + ev q x := by unfold addQ; rw [ev_trim, ev_addR]
theorem ev_subQ (p q : List Rat) (x : Rat) : ev (subQ p q) x = ev p x - ev q x := by unfold subQ; rw [ev_trim, ev_addR, ev_scaleR]; grind
theorem ev_mulQ (p q : List Rat) (x : Rat) : ev (mulQ p q) x = ev p x * ev q x := by unfold mulQ; rw [ev_trim, ev_mulR]
theorem ev_slopeQ (p : List Rat) (x : Rat) : ev (slopeQ p) x = dv p x := by unfold slopeQ; rw [ev_trim, ev_slopeR]
theorem cf_addQ (p q : List Rat) (i : Nat) : cf (addQ p q) i = cf p i + cf q i := by unfold addQ; rw [cf_trim, cf_addR]
theorem cf_subQ (p q : List Rat) (i : Nat) : cf (subQ p q) i = cf p i - cf q i := by unfold subQ; rw [cf_trim, cf_addR, cf_scaleR]; grind
theorem addR_length (p q : List Rat) : (addR p q).length = max p.length q.length := by
  induction p generalizing q with
  | nil => rw [addR]; simp
  | cons c t ih =>
    cases q with
    | nil => rw [addR_self_nil]; simp
    | cons d s => rw [addR, List.length_cons, ih, List.length_cons, List.length_cons]; omega
theorem addQ_length (p q : List Rat) : (addQ p q).length ≤ max p.length q.length := by
  have := trim_length_le (addR p q)
  rw [addR_length] at this
  exact this

/-- What is equal everywhere. -/
theorem ev_eq {p q : List Rat} (hp : trimQ p = p) (hq : trimQ q = q) (h : ∀ x, ev p x = ev q x) : p = q := by rw [← hp, ← hq]; exact ev_inj h

/-- The slope of a product. -/
theorem slope_mul (p q : List Rat) : slopeQ (mulQ p q) = addQ (mulQ (slopeQ p) q) (mulQ p (slopeQ q)) := by
  refine ev_eq (slopeQ_trim _) (addQ_trim _ _) fun x => ?_
  rw [ev_slopeQ, ev_addQ, ev_mulQ, ev_mulQ, ev_slopeQ, ev_slopeQ, ← dv_mulR]
  exact dv_ext (fun i => by unfold mulQ; rw [cf_trim]) x

/-- Moved. -/
def lineQ (a : Rat) : List Rat := [a, 1]
def movQ (a : Rat) : List Rat → List Rat
  | [] => []
  | c :: t => addQ (mulQ (movQ a t) (lineQ a)) (trimQ [c])
theorem lineQ_trim (a : Rat) : trimQ (lineQ a) = lineQ a := trim_of_last (Or.inr (by show cf [a, 1] 1 ≠ 0; rw [cf_succ, cf_zero]; decide))
theorem movQ_trim (a : Rat) (p : List Rat) : trimQ (movQ a p) = movQ a p := by
  cases p with
  | nil => rfl
  | cons c t => exact addQ_trim _ _
theorem ev_movQ (a : Rat) (p : List Rat) (x : Rat) : ev (movQ a p) x = ev p (x + a) := by
  induction p with
  | nil => rfl
  | cons c t ih =>
    rw [movQ, ev_addQ, ev_mulQ, ev_trim, ih]
    simp only [lineQ, ev]
    grind
theorem mov_back (a : Rat) (p : List Rat) (hp : trimQ p = p) : movQ (-a) (movQ a p) = p :=
  ev_eq (movQ_trim _ _) hp fun x => by rw [ev_movQ, ev_movQ]; congr 1; grind
theorem movQ_length (a : Rat) (p : List Rat) (hp : trimQ p = p) : (movQ a p).length = p.length := by
  induction p with
  | nil => rfl
  | cons c t ih =>
    by_cases ht : t = []
    · subst ht
      have e : movQ a [c] = trimQ [c] := by
        rw [movQ, movQ]
        refine ev_eq (addQ_trim _ _) (trim_trim _) fun x => ?_
        rw [ev_addQ, ev_mulQ, show ev [] x = 0 from rfl]; grind
      rw [e, hp]
    · have h1 := trim_last hp (by simp)
      have e1 : (c :: t).length - 1 = (t.length - 1) + 1 := by
        have : 0 < t.length := List.length_pos_iff.2 ht
        rw [List.length_cons]; omega
      rw [e1, cf_succ] at h1
      have ht2 : trimQ t = t := trim_of_last (Or.inr h1)
      have ih := ih ht2
      have lt : 0 < t.length := List.length_pos_iff.2 ht
      have m0 : movQ a t ≠ [] := fun h => by rw [h] at ih; simp at ih; omega
      have h2 := trim_mulR_length (movQ_trim a t) (lineQ_trim a) m0 (by unfold lineQ; simp)
      have h3 : (mulQ (movQ a t) (lineQ a)).length = t.length + 1 := by unfold mulQ; rw [h2, ih]; rfl
      have h4 := trim_last (mulQ_trim (movQ a t) (lineQ a)) (fun h => by rw [h] at h3; simp at h3)
      rw [h3] at h4
      have h5 : cf (movQ a (c :: t)) t.length ≠ 0 := by
        rw [movQ, cf_addQ, cf_trim, cf_ge (p := [c]) (by simp; omega)]
        simp only [Nat.add_sub_cancel] at h4
        grind
      have h6 : (movQ a (c :: t)).length ≤ t.length + 1 := by
        rw [movQ]
        have := addQ_length (mulQ (movQ a t) (lineQ a)) (trimQ [c])
        have h7 := trim_length_le [c]
        simp at h7
        omega
      rcases Nat.lt_or_ge t.length (movQ a (c :: t)).length with h8 | h8
      · rw [List.length_cons]; omega
      · exact absurd (cf_ge h8) h5
/-- Put together again. -/
theorem split_back (p q : List Rat) (hp : trimQ p = p) (hq : trimQ q = q) (hq0 : q ≠ []) : addQ (mulQ (quoQ p q) q) (remQ p q) = p :=
  ev_eq (addQ_trim _ _) hp fun x => by rw [ev_addQ, ev_mulQ, (split_ok p q hq hq0).1 x]; grind
end Go.Proofs.YteldjhhjnchdeaaGreatDoor
