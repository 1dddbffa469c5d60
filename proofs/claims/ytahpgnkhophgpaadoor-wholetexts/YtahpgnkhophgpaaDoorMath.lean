import Init
namespace Go.Proofs.YtahpgnkhophgpaaDoor

/-- The number that digits of base B tell, the lowest one first. -/
def val (B : Nat) : List Nat → Nat
  | [] => 0
  | d :: ds => d + B * val B ds

/-- All digits are below B. -/
def Dig (B : Nat) (ds : List Nat) : Prop := ∀ d ∈ ds, d < B

/-- The digits of n, the lowest one first, none for 0. -/
def limbs (B n : Nat) : List Nat :=
  if _h : n = 0 ∨ B < 2 then [] else n % B :: limbs B (n / B)
termination_by n
decreasing_by
  have h1 : n ≠ 0 := fun e => _h (Or.inl e)
  have _h2 : ¬ B < 2 := fun e => _h (Or.inr e)
  exact Nat.div_lt_self (by omega) (by omega)

/-- The digits without the zeros on top. -/
def trimL : List Nat → List Nat
  | [] => []
  | d :: ds => match trimL ds with
    | [] => if d = 0 then [] else [d]
    | e :: es => d :: e :: es

theorem Dig.nil (B : Nat) : Dig B [] := fun _ h => by cases h
theorem Dig.cons {B d : Nat} {ds : List Nat} (h : d < B) (k : Dig B ds) : Dig B (d :: ds) := fun x hx => by
  rcases List.mem_cons.1 hx with rfl | hx
  · exact h
  · exact k x hx
theorem Dig.head {B d : Nat} {ds : List Nat} (h : Dig B (d :: ds)) : d < B := h d (List.mem_cons_self ..)
theorem Dig.tail {B d : Nat} {ds : List Nat} (h : Dig B (d :: ds)) : Dig B ds := fun x hx => h x (List.mem_cons_of_mem _ hx)
theorem Dig.append {B : Nat} {a b : List Nat} (h : Dig B a) (k : Dig B b) : Dig B (a ++ b) := fun x hx => by
  rcases List.mem_append.1 hx with hx | hx
  · exact h x hx
  · exact k x hx
theorem Dig.left {B : Nat} {a b : List Nat} (h : Dig B (a ++ b)) : Dig B a := fun x hx => h x (List.mem_append.2 (Or.inl hx))
theorem Dig.right {B : Nat} {a b : List Nat} (h : Dig B (a ++ b)) : Dig B b := fun x hx => h x (List.mem_append.2 (Or.inr hx))

theorem val_nil (B : Nat) : val B [] = 0 := rfl
theorem val_cons (B d : Nat) (ds : List Nat) : val B (d :: ds) = d + B * val B ds := rfl

theorem val_append (B : Nat) : ∀ (a b : List Nat), val B (a ++ b) = val B a + B ^ a.length * val B b
  | [], b => by simp [val]
  | d :: a, b => by
    simp only [List.cons_append, val_cons, val_append B a b, List.length_cons, Nat.pow_succ]
    rw [Nat.mul_add, Nat.mul_comm (B ^ a.length) B, Nat.mul_assoc, Nat.add_assoc]

theorem val_lt {B : Nat} : ∀ {ds : List Nat}, Dig B ds → val B ds < B ^ ds.length
  | [], _ => by simp [val]
  | d :: ds, h => by
    have h1 := h.head
    have h2 := val_lt h.tail
    simp only [val_cons, List.length_cons, Nat.pow_succ]
    have h3 : B * val B ds + B ≤ B * B ^ ds.length := by
      rw [← Nat.mul_succ]; exact Nat.mul_le_mul_left _ h2
    rw [Nat.mul_comm (B ^ ds.length) B]
    omega

theorem limbs_zero (B : Nat) : limbs B 0 = [] := by rw [limbs]; simp
theorem limbs_pos {B n : Nat} (hB : 2 ≤ B) (hn : n ≠ 0) : limbs B n = n % B :: limbs B (n / B) := by
  rw [limbs]
  rw [dif_neg]
  intro h
  rcases h with h | h
  · exact hn h
  · omega

theorem val_limbs {B : Nat} (hB : 2 ≤ B) (n : Nat) : val B (limbs B n) = n := by
  induction n using Nat.strongRecOn with
  | ind n ih =>
    by_cases hn : n = 0
    · subst hn; rw [limbs_zero]; rfl
    · rw [limbs_pos hB hn, val_cons, ih _ (Nat.div_lt_self (by omega) (by omega))]
      exact Nat.mod_add_div n B

theorem dig_limbs {B : Nat} (hB : 2 ≤ B) (n : Nat) : Dig B (limbs B n) := by
  induction n using Nat.strongRecOn with
  | ind n ih =>
    by_cases hn : n = 0
    · subst hn; rw [limbs_zero]; exact Dig.nil B
    · rw [limbs_pos hB hn]
      exact Dig.cons (Nat.mod_lt _ (by omega)) (ih _ (Nat.div_lt_self (by omega) (by omega)))

theorem limbs_eq_nil {B : Nat} (hB : 2 ≤ B) {n : Nat} : limbs B n = [] ↔ n = 0 := by
  constructor
  · intro h
    have := val_limbs hB n
    rw [h] at this
    exact this.symm
  · intro h; rw [h, limbs_zero]

theorem trimL_cons_zero {ds : List Nat} {d : Nat} (h : trimL ds = []) : trimL (d :: ds) = if d = 0 then [] else [d] := by
  simp only [trimL, h]
theorem trimL_cons_ne {ds : List Nat} {d : Nat} (h : trimL ds ≠ []) : trimL (d :: ds) = d :: trimL ds := by
  simp only [trimL]
  cases h' : trimL ds with
  | nil => exact absurd h' h
  | cons e es => rfl

theorem val_trimL (B : Nat) : ∀ (ds : List Nat), val B (trimL ds) = val B ds
  | [] => rfl
  | d :: ds => by
    by_cases h : trimL ds = []
    · have := val_trimL B ds
      rw [h] at this
      rw [trimL_cons_zero h, val_cons, ← this]
      by_cases hd : d = 0
      · simp [hd, val]
      · simp [hd, val]
    · rw [trimL_cons_ne h, val_cons, val_cons, val_trimL B ds]

theorem limbs_val {B : Nat} (hB : 2 ≤ B) : ∀ {ds : List Nat}, Dig B ds → limbs B (val B ds) = trimL ds
  | [], _ => by rw [val_nil, limbs_zero]; rfl
  | d :: ds, h => by
    have h1 := h.head
    have ih := limbs_val hB h.tail
    rw [val_cons]
    by_cases hz : d + B * val B ds = 0
    · have hd : d = 0 := by omega
      have hv : val B ds = 0 := by
        rcases Nat.eq_zero_or_pos (val B ds) with h0 | h0
        · exact h0
        · have : 0 < B * val B ds := Nat.mul_pos (by omega) h0
          omega
      rw [hv, limbs_zero] at ih
      rw [hz, limbs_zero, trimL_cons_zero ih.symm, if_pos hd]
    · rw [limbs_pos hB hz]
      have e1 : (d + B * val B ds) % B = d := by rw [Nat.add_mul_mod_self_left]; exact Nat.mod_eq_of_lt h1
      have e2 : (d + B * val B ds) / B = val B ds := by
        rw [Nat.add_mul_div_left _ _ (by omega), Nat.div_eq_of_lt h1, Nat.zero_add]
      rw [e1, e2, ih]
      by_cases ht : trimL ds = []
      · rw [trimL_cons_zero ht, ht]
        have hv : val B ds = 0 := by rw [← val_trimL B ds, ht]; rfl
        rw [if_neg]
        intro hd
        apply hz
        rw [hd, hv]; simp
      · rw [trimL_cons_ne ht]

/-- No zero stands on top. -/
def Top (ds : List Nat) : Prop := trimL ds = ds

theorem top_limbs {B : Nat} (hB : 2 ≤ B) (n : Nat) : Top (limbs B n) := by
  have h := limbs_val hB (dig_limbs hB n)
  rw [val_limbs hB] at h
  exact h.symm

theorem limbs_val_top {B : Nat} (hB : 2 ≤ B) {ds : List Nat} (h : Dig B ds) (ht : Top ds) : limbs B (val B ds) = ds := (limbs_val hB h).trans ht

theorem trimL_snoc_ne : ∀ (ds : List Nat) {d : Nat}, d ≠ 0 → trimL (ds ++ [d]) = ds ++ [d]
  | [], d, h => by simp [trimL, h]
  | e :: ds, d, h => by
    have ih := trimL_snoc_ne ds h
    rw [List.cons_append, trimL_cons_ne (by rw [ih]; simp), ih]

theorem trimL_snoc_zero : ∀ (ds : List Nat), trimL (ds ++ [0]) = trimL ds
  | [] => by simp [trimL]
  | e :: ds => by
    have ih := trimL_snoc_zero ds
    by_cases h : trimL ds = []
    · rw [List.cons_append, trimL_cons_zero (by rw [ih]; exact h), trimL_cons_zero h]
    · rw [List.cons_append, trimL_cons_ne (by rw [ih]; exact h), trimL_cons_ne h, ih]

/-- Where the digits from k on are 0 and the one below isn't, the first k are left. -/
theorem trimL_take (ds : List Nat) (k : Nat) (hk : k ≤ ds.length) (h0 : ∀ j, k ≤ j → j < ds.length → ds[j]? = some 0) : trimL (ds.take k) = trimL ds := by
  obtain ⟨m, hm⟩ : ∃ m, ds.length = k + m := ⟨ds.length - k, by omega⟩
  induction m generalizing ds with
  | zero => rw [List.take_of_length_le (by omega)]
  | succ m ih =>
    have hne : ds ≠ [] := by intro e; rw [e] at hm; simp at hm
    have hl : ds = ds.take (k + m) ++ [0] := by
      apply List.ext_getElem?
      intro i
      by_cases hi : i < k + m
      · rw [List.getElem?_append_left (by rw [List.length_take]; omega), List.getElem?_take_of_lt hi]
      · by_cases hi2 : i = k + m
        · subst hi2
          rw [List.getElem?_append_right (by rw [List.length_take]; omega), h0 _ (by omega) (by omega)]
          simp [List.length_take, hm]
        · rw [List.getElem?_eq_none (by omega), List.getElem?_eq_none]
          simp [List.length_take]; omega
    have hl2 : (ds.take (k + m)).length = k + m := by rw [List.length_take]; omega
    have := ih (ds.take (k + m)) (by omega) (by
      intro j h1 h2
      rw [List.getElem?_take_of_lt (by omega)]
      exact h0 j h1 (by omega)) hl2
    rw [List.take_take, Nat.min_eq_left (by omega)] at this
    rw [this]
    conv => rhs; rw [hl]
    rw [trimL_snoc_zero]

theorem trimL_at (ds : List Nat) (k : Nat) (hk : k < ds.length) (hne : ds[k]? ≠ some 0) (h0 : ∀ j, k < j → j < ds.length → ds[j]? = some 0) : trimL ds = ds.take (k + 1) := by
  rw [← trimL_take ds (k + 1) (by omega) (fun j h1 h2 => h0 j (by omega) h2)]
  rw [List.take_succ_eq_append_getElem hk]
  refine trimL_snoc_ne _ ?_
  intro e
  apply hne
  rw [List.getElem?_eq_getElem hk, e]

theorem trimL_none (ds : List Nat) (h0 : ∀ j, j < ds.length → ds[j]? = some 0) : trimL ds = [] := by
  have := trimL_take ds 0 (by omega) (fun j _ h => h0 j h)
  rw [← this]; simp [trimL]

theorem trimL_dig {B : Nat} : ∀ {ds : List Nat}, Dig B ds → Dig B (trimL ds)
  | [], h => h
  | d :: ds, h => by
    by_cases ht : trimL ds = []
    · rw [trimL_cons_zero ht]
      split
      · exact Dig.nil B
      · exact Dig.cons h.head (Dig.nil B)
    · rw [trimL_cons_ne ht]
      exact Dig.cons h.head (trimL_dig h.tail)

theorem trimL_length : ∀ (ds : List Nat), (trimL ds).length ≤ ds.length
  | [] => by simp [trimL]
  | d :: ds => by
    have := trimL_length ds
    by_cases ht : trimL ds = []
    · rw [trimL_cons_zero ht]
      split <;> simp
    · rw [trimL_cons_ne ht]
      simp
      omega

theorem top_trimL : ∀ (ds : List Nat), Top (trimL ds)
  | [] => rfl
  | d :: ds => by
    have ih := top_trimL ds
    unfold Top at *
    by_cases ht : trimL ds = []
    · rw [trimL_cons_zero ht]
      by_cases hd : d = 0
      · rw [if_pos hd]; rfl
      · rw [if_neg hd]; simp [trimL, hd]
    · rw [trimL_cons_ne ht, trimL_cons_ne (by rw [ih]; exact ht), ih]

theorem limbs_length_le {B : Nat} (hB : 2 ≤ B) {n k : Nat} (h : n < B ^ k) : (limbs B n).length ≤ k := by
  induction k generalizing n with
  | zero =>
    have : n = 0 := by simp at h; exact h
    rw [this, limbs_zero]; simp
  | succ k ih =>
    by_cases hn : n = 0
    · rw [hn, limbs_zero]; simp
    · rw [limbs_pos hB hn, List.length_cons]
      have : n / B < B ^ k := by
        apply Nat.div_lt_of_lt_mul
        rw [Nat.mul_comm, ← Nat.pow_succ]; exact h
      have := ih this
      omega

/-- What stands on top makes the number at least so great. -/
theorem pow_le_of_limbs {B : Nat} (hB : 2 ≤ B) {n k : Nat} (h : (limbs B n).length = k + 1) : B ^ k ≤ n := by
  rcases Nat.lt_or_ge n (B ^ k) with h1 | h1
  · have := limbs_length_le hB h1
    omega
  · exact h1

theorem limbs_lt_length {B : Nat} (hB : 2 ≤ B) {m n : Nat} (h : (limbs B m).length < (limbs B n).length) : m < n := by
  have h1 : m < B ^ (limbs B m).length := by
    have := val_lt (dig_limbs hB m); rwa [val_limbs hB] at this
  have h2 : B ^ ((limbs B n).length - 1) ≤ n := pow_le_of_limbs hB (by omega)
  have h3 : B ^ (limbs B m).length ≤ B ^ ((limbs B n).length - 1) := Nat.pow_le_pow_right (by omega) (by omega)
  omega

/-- Which of two numbers is the greater one. -/
def cmpN (m n : Nat) : Int := if m < n then -1 else if n < m then 1 else 0

theorem cmpN_self (m : Nat) : cmpN m m = 0 := by simp [cmpN]
theorem cmpN_lt {m n : Nat} (h : m < n) : cmpN m n = -1 := by simp [cmpN, h]
theorem cmpN_gt {m n : Nat} (h : n < m) : cmpN m n = 1 := by
  have : ¬ m < n := by omega
  simp [cmpN, h, this]

theorem val_split {B : Nat} (ds : List Nat) (k : Nat) (hk : k < ds.length) : val B ds = val B (ds.take k) + B ^ k * (ds[k]?.getD 0 + B * val B (ds.drop (k + 1))) := by
  have h1 : ds = ds.take k ++ (ds[k]?.getD 0 :: ds.drop (k + 1)) := by
    rw [List.getElem?_eq_getElem hk]
    conv => lhs; rw [← List.take_append_drop k ds, List.drop_eq_getElem_cons hk]
    rfl
  have h2 : (ds.take k).length = k := by rw [List.length_take]; omega
  conv => lhs; rw [h1]
  rw [val_append, val_cons, h2]

theorem Dig.take {B : Nat} {ds : List Nat} (h : Dig B ds) (k : Nat) : Dig B (ds.take k) := fun x hx => h x (List.mem_of_mem_take hx)
theorem Dig.drop {B : Nat} {ds : List Nat} (h : Dig B ds) (k : Nat) : Dig B (ds.drop k) := fun x hx => h x (List.mem_of_mem_drop hx)
theorem Dig.get {B : Nat} {ds : List Nat} (h : Dig B ds) {k : Nat} (hk : k < ds.length) : ds[k]?.getD 0 < B := by
  rw [List.getElem?_eq_getElem hk]; exact h _ (List.getElem_mem hk)
theorem Dig.getD {B : Nat} {ds : List Nat} (h : Dig B ds) (hB : 0 < B) (k : Nat) : ds[k]?.getD 0 < B := by
  rcases Nat.lt_or_ge k ds.length with hk | hk
  · exact h.get hk
  · rw [List.getElem?_eq_none hk]; exact hB

theorem val_lt_at {B : Nat} {a b : List Nat} (ha : Dig B a) (hl : a.length = b.length) (k : Nat) (hk : k < a.length) (hd : a.drop (k + 1) = b.drop (k + 1)) (h : a[k]?.getD 0 < b[k]?.getD 0) : val B a < val B b := by
  rw [val_split a k hk, val_split b k (by omega), ← hd]
  have h1 := val_lt (ha.take k)
  have h2 : (a.take k).length = k := by rw [List.length_take]; omega
  rw [h2] at h1
  have h3 : B ^ k * (a[k]?.getD 0 + B * val B (a.drop (k + 1))) + B ^ k ≤ B ^ k * (b[k]?.getD 0 + B * val B (a.drop (k + 1))) := by
    rw [← Nat.mul_succ]
    exact Nat.mul_le_mul_left _ (by omega)
  omega

theorem drop_eq_step {a b : List Nat} (hl : a.length = b.length) (k : Nat) (hk : k < a.length) (hd : a.drop (k + 1) = b.drop (k + 1)) (h : a[k]?.getD 0 = b[k]?.getD 0) : a.drop k = b.drop k := by
  rw [List.drop_eq_getElem_cons hk, List.drop_eq_getElem_cons (by omega : k < b.length), hd]
  rw [List.getElem?_eq_getElem hk, List.getElem?_eq_getElem (by omega : k < b.length)] at h
  exact congrArg (· :: _) h

theorem val_lt_of_length {B : Nat} (hB : 2 ≤ B) {a b : List Nat} (ha : Dig B a) (hb : Dig B b) (ta : Top a) (tb : Top b) (h : a.length < b.length) : val B a < val B b := by
  apply limbs_lt_length hB
  rw [limbs_val_top hB ha ta, limbs_val_top hB hb tb]
  exact h

theorem val_take_succ (B : Nat) (ds : List Nat) (k : Nat) : val B (ds.take (k + 1)) = val B (ds.take k) + B ^ k * ds[k]?.getD 0 := by
  rcases Nat.lt_or_ge k ds.length with h | h
  · rw [List.take_succ_eq_append_getElem h, val_append, List.length_take, Nat.min_eq_left (by omega), List.getElem?_eq_getElem h]
    simp [val]
  · rw [List.take_of_length_le (by omega), List.take_of_length_le h, List.getElem?_eq_none h]
    simp

theorem val_snoc (B : Nat) (ds : List Nat) (d : Nat) : val B (ds ++ [d]) = val B ds + B ^ ds.length * d := by
  rw [val_append]; simp [val]

/-- Digits that are as many as their number needs have no zero on top. -/
theorem top_of_pow {B : Nat} (hB : 2 ≤ B) {ds : List Nat} (h : Dig B ds) (hp : ds = [] ∨ B ^ (ds.length - 1) ≤ val B ds) : Top ds := by
  rcases hp with rfl | hp
  · rfl
  · have h1 := trimL_length ds
    rcases Nat.lt_or_ge (trimL ds).length ds.length with hlt | hge
    · have h2 := val_lt (trimL_dig h)
      rw [val_trimL] at h2
      have h3 : B ^ (trimL ds).length ≤ B ^ (ds.length - 1) := Nat.pow_le_pow_right (by omega) (by omega)
      omega
    · have hl : (trimL ds).length = ds.length := by omega
      clear h1 hge hp h hB
      unfold Top
      induction ds with
      | nil => rfl
      | cons d ds ih =>
        by_cases ht : trimL ds = []
        · rw [trimL_cons_zero ht] at hl ⊢
          by_cases hd : d = 0
          · rw [if_pos hd] at hl; simp at hl
          · rw [if_neg hd] at hl ⊢
            simp at hl
            rw [hl]
        · rw [trimL_cons_ne ht] at hl ⊢
          rw [ih (by simpa using hl)]

/-- One digit of a sum. -/
theorem sum_step {B : Nat} (acc : List Nat) (c s A : Nat) (h : val B acc + B ^ acc.length * c = A) : val B (acc ++ [(c + s) % B]) + B ^ (acc.length + 1) * ((c + s) / B) = A + B ^ acc.length * s := by
  rw [val_snoc, Nat.pow_succ, Nat.mul_assoc, Nat.add_assoc, ← Nat.mul_add, Nat.mod_add_div, Nat.mul_add]
  omega

theorem pow_le_val_top {B : Nat} (hB : 2 ≤ B) {n k : Nat} (h : (limbs B n).length = k) (hk : k ≠ 0) : B ^ (k - 1) ≤ n := pow_le_of_limbs hB (by omega)

/-- The rows' last word on a sum. -/
theorem sum_done {B : Nat} (hB : 2 ≤ B) {m n : Nat} {acc : List Nat} (hd : Dig B acc) (hv : val B acc = m + n)
    (hl : acc.length ≤ max (limbs B m).length (limbs B n).length ∨ B ^ (acc.length - 1) ≤ val B acc) (hle : max (limbs B m).length (limbs B n).length ≤ acc.length) : acc = limbs B (m + n) := by
  rw [← hv]
  refine (limbs_val_top hB hd (top_of_pow hB hd ?_)).symm
  by_cases h0 : acc.length = 0
  · exact Or.inl (List.eq_nil_of_length_eq_zero h0)
  · right
    rcases hl with hl | hl
    · have hm : acc.length = max (limbs B m).length (limbs B n).length := by omega
      rcases Nat.le_total (limbs B m).length (limbs B n).length with h | h
      · have := pow_le_val_top hB (n := n) (k := acc.length) (by omega) h0
        omega
      · have := pow_le_val_top hB (n := m) (k := acc.length) (by omega) h0
        omega
    · exact hl

end Go.Proofs.YtahpgnkhophgpaaDoor
