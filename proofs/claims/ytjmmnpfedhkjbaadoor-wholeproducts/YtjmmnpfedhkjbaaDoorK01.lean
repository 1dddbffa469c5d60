import Init
namespace Go.Proofs.YtjmmnpfedhkjbaaDoor

/-- The number that digits of base B tell, the lowest one first. -/
def val (B : Nat) : List Nat → Nat
  | [] => 0
  | d :: ds => d + B * val B ds

/-- All digits are below B. -/
def Dig (B : Nat) (ds : List Nat) : Prop := ∀ d ∈ ds, d < B

/-- The digits of n, the lowest one first, at most k of them. -/
def limF (B : Nat) : Nat → Nat → List Nat
  | 0, _ => []
  | k + 1, n => if n = 0 ∨ B < 2 then [] else n % B :: limF B k (n / B)

/-- The digits of n, the lowest one first, none for 0. -/
def limbs (B n : Nat) : List Nat := limF B n n

theorem limF_more (B : Nat) : ∀ (k n m : Nat), n ≤ k → n ≤ m → limF B k n = limF B m n
  | 0, n, m, h, _ => by
    have : n = 0 := by omega
    subst this
    cases m with
    | zero => rfl
    | succ m => rw [limF, limF, if_pos (Or.inl rfl)]
  | k + 1, n, 0, _, h => by
    have : n = 0 := by omega
    subst this
    rw [limF, limF, if_pos (Or.inl rfl)]
  | k + 1, n, m + 1, h1, h2 => by
    rw [limF, limF]
    by_cases h : n = 0 ∨ B < 2
    · rw [if_pos h, if_pos h]
    · have h3 : n / B < n := Nat.div_lt_self (by omega) (by omega)
      rw [if_neg h, if_neg h, limF_more B k (n / B) m (by omega) (by omega)]

/-- The digits without the zeros on top. -/
def trimL : List Nat → List Nat
  | [] => []
  | d :: ds => match trimL ds with
    | [] => if d = 0 then [] else [d]
    | e :: es => d :: e :: es

theorem Dig.nil (B : Nat) : Dig B [] := fun _ h => by cases h
theorem Dig.cons {B d : Nat} {ds : List Nat} (h : d < B) (k : Dig B ds) : Dig B (d :: ds) := fun x hx => by
  rcases List.mem_cons.1 hx with rfl | hx
  · exact h
  · exact k x hx
theorem Dig.head {B d : Nat} {ds : List Nat} (h : Dig B (d :: ds)) : d < B := h d (List.mem_cons_self ..)
theorem Dig.tail {B d : Nat} {ds : List Nat} (h : Dig B (d :: ds)) : Dig B ds := fun x hx => h x (List.mem_cons_of_mem _ hx)
theorem Dig.append {B : Nat} {a b : List Nat} (h : Dig B a) (k : Dig B b) : Dig B (a ++ b) := fun x hx => by
  rcases List.mem_append.1 hx with hx | hx
  · exact h x hx
  · exact k x hx
theorem Dig.left {B : Nat} {a b : List Nat} (h : Dig B (a ++ b)) : Dig B a := fun x hx => h x (List.mem_append.2 (Or.inl hx))
theorem Dig.right {B : Nat} {a b : List Nat} (h : Dig B (a ++ b)) : Dig B b := fun x hx => h x (List.mem_append.2 (Or.inr hx))

theorem val_nil (B : Nat) : val B [] = 0 := rfl
theorem val_cons (B d : Nat) (ds : List Nat) : val B (d :: ds) = d + B * val B ds := rfl

theorem val_append (B : Nat) : ∀ (a b : List Nat), val B (a ++ b) = val B a + B ^ a.length * val B b
  | [], b => by simp [val]
  | d :: a, b => by
    simp only [List.cons_append, val_cons, val_append B a b, List.length_cons, Nat.pow_succ]
    rw [Nat.mul_add, Nat.mul_comm (B ^ a.length) B, Nat.mul_assoc, Nat.add_assoc]

theorem val_lt {B : Nat} : ∀ {ds : List Nat}, Dig B ds → val B ds < B ^ ds.length
  | [], _ => by simp [val]
  | d :: ds, h => by
    have h1 := h.head
    have h2 := val_lt h.tail
    simp only [val_cons, List.length_cons, Nat.pow_succ]
    have h3 : B * val B ds + B ≤ B * B ^ ds.length := by
      rw [← Nat.mul_succ]; exact Nat.mul_le_mul_left _ h2
    rw [Nat.mul_comm (B ^ ds.length) B]
    omega

theorem limbs_zero (B : Nat) : limbs B 0 = [] := rfl
theorem limbs_pos {B n : Nat} (hB : 2 ≤ B) (hn : n ≠ 0) : limbs B n = n % B :: limbs B (n / B) := by
  unfold limbs
  obtain ⟨m, rfl⟩ : ∃ m, n = m + 1 := ⟨n - 1, by omega⟩
  have h3 : (m + 1) / B < m + 1 := Nat.div_lt_self (by omega) (by omega)
  rw [limF, if_neg (by omega), limF_more B m _ _ (by omega) (Nat.le_refl _)]

theorem val_limbs {B : Nat} (hB : 2 ≤ B) (n : Nat) : val B (limbs B n) = n := by
  induction n using Nat.strongRecOn with
  | ind n ih =>
    by_cases hn : n = 0
    · subst hn; rw [limbs_zero]; rfl
    · rw [limbs_pos hB hn, val_cons, ih _ (Nat.div_lt_self (by omega) (by omega))]
      exact Nat.mod_add_div n B

theorem dig_limbs {B : Nat} (hB : 2 ≤ B) (n : Nat) : Dig B (limbs B n) := by
  induction n using Nat.strongRecOn with
  | ind n ih =>
    by_cases hn : n = 0
    · subst hn; rw [limbs_zero]; exact Dig.nil B
    · rw [limbs_pos hB hn]
      exact Dig.cons (Nat.mod_lt _ (by omega)) (ih _ (Nat.div_lt_self (by omega) (by omega)))

theorem limbs_eq_nil {B : Nat} (hB : 2 ≤ B) {n : Nat} : limbs B n = [] ↔ n = 0 := by
  constructor
  · intro h
    have := val_limbs hB n
    rw [h] at this
    exact this.symm
  · intro h; rw [h, limbs_zero]

theorem trimL_cons_zero {ds : List Nat} {d : Nat} (h : trimL ds = []) : trimL (d :: ds) = if d = 0 then [] else [d] := by
  simp only [trimL, h]
theorem trimL_cons_ne {ds : List Nat} {d : Nat} (h : trimL ds ≠ []) : trimL (d :: ds) = d :: trimL ds := by
  simp only [trimL]
  cases h' : trimL ds with
  | nil => exact absurd h' h
  | cons e es => rfl

theorem val_trimL (B : Nat) : ∀ (ds : List Nat), val B (trimL ds) = val B ds
  | [] => rfl
  | d :: ds => by
    by_cases h : trimL ds = []
    · have := val_trimL B ds
      rw [h] at this
      rw [trimL_cons_zero h, val_cons, ← this]
      by_cases hd : d = 0
      · simp [hd, val]
      · simp [hd, val]
    · rw [trimL_cons_ne h, val_cons, val_cons, val_trimL B ds]

theorem limbs_val {B : Nat} (hB : 2 ≤ B) : ∀ {ds : List Nat}, Dig B ds → limbs B (val B ds) = trimL ds
  | [], _ => by rw [val_nil, limbs_zero]; rfl
  | d :: ds, h => by
    have h1 := h.head
    have ih := limbs_val hB h.tail
    rw [val_cons]
    by_cases hz : d + B * val B ds = 0
    · have hd : d = 0 := by omega
      have hv : val B ds = 0 := by
        rcases Nat.eq_zero_or_pos (val B ds) with h0 | h0
        · exact h0
        · have : 0 < B * val B ds := Nat.mul_pos (by omega) h0
          omega
      rw [hv, limbs_zero] at ih
      rw [hz, limbs_zero, trimL_cons_zero ih.symm, if_pos hd]
    · rw [limbs_pos hB hz]
      have e1 : (d + B * val B ds) % B = d := by rw [Nat.add_mul_mod_self_left]; exact Nat.mod_eq_of_lt h1
      have e2 : (d + B * val B ds) / B = val B ds := by
        rw [Nat.add_mul_div_left _ _ (by omega), Nat.div_eq_of_lt h1, Nat.zero_add]
      rw [e1, e2, ih]
      by_cases ht : trimL ds = []
      · rw [trimL_cons_zero ht, ht]
        have hv : val B ds = 0 := by rw [← val_trimL B ds, ht]; rfl
        rw [if_neg]
        intro hd
        apply hz
        rw [hd, hv]; simp
      · rw [trimL_cons_ne ht]

/-- No zero stands on top. -/
def Top (ds : List Nat) : Prop := trimL ds = ds

theorem top_limbs {B : Nat} (hB : 2 ≤ B) (n : Nat) : Top (limbs B n) := by
  have h := limbs_val hB (dig_limbs hB n)
  rw [val_limbs hB] at h
  exact h.symm

theorem limbs_val_top {B : Nat} (hB : 2 ≤ B) {ds : List Nat} (h : Dig B ds) (ht : Top ds) : limbs B (val B ds) = ds := (limbs_val hB h).trans ht

theorem trimL_snoc_ne : ∀ (ds : List Nat) {d : Nat}, d ≠ 0 → trimL (ds ++ [d]) = ds ++ [d]
  | [], d, h => by simp [trimL, h]
  | e :: ds, d, h => by
    have ih := trimL_snoc_ne ds h
    rw [List.cons_append, trimL_cons_ne (by rw [ih]; simp), ih]

theorem trimL_snoc_zero : ∀ (ds : List Nat), trimL (ds ++ [0]) = trimL ds
  | [] => by simp [trimL]
  | e :: ds => by
    have ih := trimL_snoc_zero ds
    by_cases h : trimL ds = []
    · rw [List.cons_append, trimL_cons_zero (by rw [ih]; exact h), trimL_cons_zero h]
    · rw [List.cons_append, trimL_cons_ne (by rw [ih]; exact h), trimL_cons_ne h, ih]

/-- Where the digits from k on are 0 and the one below isn't, the first k are left. -/
theorem trimL_take (ds : List Nat) (k : Nat) (hk : k ≤ ds.length) (h0 : ∀ j, k ≤ j → j < ds.length → ds[j]? = some 0) : trimL (ds.take k) = trimL ds := by
  obtain ⟨m, hm⟩ : ∃ m, ds.length = k + m := ⟨ds.length - k, by omega⟩
  induction m generalizing ds with
  | zero => rw [List.take_of_length_le (by omega)]
  | succ m ih =>
    have hne : ds ≠ [] := by intro e; rw [e] at hm; simp at hm
    have hl : ds = ds.take (k + m) ++ [0] := by
      apply List.ext_getElem?
      intro i
      by_cases hi : i < k + m
      · rw [List.getElem?_append_left (by rw [List.length_take]; omega), List.getElem?_take_of_lt hi]
      · by_cases hi2 : i = k + m
        · subst hi2
          rw [List.getElem?_append_right (by rw [List.length_take]; omega), h0 _ (by omega) (by omega)]
          simp [List.length_take, hm]
        · rw [List.getElem?_eq_none (by omega), List.getElem?_eq_none]
          simp [List.length_take]; omega
    have hl2 : (ds.take (k + m)).length = k + m := by rw [List.length_take]; omega
    have := ih (ds.take (k + m)) (by omega) (by
      intro j h1 h2
      rw [List.getElem?_take_of_lt (by omega)]
      exact h0 j h1 (by omega)) hl2
    rw [List.take_take, Nat.min_eq_left (by omega)] at this
    rw [this]
    conv => rhs; rw [hl]
    rw [trimL_snoc_zero]

theorem trimL_at (ds : List Nat) (k : Nat) (hk : k < ds.length) (hne : ds[k]? ≠ some 0) (h0 : ∀ j, k < j → j < ds.length → ds[j]? = some 0) : trimL ds = ds.take (k + 1) := by
  rw [← trimL_take ds (k + 1) (by omega) (fun j h1 h2 => h0 j (by omega) h2)]
  rw [List.take_succ_eq_append_getElem hk]
  refine trimL_snoc_ne _ ?_
  intro e
  apply hne
  rw [List.getElem?_eq_getElem hk, e]

theorem trimL_none (ds : List Nat) (h0 : ∀ j, j < ds.length → ds[j]? = some 0) : trimL ds = [] := by
  have := trimL_take ds 0 (by omega) (fun j _ h => h0 j h)
  rw [← this]; simp [trimL]

theorem trimL_dig {B : Nat} : ∀ {ds : List Nat}, Dig B ds → Dig B (trimL ds)
  | [], h => h
  | d :: ds, h => by
    by_cases ht : trimL ds = []
    · rw [trimL_cons_zero ht]
      split
      · exact Dig.nil B
      · exact Dig.cons h.head (Dig.nil B)
    · rw [trimL_cons_ne ht]
      exact Dig.cons h.head (trimL_dig h.tail)

theorem trimL_length : ∀ (ds : List Nat), (trimL ds).length ≤ ds.length
  | [] => by simp [trimL]
  | d :: ds => by
    have := trimL_length ds
    by_cases ht : trimL ds = []
    · rw [trimL_cons_zero ht]
      split <;> simp
    · rw [trimL_cons_ne ht]
      simp
      omega

theorem top_trimL : ∀ (ds : List Nat), Top (trimL ds)
  | [] => rfl
  | d :: ds => by
    have ih := top_trimL ds
    unfold Top at *
    by_cases ht : trimL ds = []
    · rw [trimL_cons_zero ht]
      by_cases hd : d = 0
      · rw [if_pos hd]; rfl
      · rw [if_neg hd]; simp [trimL, hd]
    · rw [trimL_cons_ne ht, trimL_cons_ne (by rw [ih]; exact ht), ih]

theorem limbs_length_le {B : Nat} (hB : 2 ≤ B) {n k : Nat} (h : n < B ^ k) : (limbs B n).length ≤ k := by
  induction k generalizing n with
  | zero =>
    have : n = 0 := by simp at h; exact h
    rw [this, limbs_zero]; simp
  | succ k ih =>
    by_cases hn : n = 0
    · rw [hn, limbs_zero]; simp
    · rw [limbs_pos hB hn, List.length_cons]
      have : n / B < B ^ k := by
        apply Nat.div_lt_of_lt_mul
        rw [Nat.mul_comm, ← Nat.pow_succ]; exact h
      have := ih this
      omega

/-- What stands on top makes the number at least so great. -/
theorem pow_le_of_limbs {B : Nat} (hB : 2 ≤ B) {n k : Nat} (h : (limbs B n).length = k + 1) : B ^ k ≤ n := by
  rcases Nat.lt_or_ge n (B ^ k) with h1 | h1
  · have := limbs_length_le hB h1
    omega
  · exact h1

theorem limbs_lt_length {B : Nat} (hB : 2 ≤ B) {m n : Nat} (h : (limbs B m).length < (limbs B n).length) : m < n := by
  have h1 : m < B ^ (limbs B m).length := by
    have := val_lt (dig_limbs hB m); rwa [val_limbs hB] at this
  have h2 : B ^ ((limbs B n).length - 1) ≤ n := pow_le_of_limbs hB (by omega)
  have h3 : B ^ (limbs B m).length ≤ B ^ ((limbs B n).length - 1) := Nat.pow_le_pow_right (by omega) (by omega)
  omega

/-- Which of two numbers is the greater one. -/
def cmpN (m n : Nat) : Int := if m < n then -1 else if n < m then 1 else 0

theorem cmpN_self (m : Nat) : cmpN m m = 0 := by simp [cmpN]
theorem cmpN_lt {m n : Nat} (h : m < n) : cmpN m n = -1 := by simp [cmpN, h]
theorem cmpN_gt {m n : Nat} (h : n < m) : cmpN m n = 1 := by
  have : ¬ m < n := by omega
  simp [cmpN, h, this]

theorem val_split {B : Nat} (ds : List Nat) (k : Nat) (hk : k < ds.length) : val B ds = val B (ds.take k) + B ^ k * (ds[k]?.getD 0 + B * val B (ds.drop (k + 1))) := by
  have h1 : ds = ds.take k ++ (ds[k]?.getD 0 :: ds.drop (k + 1)) := by
    rw [List.getElem?_eq_getElem hk]
    conv => lhs; rw [← List.take_append_drop k ds, List.drop_eq_getElem_cons hk]
    rfl
  have h2 : (ds.take k).length = k := by rw [List.length_take]; omega
  conv => lhs; rw [h1]
  rw [val_append, val_cons, h2]

theorem Dig.take {B : Nat} {ds : List Nat} (h : Dig B ds) (k : Nat) : Dig B (ds.take k) := fun x hx => h x (List.mem_of_mem_take hx)
theorem Dig.drop {B : Nat} {ds : List Nat} (h : Dig B ds) (k : Nat) : Dig B (ds.drop k) := fun x hx => h x (List.mem_of_mem_drop hx)
theorem Dig.get {B : Nat} {ds : List Nat} (h : Dig B ds) {k : Nat} (hk : k < ds.length) : ds[k]?.getD 0 < B := by
  rw [List.getElem?_eq_getElem hk]; exact h _ (List.getElem_mem hk)
theorem Dig.getD {B : Nat} {ds : List Nat} (h : Dig B ds) (hB : 0 < B) (k : Nat) : ds[k]?.getD 0 < B := by
  rcases Nat.lt_or_ge k ds.length with hk | hk
  · exact h.get hk
  · rw [List.getElem?_eq_none hk]; exact hB

theorem val_lt_at {B : Nat} {a b : List Nat} (ha : Dig B a) (hl : a.length = b.length) (k : Nat) (hk : k < a.length) (hd : a.drop (k + 1) = b.drop (k + 1)) (h : a[k]?.getD 0 < b[k]?.getD 0) : val B a < val B b := by
  rw [val_split a k hk, val_split b k (by omega), ← hd]
  have h1 := val_lt (ha.take k)
  have h2 : (a.take k).length = k := by rw [List.length_take]; omega
  rw [h2] at h1
  have h3 : B ^ k * (a[k]?.getD 0 + B * val B (a.drop (k + 1))) + B ^ k ≤ B ^ k * (b[k]?.getD 0 + B * val B (a.drop (k + 1))) := by
    rw [← Nat.mul_succ]
    exact Nat.mul_le_mul_left _ (by omega)
  omega

theorem drop_eq_step {a b : List Nat} (hl : a.length = b.length) (k : Nat) (hk : k < a.length) (hd : a.drop (k + 1) = b.drop (k + 1)) (h : a[k]?.getD 0 = b[k]?.getD 0) : a.drop k = b.drop k := by
  rw [List.drop_eq_getElem_cons hk, List.drop_eq_getElem_cons (by omega : k < b.length), hd]
  rw [List.getElem?_eq_getElem hk, List.getElem?_eq_getElem (by omega : k < b.length)] at h
  exact congrArg (· :: _) h

theorem val_lt_of_length {B : Nat} (hB : 2 ≤ B) {a b : List Nat} (ha : Dig B a) (hb : Dig B b) (ta : Top a) (tb : Top b) (h : a.length < b.length) : val B a < val B b := by
  apply limbs_lt_length hB
  rw [limbs_val_top hB ha ta, limbs_val_top hB hb tb]
  exact h

theorem val_take_succ (B : Nat) (ds : List Nat) (k : Nat) : val B (ds.take (k + 1)) = val B (ds.take k) + B ^ k * ds[k]?.getD 0 := by
  rcases Nat.lt_or_ge k ds.length with h | h
  · rw [List.take_succ_eq_append_getElem h, val_append, List.length_take, Nat.min_eq_left (by omega), List.getElem?_eq_getElem h]
    simp [val]
  · rw [List.take_of_length_le (by omega), List.take_of_length_le h, List.getElem?_eq_none h]
    simp

theorem val_snoc (B : Nat) (ds : List Nat) (d : Nat) : val B (ds ++ [d]) = val B ds + B ^ ds.length * d := by
  rw [val_append]; simp [val]

/-- Digits that are as many as their number needs have no zero on top. -/
theorem top_of_pow {B : Nat} (hB : 2 ≤ B) {ds : List Nat} (h : Dig B ds) (hp : ds = [] ∨ B ^ (ds.length - 1) ≤ val B ds) : Top ds := by
  rcases hp with rfl | hp
  · rfl
  · have h1 := trimL_length ds
    rcases Nat.lt_or_ge (trimL ds).length ds.length with hlt | hge
    · have h2 := val_lt (trimL_dig h)
      rw [val_trimL] at h2
      have h3 : B ^ (trimL ds).length ≤ B ^ (ds.length - 1) := Nat.pow_le_pow_right (by omega) (by omega)
      omega
    · have hl : (trimL ds).length = ds.length := by omega
      clear h1 hge hp h hB
      unfold Top
      induction ds with
      | nil => rfl
      | cons d ds ih =>
        by_cases ht : trimL ds = []
        · rw [trimL_cons_zero ht] at hl ⊢
          by_cases hd : d = 0
          · rw [if_pos hd] at hl; simp at hl
          · rw [if_neg hd] at hl ⊢
            simp at hl
            rw [hl]
        · rw [trimL_cons_ne ht] at hl ⊢
          rw [ih (by simpa using hl)]

/-- One digit of a sum. -/
theorem sum_step {B : Nat} (acc : List Nat) (c s A : Nat) (h : val B acc + B ^ acc.length * c = A) : val B (acc ++ [(c + s) % B]) + B ^ (acc.length + 1) * ((c + s) / B) = A + B ^ acc.length * s := by
  rw [val_snoc, Nat.pow_succ, Nat.mul_assoc, Nat.add_assoc, ← Nat.mul_add, Nat.mod_add_div, Nat.mul_add]
  omega

theorem pow_le_val_top {B : Nat} (hB : 2 ≤ B) {n k : Nat} (h : (limbs B n).length = k) (hk : k ≠ 0) : B ^ (k - 1) ≤ n := pow_le_of_limbs hB (by omega)

/-- The rows' last word on a sum. -/
theorem sum_done {B : Nat} (hB : 2 ≤ B) {m n : Nat} {acc : List Nat} (hd : Dig B acc) (hv : val B acc = m + n)
    (hl : acc.length ≤ max (limbs B m).length (limbs B n).length ∨ B ^ (acc.length - 1) ≤ val B acc) (hle : max (limbs B m).length (limbs B n).length ≤ acc.length) : acc = limbs B (m + n) := by
  rw [← hv]
  refine (limbs_val_top hB hd (top_of_pow hB hd ?_)).symm
  by_cases h0 : acc.length = 0
  · exact Or.inl (List.eq_nil_of_length_eq_zero h0)
  · right
    rcases hl with hl | hl
    · have hm : acc.length = max (limbs B m).length (limbs B n).length := by omega
      rcases Nat.le_total (limbs B m).length (limbs B n).length with h | h
      · have := pow_le_val_top hB (n := n) (k := acc.length) (by omega) h0
        omega
      · have := pow_le_val_top hB (n := m) (k := acc.length) (by omega) h0
        omega
    · exact hl

end Go.Proofs.YtjmmnpfedhkjbaaDoor
namespace Go.Proofs.YtjmmnpfedhkjbaaDoor

/-- A digit's sign in a text. -/
def chr (d : Nat) : UInt8 := UInt8.ofNat (48 + d)

/-- The text of decimal digits, the lowest one first. -/
def txt (ds : List Nat) : List UInt8 := (ds.map chr).reverse

/-- The decimal text of a number. -/
def decN (n : Nat) : List UInt8 := if n = 0 then [48] else txt (limbs 10 n)

/-- The decimal text of a whole number. -/
def decZ (z : Int) : List UInt8 := if z < 0 then 45 :: decN z.natAbs else decN z.natAbs

theorem txt_snoc (ds : List Nat) (d : Nat) : txt (ds ++ [d]) = chr d :: txt ds := by simp [txt]
theorem txt_length (ds : List Nat) : (txt ds).length = ds.length := by simp [txt]

/-- What the loops of a text know: i digits of base 10000 are written, and k places of the next. -/
def TextAt (ds : List Nat) (i k n : Nat) (D : List Nat) : Prop :=
  D.length = 4 * i + k ∧ Dig 10 D ∧ k ≤ 4 ∧ n = ds[i]?.getD 0 / 10 ^ k ∧ val 10 D + 10 ^ (4 * i + k) * n = val 10000 (ds.take i) + 10000 ^ i * ds[i]?.getD 0 ∧ (i + 1 < ds.length ∨ k = 0 ∨ 10 ^ (k - 1) ≤ ds[i]?.getD 0)

theorem pow4 (i : Nat) : (10 : Nat) ^ (4 * i) = 10000 ^ i := by rw [Nat.pow_mul]

theorem TextAt.start {ds : List Nat} {i : Nat} {D : List Nat} (hl : D.length = 4 * i) (hd : Dig 10 D) (hv : val 10 D = val 10000 (ds.take i)) : TextAt ds i 0 (ds[i]?.getD 0) D := by
  refine ⟨by omega, hd, by omega, by simp, ?_, Or.inr (Or.inl rfl)⟩
  rw [Nat.add_zero, pow4, hv]

theorem TextAt.step {ds : List Nat} {i k n : Nat} {D : List Nat} (h : TextAt ds i k n D) (hk : k < 4) (hgo : 0 < n ∨ i + 1 < ds.length) : TextAt ds i (k + 1) (n / 10) (D ++ [n % 10]) := by
  obtain ⟨h1, h2, h3, h4, h5, h6⟩ := h
  refine ⟨by simp; omega, h2.append (Dig.cons (Nat.mod_lt _ (by omega)) (Dig.nil _)), by omega, ?_, ?_, ?_⟩
  · rw [h4, Nat.div_div_eq_div_mul, ← Nat.pow_succ]
  · rw [val_snoc, h1, ← h5, Nat.add_assoc (4 * i) k 1 |>.symm, Nat.pow_succ, Nat.mul_assoc, Nat.add_assoc, ← Nat.mul_add, Nat.mod_add_div]
  · rcases hgo with h | h
    · right; right
      rw [Nat.add_sub_cancel]
      rw [h4] at h
      have := Nat.div_pos_iff.1 h
      exact this.2
    · exact Or.inl h

/-- A digit of base 10000 is written whole. -/
theorem TextAt.next {ds : List Nat} {i n : Nat} {D : List Nat} (h : TextAt ds i 4 n D) (hd : Dig 10000 ds) : D.length = 4 * (i + 1) ∧ Dig 10 D ∧ val 10 D = val 10000 (ds.take (i + 1)) := by
  obtain ⟨h1, h2, h3, h4, h5, h6⟩ := h
  have h7 := hd.getD (by omega) i
  have h0 : n = 0 := by rw [h4]; exact Nat.div_eq_of_lt (by simpa using h7)
  subst h0
  refine ⟨by omega, h2, ?_⟩
  rw [val_take_succ, ← h5]
  simp

theorem TextAt.last {ds : List Nat} {i k : Nat} {D : List Nat} (h : TextAt ds i k 0 D) (hi : i + 1 = ds.length) : D.length ≤ 4 * ds.length ∧ Dig 10 D ∧ val 10 D = val 10000 ds ∧ (val 10000 ds ≠ 0 → Top ds → D = limbs 10 (val 10000 ds)) := by
  obtain ⟨h1, h2, h3, h4, h5, h6⟩ := h
  have e : val 10 D = val 10000 ds := by
    have := val_take_succ 10000 ds i
    rw [List.take_of_length_le (by omega)] at this
    rw [this, ← h5]; simp
  refine ⟨by omega, h2, e, fun hn ht => ?_⟩
  rw [← e]
  refine (limbs_val_top (by omega) h2 (top_of_pow (by omega) h2 ?_)).symm
  have hne : ds[i]?.getD 0 ≠ 0 := by
    intro h0
    have h8 : ds = ds.take i ++ [0] := by
      conv => lhs; rw [← List.take_append_drop i ds, List.drop_eq_getElem_cons (by omega : i < ds.length)]
      rw [List.drop_eq_nil_of_le (by omega)]
      rw [List.getElem?_eq_getElem (by omega)] at h0
      have h0' : ds[i] = 0 := h0
      rw [h0']
    have h9 : (trimL ds).length ≤ i := by
      rw [h8, trimL_snoc_zero]
      have := trimL_length (ds.take i)
      rw [List.length_take] at this
      omega
    rw [ht] at h9
    omega
  right
  rw [h1, e]
  have hk0 : k ≠ 0 := by
    intro hk
    subst hk
    simp at h4
    omega
  rcases h6 with h6 | h6 | h6
  · omega
  · omega
  · have := val_take_succ 10000 ds i
    rw [List.take_of_length_le (by omega)] at this
    rw [this]
    have h10 : (10 : Nat) ^ (4 * i + k - 1) = 10000 ^ i * 10 ^ (k - 1) := by
      rw [← pow4, ← Nat.pow_add]; congr 1; omega
    rw [h10]
    have := Nat.mul_le_mul_left (10000 ^ i) h6
    omega

theorem decN_pos {n : Nat} (h : n ≠ 0) : decN n = txt (limbs 10 n) := by simp [decN, h]

end Go.Proofs.YtjmmnpfedhkjbaaDoor
namespace Go.Proofs.YtjmmnpfedhkjbaaDoor

/-- A decimal digit's sign. -/
def isD (c : UInt8) : Bool := decide (48 ≤ c.toNat) && decide (c.toNat ≤ 57)

/-- The digits that a text tells, the lowest one first. -/
def dgs (l : List UInt8) : List Nat := (l.map (fun c => c.toNat - 48)).reverse

/-- The number that digits tell. -/
def num (l : List UInt8) : Nat := val 10 (dgs l)

/-- The text behind a minus sign. -/
def tailOf (l : List UInt8) : List UInt8 := if l.head? = some 45 then l.tail else l

/-- The texts that are numbers. -/
def good (l : List UInt8) : Bool := decide (l.length ≤ 2000) && !(tailOf l).isEmpty && (!decide ((tailOf l).head? = some 48) || decide (l = [48])) && (tailOf l).all isD

/-- The number of such a text. -/
def valZ (l : List UInt8) : Int := if l.head? = some 45 then -(num (tailOf l) : Int) else num (tailOf l)

theorem isD_bounds {c : UInt8} (h : isD c = true) : 48 ≤ c.toNat ∧ c.toNat ≤ 57 := by simpa [isD] using h

theorem chr_toNat {d : Nat} (h : d < 10) : (chr d).toNat = 48 + d := by
  unfold chr
  rw [UInt8.toNat_ofNat']
  omega

theorem chr_of {c : UInt8} (h : isD c = true) : chr (c.toNat - 48) = c := by
  have hb := isD_bounds h
  apply UInt8.toNat_inj.1
  rw [chr_toNat (by omega)]
  omega

theorem dgs_snoc (l : List UInt8) (c : UInt8) : dgs (l ++ [c]) = (c.toNat - 48) :: dgs l := by simp [dgs]
theorem num_snoc (l : List UInt8) (c : UInt8) : num (l ++ [c]) = (c.toNat - 48) + 10 * num l := by rw [num, dgs_snoc, val_cons]; rfl
theorem dgs_append (a b : List UInt8) : dgs (a ++ b) = dgs b ++ dgs a := by simp [dgs]
theorem dgs_length (l : List UInt8) : (dgs l).length = l.length := by simp [dgs]
theorem num_append (a b : List UInt8) : num (a ++ b) = num b + 10 ^ b.length * num a := by rw [num, dgs_append, val_append, dgs_length]; rfl

theorem dig_dgs {l : List UInt8} (h : l.all isD = true) : Dig 10 (dgs l) := by
  intro d hd
  simp only [dgs, List.mem_reverse, List.mem_map] at hd
  obtain ⟨c, hc, rfl⟩ := hd
  have := isD_bounds (List.all_eq_true.1 h c hc)
  omega

theorem txt_dgs {l : List UInt8} (h : l.all isD = true) : txt (dgs l) = l := by
  simp only [txt, dgs, List.map_reverse, List.reverse_reverse, List.map_map]
  conv => rhs; rw [← List.map_id l]
  apply List.map_congr_left
  intro c hc
  exact chr_of (List.all_eq_true.1 h c hc)

theorem top_dgs {c : UInt8} {l : List UInt8} (hc : isD c = true) (h0 : c ≠ 48) : Top (dgs (c :: l)) := by
  have e : dgs (c :: l) = dgs l ++ [c.toNat - 48] := by simp [dgs]
  rw [e]
  refine trimL_snoc_ne _ ?_
  have := isD_bounds hc
  intro h
  apply h0
  apply UInt8.toNat_inj.1
  show c.toNat = 48
  omega

theorem decN_num {c : UInt8} {l : List UInt8} (h : (c :: l).all isD = true) (h0 : c ≠ 48) : decN (num (c :: l)) = c :: l ∧ num (c :: l) ≠ 0 := by
  have hc : isD c = true := List.all_eq_true.1 h c (List.mem_cons_self ..)
  have e := limbs_val_top (B := 10) (by omega) (dig_dgs h) (top_dgs hc h0)
  have hne : num (c :: l) ≠ 0 := by
    intro hz
    rw [show val 10 (dgs (c :: l)) = 0 from hz, limbs_zero] at e
    have := congrArg List.length e
    rw [dgs_length] at this
    simp at this
  refine ⟨?_, hne⟩
  rw [decN_pos hne, num, e, txt_dgs h]

theorem good_dec {l : List UInt8} (h : good l = true) : decZ (valZ l) = l := by
  simp only [good, Bool.and_eq_true, decide_eq_true_eq, Bool.or_eq_true, Bool.not_eq_true', decide_eq_false_iff_not] at h
  obtain ⟨⟨⟨_, hne⟩, hz⟩, hd⟩ := h
  cases ht : tailOf l with
  | nil => rw [ht] at hne; simp at hne
  | cons c t =>
    rw [ht] at hz hd
    by_cases h0 : c = 48
    · have hl : l = [48] := by
        rcases hz with h | h
        · exact absurd (by rw [h0]; rfl) h
        · exact h
      subst hl
      simp [valZ, tailOf, decZ, decN, num, dgs, val]
    · obtain ⟨h1, h2⟩ := decN_num hd h0
      by_cases hm : l.head? = some 45
      · have hl : l = 45 :: c :: t := by
          cases l with
          | nil => simp at hm
          | cons x l' =>
            simp at hm
            subst hm
            simp [tailOf] at ht
            rw [ht]
        rw [valZ, if_pos hm, ht, decZ, if_pos (by omega), Int.natAbs_neg, Int.natAbs_natCast, h1, hl]
      · have hl : l = c :: t := by rw [← ht, tailOf, if_neg hm]
        rw [valZ, if_neg hm, ht, decZ, if_neg (by omega), Int.natAbs_natCast, h1, hl]

theorem all_txt {ds : List Nat} (h : Dig 10 ds) : (txt ds).all isD = true := by
  rw [List.all_eq_true]
  intro c hc
  simp only [txt, List.mem_reverse, List.mem_map] at hc
  obtain ⟨d, hd, rfl⟩ := hc
  have := h d hd
  simp [isD, chr_toNat this]
  omega

theorem num_txt {ds : List Nat} (h : Dig 10 ds) : num (txt ds) = val 10 ds := by
  have e : dgs (txt ds) = ds := by
    simp only [txt, dgs, List.map_reverse, List.reverse_reverse, List.map_map]
    conv => rhs; rw [← List.map_id ds]
    apply List.map_congr_left
    intro d hd
    have := h d hd
    simp [chr_toNat this]
  rw [num, e]

theorem decN_head {n : Nat} (hn : n ≠ 0) : ∃ c t, decN n = c :: t ∧ c ≠ 48 ∧ c ≠ 45 ∧ (c :: t).all isD = true ∧ num (c :: t) = n := by
  have hd := dig_limbs (B := 10) (by omega) n
  have ht := top_limbs (B := 10) (by omega) n
  have hv := val_limbs (B := 10) (by omega) n
  have hne : limbs 10 n ≠ [] := by rw [Ne, limbs_eq_nil (by omega)]; exact hn
  have ha := all_txt hd
  have hm := num_txt hd
  have e : decN n = txt (limbs 10 n) := decN_pos hn
  rw [hv] at hm
  obtain ⟨ds, d, hds⟩ : ∃ ds d, limbs 10 n = ds ++ [d] := ⟨_, _, (List.dropLast_concat_getLast hne).symm⟩
  rw [hds] at ha hm e ht hd
  rw [txt_snoc] at ha hm e
  have hd0 : d ≠ 0 := by
    intro h0
    subst h0
    have h1 : (trimL (ds ++ [0])).length ≤ ds.length := by rw [trimL_snoc_zero]; exact trimL_length ds
    rw [ht] at h1
    simp at h1
    omega
  have hd10 : d < 10 := hd d (by simp)
  have hc := chr_toNat hd10
  refine ⟨chr d, txt ds, e, ?_, ?_, ha, hm⟩
  · intro h
    rw [h] at hc
    have : (48 : UInt8).toNat = 48 := rfl
    omega
  · intro h
    rw [h] at hc
    have : (45 : UInt8).toNat = 45 := rfl
    omega

theorem dec_good {z : Int} (h : (decZ z).length ≤ 2000) : good (decZ z) = true ∧ valZ (decZ z) = z := by
  by_cases hz : z.natAbs = 0
  · have : z = 0 := by omega
    subst this
    simp [decZ, decN, good, valZ, tailOf, num, dgs, val, isD]
  · obtain ⟨c, t, e, h48, h45, ha, hm⟩ := decN_head hz
    by_cases hn : z < 0
    · have e2 : decZ z = 45 :: c :: t := by rw [decZ, if_pos hn, e]
      rw [e2] at h ⊢
      refine ⟨?_, ?_⟩
      · simp only [good, tailOf, List.head?_cons, if_pos, List.tail_cons, ha, List.isEmpty_cons, Bool.and_true, Bool.and_eq_true, decide_eq_true_eq, Bool.not_false, Bool.or_eq_true, Bool.not_eq_true', decide_eq_false_iff_not, Option.some.injEq]
        exact ⟨h, Or.inl h48⟩
      · simp only [valZ, tailOf, List.head?_cons, if_pos, List.tail_cons, hm]
        omega
    · have e2 : decZ z = c :: t := by rw [decZ, if_neg hn, e]
      rw [e2] at h ⊢
      have hh : ¬ ((c :: t).head? = some 45) := by simp [h45]
      refine ⟨?_, ?_⟩
      · have ht : tailOf (c :: t) = c :: t := by rw [tailOf, if_neg hh]
        rw [good, ht]
        simp only [ha, List.isEmpty_cons, Bool.and_true, Bool.and_eq_true, decide_eq_true_eq, Bool.not_false, Bool.or_eq_true, Bool.not_eq_true', decide_eq_false_iff_not, List.head?_cons, Option.some.injEq]
        exact ⟨h, Or.inl h48⟩
      · rw [valZ, if_neg hh, tailOf, if_neg hh, hm]
        omega

theorem limbs10_length_bound {B n : Nat} (hB : 10 ≤ B) : (limbs B n).length ≤ (limbs 10 n).length := by
  refine limbs_length_le (by omega) ?_
  have h := val_lt (dig_limbs (B := 10) (by omega) n)
  rw [val_limbs (by omega)] at h
  exact Nat.lt_of_lt_of_le h (Nat.pow_le_pow_left hB _)

theorem good_size {l : List UInt8} (h : good l = true) {B : Nat} (hB : 10 ≤ B) : (limbs B (valZ l).natAbs).length ≤ 2000 := by
  have e := good_dec h
  have hl : l.length ≤ 2000 := by
    simp only [good, Bool.and_eq_true, decide_eq_true_eq] at h
    exact h.1.1.1
  rw [← e] at hl
  refine Nat.le_trans (limbs10_length_bound hB) ?_
  by_cases hz : (valZ l).natAbs = 0
  · rw [hz, limbs_zero]; simp
  · have h3 : (decN (valZ l).natAbs).length = (limbs 10 (valZ l).natAbs).length := by rw [decN_pos hz, txt_length]
    unfold decZ at hl
    split at hl
    · simp at hl; omega
    · omega

end Go.Proofs.YtjmmnpfedhkjbaaDoor
namespace Go.Proofs.YtjmmnpfedhkjbaaDoor

/-- What a guessed quotient of one half word knows: u is the dividend's upper part, u1 its next half word, the divisor is d = d1 * 2^32 + d0. -/
def GuessAt (u u1 d1 d0 q r : Nat) : Prop :=
  q * d1 + r = u ∧ (u * 4294967296 + u1) / (d1 * 4294967296 + d0) ≤ q ∧ q ≤ 4294967297 ∧ r < 4294967296

theorem guess_start {u u1 d1 d0 : Nat} (h1 : 2147483648 ≤ d1) (h1' : d1 < 4294967296) (h0 : d0 < 4294967296) (hu1 : u1 < 4294967296) (hu : u < d1 * 4294967296 + d0) :
    GuessAt u u1 d1 d0 (u / d1) (u % d1) := by
  have hm := Nat.div_add_mod u d1
  have hr : u % d1 < d1 := Nat.mod_lt _ (by omega)
  have hc : d1 * (u / d1) = u / d1 * d1 := Nat.mul_comm _ _
  refine ⟨by omega, ?_, ?_, by omega⟩
  · apply Nat.le_of_lt_succ
    rw [Nat.div_lt_iff_lt_mul (by omega)]
    have h3 : (u / d1 + 1) * (d1 * 4294967296 + d0) = u / d1 * d1 * 4294967296 + d1 * 4294967296 + (u / d1 + 1) * d0 := by
      rw [Nat.mul_add, ← Nat.mul_assoc, Nat.add_mul (u / d1) 1 d1, Nat.one_mul, Nat.add_mul (u / d1 * d1) d1]
    rw [Nat.succ_eq_add_one, h3]
    generalize u / d1 * d1 = p at *
    generalize (u / d1 + 1) * d0 = z
    omega
  · apply Nat.le_of_lt_succ
    rw [Nat.div_lt_iff_lt_mul (by omega)]
    omega

theorem guess_exit {u u1 d1 d0 q r : Nat} (h : GuessAt u u1 d1 d0 q r) (hd : 0 < d1) (hc : q * d0 ≤ 4294967296 * r + u1) : q = (u * 4294967296 + u1) / (d1 * 4294967296 + d0) := by
  obtain ⟨h1, h2, _, _⟩ := h
  apply Nat.le_antisymm _ h2
  rw [Nat.le_div_iff_mul_le (by omega), Nat.mul_add, ← Nat.mul_assoc]
  generalize q * d1 = p at *
  generalize q * d0 = z at *
  omega

theorem guess_step {u u1 d1 d0 q r : Nat} (h : GuessAt u u1 d1 d0 q r) (hd : 2147483648 ≤ d1) (hu1 : u1 < 4294967296) (hu : u < d1 * 4294967296 + d0) (hc : 4294967296 ≤ q ∨ 4294967296 * r + u1 < q * d0) :
    1 ≤ q ∧ (q - 1) * d1 + (r + d1) = u ∧ (u * 4294967296 + u1) / (d1 * 4294967296 + d0) ≤ q - 1 ∧ q - 1 ≤ 4294967296 := by
  obtain ⟨h1, h2, h3, h4⟩ := h
  have hq : 1 ≤ q := by
    rcases hc with hc | hc
    · omega
    · rcases Nat.eq_zero_or_pos q with h0 | h0
      · rw [h0] at hc; omega
      · exact h0
  have e : (q - 1) * d1 + d1 = q * d1 := by
    conv => rhs; rw [show q = q - 1 + 1 from by omega, Nat.add_mul, Nat.one_mul]
  refine ⟨hq, by omega, ?_, by omega⟩
  apply Nat.le_of_lt_succ
  rw [Nat.succ_eq_add_one, Nat.sub_add_cancel hq, Nat.div_lt_iff_lt_mul (by omega)]
  rcases hc with hc | hc
  · have h5 : 4294967296 * (d1 * 4294967296 + d0) ≤ q * (d1 * 4294967296 + d0) := Nat.mul_le_mul_right _ hc
    omega
  · rw [Nat.mul_add, ← Nat.mul_assoc]
    generalize q * d1 = p at *
    generalize q * d0 = z at *
    omega

theorem guess_break {u u1 d1 d0 q r : Nat} (h1 : q * d1 + r = u) (h2 : (u * 4294967296 + u1) / (d1 * 4294967296 + d0) ≤ q) (h3 : q ≤ 4294967296) (h0 : d0 < 4294967296) (hd : 0 < d1) (hr : 4294967296 ≤ r) : q = (u * 4294967296 + u1) / (d1 * 4294967296 + d0) := by
  apply Nat.le_antisymm _ h2
  rw [Nat.le_div_iff_mul_le (by omega), Nat.mul_add, ← Nat.mul_assoc]
  have h5 : q * d0 ≤ 4294967296 * d0 := Nat.mul_le_mul_right _ h3
  generalize q * d1 = p at *
  generalize q * d0 = z at *
  omega

/-- Both half words together. -/
theorem halves {t k un0 d : Nat} (h0 : 0 < d) : t / d * k + (t % d * k + un0) / d = (t * k + un0) / d ∧ (t % d * k + un0) % d = (t * k + un0) % d := by
  have hm := Nat.div_add_mod t d
  have e : t * k + un0 = d * (t / d * k) + (t % d * k + un0) := by
    conv => lhs; rw [← hm, Nat.add_mul, Nat.mul_assoc]
    omega
  rw [e, Nat.mul_add_div h0, Nat.mul_add_mod]
  exact ⟨rfl, rfl⟩

/-- What is shifted gives the same quotient. -/
theorem shift_div {a y s : Nat} : (a * 2 ^ s) / (y * 2 ^ s) = a / y ∧ (a * 2 ^ s) % (y * 2 ^ s) = a % y * 2 ^ s :=
  ⟨Nat.mul_div_mul_right _ _ (Nat.two_pow_pos s), Nat.mul_mod_mul_right _ _ _⟩

end Go.Proofs.YtjmmnpfedhkjbaaDoor
