import Derived.Test.YtjmmnpfedhkjbaaDoorK01
import Derived.Lib.ItoaNum
namespace Go.Proofs.YtjmmnpfedhkjbaaDoor

/-- A chunk: as many as nineteen digits. -/
def C19 : Nat := 10000000000000000000

theorem C19_pow : C19 = 10 ^ 19 := by decide

theorem chr_isD {d : Nat} (h : d < 10) : isD (chr d) = true := by
  have := chr_toNat h
  simp [isD]; omega

theorem decDigits_isD (u : Nat) : (Lib.decDigits u).all isD = true ∧ num (Lib.decDigits u) = u := by
  induction u using Nat.strongRecOn with
  | _ u ih =>
    rw [Lib.decDigits]
    by_cases h : u < 10
    · rw [dif_pos h]
      refine ⟨by simpa [chr] using chr_isD h, ?_⟩
      simp [num, dgs, val]
      omega
    · rw [dif_neg h]
      obtain ⟨h1, h2⟩ := ih (u / 10) (by omega)
      have hm : u % 10 < 10 := Nat.mod_lt _ (by omega)
      refine ⟨by rw [List.all_append, h1]; simpa [chr] using chr_isD hm, ?_⟩
      have := chr_toNat hm
      rw [num_snoc, h2, show UInt8.ofNat (48 + u % 10) = chr (u % 10) from rfl, this]
      omega

theorem decDigits_head {u : Nat} (h0 : u ≠ 0) : ∃ c t, Lib.decDigits u = c :: t ∧ c ≠ 48 := by
  induction u using Nat.strongRecOn with
  | _ u ih =>
    rw [Lib.decDigits]
    by_cases h : u < 10
    · rw [dif_pos h]
      refine ⟨_, _, rfl, fun e => ?_⟩
      have := chr_toNat h
      rw [show UInt8.ofNat (48 + u) = chr u from rfl] at e
      rw [e] at this
      simp at this
      omega
    · rw [dif_neg h]
      obtain ⟨c, t, e, hc⟩ := ih (u / 10) (by omega) (by omega)
      exact ⟨c, t ++ [UInt8.ofNat (48 + u % 10)], by rw [e]; rfl, hc⟩

theorem decDigits_decN (u : Nat) : Lib.decDigits u = decN u := by
  by_cases h0 : u = 0
  · subst h0; rw [Lib.decDigits, dif_pos (by omega)]; rfl
  · obtain ⟨c, t, e, hc⟩ := decDigits_head h0
    obtain ⟨h1, h2⟩ := decDigits_isD u
    rw [e] at h1 h2 ⊢
    rw [← h2]
    exact (decN_num h1 hc).1.symm

/-- The digits of a chunk that is not the highest one. -/
def pad19 (c : Nat) : List UInt8 := List.replicate (19 - (Lib.decDigits c).length) 48 ++ Lib.decDigits c

theorem num_zeros (n : Nat) (l : List UInt8) : num (List.replicate n 48 ++ l) = num l := by
  have h : num (List.replicate n (48 : UInt8)) = 0 := by
    induction n with
    | zero => rfl
    | succ n ih => rw [List.replicate_succ', num_snoc, ih]; rfl
  rw [num_append, h]; omega

theorem decDigits_le19 {c : Nat} (h : c < C19) : (Lib.decDigits c).length ≤ 19 := by
  rw [Lib.decDigits_length]
  rcases Nat.lt_or_ge (Lib.nDigits c) 20 with h' | h'
  · omega
  · exfalso
    by_cases hc : c < 10
    · rw [Lib.nDigits_small hc] at h'; omega
    · have key : ∀ (k u : Nat), u < 10 ^ (k + 1) → Lib.nDigits u ≤ k + 1 := by
        intro k
        induction k with
        | zero => intro u hu; rw [Lib.nDigits_small (by simpa using hu)]; omega
        | succ k ih =>
          intro u hu
          by_cases h10 : u < 10
          · rw [Lib.nDigits_small h10]; omega
          · rw [Lib.nDigits_big h10]
            have := ih (u / 10) (by rw [Nat.div_lt_iff_lt_mul (by omega), ← Nat.pow_succ]; exact hu)
            omega
      have := key 18 c (by rw [C19_pow] at h; exact h)
      omega

theorem pad19_spec {c : Nat} (h : c < C19) : (pad19 c).length = 19 ∧ (pad19 c).all isD = true ∧ num (pad19 c) = c := by
  have hl := decDigits_le19 h
  obtain ⟨h1, h2⟩ := decDigits_isD c
  refine ⟨?_, ?_, ?_⟩
  · rw [pad19, List.length_append, List.length_replicate]; omega
  · rw [pad19, List.all_append, h1, Bool.and_true, List.all_eq_true]
    intro x hx
    rw [(List.mem_replicate.1 hx).2]; rfl
  · rw [pad19, num_zeros, h2]

/-- The text of chunks, the lowest one first, the highest one not padded. -/
def chunkText : List Nat → List UInt8
  | [] => []
  | [c] => Lib.decDigits c
  | c :: cs => chunkText cs ++ pad19 c

theorem chunkText_spec : ∀ (cs : List Nat), cs ≠ [] → Dig C19 cs → (chunkText cs).all isD = true ∧ num (chunkText cs) = val C19 cs
  | [c], _, _ => by
    obtain ⟨h1, h2⟩ := decDigits_isD c
    exact ⟨h1, by rw [chunkText, h2]; simp [val]⟩
  | c :: d :: cs, _, hd => by
    have hc : c < C19 := hd c List.mem_cons_self
    obtain ⟨i1, i2⟩ := chunkText_spec (d :: cs) (by simp) (fun x hx => hd x (List.mem_cons_of_mem _ hx))
    obtain ⟨p1, p2, p3⟩ := pad19_spec hc
    have e : chunkText (c :: d :: cs) = chunkText (d :: cs) ++ pad19 c := by rw [chunkText]; simp
    refine ⟨by rw [e, List.all_append, i1, p2]; rfl, ?_⟩
    rw [e, num_append, p1, p3, i2, val_cons C19 c, ← C19_pow]

theorem chunkText_head : ∀ (cs : List Nat), cs ≠ [] → Top cs → (∃ c t, chunkText cs = c :: t ∧ c ≠ 48)
  | [c], _, ht => decDigits_head (by
      intro e; subst e
      simp [Top, trimL] at ht)
  | c :: d :: cs, _, ht => by
    have ht' : Top (d :: cs) := by
      unfold Top at ht ⊢
      rw [trimL] at ht
      generalize trimL (d :: cs) = l at ht ⊢
      cases l with
      | nil => by_cases h : c = 0 <;> simp [h] at ht
      | cons e es => exact (List.cons.inj ht).2
    obtain ⟨x, t, e, hx⟩ := chunkText_head (d :: cs) (by simp) ht'
    have e2 : chunkText (c :: d :: cs) = chunkText (d :: cs) ++ pad19 c := by rw [chunkText]; simp
    exact ⟨x, t ++ pad19 c, by rw [e2, e]; rfl, hx⟩

theorem chunkText_decN {cs : List Nat} (h0 : cs ≠ []) (hd : Dig C19 cs) (ht : Top cs) : chunkText cs = decN (val C19 cs) := by
  obtain ⟨h1, h2⟩ := chunkText_spec cs h0 hd
  obtain ⟨c, t, e, hc⟩ := chunkText_head cs h0 ht
  rw [e] at h1 h2 ⊢
  rw [← h2]
  exact (decN_num h1 hc).1.symm
end Go.Proofs.YtjmmnpfedhkjbaaDoor
