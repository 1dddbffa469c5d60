import Derived.Test.YtjmmnpfedhkjbaaDoorK02
import Derived.Test.YtjmmnpfedhkjbaaDoorK10
namespace Go.Proofs.YtjmmnpfedhkjbaaDoor
open Go.RowKit Go.Shelf

theorem take_trimL : ∀ (ds : List Nat), ds.take (trimL ds).length = trimL ds
  | [] => rfl
  | d :: ds => by
    have ih := take_trimL ds
    rw [trimL]
    generalize trimL ds = l at ih ⊢
    cases l with
    | nil => by_cases h : d = 0 <;> simp [h]
    | cons e es => simpa using ih

theorem C19_two : 2 ≤ C19 := by unfold C19; omega
theorem C19_lt : C19 < B64 := by unfold C19 B64; omega

/-- What splitByWord by a chunk leaves, in numbers. -/
theorem SpWAt.chunk {zs : List Nat} {l n rest : Nat} {q : List Nat} (h : SpWAt zs l C19 l rest q) (hz : zs.take l = limbs B64 n) :
    rest = n % C19 ∧ trimL q = limbs B64 (n / C19) := by
  obtain ⟨h1, h2, h3, h4⟩ := h
  have hB : 2 ≤ B64 := by unfold B64; omega
  rw [Nat.sub_self, List.drop_zero, hz, val_limbs hB] at h4
  have hv : val B64 q = n / C19 := by
    rw [← h4, Nat.add_comm, Nat.add_mul_div_right _ _ (by have := C19_two; omega), Nat.div_eq_of_lt h3, Nat.zero_add]
  refine ⟨?_, ?_⟩
  · rw [← h4, Nat.add_comm, Nat.add_mul_mod_self_right, Nat.mod_eq_of_lt h3]
  · rw [← limbs_val hB h2, hv]

/-- The chunks that are found, and what is left. -/
def ChkAt (n0 : Nat) (cs : List Nat) (n : Nat) : Prop := cs ++ limbs C19 n = limbs C19 n0

theorem ChkAt.start (n0 : Nat) : ChkAt n0 [] n0 := rfl
theorem ChkAt.step {n0 : Nat} {cs : List Nat} {n : Nat} (h : ChkAt n0 cs n) (hn : n ≠ 0) : ChkAt n0 (cs ++ [n % C19]) (n / C19) := by
  unfold ChkAt at h ⊢
  rw [limbs_pos C19_two hn] at h
  rw [List.append_assoc]
  exact h
theorem ChkAt.done {n0 : Nat} {cs : List Nat} (h : ChkAt n0 cs 0) : cs = limbs C19 n0 := by
  unfold ChkAt at h
  rw [limbs_zero, List.append_nil] at h
  exact h
theorem ChkAt.length {n0 : Nat} {cs : List Nat} {n : Nat} (h : ChkAt n0 cs n) : cs.length ≤ (limbs C19 n0).length := by
  rw [← h, List.length_append]; omega

theorem chunks_length {n len : Nat} (h : (limbs B64 n).length ≤ len) : (limbs C19 n).length ≤ 2 * len := by
  refine limbs_length_le C19_two ?_
  have hB : 2 ≤ B64 := by unfold B64; omega
  have h1 : n < B64 ^ (limbs B64 n).length := by
    have := val_lt (dig_limbs hB n)
    rwa [val_limbs hB] at this
  have h2 : B64 ^ (limbs B64 n).length ≤ B64 ^ len := Nat.pow_le_pow_right (by omega) h
  have h3 : B64 ^ len ≤ (C19 ^ 2) ^ len := Nat.pow_le_pow_left (by unfold B64 C19; decide) len
  rw [← Nat.pow_mul] at h3
  omega

/-- The text of the chunks of a number. -/
theorem chunks_text {n : Nat} (h : n ≠ 0) : chunkText (limbs C19 n) = decN n := by
  have hv := val_limbs C19_two n
  rw [chunkText_decN ?_ (dig_limbs C19_two n) (top_limbs C19_two n), hv]
  intro e
  rw [e] at hv
  exact h hv.symm
end Go.Proofs.YtjmmnpfedhkjbaaDoor
