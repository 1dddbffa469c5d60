import Derived.Test.YtahpgnkhophgpaaDoorRef7
namespace Go.Proofs.YtahpgnkhophgpaaDoor
open Go.RowKit Go.Shelf

theorem Box2.kept {W W' : World} {row : Option Nat} {B : Nat} {t : TypeId} {x y : Value} (h : Box2 W B t x y) (hg : W.grownBy W' row) (hne : some B ≠ row) : Box2 W' B t x y := (hg.block B h.lt hne).trans h

/-- What the loop of an int's digits knows. -/
def OfAt (N c : Nat) (acc : List Nat) : Prop := Dig 10000 acc ∧ val 10000 acc + 10000 ^ acc.length * c = N ∧ acc.length ≤ 100 ∧ (acc = [] ∨ c ≠ 0 ∨ 10000 ^ (acc.length - 1) ≤ val 10000 acc)

theorem OfAt.step {N c : Nat} {acc : List Nat} (h : OfAt N c acc) (hN : N ≤ 9223372036854775808) (hc : c ≠ 0) : OfAt N (c / 10000) (acc ++ [c % 10000]) := by
  obtain ⟨h1, h2, h3, h4⟩ := h
  refine ⟨h1.append (Dig.cons (Nat.mod_lt _ (by omega)) (Dig.nil _)), ?_, ?_, ?_⟩
  · rw [val_snoc, List.length_append, List.length_singleton, Nat.pow_succ, Nat.mul_assoc, Nat.add_assoc, ← Nat.mul_add, Nat.mod_add_div]
    exact h2
  · rcases Nat.lt_or_ge acc.length 20 with h | h
    · simp; omega
    · have g1 : (10000 : Nat) ^ 20 ≤ 10000 ^ acc.length := Nat.pow_le_pow_right (by omega) h
      have g2 : 10000 ^ acc.length * 1 ≤ 10000 ^ acc.length * c := Nat.mul_le_mul_left _ (by omega)
      have g3 : (10000 : Nat) ^ 20 = 100000000000000000000000000000000000000000000000000000000000000000000000000000000 := by decide
      omega
  · right
    by_cases g : c / 10000 = 0
    · right
      rw [List.length_append, List.length_singleton, Nat.add_sub_cancel, val_snoc]
      have : c % 10000 ≠ 0 := by omega
      have := Nat.mul_le_mul_left (10000 ^ acc.length) (show 1 ≤ c % 10000 by omega)
      omega
    · exact Or.inl g

theorem OfAt.done {N : Nat} {acc : List Nat} (h : OfAt N 0 acc) : acc = limbs 10000 N := by
  obtain ⟨h1, h2, h3, h4⟩ := h
  rw [Nat.mul_zero, Nat.add_zero] at h2
  rw [← h2]
  refine (limbs_val_top (by omega) h1 (top_of_pow (by omega) h1 ?_)).symm
  rcases h4 with h | h | h
  · exact Or.inl h
  · exact absurd rfl h
  · exact Or.inr h

theorem append_fld {k : IntKind} {w wr w3 : World} {B base : Nat} {e t : TypeId} {o : Obj} {v v' y : Value} {acc : List Nat} {D : Int} (d : Nat) (hD : D = (d : Nat)) (hb0 : w.heap.size ≤ B) (hbB : B < base) (hB : Below w.heap.size w wr) (bx : Box2 wr B t v y) (hown : wr.ownsRow base e 1 v acc.length (cellsOf k acc))
    (hown' : w3.ownsRow base e 1 v' (acc.length + 1) (cellsOf k acc ++ [.int k D])) (hgrow : (wr.alloc o).grownBy w3 v.ownBlock) :
    ∃ g cv, v' = .slice (some ⟨g, 0, none⟩) (acc ++ [d]).length cv ∧ (w3.setCell ⟨B, 0, none⟩ v').ownsRow base e 1 v' (acc ++ [d]).length (cellsOf k (acc ++ [d])) ∧ Box2 w3 B t v y ∧ Below w.heap.size w w3 ∧ base ≤ w3.heap.size ∧ (∀ B' t' x' y', B' < base → Box2 wr B' t' x' y' → Box2 w3 B' t' x' y') := by
  obtain ⟨g, cv, hv⟩ := ownsRow_succ hown'
  subst hD
  have hrow : ∀ q, v.ownBlock = some q → base ≤ q ∧ q < wr.heap.size := fun q hq => hown.lt q hq
  have hk : ∀ B' t' x' y', B' < base → Box2 wr B' t' x' y' → Box2 w3 B' t' x' y' := fun B' t' x' y' h b => (b.alloc o).kept hgrow (fun e' => by have := (hrow B' e'.symm).1; omega)
  have ho : w3.ownsRow base e 1 v' (acc ++ [d]).length (cellsOf k (acc ++ [d])) := by rw [cellsOf_snoc]; simpa using hown'
  refine ⟨g, cv, by rw [hv]; simp, ownsRow_setCell_below ho hbB v', hk _ _ _ _ hbB bx, ?_, ?_, hk⟩
  · exact (hB.alloc hB.size _).grown hgrow (by simp; have := hB.size; omega) (fun q hq => by have := (hrow q hq).1; omega)
  · rcases ho.2 with ⟨h, _⟩ | ⟨g', cap', cur', _, hge, hgb, _⟩
    · rw [hv] at h; cases h
    · have := (Array.getElem?_eq_some_iff.1 hgb).1
      omega
end Go.Proofs.YtahpgnkhophgpaaDoor
