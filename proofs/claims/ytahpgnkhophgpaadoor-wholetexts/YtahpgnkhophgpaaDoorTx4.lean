import Derived.Test.YtahpgnkhophgpaaDoorTx2
import Derived.Test.YtahpgnkhophgpaaDoorBld
import Derived.Test.YtahpgnkhophgpaaDoorBwu
namespace Go.Proofs.YtahpgnkhophgpaaDoor
open Go.RowKit Go.Shelf

theorem ownsRow_kept {B : Nat} {W W' : World} {row : Option Nat} {base : Nat} {e : TypeId} {size n : Nat} {v : Value} {xs : List Value} (h : W.ownsRow base e size v n xs) (hg : W.grownBy W' row) (hr : ∀ r, row = some r → B ≤ r ∧ ∃ o : Obj, W.heap[r]? = some o ∧ o.isCells = false) : W'.ownsRow base e size v n xs := by
  obtain ⟨h1, h2⟩ := h
  refine ⟨h1, ?_⟩
  rcases h2 with h2 | ⟨b, cap, cur, e1, e2, e3, e4⟩
  · exact Or.inl h2
  · refine Or.inr ⟨b, cap, cur, e1, e2, (hg.block b (Array.getElem?_eq_some_iff.1 e3).1 (fun e => ?_)).trans e3, e4⟩
    obtain ⟨_, o, ho, hc⟩ := hr b e.symm
    rw [e3] at ho; cases ho; cases hc

theorem builderAt_kept {B : Nat} {W W' : World} {row : Option Nat} {T e : TypeId} {B0 b : Nat} {p : Value} {bs : List Value} (h : Lib.BuilderAt T e B0 b p bs W) (hg : W.grownBy W' row) (hr : ∀ r, row = some r → B ≤ r ∧ ∃ o : Obj, W.heap[r]? = some o ∧ o.isCells = false) : Lib.BuilderAt T e B0 b p bs W' := by
  obtain ⟨h1, v, h2, h3, h4⟩ := h
  refine ⟨h1, v, (hg.block b (Array.getElem?_eq_some_iff.1 h2).1 (fun e => ?_)).trans h2, ownsRow_kept h3 hg hr, h4⟩
  obtain ⟨_, o, ho, hc⟩ := hr b e.symm
  rw [h2] at ho; cases ho; cases hc

theorem builder_kept {B : Nat} {W W' : World} {row : Option Nat} {T e : TypeId} {B0 b : Nat} {bs : List Value} (h : Lib.IsBuilder T e B0 b bs W) (hg : W.grownBy W' row) (hr : ∀ r, row = some r → B ≤ r ∧ ∃ o : Obj, W.heap[r]? = some o ∧ o.isCells = false) : Lib.IsBuilder T e B0 b bs W' :=
  h.elim (fun h => Or.inl (builderAt_kept h hg hr)) (fun h => Or.inr (builderAt_kept h hg hr))

theorem tab_below {P : Program} {w w' : World} {name : String} {k : IntKind} {zs : List Int} (h : Lib.TabIs P w name k zs) (hb : Below w.heap.size w w') : Lib.TabIs P w' name k zs := by
  unfold Lib.TabIs World.var? at *
  cases hg : P.globalNamed name with
  | none => rw [hg] at h; cases h
  | some g =>
    rw [hg] at h
    simp only [Option.bind_some] at h ⊢
    have hlt : g < w.heap.size := by
      rcases Nat.lt_or_ge g w.heap.size with h' | h'
      · exact h'
      · rw [Array.getElem?_eq_none h'] at h; cases h
    rw [hb.block g hlt]
    exact h

/-- The text of the k highest chunks. -/
def topText (cs : List Nat) (k : Nat) : List UInt8 := chunkText (cs.drop (cs.length - k))

theorem topText_zero (cs : List Nat) : topText cs 0 = [] := by
  rw [topText, Nat.sub_zero, List.drop_length]; rfl
theorem topText_all (cs : List Nat) : topText cs cs.length = chunkText cs := by
  rw [topText, Nat.sub_self, List.drop_zero]
theorem topText_first {cs : List Nat} (h : 0 < cs.length) : topText cs 1 = Lib.decDigits (cs[cs.length - 1]?.getD 0) := by
  rw [topText, List.drop_eq_getElem_cons (by omega), List.drop_eq_nil_of_le (by omega), chunkText, List.getElem?_eq_getElem (by omega)]
  rfl
theorem topText_next {cs : List Nat} {k : Nat} (hk : 0 < k) (h : k < cs.length) : topText cs (k + 1) = topText cs k ++ pad19 (cs[cs.length - 1 - k]?.getD 0) := by
  have e : cs.drop (cs.length - (k + 1)) = cs[cs.length - 1 - k]?.getD 0 :: cs.drop (cs.length - k) := by
    rw [show cs.length - (k + 1) = cs.length - 1 - k from by omega, List.drop_eq_getElem_cons (by omega), show cs.length - 1 - k + 1 = cs.length - k from by omega, List.getElem?_eq_getElem (by omega)]
    rfl
  rw [topText, topText, e]
  cases hd : cs.drop (cs.length - k) with
  | nil => have := congrArg List.length hd; rw [List.length_drop, List.length_nil] at this; omega
  | cons d ds => rw [chunkText]; simp

/-- What the rounds of text keep. -/
def TxI (w : World) (B0 M : Nat) (cs : List Nat) (v : Value) (k : Nat) (W : World) : Prop :=
  ((((Boxed W w.heap.size 22 v ∧ Boxed W (B0 + 1) 22 v) ∧ Below w.heap.size w W) ∧ W.ownsRow M 56 1 v cs.length (cellsOf .u64 cs)) ∧ Lib.IsBuilder 75 5 B0 B0 (Lib.byteCells (topText cs k)) W)

theorem txI_own (w : World) (B0 M : Nat) (cs : List Nat) (v : Value) (hB : w.heap.size ≤ B0) : OwnFrom (B0 + 1 + 1) (TxI w B0 M cs v) :=
  OwnFrom.and (OwnFrom.and (OwnFrom.and (OwnFrom.and (Own.from (boxed_own _ _ (fun _ => v)) _) (Own.from (boxed_own _ _ (fun _ => v)) _)) (ownFrom_below (Nat.le_refl _) (by omega)))
    (fun _ _ _ _ h hg hr => ownsRow_kept h hg hr)) (fun _ _ _ _ h hg hr => builder_kept h hg hr)
end Go.Proofs.YtahpgnkhophgpaaDoor
