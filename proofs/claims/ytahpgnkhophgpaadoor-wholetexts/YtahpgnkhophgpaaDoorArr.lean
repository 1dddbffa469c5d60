import Derived.Test.YtahpgnkhophgpaaDoorWho1
import Derived.Shelf.Spec.BitsCarry
namespace Go.Proofs.YtahpgnkhophgpaaDoor
open Go.RowKit Go.Shelf

/-- Block b begins with the words xs, and may be written. -/
def Arr (W : World) (b : Nat) (xs : List Nat) : Prop := ∃ tl : List Value, W.heap[b]? = some (.cells (cellsOf .u64 xs ++ tl).toArray 56 (0, 0))

theorem Arr.lt {W : World} {b : Nat} {xs : List Nat} (h : Arr W b xs) : b < W.heap.size := by obtain ⟨_, h⟩ := h; exact (Array.getElem?_eq_some_iff.1 h).1
theorem Arr.cell {W : World} {b : Nat} {xs : List Nat} (h : Arr W b xs) {j : Nat} (hj : j < xs.length) : W.cell? ⟨b, j, none⟩ = some (.int .u64 (xs[j]?.getD 0 : Nat)) := by
  obtain ⟨tl, h⟩ := h
  have e : (cellsOf .u64 xs ++ tl)[j]? = some (.int .u64 (xs[j]?.getD 0 : Nat)) := by
    rw [List.getElem?_append_left (by rw [cellsOf_length]; exact hj)]
    simp [cellsOf, List.getElem?_eq_getElem hj]
  simp [World.cell?, h, e]
theorem Arr.frozen {W : World} {b : Nat} {xs : List Nat} (h : Arr W b xs) (j : Nat) : W.frozen? ⟨b, j, none⟩ = false := by obtain ⟨_, h⟩ := h; simp [World.frozen?, h]
theorem Arr.of_block {W W' : World} {b : Nat} {xs : List Nat} (h : Arr W b xs) (e : W'.heap[b]? = W.heap[b]?) : Arr W' b xs := by obtain ⟨tl, h⟩ := h; exact ⟨tl, e.trans h⟩
theorem Arr.kept {W W' : World} {row : Option Nat} {b : Nat} {xs : List Nat} (h : Arr W b xs) (hg : W.grownBy W' row) (hne : some b ≠ row) : Arr W' b xs := h.of_block (hg.block b h.lt hne)
theorem Arr.below {W W' : World} {b : Nat} {xs : List Nat} (h : Arr W b xs) (hb : Below W.heap.size W W') : Arr W' b xs := h.of_block (hb.block b h.lt)
theorem Arr.alloc {W : World} {b : Nat} {xs : List Nat} (h : Arr W b xs) (o : Obj) : Arr (W.alloc o) b xs := h.below ((Below.refl _ W).alloc (Nat.le_refl _) o)
theorem Arr.set {W : World} {b : Nat} {xs : List Nat} (h : Arr W b xs) (j v : Nat) : Arr (W.setCell ⟨b, j, none⟩ (.int .u64 (v : Nat))) b (xs.set j v) := by
  obtain ⟨tl, h⟩ := h
  obtain ⟨hlt, hk⟩ := Array.getElem?_eq_some_iff.1 h
  have e : ∃ tl', (cellsOf .u64 xs ++ tl).set j (.int .u64 (v : Nat)) = cellsOf .u64 (xs.set j v) ++ tl' := by
    rcases Nat.lt_or_ge j xs.length with hj | hj
    · exact ⟨tl, by rw [List.set_append_left _ _ (by rw [cellsOf_length]; exact hj)]; simp [cellsOf, List.map_set]⟩
    · exact ⟨_, by rw [List.set_append_right _ _ (by rw [cellsOf_length]; exact hj), List.set_eq_of_length_le hj]⟩
  obtain ⟨tl', e⟩ := e
  refine ⟨tl', ?_⟩
  show (W.heap.modify b _)[b]? = _
  rw [Array.getElem?_eq_getElem (by rw [Array.size_modify]; exact hlt), Array.getElem_modify_self, hk, ← e]
  simp
theorem Arr.far {W : World} {b : Nat} {xs : List Nat} (h : Arr W b xs) {p : Addr} (hp : b ≠ p.block) (u : Value) : Arr (W.setCell p u) b xs := h.of_block (Below.heap_setCell W p u b hp)
/-- A block that holds words is none of another kind. -/
theorem Arr.other {W : World} {b : Nat} {xs : List Nat} (h : Arr W b xs) {o : Obj} (ho : W.heap[b]? = some o) : o.isCells = true := by obtain ⟨tl, h⟩ := h; rw [h] at ho; cases ho; rfl
theorem Arr.made {W : World} {b : Nat} {xs : List Nat} (h : W.heap[b]? = some (.cells (cellsOf .u64 xs).toArray 56 (0, 0))) : Arr W b xs := ⟨[], by rw [List.append_nil]; exact h⟩
/-- What one has of one's own, as a block of words. -/
theorem Arr.owns {W : World} {base : Nat} {g n cap : Nat} {xs : List Nat} (h : W.ownsRow base 56 1 (.slice (some ⟨g, 0, none⟩) n cap) n (cellsOf .u64 xs)) : Arr W g xs := by
  obtain ⟨h1, h2⟩ := h
  rcases h2 with ⟨e, _⟩ | ⟨g', cap', cur, e, _, hb, _, _, _, ht⟩
  · cases e
  · cases e
    refine ⟨cur.toList.drop (n * 1), ?_⟩
    rw [← ht, List.take_append_drop, hb]

theorem grown_set (W : World) (b j : Nat) (v : Value) : W.grownBy (W.setCell ⟨b, j, none⟩ v) (some b) :=
  ⟨rfl, rfl, rfl, (KeepsWalks.setCell W _ v).size, fun k _ hk => Below.heap_setCell _ _ _ k (fun e => hk (by rw [e]))⟩

theorem grown_trans {A B C : World} {row : Option Nat} (h : A.grownBy B row) (k : B.grownBy C row) : A.grownBy C row :=
  ⟨k.os.trans h.os, k.tape.trans h.tape, k.output.trans h.output, Nat.le_trans h.size k.size, fun i hi hr => (k.block i (Nat.lt_of_lt_of_le hi h.size) hr).trans (h.block i hi hr)⟩

theorem grown_refl (A : World) (row : Option Nat) : A.grownBy A row := ⟨rfl, rfl, rfl, Nat.le_refl _, fun _ _ _ => rfl⟩

theorem grown_below {A B : World} (h : Below A.heap.size A B) (row : Option Nat) : A.grownBy B row := ⟨h.os, h.tape, h.output, h.size, fun i hi _ => h.block i hi⟩

theorem below_grown {w A B : World} {b : Nat} (h : Below w.heap.size w A) (hg : A.grownBy B (some b)) (hb : w.heap.size ≤ b) : Below w.heap.size w B :=
  h.grown hg h.size (fun k e => by cases e; exact hb)

/-- A piece of a written block as a row. -/
theorem Arr.row {W : World} {b : Nat} {xs : List Nat} (h : Arr W b xs) (off len cap : Nat) (h1 : off + len ≤ xs.length) (h2 : len ≤ cap) (h3 : cap ≤ 9223372036854775807) (h4 : len ≤ 1099511627776) : Row .u64 W (.slice (some ⟨b, off, none⟩) len cap) ((xs.drop off).take len) := by
  have e : ((xs.drop off).take len).length = len := by rw [List.length_take, List.length_drop]; omega
  refine ⟨_, cap, by rw [e], by omega, h3, by omega, Or.inr ⟨b, off, rfl, h.lt, fun j hj => ?_⟩⟩
  rw [e] at hj
  rw [h.cell (by omega), List.getElem?_take_of_lt hj, List.getElem?_drop]

theorem Row.grown {k : IntKind} {W W' : World} {b : Nat} {a : Option Addr} {l cap : Nat} {ds : List Nat} (h : Row k W (.slice a l cap) ds) (hg : W.grownBy W' (some b)) (hne : ∀ p, a = some p → 0 < l → p.block ≠ b) : Row k W' (.slice a l cap) ds := by
  obtain ⟨a', c', e, h1, h2, h3, h4⟩ := h
  cases e
  refine ⟨a, cap, rfl, h1, h2, h3, ?_⟩
  rcases h4 with h4 | ⟨b', off, ea, hlt, hc⟩
  · exact Or.inl h4
  · by_cases h0 : ds = []
    · exact Or.inl h0
    · have hl : 0 < ds.length := List.length_pos_iff.2 h0
      have hb := hne _ ea hl
      refine Or.inr ⟨b', off, ea, Nat.lt_of_lt_of_le hlt hg.size, fun j hj => ?_⟩
      exact (World.cell?_of_block (w := W) (hg.block b' hlt (fun e => hb (by cases e; rfl)))).trans (hc j hj)

/-- The words that bits.Add64 gives. -/
def addLo (x y c : Nat) : Nat := (x + y + c) % B64
def addHi (x y c : Nat) : Nat := (x + y + c) / B64
/-- The words that bits.Sub64 gives. -/
def subLo (x y c : Nat) : Nat := (x + B64 - y - c) % B64
def subHi (x y c : Nat) : Nat := if x < y + c then 1 else 0

theorem add64_r (x y c : Nat) (hc : c ≤ 1) (w : World) : (callFunc 62 #[.int .u64 (x : Nat), .int .u64 (y : Nat), .int .u64 (c : Nat)]).run Tryd.prog w =
    .ok (.value (.tuple #[.int .u64 (addLo x y c : Nat), .int .u64 (addHi x y c : Nat)])) w := by
  rw [run_callFunc_extern Tryd.func62 (by kernel_rfl) (by kernel_rfl) (by kernel_rfl) (e := add64Entry) (by kernel_rfl), run_add64 x y c (by omega) (by omega) (by omega) (by omega)]
  simp only [Result.andThen, addLo, addHi, B64]
  congr 5 <;> omega

theorem add64_0 (x y : Nat) (w : World) : (callFunc 62 #[.int .u64 (x : Nat), .int .u64 (y : Nat), .int .u64 0]).run Tryd.prog w =
    .ok (.value (.tuple #[.int .u64 (addLo x y 0 : Nat), .int .u64 (addHi x y 0 : Nat)])) w := add64_r x y 0 (by omega) w

theorem sub64_r (x y c : Nat) (hc : c ≤ 1) (w : World) : (callFunc 72 #[.int .u64 (x : Nat), .int .u64 (y : Nat), .int .u64 (c : Nat)]).run Tryd.prog w =
    .ok (.value (.tuple #[.int .u64 (subLo x y c : Nat), .int .u64 (subHi x y c : Nat)])) w := by
  rw [run_callFunc_extern Tryd.func72 (by kernel_rfl) (by kernel_rfl) (by kernel_rfl) (e := sub64Entry) (by kernel_rfl), run_sub64 x y c hc]
  rfl

end Go.Proofs.YtahpgnkhophgpaaDoor
