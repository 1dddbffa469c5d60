import Derived.Test.YtjmmnpfedhkjbaaDoorK04
import Derived.Shelf.Spec.BitsCarry
namespace Go.Proofs.YtjmmnpfedhkjbaaDoor
open Go.RowKit Go.Shelf

/-- Block b begins with the words xs, and may be written. -/
def Arr (W : World) (b : Nat) (xs : List Nat) : Prop := ∃ tl : List Value, W.heap[b]? = some (.cells (cellsOf .u64 xs ++ tl).toArray 56 (0, 0))

theorem Arr.lt {W : World} {b : Nat} {xs : List Nat} (h : Arr W b xs) : b < W.heap.size := by obtain ⟨_, h⟩ := h; exact (Array.getElem?_eq_some_iff.1 h).1
theorem Arr.cell {W : World} {b : Nat} {xs : List Nat} (h : Arr W b xs) {j : Nat} (hj : j < xs.length) : W.cell? ⟨b, j, none⟩ = some (.int .u64 (xs[j]?.getD 0 : Nat)) := by
  obtain ⟨tl, h⟩ := h
  have e : (cellsOf .u64 xs ++ tl)[j]? = some (.int .u64 (xs[j]?.getD 0 : Nat)) := by
    rw [List.getElem?_append_left (by rw [cellsOf_length]; exact hj)]
    simp [cellsOf, List.getElem?_eq_getElem hj]
  simp [World.cell?, h, e]
theorem Arr.frozen {W : World} {b : Nat} {xs : List Nat} (h : Arr W b xs) (j : Nat) : W.frozen? ⟨b, j, none⟩ = false := by obtain ⟨_, h⟩ := h; simp [World.frozen?, h]
theorem Arr.of_block {W W' : World} {b : Nat} {xs : List Nat} (h : Arr W b xs) (e : W'.heap[b]? = W.heap[b]?) : Arr W' b xs := by obtain ⟨tl, h⟩ := h; exact ⟨tl, e.trans h⟩
theorem Arr.kept {W W' : World} {row : Option Nat} {b : Nat} {xs : List Nat} (h : Arr W b xs) (hg : W.grownBy W' row) (hne : some b ≠ row) : Arr W' b xs := h.of_block (hg.block b h.lt hne)
theorem Arr.below {W W' : World} {b : Nat} {xs : List Nat} (h : Arr W b xs) (hb : Below W.heap.size W W') : Arr W' b xs := h.of_block (hb.block b h.lt)
theorem Arr.alloc {W : World} {b : Nat} {xs : List Nat} (h : Arr W b xs) (o : Obj) : Arr (W.alloc o) b xs := h.below ((Below.refl _ W).alloc (Nat.le_refl _) o)
theorem Arr.set {W : World} {b : Nat} {xs : List Nat} (h : Arr W b xs) (j v : Nat) : Arr (W.setCell ⟨b, j, none⟩ (.int .u64 (v : Nat))) b (xs.set j v) := by
  obtain ⟨tl, h⟩ := h
  obtain ⟨hlt, hk⟩ := Array.getElem?_eq_some_iff.1 h
  have e : ∃ tl', (cellsOf .u64 xs ++ tl).set j (.int .u64 (v : Nat)) = cellsOf .u64 (xs.set j v) ++ tl' := by
    rcases Nat.lt_or_ge j xs.length with hj | hj
    · exact ⟨tl, by rw [List.set_append_left _ _ (by rw [cellsOf_length]; exact hj)]; simp [cellsOf, List.map_set]⟩
    · exact ⟨_, by rw [List.set_append_right _ _ (by rw [cellsOf_length]; exact hj), List.set_eq_of_length_le hj]⟩
  obtain ⟨tl', e⟩ := e
  refine ⟨tl', ?_⟩
  show (W.heap.modify b _)[b]? = _
  rw [Array.getElem?_eq_getElem (by rw [Array.size_modify]; exact hlt), Array.getElem_modify_self, hk, ← e]
  simp
theorem Arr.far {W : World} {b : Nat} {xs : List Nat} (h : Arr W b xs) {p : Addr} (hp : b ≠ p.block) (u : Value) : Arr (W.setCell p u) b xs := h.of_block (Below.heap_setCell W p u b hp)
/-- A block that holds words is none of another kind. -/
theorem Arr.other {W : World} {b : Nat} {xs : List Nat} (h : Arr W b xs) {o : Obj} (ho : W.heap[b]? = some o) : o.isCells = true := by obtain ⟨tl, h⟩ := h; rw [h] at ho; cases ho; rfl
theorem Arr.made {W : World} {b : Nat} {xs : List Nat} (h : W.heap[b]? = some (.cells (cellsOf .u64 xs).toArray 56 (0, 0))) : Arr W b xs := ⟨[], by rw [List.append_nil]; exact h⟩
/-- What one has of one's own, as a block of words. -/
theorem Arr.owns {W : World} {base : Nat} {g n cap : Nat} {xs : List Nat} (h : W.ownsRow base 56 1 (.slice (some ⟨g, 0, none⟩) n cap) n (cellsOf .u64 xs)) : Arr W g xs := by
  obtain ⟨h1, h2⟩ := h
  rcases h2 with ⟨e, _⟩ | ⟨g', cap', cur, e, _, hb, _, _, _, ht⟩
  · cases e
  · cases e
    refine ⟨cur.toList.drop (n * 1), ?_⟩
    rw [← ht, List.take_append_drop, hb]

theorem grown_set (W : World) (b j : Nat) (v : Value) : W.grownBy (W.setCell ⟨b, j, none⟩ v) (some b) :=
  ⟨rfl, rfl, rfl, (KeepsWalks.setCell W _ v).size, fun k _ hk => Below.heap_setCell _ _ _ k (fun e => hk (by rw [e]))⟩

theorem grown_trans {A B C : World} {row : Option Nat} (h : A.grownBy B row) (k : B.grownBy C row) : A.grownBy C row :=
  ⟨k.os.trans h.os, k.tape.trans h.tape, k.output.trans h.output, Nat.le_trans h.size k.size, fun i hi hr => (k.block i (Nat.lt_of_lt_of_le hi h.size) hr).trans (h.block i hi hr)⟩

theorem grown_refl (A : World) (row : Option Nat) : A.grownBy A row := ⟨rfl, rfl, rfl, Nat.le_refl _, fun _ _ _ => rfl⟩

theorem grown_below {A B : World} (h : Below A.heap.size A B) (row : Option Nat) : A.grownBy B row := ⟨h.os, h.tape, h.output, h.size, fun i hi _ => h.block i hi⟩

theorem below_grown {w A B : World} {b : Nat} (h : Below w.heap.size w A) (hg : A.grownBy B (some b)) (hb : w.heap.size ≤ b) : Below w.heap.size w B :=
  h.grown hg h.size (fun k e => by cases e; exact hb)

/-- A piece of a written block as a row. -/
theorem Arr.row {W : World} {b : Nat} {xs : List Nat} (h : Arr W b xs) (off len cap : Nat) (h1 : off + len ≤ xs.length) (h2 : len ≤ cap) (h3 : cap ≤ 9223372036854775807) (h4 : len ≤ 1099511627776) : Row .u64 W (.slice (some ⟨b, off, none⟩) len cap) ((xs.drop off).take len) := by
  have e : ((xs.drop off).take len).length = len := by rw [List.length_take, List.length_drop]; omega
  refine ⟨_, cap, by rw [e], by omega, h3, by omega, Or.inr ⟨b, off, rfl, h.lt, fun j hj => ?_⟩⟩
  rw [e] at hj
  rw [h.cell (by omega), List.getElem?_take_of_lt hj, List.getElem?_drop]

theorem Row.grown {k : IntKind} {W W' : World} {b : Nat} {a : Option Addr} {l cap : Nat} {ds : List Nat} (h : Row k W (.slice a l cap) ds) (hg : W.grownBy W' (some b)) (hne : ∀ p, a = some p → 0 < l → p.block ≠ b) : Row k W' (.slice a l cap) ds := by
  obtain ⟨a', c', e, h1, h2, h3, h4⟩ := h
  cases e
  refine ⟨a, cap, rfl, h1, h2, h3, ?_⟩
  rcases h4 with h4 | ⟨b', off, ea, hlt, hc⟩
  · exact Or.inl h4
  · by_cases h0 : ds = []
    · exact Or.inl h0
    · have hl : 0 < ds.length := List.length_pos_iff.2 h0
      have hb := hne _ ea hl
      refine Or.inr ⟨b', off, ea, Nat.lt_of_lt_of_le hlt hg.size, fun j hj => ?_⟩
      exact (World.cell?_of_block (w := W) (hg.block b' hlt (fun e => hb (by cases e; rfl)))).trans (hc j hj)

/-- The words that bits.Add64 gives. -/
def addLo (x y c : Nat) : Nat := (x + y + c) % B64
def addHi (x y c : Nat) : Nat := (x + y + c) / B64
/-- The words that bits.Sub64 gives. -/
def subLo (x y c : Nat) : Nat := (x + B64 - y - c) % B64
def subHi (x y c : Nat) : Nat := if x < y + c then 1 else 0

theorem add64_r (x y c : Nat) (hc : c ≤ 1) (w : World) : (callFunc 62 #[.int .u64 (x : Nat), .int .u64 (y : Nat), .int .u64 (c : Nat)]).run Tryd.prog w =
    .ok (.value (.tuple #[.int .u64 (addLo x y c : Nat), .int .u64 (addHi x y c : Nat)])) w := by
  rw [run_callFunc_extern Tryd.func62 (by kernel_rfl) (by kernel_rfl) (by kernel_rfl) (e := add64Entry) (by kernel_rfl), run_add64 x y c (by omega) (by omega) (by omega) (by omega)]
  simp only [Result.andThen, addLo, addHi, B64]
  congr 5 <;> omega

theorem add64_0 (x y : Nat) (w : World) : (callFunc 62 #[.int .u64 (x : Nat), .int .u64 (y : Nat), .int .u64 0]).run Tryd.prog w =
    .ok (.value (.tuple #[.int .u64 (addLo x y 0 : Nat), .int .u64 (addHi x y 0 : Nat)])) w := add64_r x y 0 (by omega) w

theorem sub64_r (x y c : Nat) (hc : c ≤ 1) (w : World) : (callFunc 72 #[.int .u64 (x : Nat), .int .u64 (y : Nat), .int .u64 (c : Nat)]).run Tryd.prog w =
    .ok (.value (.tuple #[.int .u64 (subLo x y c : Nat), .int .u64 (subHi x y c : Nat)])) w := by
  rw [run_callFunc_extern Tryd.func72 (by kernel_rfl) (by kernel_rfl) (by kernel_rfl) (e := sub64Entry) (by kernel_rfl), run_sub64 x y c hc]
  rfl

end Go.Proofs.YtjmmnpfedhkjbaaDoor
namespace Go.Proofs.YtjmmnpfedhkjbaaDoor
open Go.RowKit Go.Shelf

theorem hidD {p : Prop} (h : p) : Hid p := h

/-- The block's words while addTimes goes on. -/
def mid (xs : List Nat) (ro i : Nat) (q : List Nat) : List Nat := xs.take ro ++ (q ++ xs.drop (ro + i))

theorem mid_zero (xs : List Nat) (ro : Nat) : mid xs ro 0 [] = xs := by simp [mid]
theorem mid_length {xs : List Nat} {ro i : Nat} {q : List Nat} (hq : q.length = i) (h : ro + i ≤ xs.length) : (mid xs ro i q).length = xs.length := by
  simp only [mid, List.length_append, List.length_take, List.length_drop]; omega
theorem mid_get {xs : List Nat} {ro i : Nat} {q : List Nat} (hq : q.length = i) (h : ro + i < xs.length) : (mid xs ro i q)[ro + i]?.getD 0 = xs[ro + i]?.getD 0 := by
  have h1 : (xs.take ro).length = ro := by rw [List.length_take]; omega
  rw [mid, List.getElem?_append_right (by omega), h1, List.getElem?_append_right (by omega), List.getElem?_drop]
  congr 2
  omega
theorem mid_set {xs : List Nat} {ro i : Nat} {q : List Nat} (hq : q.length = i) (h : ro + i < xs.length) (d : Nat) : (mid xs ro i q).set (ro + i) d = mid xs ro (i + 1) (q ++ [d]) := by
  have h1 : (xs.take ro).length = ro := by rw [List.length_take]; omega
  rw [mid, List.set_append_right _ _ (by omega), h1, show ro + i - ro = i from by omega, List.set_append_right _ _ (by omega), hq, Nat.sub_self]
  rw [List.drop_eq_getElem_cons h, List.set_cons_zero, mid]
  simp [Nat.add_assoc]

/-- A row without its words behind i is as it was there. -/
theorem mid_rest {xs : List Nat} {ro i len : Nat} {q : List Nat} (hi : i ≤ len) : mid xs ro i q = mid xs ro len (q ++ (xs.drop (ro + i)).take (len - i)) := by
  rw [mid, mid, List.append_assoc]
  congr 2
  have e : xs.drop (ro + len) = (xs.drop (ro + i)).drop (len - i) := by rw [List.drop_drop]; congr 1; omega
  rw [e, List.take_append_drop]

theorem sub_step {x y c : Nat} (hx : x < B64) (hy : y < B64) (hc : c ≤ 1) : subLo x y c < B64 ∧ subHi x y c ≤ 1 ∧ subLo x y c + y + c = x + B64 * subHi x y c := by
  unfold subLo subHi
  unfold B64 at *
  split <;> omega

theorem add_step {x y c : Nat} (hx : x < B64) (hy : y < B64) (hc : c ≤ 1) : addLo x y c < B64 ∧ addHi x y c ≤ 1 ∧ addLo x y c + B64 * addHi x y c = x + y + c := by
  unfold addLo addHi
  unfold B64 at *
  omega

/-- What the loops of takeOff know. -/
def SubAt (xs bs : List Nat) (ro i c : Nat) (q : List Nat) : Prop :=
  q.length = i ∧ Dig B64 q ∧ c ≤ 1 ∧ val B64 q + val B64 (bs.take i) = val B64 ((xs.drop ro).take i) + B64 ^ i * c

theorem SubAt.start (xs bs : List Nat) (ro : Nat) : SubAt xs bs ro 0 0 [] := ⟨rfl, Dig.nil _, by omega, by simp [val]⟩

theorem SubAt.step {xs bs : List Nat} {ro i c : Nat} {q : List Nat} (h : SubAt xs bs ro i c q) (d c' : Nat) (hd : d < B64) (ho : c' ≤ 1) (he : d + bs[i]?.getD 0 + c = xs[ro + i]?.getD 0 + B64 * c') : SubAt xs bs ro (i + 1) c' (q ++ [d]) := by
  obtain ⟨h1, h2, h3, h4⟩ := h
  refine ⟨by simp; omega, h2.append (Dig.cons hd (Dig.nil _)), ho, ?_⟩
  rw [val_snoc, h1, val_take_succ, val_take_succ, List.getElem?_drop, Nat.pow_succ, Nat.mul_assoc]
  have e2 : B64 ^ i * d + B64 ^ i * (bs[i]?.getD 0) + B64 ^ i * c = B64 ^ i * (xs[ro + i]?.getD 0) + B64 ^ i * (B64 * c') := by
    rw [← Nat.mul_add, ← Nat.mul_add, he, Nat.mul_add]
  omega

theorem SubAt.rest {xs bs : List Nat} {ro i len : Nat} {q : List Nat} (h : SubAt xs bs ro i 0 q) (hx : Dig B64 xs) (hb : bs.length ≤ i) (hi : i ≤ len) (hl : ro + len ≤ xs.length) : SubAt xs bs ro len 0 (q ++ (xs.drop (ro + i)).take (len - i)) := by
  obtain ⟨h1, h2, h3, h4⟩ := h
  refine ⟨by rw [List.length_append, List.length_take, List.length_drop]; omega, h2.append ((hx.drop _).take _), by omega, ?_⟩
  have e1 : (xs.drop ro).take len = (xs.drop ro).take i ++ (xs.drop (ro + i)).take (len - i) := by
    rw [← List.drop_drop, ← List.take_add, show i + (len - i) = len from by omega]
  have e2 : ((xs.drop ro).take i).length = i := by rw [List.length_take, List.length_drop]; omega
  rw [e1, val_append, val_append, h1, e2]
  rw [List.take_of_length_le hb] at h4
  rw [List.take_of_length_le (show bs.length ≤ len by omega)]
  omega

/-- What the loops of add know. -/
def AddAt (xs bs : List Nat) (ro i c : Nat) (q : List Nat) : Prop :=
  q.length = i ∧ Dig B64 q ∧ c ≤ 1 ∧ val B64 q + B64 ^ i * c = val B64 ((xs.drop ro).take i) + val B64 (bs.take i)

theorem AddAt.start (xs bs : List Nat) (ro : Nat) : AddAt xs bs ro 0 0 [] := ⟨rfl, Dig.nil _, by omega, by simp [val]⟩

theorem AddAt.step {xs bs : List Nat} {ro i c : Nat} {q : List Nat} (h : AddAt xs bs ro i c q) (d c' : Nat) (hd : d < B64) (ho : c' ≤ 1) (he : d + B64 * c' = xs[ro + i]?.getD 0 + bs[i]?.getD 0 + c) : AddAt xs bs ro (i + 1) c' (q ++ [d]) := by
  obtain ⟨h1, h2, h3, h4⟩ := h
  refine ⟨by simp; omega, h2.append (Dig.cons hd (Dig.nil _)), ho, ?_⟩
  rw [val_snoc, h1, val_take_succ, val_take_succ, List.getElem?_drop, Nat.pow_succ, Nat.mul_assoc]
  have e2 : B64 ^ i * d + B64 ^ i * (B64 * c') = B64 ^ i * (xs[ro + i]?.getD 0) + B64 ^ i * (bs[i]?.getD 0) + B64 ^ i * c := by
    rw [← Nat.mul_add, he, Nat.mul_add, Nat.mul_add]
  omega

theorem AddAt.rest {xs bs : List Nat} {ro i len : Nat} {q : List Nat} (h : AddAt xs bs ro i 0 q) (hx : Dig B64 xs) (hb : bs.length ≤ i) (hi : i ≤ len) (hl : ro + len ≤ xs.length) : AddAt xs bs ro len 0 (q ++ (xs.drop (ro + i)).take (len - i)) := by
  obtain ⟨h1, h2, h3, h4⟩ := h
  refine ⟨by rw [List.length_append, List.length_take, List.length_drop]; omega, h2.append ((hx.drop _).take _), by omega, ?_⟩
  have e1 : (xs.drop ro).take len = (xs.drop ro).take i ++ (xs.drop (ro + i)).take (len - i) := by
    rw [← List.drop_drop, ← List.take_add, show i + (len - i) = len from by omega]
  have e2 : ((xs.drop ro).take i).length = i := by rw [List.length_take, List.length_drop]; omega
  rw [e1, val_append, val_append, h1, e2]
  rw [List.take_of_length_le hb] at h4
  rw [List.take_of_length_le (show bs.length ≤ len by omega)]
  omega
end Go.Proofs.YtjmmnpfedhkjbaaDoor
namespace Go.Proofs.YtjmmnpfedhkjbaaDoor
open Go.RowKit Go.Shelf

theorem sub64_z (x : Nat) (w : World) : (callFunc 72 #[.int .u64 (x : Nat), .int .u64 0, .int .u64 1]).run Tryd.prog w =
    .ok (.value (.tuple #[.int .u64 (subLo x 0 1 : Nat), .int .u64 (subHi x 0 1 : Nat)])) w := sub64_r x 0 1 (by omega) w
theorem add64_z (x : Nat) (w : World) : (callFunc 62 #[.int .u64 (x : Nat), .int .u64 0, .int .u64 1]).run Tryd.prog w =
    .ok (.value (.tuple #[.int .u64 (addLo x 0 1 : Nat), .int .u64 (addHi x 0 1 : Nat)])) w := add64_r x 0 1 (by omega) w

set_option maxRecDepth 100000 in
set_option maxHeartbeats 2000000 in
theorem takeOff_w (br ro len cap : Nat) (xs : List Nat) (a : Option Addr) (lb cb : Nat) (bs : List Nat) (w : World)
    (hA : Arr w br xs) (hx : Dig B64 xs) (hro : ro + len ≤ xs.length) (hlc : len ≤ cap) (hlm : len ≤ 2199023255552) (hlb : lb ≤ len) (hb : Row .u64 w (.slice a lb cb) bs) (hbs : Dig B64 bs) (hne : ∀ p, a = some p → 0 < lb → p.block ≠ br) :
    Calls Tryd.prog 55 #[.slice (some ⟨br, ro, none⟩) len cap, .slice a lb cb] w fun e w' =>
      ∃ c q, e = .returned (.int .u64 (c : Nat)) ∧ SubAt xs bs ro len c q ∧ Arr w' br (mid xs ro len q) ∧ w.grownBy w' (some br) := by
  obtain ⟨hl, hlc2, hcm, hlm2, hc⟩ := row_fn hb
  have HL := hidD hl
  have HC := hidD hc
  have HN := hidD hne
  clear hc hl hne hb
  go_enter Tryd.func55, Tryd.ntmps55
  go_wp2
  go_loopw [5, 11] (fun ov iv wr => ∃ (i c : Nat) (q : List Nat), iv = .int .i64 i ∧ ov = .int .u64 (c : Nat) ∧ i ≤ lb ∧ c ≤ 1 ∧ Hid (SubAt xs bs ro i c q) ∧ Arr wr br (mid xs ro i q) ∧ w.grownBy wr (some br))
    (fun _ iv _ => lb - (intOf iv).toNat)
  case atStart => exact ⟨0, 0, [], rfl, rfl, Nat.zero_le _, by omega, SubAt.start _ _ _, by rw [mid_zero]; exact hA, grown_refl _ _⟩
  case round =>
    obtain ⟨i, c, q, rfl, rfl, hi, ho, HP, hM, hg⟩ := hrel
    by_cases hlt : i < lb
    · obtain ⟨b, off, rfl, hbb, hc⟩ := HC.out i hlt
      have hbn := HN.out _ rfl (by omega)
      have hq := HP.out.1
      have hcb : wr.cell? ⟨b, off + i, none⟩ = some (.int .u64 (bs[i]?.getD 0 : Nat)) := (World.cell?_of_block (w := w) (hg.block b hbb (fun e => hbn (by cases e; rfl)))).trans hc
      have hcr : wr.cell? ⟨br, ro + i, none⟩ = some (.int .u64 (xs[ro + i]?.getD 0 : Nat)) := by rw [← mid_get hq (by omega)]; exact hM.cell (by rw [mid_length hq (by omega)]; omega)
      have hfr := hM.frozen (ro + i)
      have hxb := hbs.getD (by unfold B64; omega) i
      have hxr := hx.getD (by unfold B64; omega) (ro + i)
      obtain ⟨s1, s2, s3⟩ := sub_step hxr hxb ho
      have HS := hidD (HP.out.step _ _ s1 s2 s3)
      have HM2 := hidD (show ∀ d, (mid xs ro i q).set (ro + i) d = mid xs ro (i + 1) (q ++ [d]) from fun d => mid_set hq (by omega) d)
      clear hc hq s3
      generalize bs[i]?.getD 0 = x at *
      generalize xs[ro + i]?.getD 0 = r at *
      have a1 := sub64_r r x c ho
      go_wp2
      exact ⟨⟨i + 1, subHi r x c, q ++ [subLo r x c], by simp, by simp, by omega, HS.out.2.2.1, HS, by rw [← HM2.out]; exact hM.set _ _, grown_trans hg (grown_set _ _ _ _)⟩, by simp [intOf]; omega⟩
    · obtain rfl : i = lb := by omega
      go_wp2
      go_loopw [5, 8] (fun ov iv wr => ∃ (j c : Nat) (q : List Nat), iv = .int .i64 j ∧ ov = .int .u64 (c : Nat) ∧ i ≤ j ∧ j ≤ len ∧ c ≤ 1 ∧ Hid (SubAt xs bs ro j c q) ∧ Arr wr br (mid xs ro j q) ∧ w.grownBy wr (some br))
        (fun _ iv _ => len - (intOf iv).toNat)
      case atStart => exact ⟨i, c, q, rfl, rfl, Nat.le_refl _, hlb, ho, HP, hM, hg⟩
      case round =>
        obtain ⟨j, c, q, rfl, rfl, hij, hj, ho, HP, hM, hg⟩ := hrel
        by_cases hjl : j < len
        · obtain rfl | rfl : c = 0 ∨ c = 1 := by omega
          · have HR := hidD (HP.out.rest hx (by rw [← HL.out]; exact hij) hj hro)
            have HM2 := hidD (mid_rest (xs := xs) (ro := ro) (q := q) hj)
            go_wp2
            go_ret
            exact ⟨0, _, rfl, HR.out, by rw [← HM2.out]; exact hM, hg⟩
          · have hq := HP.out.1
            have hcr : wr.cell? ⟨br, ro + j, none⟩ = some (.int .u64 (xs[ro + j]?.getD 0 : Nat)) := by rw [← mid_get hq (by omega)]; exact hM.cell (by rw [mid_length hq (by omega)]; omega)
            have hfr := hM.frozen (ro + j)
            have hxr := hx.getD (by unfold B64; omega) (ro + j)
            have hb0 : bs[j]?.getD 0 = 0 := by rw [List.getElem?_eq_none (by rw [← HL.out]; exact hij)]; rfl
            obtain ⟨s1, s2, s3⟩ := sub_step hxr (show (0 : Nat) < B64 by unfold B64; omega) ho
            have HS := hidD (HP.out.step _ _ s1 s2 (by rw [hb0]; exact s3))
            have HM2 := hidD (show ∀ d, (mid xs ro j q).set (ro + j) d = mid xs ro (j + 1) (q ++ [d]) from fun d => mid_set hq (by omega) d)
            clear hq s3 hb0
            generalize xs[ro + j]?.getD 0 = r at *
            have a1 := sub64_z r
            go_wp2
            exact ⟨⟨j + 1, subHi r 0 1, q ++ [subLo r 0 1], by simp, by simp, by omega, by omega, HS.out.2.2.1, HS, by rw [← HM2.out]; exact hM.set _ _, grown_trans hg (grown_set _ _ _ _)⟩, by simp [intOf]; omega⟩
        · obtain rfl : j = len := by omega
          go_wp2
          go_ret
          exact ⟨c, q, rfl, HP.out, hM, hg⟩

set_option maxRecDepth 100000 in
set_option maxHeartbeats 2000000 in
theorem add_w (br ro len cap : Nat) (xs : List Nat) (a : Option Addr) (lb cb : Nat) (bs : List Nat) (w : World)
    (hA : Arr w br xs) (hx : Dig B64 xs) (hro : ro + len ≤ xs.length) (hlc : len ≤ cap) (hlm : len ≤ 2199023255552) (hlb : lb ≤ len) (hb : Row .u64 w (.slice a lb cb) bs) (hbs : Dig B64 bs) (hne : ∀ p, a = some p → 0 < lb → p.block ≠ br) :
    Calls Tryd.prog 54 #[.slice (some ⟨br, ro, none⟩) len cap, .slice a lb cb] w fun e w' =>
      ∃ c q, e = .returned (.int .u64 (c : Nat)) ∧ AddAt xs bs ro len c q ∧ Arr w' br (mid xs ro len q) ∧ w.grownBy w' (some br) := by
  obtain ⟨hl, hlc2, hcm, hlm2, hc⟩ := row_fn hb
  have HL := hidD hl
  have HC := hidD hc
  have HN := hidD hne
  clear hc hl hne hb
  go_enter Tryd.func54, Tryd.ntmps54
  go_wp2
  go_loopw [5, 11] (fun ov iv wr => ∃ (i c : Nat) (q : List Nat), iv = .int .i64 i ∧ ov = .int .u64 (c : Nat) ∧ i ≤ lb ∧ c ≤ 1 ∧ Hid (AddAt xs bs ro i c q) ∧ Arr wr br (mid xs ro i q) ∧ w.grownBy wr (some br))
    (fun _ iv _ => lb - (intOf iv).toNat)
  case atStart => exact ⟨0, 0, [], rfl, rfl, Nat.zero_le _, by omega, AddAt.start _ _ _, by rw [mid_zero]; exact hA, grown_refl _ _⟩
  case round =>
    obtain ⟨i, c, q, rfl, rfl, hi, ho, HP, hM, hg⟩ := hrel
    by_cases hlt : i < lb
    · obtain ⟨b, off, rfl, hbb, hc⟩ := HC.out i hlt
      have hbn := HN.out _ rfl (by omega)
      have hq := HP.out.1
      have hcb : wr.cell? ⟨b, off + i, none⟩ = some (.int .u64 (bs[i]?.getD 0 : Nat)) := (World.cell?_of_block (w := w) (hg.block b hbb (fun e => hbn (by cases e; rfl)))).trans hc
      have hcr : wr.cell? ⟨br, ro + i, none⟩ = some (.int .u64 (xs[ro + i]?.getD 0 : Nat)) := by rw [← mid_get hq (by omega)]; exact hM.cell (by rw [mid_length hq (by omega)]; omega)
      have hfr := hM.frozen (ro + i)
      have hxb := hbs.getD (by unfold B64; omega) i
      have hxr := hx.getD (by unfold B64; omega) (ro + i)
      obtain ⟨s1, s2, s3⟩ := add_step hxr hxb ho
      have HS := hidD (HP.out.step _ _ s1 s2 s3)
      have HM2 := hidD (show ∀ d, (mid xs ro i q).set (ro + i) d = mid xs ro (i + 1) (q ++ [d]) from fun d => mid_set hq (by omega) d)
      clear hc hq s3
      generalize bs[i]?.getD 0 = x at *
      generalize xs[ro + i]?.getD 0 = r at *
      have a1 := add64_r r x c ho
      go_wp2
      exact ⟨⟨i + 1, addHi r x c, q ++ [addLo r x c], by simp, by simp, by omega, HS.out.2.2.1, HS, by rw [← HM2.out]; exact hM.set _ _, grown_trans hg (grown_set _ _ _ _)⟩, by simp [intOf]; omega⟩
    · obtain rfl : i = lb := by omega
      go_wp2
      go_loopw [5, 8] (fun ov iv wr => ∃ (j c : Nat) (q : List Nat), iv = .int .i64 j ∧ ov = .int .u64 (c : Nat) ∧ i ≤ j ∧ j ≤ len ∧ c ≤ 1 ∧ Hid (AddAt xs bs ro j c q) ∧ Arr wr br (mid xs ro j q) ∧ w.grownBy wr (some br))
        (fun _ iv _ => len - (intOf iv).toNat)
      case atStart => exact ⟨i, c, q, rfl, rfl, Nat.le_refl _, hlb, ho, HP, hM, hg⟩
      case round =>
        obtain ⟨j, c, q, rfl, rfl, hij, hj, ho, HP, hM, hg⟩ := hrel
        by_cases hjl : j < len
        · obtain rfl | rfl : c = 0 ∨ c = 1 := by omega
          · have HR := hidD (HP.out.rest hx (by rw [← HL.out]; exact hij) hj hro)
            have HM2 := hidD (mid_rest (xs := xs) (ro := ro) (q := q) hj)
            go_wp2
            go_ret
            exact ⟨0, _, rfl, HR.out, by rw [← HM2.out]; exact hM, hg⟩
          · have hq := HP.out.1
            have hcr : wr.cell? ⟨br, ro + j, none⟩ = some (.int .u64 (xs[ro + j]?.getD 0 : Nat)) := by rw [← mid_get hq (by omega)]; exact hM.cell (by rw [mid_length hq (by omega)]; omega)
            have hfr := hM.frozen (ro + j)
            have hxr := hx.getD (by unfold B64; omega) (ro + j)
            have hb0 : bs[j]?.getD 0 = 0 := by rw [List.getElem?_eq_none (by rw [← HL.out]; exact hij)]; rfl
            obtain ⟨s1, s2, s3⟩ := add_step hxr (show (0 : Nat) < B64 by unfold B64; omega) ho
            have HS := hidD (HP.out.step _ _ s1 s2 (by rw [hb0]; exact s3))
            have HM2 := hidD (show ∀ d, (mid xs ro j q).set (ro + j) d = mid xs ro (j + 1) (q ++ [d]) from fun d => mid_set hq (by omega) d)
            clear hq s3 hb0
            generalize xs[ro + j]?.getD 0 = r at *
            have a1 := add64_z r
            go_wp2
            exact ⟨⟨j + 1, addHi r 0 1, q ++ [addLo r 0 1], by simp, by simp, by omega, by omega, HS.out.2.2.1, HS, by rw [← HM2.out]; exact hM.set _ _, grown_trans hg (grown_set _ _ _ _)⟩, by simp [intOf]; omega⟩
        · obtain rfl : j = len := by omega
          go_wp2
          go_ret
          exact ⟨c, q, rfl, HP.out, hM, hg⟩
end Go.Proofs.YtjmmnpfedhkjbaaDoor
