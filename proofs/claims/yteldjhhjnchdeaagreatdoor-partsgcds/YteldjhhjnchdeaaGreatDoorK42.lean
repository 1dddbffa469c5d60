import Derived.Test.YteldjhhjnchdeaaGreatDoorK41
import Derived.Test.YteldjhhjnchdeaaGreatDoorK28
import Derived.Test.YteldjhhjnchdeaaGreatDoorK09
namespace Go.Proofs.YteldjhhjnchdeaaGreatDoor.M3
open Go.RowKit Go.Shelf

attribute [local go_sem] Oper.semAt_some

/-- A row's first r elements are 0, cell by cell. -/
def ZQ (V : World) (g r : Nat) : Prop := ∀ j, j < r → V.cell? ⟨g, j * 4, none⟩ = some (.bool false) ∧ V.cell? ⟨g, j * 4 + 1, none⟩ = some (.slice none 0 0) ∧ V.cell? ⟨g, j * 4 + 2, none⟩ = some (.bool false) ∧ V.cell? ⟨g, j * 4 + 3, none⟩ = some (.slice none 0 0)
theorem ZQ.of {V V' : World} {g r : Nat} (h : ZQ V g r) (e : V'.heap[g]? = V.heap[g]?) : ZQ V' g r := fun j hj => by
  obtain ⟨h0, h1, h2, h3⟩ := h j hj
  exact ⟨(World.cell?_of_block (w := V) (a := ⟨g, _, none⟩) e).trans h0, (World.cell?_of_block (w := V) (a := ⟨g, _, none⟩) e).trans h1, (World.cell?_of_block (w := V) (a := ⟨g, _, none⟩) e).trans h2, (World.cell?_of_block (w := V) (a := ⟨g, _, none⟩) e).trans h3⟩
/-- What the rounds keep: the boxes, n's box, and what the quotient still holds. -/
def SpB (w V : World) (bs : List (Option (Nat × Dat))) (B4 : Nat) (n : Int) (gQ r : Nat) : Prop := Mem w V bs ∧ Boxed V B4 3 (.int .i64 n) ∧ ZQ V gQ r ∧ gQ < V.heap.size
theorem SpB.below {w V V' : World} {bs : List (Option (Nat × Dat))} {B4 : Nat} {n : Int} {gQ r : Nat} (h : SpB w V bs B4 n gQ r) (hb : Below V.heap.size V V') : SpB w V' bs B4 n gQ r :=
  ⟨h.1.below hb, (hb.block B4 h.2.1.lt).trans h.2.1, h.2.2.1.of (hb.block gQ h.2.2.2), Nat.lt_of_lt_of_le h.2.2.2 hb.size⟩
theorem SpB.own {w V V' : World} {bs : List (Option (Nat × Dat))} {B4 : Nat} {n : Int} {gQ r : Nat} {row : Option Nat} (h : SpB w V bs B4 n gQ r) (hQ : ∃ cs t m, V.heap[gQ]? = some (.cells cs t m)) (hg : V.grownBy V' row) (hr : ∀ x, row = some x → w.heap.size ≤ x ∧ ∃ o : Obj, V.heap[x]? = some o ∧ o.isCells = false) : SpB w V' bs B4 n gQ r := by
  have hr2 : ∀ r, row = some r → ∃ o : Obj, V.heap[r]? = some o ∧ o.isCells = false := fun r e => (hr r e).2
  refine ⟨h.1.own hg hr, block_own hg hr2 (show Bx V B4 3 #[.int .i64 n] from h.2.1), h.2.2.1.of ?_, Nat.lt_of_lt_of_le h.2.2.2 hg.size⟩
  obtain ⟨cs, t, m, e⟩ := hQ
  refine hg.block gQ h.2.2.2 (fun e2 => ?_)
  obtain ⟨o, ho, hno⟩ := hr2 gQ e2.symm
  rw [e] at ho
  cases ho
  cases hno

theorem has_zeros (V : World) (m : Nat) : Has V (.agg (zeroQ m)) (.rats (List.replicate m 0)) := by
  refine ⟨zeroQ m, rfl, fun j hj => ?_⟩
  rw [List.length_replicate] at hj
  obtain ⟨h0, h1, h2, h3⟩ := zeroQ_at hj
  exact ⟨_, _, _, _, h0, h1, h2, h3, by rw [cf_replicate]; exact rat0 _⟩

/-- The boxes, while it is divided. -/
def spBs (w : World) (pa qa : Option Addr) (la pc lb qc m gR rc B5 gQ B6 BX : Nat) (R Q : List Rat) : List (Option (Nat × Dat)) :=
  [some (w.heap.size, .cell 25 (.slice pa la pc)), some (w.heap.size + 1, .cell 25 (.slice qa lb qc)), some (w.heap.size + 1 + 1, .cell 25 (.slice Option.none 0 0)), some (w.heap.size + 1 + 1 + 1, .cell 25 (.slice Option.none 0 0)),
    some (gR, .rats R), some (B5, .cell 23 (.slice (some ⟨gR, 0, Option.none⟩) la rc)), some (gQ, .rats Q), some (B6, .cell 23 (.slice (some ⟨gQ, 0, Option.none⟩) m m)), some (BX, .cell 23 (.slice (some ⟨gQ, 0, Option.none⟩) m m))]
theorem cf_set_or (p : List Rat) (i : Nat) (c : Rat) (j : Nat) : cf (p.set i c) j = c ∨ cf (p.set i c) j = cf p j := by
  by_cases h : i < p.length
  · rw [cf_set _ _ _ _ h]
    split
    · exact Or.inl rfl
    · exact Or.inr rfl
  · rw [List.set_eq_of_length_le (by omega)]; exact Or.inr rfl
/-- How great the numbers of a division are. -/
theorem splitAt_sm {A : Nat} {ps qs : List Rat} {n m : Nat} (hA : 1 ≤ A) (hp : ∀ i, SmQ A (cf ps i)) (hq : ∀ i, SmQ A (cf qs i)) (h0 : cf qs n ≠ 0) : ∀ k, ∃ z, z + (2 * A + 1) ≤ 2 ^ k * (3 * A + 1) ∧ (∀ i, SmQ z (cf (splitAt ps qs n m k).2 i)) ∧ ∀ i, SmQ (z + A) (cf (splitAt ps qs n m k).1 i) := by
  intro k
  induction k with
  | zero => exact ⟨A, by omega, hp, fun i => by rw [splitAt, cf_replicate]; exact SmQ.zero _ (by omega)⟩
  | succ k ih =>
    obtain ⟨z, h1, h2, h3⟩ := ih
    have hc : SmQ (z + A) (cf (splitAt ps qs n m k).2 (m - (k + 1) + n) / cf qs n) := (h2 _).div2 (hq _) h0
    refine ⟨2 * z + (2 * A + 1), ?_, fun i => ?_, fun i => ?_⟩
    · rw [Nat.pow_succ, Nat.mul_comm (2 ^ k) 2, Nat.mul_assoc]; omega
    · rw [splitAt]
      rcases cf_addAt_or (splitAt ps qs n m k).2 (m - (k + 1)) (-(cf (splitAt ps qs n m k).2 (m - (k + 1) + n) / cf qs n)) qs qs.length i with e | e
      · rw [e]; exact (h2 i).mono (by omega)
      · rw [e]; exact ((h2 i).add2 (hc.neg.mul2 (hq _))).mono (by omega)
    · rw [splitAt]
      rcases cf_set_or (splitAt ps qs n m k).1 (m - (k + 1)) (cf (splitAt ps qs n m k).2 (m - (k + 1) + n) / cf qs n) i with e | e
      · rw [e]; exact hc.mono (by omega)
      · rw [e]; exact (h3 i).mono (by omega)

theorem SpB.upd {w V V' : World} {bs bs' : List (Option (Nat × Dat))} {B4 : Nat} {n : Int} {gQ r X : Nat} (h : SpB w V bs B4 n gQ r) (hm : Mem w V' bs') (hf : ∀ B, B ≠ X → V'.heap[B]? = V.heap[B]?) (h4 : B4 ≠ X) (hQ : gQ ≠ X) : SpB w V' bs' B4 n gQ r := by
  have e := hf gQ hQ
  refine ⟨hm, (hf B4 h4).trans h.2.1, h.2.2.1.of e, ?_⟩
  refine Nat.lt_of_not_le fun hle => ?_
  have e2 := Array.getElem?_eq_none_iff.2 hle
  rw [e] at e2
  exact absurd (Array.getElem?_eq_none_iff.1 e2) (by have := h.2.2.2; omega)
/-- The same, with what a round leaves alone. -/
def SpK (w W V : World) (bs : List (Option (Nat × Dat))) (B4 : Nat) (n : Int) (gQ r : Nat) : Prop := SpB w V bs B4 n gQ r ∧ KeepsOthers W V
theorem SpK.below {w W V V' : World} {bs : List (Option (Nat × Dat))} {B4 : Nat} {n : Int} {gQ r : Nat} (h : SpK w W V bs B4 n gQ r) (hb : Below V.heap.size V V') : SpK w W V' bs B4 n gQ r := ⟨h.1.below hb, h.2.trans (keeps_below hb)⟩
theorem box_ne4 {V : World} {B4 X : Nat} {v : Value} {cs : Array Value} {m : Nat × Nat} (h : Boxed V B4 3 v) (hx : V.heap[X]? = some (.cells cs 65 m)) : B4 ≠ X := fun e => by
  subst e
  have := hx.symm.trans h
  simp only [Option.some.injEq, Obj.cells.injEq] at this
  exact absurd this.2.1 (by decide)
theorem far_put4 (V : World) (C : Nat) (x y z u : Value) (B : Nat) (h : B ≠ C) : (put4 V C x y z u).heap[B]? = V.heap[B]? :=
  (Below.heap_setCell _ ⟨C, 3, none⟩ u B h).trans ((Below.heap_setCell _ ⟨C, 2, none⟩ z B h).trans ((Below.heap_setCell _ ⟨C, 1, none⟩ y B h).trans (Below.heap_setCell V ⟨C, 0, none⟩ x B h)))
/-- A box that is made on the way, at whatever time. -/
def AbS (d : Bool) (w W V : World) (bs : List (Option (Nat × Dat))) (B4 : Nat) (n : Int) (gQ r : Nat) (t : Value) : Prop :=
  (d = false → SpK w W V bs B4 n gQ r) ∧ (d = true → ∃ Bc, t = .pointer (some ⟨Bc, 0, none⟩) ∧ SpK w W V (bs ++ [some (Bc, .rat 0)]) B4 n gQ r)
def AbF (w W V : World) (bs : List (Option (Nat × Dat))) (B4 : Nat) (n : Int) (gQ r : Nat) (t : Value) (c : Rat) : Prop := ∃ Bc, t = .pointer (some ⟨Bc, 0, none⟩) ∧ SpK w W V (bs ++ [some (Bc, .rat c)]) B4 n gQ r
theorem AbF.below {w W V V' : World} {bs : List (Option (Nat × Dat))} {B4 : Nat} {n : Int} {gQ r : Nat} {t : Value} {c : Rat} (h : AbF w W V bs B4 n gQ r t c) (hb : Below V.heap.size V V') : AbF w W V' bs B4 n gQ r t c := by
  obtain ⟨Bc, e, h⟩ := h
  exact ⟨Bc, e, h.below hb⟩
theorem AbS.below {d : Bool} {w W V V' : World} {bs : List (Option (Nat × Dat))} {B4 : Nat} {n : Int} {gQ r : Nat} {t : Value} (h : AbS d w W V bs B4 n gQ r t) (hb : Below V.heap.size V V') : AbS d w W V' bs B4 n gQ r t :=
  ⟨fun e => (h.1 e).below hb, fun e => by obtain ⟨Bc, e2, h2⟩ := h.2 e; exact ⟨Bc, e2, h2.below hb⟩⟩
theorem AbS.base {d : Bool} {w W V : World} {bs : List (Option (Nat × Dat))} {B4 : Nat} {n : Int} {gQ r : Nat} {t : Value} (h : AbS d w W V bs B4 n gQ r t) : SpK w W V bs B4 n gQ r := by
  cases d with
  | false => exact h.1 rfl
  | true =>
    obtain ⟨Bc, _, ⟨h1, h2⟩, h3⟩ := h.2 rfl
    have := h1.take bs.length
    rw [List.take_left' rfl] at this
    exact ⟨⟨this, h2⟩, h3⟩
theorem AbS.alloc {w W V : World} {bs : List (Option (Nat × Dat))} {B4 : Nat} {n : Int} {gQ r : Nat} {t : Value} (h : AbS false w W V bs B4 n gQ r t) : AbS true w W (V.alloc (.cells #[.bool false, .slice none 0 0, .bool false, .slice none 0 0] 65)) bs B4 n gQ r (.pointer (some ⟨V.heap.size, 0, none⟩)) := by
  have h0 := h.1 rfl
  have h1 := h0.below ((Below.refl _ V).alloc (Nat.le_refl _) (.cells #[.bool false, .slice none 0 0, .bool false, .slice none 0 0] 65))
  exact ⟨(fun e => by cases e), fun _ => ⟨_, rfl, ⟨h0.1.1.push (.rat 0) (rat0 _), h1.1.2⟩, h1.2⟩⟩
def Tr0 (_ : World) : Prop := True
theorem Tr0.below {V V' : World} (_ : Tr0 V) (_ : Below V.heap.size V V') : Tr0 V' := trivial
def TupF (d : Bool) (V : World) (t : Value) (c : Rat) : Prop := ∃ u, t = .tuple #[u, .bool true] ∧ (d = false → IsRat V u c)
theorem TupF.below {d : Bool} {V V' : World} {t : Value} {c : Rat} (h : TupF d V t c) (hb : Below V.heap.size V V') : TupF d V' t c := by
  obtain ⟨u, e, h⟩ := h
  exact ⟨u, e, fun e => (h e).below hb⟩
theorem TupF.drop {d : Bool} {V : World} {t : Value} {c : Rat} (h : TupF d V t c) (V' : World) : TupF true V' t c := by
  obtain ⟨u, e, _⟩ := h
  exact ⟨u, e, fun e => by cases e⟩
theorem cell_set_ne {V : World} {g o o' : Nat} {x : Value} (h : o ≠ o') : (V.setCell ⟨g, o', none⟩ x).cell? ⟨g, o, none⟩ = V.cell? ⟨g, o, none⟩ := World.cell?_setCell_other _ _ _ _ (by intro e; cases e; exact h rfl)
theorem ZQ.put {V : World} {g i : Nat} (h : ZQ V g (i + 1)) (x y z u : Value) : ZQ (putAt V g (i * 4) x y z u) g i := fun j hj => by
  obtain ⟨h0, h1, h2, h3⟩ := h j (by omega)
  unfold putAt
  refine ⟨?_, ?_, ?_, ?_⟩
  · rw [cell_set_ne (by omega), cell_set_ne (by omega), cell_set_ne (by omega), cell_set_ne (by omega)]; exact h0
  · rw [cell_set_ne (by omega), cell_set_ne (by omega), cell_set_ne (by omega), cell_set_ne (by omega)]; exact h1
  · rw [cell_set_ne (by omega), cell_set_ne (by omega), cell_set_ne (by omega), cell_set_ne (by omega)]; exact h2
  · rw [cell_set_ne (by omega), cell_set_ne (by omega), cell_set_ne (by omega), cell_set_ne (by omega)]; exact h3
theorem _root_.Go.Proofs.YteldjhhjnchdeaaGreatDoor.IsPoly.setP {V : World} {v : Value} {ps : List Rat} (h : IsPoly V v ps) {B : Nat} {a : Option Addr} {l c : Nat} (b : Boxed V B 25 (.slice a l c)) (x : Value) : IsPoly (V.setCell ⟨B, 0, none⟩ x) v ps := by
  obtain ⟨u, e, h1⟩ := h
  exact ⟨u, e, boxP b x h1⟩
theorem boxed_below {V V' : World} {B : Nat} {t : TypeId} {v : Value} (h : Boxed V B t v) (hb : Below V.heap.size V V') : Boxed V' B t v := (hb.block B h.lt).trans h
/-- At the end of the rounds. -/
def DnS (w V : World) (D B5 B6 : Nat) (rs ql : Value) (R Q : List Rat) : Prop :=
  Boxed V (w.heap.size + 1 + 1) 25 (.slice none 0 0) ∧ Boxed V (w.heap.size + 1 + 1 + 1) 25 (.slice none 0 0) ∧ Boxed V B5 23 rs ∧ Boxed V B6 23 ql ∧ RowK true V rs R ∧ RowK true V ql Q ∧ Below w.heap.size w V ∧ V.heap[D]? = some (.deferred (some []))
theorem DnS.below {w V V' : World} {D B5 B6 : Nat} {rs ql : Value} {R Q : List Rat} (h : DnS w V D B5 B6 rs ql R Q) (hb : Below V.heap.size V V') : DnS w V' D B5 B6 rs ql R Q :=
  ⟨boxed_below h.1 hb, boxed_below h.2.1 hb, boxed_below h.2.2.1 hb, boxed_below h.2.2.2.1 hb, h.2.2.2.2.1.below hb, h.2.2.2.2.2.1.below hb, h.2.2.2.2.2.2.1.trans (hb.mono h.2.2.2.2.2.2.1.size), (hb.block D (Array.getElem?_eq_some_iff.1 h.2.2.2.2.2.2.2).1).trans h.2.2.2.2.2.2.2⟩
def Dn4 (d : Bool) (w V : World) (D : Nat) (t : Value) : Prop := d = true → ∃ v, t = .agg #[v] ∧ Boxed V (w.heap.size + 1 + 1) 25 v ∧ Boxed V (w.heap.size + 1 + 1 + 1) 25 (.slice none 0 0) ∧ Below w.heap.size w V ∧ V.heap[D]? = some (.deferred (some []))
theorem Dn4.below {d : Bool} {w V V' : World} {D : Nat} {t : Value} (h : Dn4 d w V D t) (hb : Below V.heap.size V V') : Dn4 d w V' D t := fun e => by
  obtain ⟨v, e1, h1, h2, h3, h4⟩ := h e
  exact ⟨v, e1, boxed_below h1 hb, boxed_below h2 hb, h3.trans (hb.mono h3.size), (hb.block D (Array.getElem?_eq_some_iff.1 h4).1).trans h4⟩
def Dn5 (w V : World) (D : Nat) (t t' : Value) (P P' : List Rat) : Prop := ∃ v v', t = .agg #[v] ∧ t' = .agg #[v'] ∧ Boxed V (w.heap.size + 1 + 1) 25 v ∧ Boxed V (w.heap.size + 1 + 1 + 1) 25 v' ∧ IsPoly V t P ∧ IsPoly V t' P' ∧ Below w.heap.size w V ∧ V.heap[D]? = some (.deferred (some []))
theorem Dn5.below {w V V' : World} {D : Nat} {t t' : Value} {P P' : List Rat} (h : Dn5 w V D t t' P P') (hb : Below V.heap.size V V') : Dn5 w V' D t t' P P' := by
  obtain ⟨v, v', e1, e2, h1, h2, h5, h6, h3, h4⟩ := h
  exact ⟨v, v', e1, e2, boxed_below h1 hb, boxed_below h2 hb, h5.below hb, h6.below hb, h3.trans (hb.mono h3.size), (hb.block D (Array.getElem?_eq_some_iff.1 h4).1).trans h4⟩
/-- A tuple of a fraction and true. -/
def TupQ (V : World) (t : Value) (c : Rat) : Prop := ∃ u, t = .tuple #[u, .bool true] ∧ IsRat V u c
theorem TupQ.below {V V' : World} {t : Value} {c : Rat} (h : TupQ V t c) (hb : Below V.heap.size V V') : TupQ V' t c := by
  obtain ⟨u, e, h⟩ := h
  exact ⟨u, e, h.below hb⟩

set_option maxRecDepth 100000 in
set_option maxHeartbeats 16000000 in
theorem ySplit_w (A : Nat) (pa qa : Option Addr) (la pc lb qc n m : Nat) (ps qs : List Rat) (w : World) (ha : RowK true w (.slice pa la pc) ps) (hb : RowK true w (.slice qa lb qc) qs) (hq : ∀ i, SmQ A (cf qs i)) (htq : trimQ qs = qs) (hq0 : qs ≠ []) (hL : ∀ k, k ≤ m → ∃ z, z + (2 * A + 1) ≤ 1000000 ∧ (k < m → 2 * z + 2 * (2 * A + 1) ≤ 1000000) ∧ (∀ i, SmQ z (cf (splitAt ps qs n m k).2 i)) ∧ ∀ i, SmQ (z + A) (cf (splitAt ps qs n m k).1 i)) (hn : lb = n + 1) (hm : la = m + n) (hm0 : 0 < m) :
    Calls Tryz.prog 22 #[.agg #[.slice pa la pc], .agg #[.slice qa lb qc]] w fun e w' => ∃ u v, e = .returned (.tuple #[u, v, .bool true]) ∧ IsPoly w' u (quoQ ps qs) ∧ IsPoly w' v (remQ ps qs) ∧ Below w.heap.size w w' := by
  have hmx : Tryz.prog.follows .mixedOrders = true := by kernel_rfl
  obtain ⟨hla, hca, hcma, hlma, s, t, aa, bb, ll, cc, kk, dd, hcp⟩ := ha.forms
  obtain ⟨hlb, hcb, hcmb, hlmb, s', t', aa', bb', ll', cc', kk', dd', hcq⟩ := hb.forms
  have M0 : Mem w _ _ := ((((Mem.nil w).push (.cell 25 (.slice pa la pc)) (cs := #[.slice pa la pc]) ⟨rfl, rfl⟩).push (.cell 25 (.slice qa lb qc)) (cs := #[.slice qa lb qc]) ⟨rfl, rfl⟩).push (.cell 25 (.slice none 0 0)) (cs := #[.slice none 0 0]) ⟨rfl, rfl⟩).push (.cell 25 (.slice none 0 0)) (cs := #[.slice none 0 0]) ⟨rfl, rfl⟩
  simp only [World.size_alloc] at M0
  obtain ⟨V0, hV0⟩ : ∃ V, (((w.alloc (.cells #[.slice pa la pc] 25)).alloc (.cells #[.slice qa lb qc] 25)).alloc (.cells #[.slice none 0 0] 25)).alloc (.cells #[.slice none 0 0] 25) = V := ⟨_, rfl⟩
  have M1 : Mem w V0 [some (w.heap.size, .cell 25 (.slice pa la pc)), some (w.heap.size + 1, .cell 25 (.slice qa lb qc)), some (w.heap.size + 1 + 1, .cell 25 (.slice none 0 0)), some (w.heap.size + 1 + 1 + 1, .cell 25 (.slice none 0 0))] := by rw [← hV0]; exact M0
  have HM1 := hidD M1
  have HDG := hidD (show Calls Tryz.prog 20 #[.agg #[.slice qa lb qc]] V0 fun e w' => e = .returned (.int .i64 (n : Int)) ∧ Below V0.heap.size V0 w' by
    have h := yDegree_c (.agg #[.slice qa lb qc]) qs V0 ⟨_, rfl, hb.below M1.2.2⟩
    rwa [show ((qs.length : Int) - 1) = (n : Int) by omega] at h)
  have HCL := hidD (fun (V : World) (h : Below w.heap.size w V) => oclone2_c (.slice pa la pc) ps V (ha.below h))
  have hmk : ∀ W : World, (Instr.makeSlice 23 (.int .i64 (m : Int)) (.int .i64 (m : Int))).run Tryz.prog W = .ok (.slice (some ⟨W.heap.size, 0, none⟩) m m) (W.alloc (.cells (zeroQ m) 65)) := fun W => make_rats m (by omega) W
  have hsub : (la : Int) - (n : Int) = (m : Int) := by omega
  have hwm : IntKind.i64.wrap (m : Int) = (m : Int) := by rw [IntKind.wrap_i64]; omega
  have hmax : max (0 : Int) (m : Int) = (m : Int) := by omega
  have hnn : ¬ (n : Int) < 0 := by omega
  have HP := hidD hcp
  have HQ := hidD hcq
  have HLA := hidD hla
  have HLB := hidD hlb
  have HN := hidD (show lb = n + 1 ∧ la = m + n ∧ 0 < m from ⟨hn, hm, hm0⟩)
  have HSQ := hidD hq
  have HTQ := hidD htq
  have HQ0 := hidD hq0
  have HL := hidD hL
  have HV0 := hidD hV0
  have hmle : m ≤ 1099511627776 := by omega
  clear ha hb hcp hcq hla hlb hca hcma hcb hcmb hq htq hq0 hL hn hm hm0 M0 M1 hV0
  have c1 := (HM1.out.cell (i := 1) rfl).1.cell
  refine (callsIn_wide (n := 3)).1 ?_
  refine callsIn_of_wp_marks Tryz.func22 rfl trivial ?_ rfl
  simp only [Tryz.ntmps22, List.size_toArray, List.length_cons, List.length_nil, Nat.reduceAdd, Nat.reduceSub, Array.replicate_succ, Array.replicate_zero, List.push_toArray, List.append_toArray, List.nil_append, List.cons_append]
  gi_wp2_with fail
  rw [HV0.out]
  refine ⟨trivial, ?_⟩
  refine ((callsIn_wide (n := _)).2 HDG.out).mono ?_
  rintro e w1 ⟨rfl, hb1⟩
  have hA1 : Below w1.heap.size w1 (w1.alloc (.cells #[.int .i64 (n : Int)] 3)) := (Below.refl _ w1).alloc (Nat.le_refl _) _
  have hM2 := (HM1.out.below hb1).below hA1
  have h4 := Boxed.new w1 3 (.int .i64 (n : Int))
  have c0 := (hM2.cell (i := 0) rfl).1.cell
  have HCL1 := hidD (HCL.out _ hM2.2.2)
  have HM2 := hidD hM2
  have H4 := hidD h4
  clear hA1 hM2 h4 hb1 HDG c1 HV0 HM1 HCL
  gi_wp2_with fail
  obtain ⟨V1, hV1⟩ : ∃ V, w1.alloc (.cells #[.int .i64 (n : Int)] 3) = V := ⟨_, rfl⟩
  obtain ⟨B4, hB4⟩ : ∃ B, w1.heap.size = B := ⟨_, rfl⟩
  rw [hV1] at HCL1 HM2 H4 c0
  rw [hB4] at H4
  rw [hV1, hB4]
  clear hV1 hB4
  refine ⟨trivial, ?_⟩
  refine ((callsIn_wide (n := _)).2 HCL1.out).mono ?_
  rintro e w2 ⟨u2, rfl, hu2, _, hb2, hor⟩
  have hex : ∃ gR rc, u2 = .slice (some ⟨gR, 0, none⟩) la rc ∧ V1.heap.size ≤ gR ∧ Els true w2 gR ps ∧ la ≤ rc ∧ rc ≤ 9223372036854775807 := by
    obtain ⟨_, cap7, e7, h7, h8, _⟩ := id hu2
    rcases hor with rfl | ⟨g', cap, e1, e2, e3⟩
    · exfalso
      obtain ⟨_, _, e, _⟩ := hu2
      injection e with _ e _
      have := HLA.out
      have := HN.out
      omega
    · rw [e1] at e7
      have e8 : cap = cap7 := by injection e7
      exact ⟨g', cap, by rw [e1, HLA.out], e2, e3, by rw [HLA.out, e8]; exact h7, by rw [e8]; exact h8⟩
  obtain ⟨gR, rc, rfl, hgR, hER, hrc1, hrc2⟩ := hex
  have HRC := hidD (show la ≤ rc ∧ rc ≤ 9223372036854775807 from ⟨hrc1, hrc2⟩)
  clear hrc1 hrc2
  have hM3 := HM2.out.adopt hb2 hgR hER
  have h4 : Boxed w2 B4 3 (.int .i64 (n : Int)) := (hb2.block B4 H4.out.lt).trans H4.out
  have hA2 : Below w2.heap.size w2 (w2.alloc (.cells #[.slice (some ⟨gR, 0, none⟩) la rc] 23)) := (Below.refl _ w2).alloc (Nat.le_refl _) _
  have hM4 := hM3.push (.cell 23 (.slice (some ⟨gR, 0, none⟩) la rc)) (cs := #[.slice (some ⟨gR, 0, none⟩) la rc]) ⟨rfl, rfl⟩
  have h5 : Boxed (w2.alloc (.cells #[.slice (some ⟨gR, 0, none⟩) la rc] 23)) B4 3 (.int .i64 (n : Int)) := (hA2.block B4 h4.lt).trans h4
  have c4 := h5.cell
  have HM4 := hidD hM4
  have H5 := hidD h5
  clear hor hu2 hb2 hgR hER hM3 h4 hA2 hM4 h5 HM2 H4 HCL1 c0
  gi_wp2_with fail
  refine ⟨trivial, ?_⟩
  refine (obwd_in Fence.wide _ trivial rfl _ _ _ _).mono ?_
  rintro e w3 ⟨rfl, rfl⟩
  have hM5 : Mem w ((((w2.alloc (.cells #[.slice (some ⟨gR, 0, none⟩) la rc] 23)).alloc (.cells (zeroQ m) 65)).alloc (.cells #[.slice (some ⟨w2.heap.size + 1, 0, none⟩) m m] 23)).alloc (.cells #[.slice (some ⟨w2.heap.size + 1, 0, none⟩) m m] 23)) (spBs w pa qa la pc lb qc m gR rc w2.heap.size (w2.heap.size + 1) (w2.heap.size + 1 + 1) (w2.heap.size + 1 + 1 + 1) ps (List.replicate m 0)) := by
    have h := ((HM4.out.push (.rats (List.replicate m 0)) (has_zeros _ m)).push (.cell 23 (.slice (some ⟨w2.heap.size + 1, 0, none⟩) m m)) (cs := #[.slice (some ⟨w2.heap.size + 1, 0, none⟩) m m]) ⟨rfl, rfl⟩).push (.cell 23 (.slice (some ⟨w2.heap.size + 1, 0, none⟩) m m)) (cs := #[.slice (some ⟨w2.heap.size + 1, 0, none⟩) m m]) ⟨rfl, rfl⟩
    simp only [World.size_alloc] at h
    exact h
  have hAA : Below (w2.alloc (.cells #[.slice (some ⟨gR, 0, none⟩) la rc] 23)).heap.size (w2.alloc (.cells #[.slice (some ⟨gR, 0, none⟩) la rc] 23)) ((((w2.alloc (.cells #[.slice (some ⟨gR, 0, none⟩) la rc] 23)).alloc (.cells (zeroQ m) 65)).alloc (.cells #[.slice (some ⟨w2.heap.size + 1, 0, none⟩) m m] 23)).alloc (.cells #[.slice (some ⟨w2.heap.size + 1, 0, none⟩) m m] 23)) :=
    (((Below.refl _ _).alloc (Nat.le_refl _) _).alloc (by simp only [World.size_alloc]; omega) _).alloc (by simp only [World.size_alloc]; omega) _
  have h6 : Boxed _ B4 3 (.int .i64 (n : Int)) := (hAA.block B4 H5.out.lt).trans H5.out
  have hz : ((((w2.alloc (.cells #[.slice (some ⟨gR, 0, none⟩) la rc] 23)).alloc (.cells (zeroQ m) 65)).alloc (.cells #[.slice (some ⟨w2.heap.size + 1, 0, none⟩) m m] 23)).alloc (.cells #[.slice (some ⟨w2.heap.size + 1, 0, none⟩) m m] 23)).heap[w2.heap.size + 1]? = some (.cells (zeroQ m) 65 (0, 0)) := by
    have e := World.alloc_heap_new (w2.alloc (.cells #[.slice (some ⟨gR, 0, none⟩) la rc] 23)) (.cells (zeroQ m) 65)
    rw [World.size_alloc] at e
    exact (Below.heap_alloc _ _ _ (by simp only [World.size_alloc]; omega)).trans ((Below.heap_alloc _ _ _ (by simp only [World.size_alloc]; omega)).trans e)
  have hsz : ((((w2.alloc (.cells #[.slice (some ⟨gR, 0, none⟩) la rc] 23)).alloc (.cells (zeroQ m) 65)).alloc (.cells #[.slice (some ⟨w2.heap.size + 1, 0, none⟩) m m] 23)).alloc (.cells #[.slice (some ⟨w2.heap.size + 1, 0, none⟩) m m] 23)).heap.size = w2.heap.size + 1 + 1 + 1 + 1 := by simp only [World.size_alloc]
  obtain ⟨W3, hW3⟩ : ∃ W, (((w2.alloc (.cells #[.slice (some ⟨gR, 0, none⟩) la rc] 23)).alloc (.cells (zeroQ m) 65)).alloc (.cells #[.slice (some ⟨w2.heap.size + 1, 0, none⟩) m m] 23)).alloc (.cells #[.slice (some ⟨w2.heap.size + 1, 0, none⟩) m m] 23) = W := ⟨_, rfl⟩
  rw [hW3] at hM5 h6 hz hsz
  rw [hW3]
  simp only [World.size_alloc]
  obtain ⟨B5, hB5⟩ : ∃ B, w2.heap.size = B := ⟨_, rfl⟩
  rw [hB5] at hM5 hz hsz
  rw [hB5]
  have HS3 := hidD (show SpB w W3 (spBs w pa qa la pc lb qc m gR rc B5 (B5 + 1) (B5 + 1 + 1) (B5 + 1 + 1 + 1) ps (List.replicate m 0)) B4 (n : Int) (B5 + 1) m from
    ⟨hM5, h6, fun j hj => by
      obtain ⟨h0, h1, h2, h3⟩ := zeroQ_at hj
      exact ⟨cell_of hz h0, cell_of hz h1, cell_of hz h2, cell_of hz h3⟩, by rw [hsz]; omega⟩)
  have HSZ := hidD hsz
  clear hM5 hAA h6 hz hsz hW3 hB5 HM4 H5 c4
  gi_wp2_with fail
  have HBW := hidD (show w.heap.size ≤ W3.heap.size from HS3.out.1.2.2.size)
  refine wpIn_rangeN rfl (by omega) (gf := 67) (lb := #[.pointer (some ⟨B5 + 1 + 1 + 1, 0, none⟩)]) rfl trivial (enters_of Tryz.func67 (by kernel_rfl) rfl)
    (obwd1_seq Fence.wide _ trivial rfl (by omega) (B5 + 1 + 1 + 1) (some ⟨B5 + 1, 0, none⟩) m m (fun _ => .bool false) (fun _ => .slice none 0 0) (fun _ => .bool false) (fun _ => .slice none 0 0) hmle) (fun _ => rfl)
    (fun k W => SpB w W (spBs w pa qa la pc lb qc m gR rc B5 (B5 + 1) (B5 + 1 + 1) (B5 + 1 + 1 + 1) (splitAt ps qs n m k).2 (splitAt ps qs n m k).1) B4 (n : Int) (B5 + 1) (m - k)) (fun _ _ _ => False)
    (fun k W W' row h hg hr => h.own (by obtain ⟨cs, h1, _⟩ := h.1.rats (i := 6) rfl; exact ⟨cs, _, _, h1⟩) hg (fun r e => ⟨Nat.le_trans HBW.out (hr r e).1, (hr r e).2⟩))
    (fun c s W W' row h => h.elim) HS3.out ?rd
    (fun k => { tmps := #[Value.agg #[Value.slice pa la pc], Value.agg #[Value.slice qa lb qc], Value.pointer (some { block := w.heap.size, off := 0 }), Value.pointer (some { block := w.heap.size + 1, off := 0 }), Value.pointer (some { block := w.heap.size + 1 + 1, off := 0 }), Value.pointer (some { block := w.heap.size + 1 + 1 + 1, off := 0 }), Value.bool false, Value.pointer (some { block := B4, off := 0 }), Value.pointer (some { block := B5, off := 0 }), Value.pointer (some { block := B5 + 1 + 1, off := 0 }), .int .i64 ((m : Int) - 1 - k), undef, undef, undef, undef, Value.agg #[Value.slice qa lb qc], Value.int IntKind.i64 ↑n, Value.int IntKind.i64 ↑n, Value.bool (decide ((n : Int) < 0)), undef, undef, Value.pointer (some { block := w.heap.size, off := 0 }), Value.slice pa la pc, Value.slice (some { block := gR, off := 0 }) la rc, Value.slice (some { block := gR, off := 0 }) la rc, Value.int IntKind.i64 ↑la, Value.int IntKind.i64 ↑n, Value.int IntKind.i64 ↑m, Value.int IntKind.i64 ↑m, Value.slice (some { block := B5 + 1, off := 0 }) m m, Value.slice (some { block := B5 + 1, off := 0 }) m m, Value.func (Fn.func 67) #[] #[Value.pointer (some { block := B5 + 1 + 1 + 1, off := 0 })], .int .i64 ((m : Int) - 1 - k), Value.agg #[.bool false, .slice none 0 0, .bool false, .slice none 0 0], undef, undef, undef, undef, undef, undef, undef, undef, undef, undef, undef, undef, undef, undef, undef, undef, undef, undef, undef, undef, undef, undef, undef, undef, undef, undef, undef, undef, undef, undef, undef, undef, undef, undef, undef, undef, undef, undef, undef, undef, undef, undef, undef, undef, undef, undef, undef], defers := [] }) ?assign ?body ?done ?stop
  case stop => intro D c k W _ _ h; exact h.elim
  case rd =>
    intro k W h
    refine ⟨(h.1.cell (i := 8) rfl).1.cell, fun hk => ?_⟩
    obtain ⟨h0, h1, h2, h3⟩ := h.2.2.1 (m - 1 - k) (by omega)
    exact ⟨B5 + 1, rfl, h0, h1, h2, h3⟩
  case assign =>
    intro l k W K hK
    unfold bwqArgs
    gi_wp2
    exact hK
  case body =>
    intro l k W hS hk hsz
    obtain ⟨hiq, bq, rfl, hbq, q0, q1, q2, q3⟩ := HQ.out n (by have := HN.out; omega)
    have HQC := hidD (show ∀ j, j < lb → ∀ V, Below w.heap.size w V → (V.cell? ⟨bq, j * 4, none⟩ = some (.bool (s' j)) ∧ V.cell? ⟨bq, j * 4 + 1, none⟩ = some (.slice (aa' j) (ll' j) (cc' j)) ∧ V.cell? ⟨bq, j * 4 + 2, none⟩ = some (.bool (t' j)) ∧ V.cell? ⟨bq, j * 4 + 3, none⟩ = some (.slice (bb' j) (kk' j) (dd' j))) ∧ IsRat V (.agg #[.bool (s' j), .slice (aa' j) (ll' j) (cc' j), .bool (t' j), .slice (bb' j) (kk' j) (dd' j)]) (cf qs j) from fun j hj V hB => by
      obtain ⟨hi, b, e, hb, c0, c1, c2, c3⟩ := HQ.out j hj
      cases e
      exact ⟨⟨(hB.cell (p := ⟨bq, _, none⟩) hb).trans c0, (hB.cell (p := ⟨bq, _, none⟩) hb).trans c1, (hB.cell (p := ⟨bq, _, none⟩) hb).trans c2, (hB.cell (p := ⟨bq, _, none⟩) hb).trans c3⟩, hi.below hB⟩)
    clear hiq hbq q0 q1 q2 q3
    have hlead : cf qs n ≠ 0 := by
      have := trim_last HTQ.out HQ0.out
      rwa [show qs.length - 1 = n by have := HN.out; have := HLB.out; omega] at this
    obtain ⟨z, hz0, hz1, hz2, hz3⟩ := HL.out k (by omega)
    have hz4 : z + (2 * A + 1) + (z + (2 * A + 1)) ≤ 1000000 := by have := hz1 (by omega); omega
    clear hz0
    obtain ⟨i, hi⟩ : ∃ i : Nat, m - (k + 1) = i := ⟨_, rfl⟩
    obtain ⟨R, hR⟩ : ∃ R, (splitAt ps qs n m k).2 = R := ⟨_, rfl⟩
    obtain ⟨Q, hQ⟩ : ∃ Q, (splitAt ps qs n m k).1 = Q := ⟨_, rfl⟩
    have hlR : R.length = la := by rw [← hR, (splitAt_length ps qs n m k).2]; exact HLA.out.symm
    have hlQ : Q.length = m := by rw [← hQ]; exact (splitAt_length ps qs n m k).1
    rw [hR, hQ] at hS
    rw [hR] at hz2
    obtain ⟨t0, ht0⟩ : ∃ t : Nat, i + n = t := ⟨_, rfl⟩
    obtain ⟨c, hc⟩ : ∃ c, cf R t0 / cf qs n = c := ⟨_, rfl⟩
    have hsp : splitAt ps qs n m (k + 1) = (Q.set i c, addAt R i (-c) qs qs.length) := by rw [splitAt]; simp only [hR, hQ, hi, ht0, hc]
    have hcs : SmQ (z + A) c := by rw [← hc]; exact (hz2 t0).div2 (HSQ.out n) hlead
    have HSC := hidD (show Sq c from Sq.of hcs (by omega))
    have HSQN := hidD (show ∀ j, Sq (cf qs j) from fun j => Sq.of (HSQ.out j) (by omega))
    have HSPR := hidD (show ∀ j, Sq (c * cf qs j) from fun j => Sq.of (hcs.mul2 (HSQ.out j)) (by omega))
    have HSX := hidD (show ∀ j t, Sq (cf (addAt R i (-c) qs j) t) from fun j t => by
      rcases cf_addAt_or R i (-c) qs j t with e | e
      · rw [e]; exact Sq.of (hz2 t) (by omega)
      · rw [e]; exact Sq.of ((hz2 t).add2 (hcs.neg.mul2 (HSQ.out _))) (by omega))
    have HSR := hidD (show Sq (cf R t0) from Sq.of (hz2 t0) (by omega))
    have HCX := hidD hc
    have HLE := hidD hlead
    have HDEC := hidD (show decide (cf qs n ≠ 0) = true from decide_eq_true hlead)
    have HSPL := hidD hsp
    have HLR := hidD (show R.length = la ∧ Q.length = m ∧ t0 < la ∧ i < m ∧ m - k = i + 1 ∧ m - (k + 1) = i by have := HN.out; omega)
    have hii : (m : Int) - 1 - (k : Int) = (i : Int) := by omega
    have hadd : (i : Int) + (n : Int) = (t0 : Int) := by omega
    have hwt : IntKind.i64.wrap (t0 : Int) = (t0 : Int) := by rw [IntKind.wrap_i64]; have := HN.out; omega
    have htl : (t0 : Int) < (la : Int) := by have := HLR.out; omega
    have hnl : (n : Int) < (lb : Int) := by have := HN.out; omega
    have him : (i : Int) < (m : Int) := by have := HLR.out; omega
    rw [hii]
    have ST0 : AbS false w W W.drew (spBs w pa (some ⟨bq, 0, none⟩) la pc lb qc m gR rc B5 (B5 + 1) (B5 + 1 + 1) (B5 + 1 + 1 + 1) R Q) B4 (n : Int) (B5 + 1) (m - k) undef := ⟨fun _ => ⟨hS.below ((Below.refl _ W).drew), keeps_below ((Below.refl _ W).drew)⟩, fun e => by cases e⟩
    clear hS hi hR hQ hlR hlQ ht0 hc hcs hz1 hz2 hz3 hz4 hlead hsp hii hsz HS3
    gi_wp2_with fail
    refine wpIn_region_tab hmx [[], [], [], [1, 2], [0, 3], [4], [], [6], [], [7, 8], [9], [5, 10], [11], [12], [12], [], [15, 13, 11, 0, 1, 2, 3, 4, 5, 6, 7, 8, 9, 10, 11, 12, 13, 15], [14, 16, 0, 1, 2, 3, 4, 5, 6, 7, 8, 9, 10, 11, 12, 13, 14, 15, 16]] (by kernel_rfl) (by decide)
      (fun D act V => ∃ (t35x t36x t37x t38x t39x t40x t41x t42x t43x t44x t45x t46x t34x t47x t48x t11x t12x : Value), act = { tmps := #[Value.agg #[Value.slice pa la pc], Value.agg #[Value.slice (some { block := bq, off := 0 }) lb qc], Value.pointer (some { block := w.heap.size, off := 0 }), Value.pointer (some { block := w.heap.size + 1, off := 0 }), Value.pointer (some { block := w.heap.size + 1 + 1, off := 0 }), Value.pointer (some { block := w.heap.size + 1 + 1 + 1, off := 0 }), Value.bool false, Value.pointer (some { block := B4, off := 0 }), Value.pointer (some { block := B5, off := 0 }), Value.pointer (some { block := B5 + 1 + 1, off := 0 }), Value.int IntKind.i64 ↑i, t11x, t12x, undef, undef, Value.agg #[Value.slice (some { block := bq, off := 0 }) lb qc], Value.int IntKind.i64 ↑n, Value.int IntKind.i64 ↑n, Value.bool (decide (↑n < 0)), undef, undef, Value.pointer (some { block := w.heap.size, off := 0 }), Value.slice pa la pc, Value.slice (some { block := gR, off := 0 }) la rc, Value.slice (some { block := gR, off := 0 }) la rc, Value.int IntKind.i64 ↑la, Value.int IntKind.i64 ↑n, Value.int IntKind.i64 ↑m, Value.int IntKind.i64 ↑m, Value.slice (some { block := B5 + 1, off := 0 }) m m, Value.slice (some { block := B5 + 1, off := 0 }) m m, Value.func (Fn.func 67) #[] #[Value.pointer (some { block := B5 + 1 + 1 + 1, off := 0 })], Value.int IntKind.i64 ↑i, Value.agg #[Value.bool false, Value.slice none 0 0, Value.bool false, Value.slice none 0 0], t34x, t35x, t36x, t37x, t38x, t39x, t40x, t41x, t42x, t43x, t44x, t45x, t46x, t47x, t48x, undef, undef, undef, undef, undef, undef, undef, undef, undef, undef, undef, undef, undef, undef, undef, undef, undef, undef, undef, undef, undef, undef, undef, undef, undef, undef, undef, undef, undef, undef, undef, undef], defers := [] } ∧ Hid ((D 0 = true → t35x = .slice (some ⟨gR, 0, none⟩) la rc) ∧ (D 1 = true → t36x = .int .i64 (i : Int)) ∧ (D 2 = true → t37x = .int .i64 (n : Int)) ∧ (D 3 = true → t38x = .int .i64 (t0 : Int)) ∧ (D 4 = true → t39x = .pointer (some ⟨gR, t0 * 4, none⟩)) ∧ (D 5 = true → D 16 = false → IsRat V t40x (cf R t0)) ∧ (D 6 = true → t41x = .pointer (some ⟨w.heap.size + 1, 0, none⟩)) ∧ (D 7 = true → t42x = .slice (some ⟨bq, 0, none⟩) lb qc) ∧ (D 8 = true → t43x = .int .i64 (n : Int)) ∧ (D 9 = true → t44x = .pointer (some ⟨bq, n * 4, none⟩)) ∧ (D 10 = true → D 16 = false → IsRat V t45x (cf qs n)) ∧ (D 11 = true → D 16 = false → TupQ V t46x c) ∧ (D 12 = true → TupF (D 16) V t34x c) ∧ (D 13 = true → D 16 = false → IsRat V t47x c) ∧ (D 14 = true → t48x = .bool true) ∧ (D 15 = true → Tr0 V) ∧ (D 17 = true → t12x = .bool true)) ∧ Hid ((D 16 = false → AbS (D 15) w W V (spBs w pa (some ⟨bq, 0, none⟩) la pc lb qc m gR rc B5 (B5 + 1) (B5 + 1 + 1) (B5 + 1 + 1 + 1) R Q) B4 (n : Int) (B5 + 1) (m - k) t11x) ∧ (D 16 = true → AbF w W V (spBs w pa (some ⟨bq, 0, none⟩) la pc lb qc m gR rc B5 (B5 + 1) (B5 + 1 + 1) (B5 + 1 + 1 + 1) R Q) B4 (n : Int) (B5 + 1) (m - k) t11x c)))
      ⟨_, _, _, _, _, _, _, _, _, _, _, _, _, _, _, _, _, rfl, hidD ⟨by simp, by simp, by simp, by simp, by simp, by simp, by simp, by simp, by simp, by simp, by simp, by simp, by simp, by simp, by simp, by simp, by simp⟩, hidD ⟨fun _ => ST0, by simp⟩⟩ ?step1 ?fin1
    case step1 =>
      rintro D act V i ds hcl hi hds hDi ⟨t35x, t36x, t37x, t38x, t39x, t40x, t41x, t42x, t43x, t44x, t45x, t46x, t34x, t47x, t48x, t11x, t12x, rfl, GG, SS0⟩
      have hi6 : i < 18 := (List.getElem?_eq_some_iff.1 hi).1
      obtain rfl | rfl | rfl | rfl | rfl | rfl | rfl | rfl | rfl | rfl | rfl | rfl | rfl | rfl | rfl | rfl | rfl | rfl : i = 0 ∨ i = 1 ∨ i = 2 ∨ i = 3 ∨ i = 4 ∨ i = 5 ∨ i = 6 ∨ i = 7 ∨ i = 8 ∨ i = 9 ∨ i = 10 ∨ i = 11 ∨ i = 12 ∨ i = 13 ∨ i = 14 ∨ i = 15 ∨ i = 16 ∨ i = 17 := by omega
      all_goals
        simp only [List.getElem?_cons_zero, List.getElem?_cons_succ, Option.some.injEq] at hi
        subst hi
      · have hf0 : D 16 = false := by
          cases h : D 16 with
          | false => rfl
          | true => rw [(hcl 16 _ rfl h 0 (by simp))] at hDi; cases hDi
        have hS0 := SS0.out.1 hf0
        have hB := hS0.base
        have e5 := (hB.1.1.cell (i := 5) rfl).1.cell
        clear hds
        refine wpOpIn_step rfl (fun K hK => ?_)
        go_simp
        exact hK _ _ ⟨_, _, _, _, _, _, _, _, _, _, _, _, _, _, _, _, _, rfl, hidD ⟨fun _ => rfl, GG.out.2.1, GG.out.2.2.1, GG.out.2.2.2.1, GG.out.2.2.2.2.1, fun h h2 => (GG.out.2.2.2.2.2.1 h (by simpa using h2)), GG.out.2.2.2.2.2.2.1, GG.out.2.2.2.2.2.2.2.1, GG.out.2.2.2.2.2.2.2.2.1, GG.out.2.2.2.2.2.2.2.2.2.1, fun h h2 => (GG.out.2.2.2.2.2.2.2.2.2.2.1 h (by simpa using h2)), fun h h2 => (GG.out.2.2.2.2.2.2.2.2.2.2.2.1 h (by simpa using h2)), GG.out.2.2.2.2.2.2.2.2.2.2.2.2.1, fun h h2 => (GG.out.2.2.2.2.2.2.2.2.2.2.2.2.2.1 h (by simpa using h2)), GG.out.2.2.2.2.2.2.2.2.2.2.2.2.2.2.1, GG.out.2.2.2.2.2.2.2.2.2.2.2.2.2.2.2.1, GG.out.2.2.2.2.2.2.2.2.2.2.2.2.2.2.2.2⟩, hidD ⟨fun h => (SS0.out.1 (by simpa using h)), fun h => (SS0.out.2 (by simpa using h))⟩⟩
      · have hf0 : D 16 = false := by
          cases h : D 16 with
          | false => rfl
          | true => rw [(hcl 16 _ rfl h 1 (by simp))] at hDi; cases hDi
        have hS0 := SS0.out.1 hf0
        clear hds
        refine wpOpIn_step rfl (fun K hK => ?_)
        go_simp
        exact hK _ _ ⟨_, _, _, _, _, _, _, _, _, _, _, _, _, _, _, _, _, rfl, hidD ⟨GG.out.1, fun _ => rfl, GG.out.2.2.1, GG.out.2.2.2.1, GG.out.2.2.2.2.1, fun h h2 => (GG.out.2.2.2.2.2.1 h (by simpa using h2)), GG.out.2.2.2.2.2.2.1, GG.out.2.2.2.2.2.2.2.1, GG.out.2.2.2.2.2.2.2.2.1, GG.out.2.2.2.2.2.2.2.2.2.1, fun h h2 => (GG.out.2.2.2.2.2.2.2.2.2.2.1 h (by simpa using h2)), fun h h2 => (GG.out.2.2.2.2.2.2.2.2.2.2.2.1 h (by simpa using h2)), GG.out.2.2.2.2.2.2.2.2.2.2.2.2.1, fun h h2 => (GG.out.2.2.2.2.2.2.2.2.2.2.2.2.2.1 h (by simpa using h2)), GG.out.2.2.2.2.2.2.2.2.2.2.2.2.2.2.1, GG.out.2.2.2.2.2.2.2.2.2.2.2.2.2.2.2.1, GG.out.2.2.2.2.2.2.2.2.2.2.2.2.2.2.2.2⟩, hidD ⟨fun h => (SS0.out.1 (by simpa using h)), fun h => (SS0.out.2 (by simpa using h))⟩⟩
      · have hf0 : D 16 = false := by
          cases h : D 16 with
          | false => rfl
          | true => rw [(hcl 16 _ rfl h 2 (by simp))] at hDi; cases hDi
        have hS0 := SS0.out.1 hf0
        have hB := hS0.base
        have e4 := hB.1.2.1.cell
        clear hds
        refine wpOpIn_step rfl (fun K hK => ?_)
        go_simp
        exact hK _ _ ⟨_, _, _, _, _, _, _, _, _, _, _, _, _, _, _, _, _, rfl, hidD ⟨GG.out.1, GG.out.2.1, fun _ => rfl, GG.out.2.2.2.1, GG.out.2.2.2.2.1, fun h h2 => (GG.out.2.2.2.2.2.1 h (by simpa using h2)), GG.out.2.2.2.2.2.2.1, GG.out.2.2.2.2.2.2.2.1, GG.out.2.2.2.2.2.2.2.2.1, GG.out.2.2.2.2.2.2.2.2.2.1, fun h h2 => (GG.out.2.2.2.2.2.2.2.2.2.2.1 h (by simpa using h2)), fun h h2 => (GG.out.2.2.2.2.2.2.2.2.2.2.2.1 h (by simpa using h2)), GG.out.2.2.2.2.2.2.2.2.2.2.2.2.1, fun h h2 => (GG.out.2.2.2.2.2.2.2.2.2.2.2.2.2.1 h (by simpa using h2)), GG.out.2.2.2.2.2.2.2.2.2.2.2.2.2.2.1, GG.out.2.2.2.2.2.2.2.2.2.2.2.2.2.2.2.1, GG.out.2.2.2.2.2.2.2.2.2.2.2.2.2.2.2.2⟩, hidD ⟨fun h => (SS0.out.1 (by simpa using h)), fun h => (SS0.out.2 (by simpa using h))⟩⟩
      · have hf0 : D 16 = false := by
          cases h : D 16 with
          | false => rfl
          | true => rw [(hcl 16 _ rfl h 3 (by simp))] at hDi; cases hDi
        have hS0 := SS0.out.1 hf0
        obtain rfl := GG.out.2.1 (hds 1 (by simp))
        obtain rfl := GG.out.2.2.1 (hds 2 (by simp))
        clear hds
        refine wpOpIn_step rfl (fun K hK => ?_)
        go_simp
        exact hK _ _ ⟨_, _, _, _, _, _, _, _, _, _, _, _, _, _, _, _, _, rfl, hidD ⟨GG.out.1, fun _ => rfl, fun _ => rfl, fun _ => rfl, GG.out.2.2.2.2.1, fun h h2 => (GG.out.2.2.2.2.2.1 h (by simpa using h2)), GG.out.2.2.2.2.2.2.1, GG.out.2.2.2.2.2.2.2.1, GG.out.2.2.2.2.2.2.2.2.1, GG.out.2.2.2.2.2.2.2.2.2.1, fun h h2 => (GG.out.2.2.2.2.2.2.2.2.2.2.1 h (by simpa using h2)), fun h h2 => (GG.out.2.2.2.2.2.2.2.2.2.2.2.1 h (by simpa using h2)), GG.out.2.2.2.2.2.2.2.2.2.2.2.2.1, fun h h2 => (GG.out.2.2.2.2.2.2.2.2.2.2.2.2.2.1 h (by simpa using h2)), GG.out.2.2.2.2.2.2.2.2.2.2.2.2.2.2.1, GG.out.2.2.2.2.2.2.2.2.2.2.2.2.2.2.2.1, GG.out.2.2.2.2.2.2.2.2.2.2.2.2.2.2.2.2⟩, hidD ⟨fun h => (SS0.out.1 (by simpa using h)), fun h => (SS0.out.2 (by simpa using h))⟩⟩
      · have hf0 : D 16 = false := by
          cases h : D 16 with
          | false => rfl
          | true => rw [(hcl 16 _ rfl h 4 (by simp))] at hDi; cases hDi
        have hS0 := SS0.out.1 hf0
        obtain rfl := GG.out.1 (hds 0 (by simp))
        obtain rfl := GG.out.2.2.2.1 (hds 3 (by simp))
        clear hds
        refine wpOpIn_step rfl (fun K hK => ?_)
        go_simp
        exact hK _ _ ⟨_, _, _, _, _, _, _, _, _, _, _, _, _, _, _, _, _, rfl, hidD ⟨fun _ => rfl, GG.out.2.1, GG.out.2.2.1, fun _ => rfl, fun _ => rfl, fun h h2 => (GG.out.2.2.2.2.2.1 h (by simpa using h2)), GG.out.2.2.2.2.2.2.1, GG.out.2.2.2.2.2.2.2.1, GG.out.2.2.2.2.2.2.2.2.1, GG.out.2.2.2.2.2.2.2.2.2.1, fun h h2 => (GG.out.2.2.2.2.2.2.2.2.2.2.1 h (by simpa using h2)), fun h h2 => (GG.out.2.2.2.2.2.2.2.2.2.2.2.1 h (by simpa using h2)), GG.out.2.2.2.2.2.2.2.2.2.2.2.2.1, fun h h2 => (GG.out.2.2.2.2.2.2.2.2.2.2.2.2.2.1 h (by simpa using h2)), GG.out.2.2.2.2.2.2.2.2.2.2.2.2.2.2.1, GG.out.2.2.2.2.2.2.2.2.2.2.2.2.2.2.2.1, GG.out.2.2.2.2.2.2.2.2.2.2.2.2.2.2.2.2⟩, hidD ⟨fun h => (SS0.out.1 (by simpa using h)), fun h => (SS0.out.2 (by simpa using h))⟩⟩
      · have hf0 : D 16 = false := by
          cases h : D 16 with
          | false => rfl
          | true => rw [(hcl 16 _ rfl h 5 (by simp))] at hDi; cases hDi
        have hS0 := SS0.out.1 hf0
        obtain rfl := GG.out.2.2.2.2.1 (hds 4 (by simp))
        have hB := hS0.base
        obtain ⟨xa, xb, xc, xd, e0, e1, e2, e3, hr⟩ := (hB.1.1.rats (i := 4) rfl).at (j := t0) (by have := HLR.out; omega)
        clear hds
        refine wpOpIn_step rfl (fun K hK => ?_)
        go_simp
        exact hK _ _ ⟨_, _, _, _, _, _, _, _, _, _, _, _, _, _, _, _, _, rfl, hidD ⟨GG.out.1, GG.out.2.1, GG.out.2.2.1, GG.out.2.2.2.1, fun _ => rfl, fun _ _ => hr, GG.out.2.2.2.2.2.2.1, GG.out.2.2.2.2.2.2.2.1, GG.out.2.2.2.2.2.2.2.2.1, GG.out.2.2.2.2.2.2.2.2.2.1, fun h h2 => (GG.out.2.2.2.2.2.2.2.2.2.2.1 h (by simpa using h2)), fun h h2 => (GG.out.2.2.2.2.2.2.2.2.2.2.2.1 h (by simpa using h2)), GG.out.2.2.2.2.2.2.2.2.2.2.2.2.1, fun h h2 => (GG.out.2.2.2.2.2.2.2.2.2.2.2.2.2.1 h (by simpa using h2)), GG.out.2.2.2.2.2.2.2.2.2.2.2.2.2.2.1, GG.out.2.2.2.2.2.2.2.2.2.2.2.2.2.2.2.1, GG.out.2.2.2.2.2.2.2.2.2.2.2.2.2.2.2.2⟩, hidD ⟨fun h => (SS0.out.1 (by simpa using h)), fun h => (SS0.out.2 (by simpa using h))⟩⟩
      · have hf0 : D 16 = false := by
          cases h : D 16 with
          | false => rfl
          | true => rw [(hcl 16 _ rfl h 6 (by simp))] at hDi; cases hDi
        have hS0 := SS0.out.1 hf0
        clear hds
        refine wpOpIn_step rfl (fun K hK => ?_)
        go_simp
        exact hK _ _ ⟨_, _, _, _, _, _, _, _, _, _, _, _, _, _, _, _, _, rfl, hidD ⟨GG.out.1, GG.out.2.1, GG.out.2.2.1, GG.out.2.2.2.1, GG.out.2.2.2.2.1, fun h h2 => (GG.out.2.2.2.2.2.1 h (by simpa using h2)), fun _ => rfl, GG.out.2.2.2.2.2.2.2.1, GG.out.2.2.2.2.2.2.2.2.1, GG.out.2.2.2.2.2.2.2.2.2.1, fun h h2 => (GG.out.2.2.2.2.2.2.2.2.2.2.1 h (by simpa using h2)), fun h h2 => (GG.out.2.2.2.2.2.2.2.2.2.2.2.1 h (by simpa using h2)), GG.out.2.2.2.2.2.2.2.2.2.2.2.2.1, fun h h2 => (GG.out.2.2.2.2.2.2.2.2.2.2.2.2.2.1 h (by simpa using h2)), GG.out.2.2.2.2.2.2.2.2.2.2.2.2.2.2.1, GG.out.2.2.2.2.2.2.2.2.2.2.2.2.2.2.2.1, GG.out.2.2.2.2.2.2.2.2.2.2.2.2.2.2.2.2⟩, hidD ⟨fun h => (SS0.out.1 (by simpa using h)), fun h => (SS0.out.2 (by simpa using h))⟩⟩
      · have hf0 : D 16 = false := by
          cases h : D 16 with
          | false => rfl
          | true => rw [(hcl 16 _ rfl h 7 (by simp))] at hDi; cases hDi
        have hS0 := SS0.out.1 hf0
        obtain rfl := GG.out.2.2.2.2.2.2.1 (hds 6 (by simp))
        have hB := hS0.base
        have e1 := (hB.1.1.cell (i := 1) rfl).1.cell
        clear hds
        refine wpOpIn_step rfl (fun K hK => ?_)
        go_simp
        exact hK _ _ ⟨_, _, _, _, _, _, _, _, _, _, _, _, _, _, _, _, _, rfl, hidD ⟨GG.out.1, GG.out.2.1, GG.out.2.2.1, GG.out.2.2.2.1, GG.out.2.2.2.2.1, fun h h2 => (GG.out.2.2.2.2.2.1 h (by simpa using h2)), fun _ => rfl, fun _ => rfl, GG.out.2.2.2.2.2.2.2.2.1, GG.out.2.2.2.2.2.2.2.2.2.1, fun h h2 => (GG.out.2.2.2.2.2.2.2.2.2.2.1 h (by simpa using h2)), fun h h2 => (GG.out.2.2.2.2.2.2.2.2.2.2.2.1 h (by simpa using h2)), GG.out.2.2.2.2.2.2.2.2.2.2.2.2.1, fun h h2 => (GG.out.2.2.2.2.2.2.2.2.2.2.2.2.2.1 h (by simpa using h2)), GG.out.2.2.2.2.2.2.2.2.2.2.2.2.2.2.1, GG.out.2.2.2.2.2.2.2.2.2.2.2.2.2.2.2.1, GG.out.2.2.2.2.2.2.2.2.2.2.2.2.2.2.2.2⟩, hidD ⟨fun h => (SS0.out.1 (by simpa using h)), fun h => (SS0.out.2 (by simpa using h))⟩⟩
      · have hf0 : D 16 = false := by
          cases h : D 16 with
          | false => rfl
          | true => rw [(hcl 16 _ rfl h 8 (by simp))] at hDi; cases hDi
        have hS0 := SS0.out.1 hf0
        have hB := hS0.base
        have e4 := hB.1.2.1.cell
        clear hds
        refine wpOpIn_step rfl (fun K hK => ?_)
        go_simp
        exact hK _ _ ⟨_, _, _, _, _, _, _, _, _, _, _, _, _, _, _, _, _, rfl, hidD ⟨GG.out.1, GG.out.2.1, GG.out.2.2.1, GG.out.2.2.2.1, GG.out.2.2.2.2.1, fun h h2 => (GG.out.2.2.2.2.2.1 h (by simpa using h2)), GG.out.2.2.2.2.2.2.1, GG.out.2.2.2.2.2.2.2.1, fun _ => rfl, GG.out.2.2.2.2.2.2.2.2.2.1, fun h h2 => (GG.out.2.2.2.2.2.2.2.2.2.2.1 h (by simpa using h2)), fun h h2 => (GG.out.2.2.2.2.2.2.2.2.2.2.2.1 h (by simpa using h2)), GG.out.2.2.2.2.2.2.2.2.2.2.2.2.1, fun h h2 => (GG.out.2.2.2.2.2.2.2.2.2.2.2.2.2.1 h (by simpa using h2)), GG.out.2.2.2.2.2.2.2.2.2.2.2.2.2.2.1, GG.out.2.2.2.2.2.2.2.2.2.2.2.2.2.2.2.1, GG.out.2.2.2.2.2.2.2.2.2.2.2.2.2.2.2.2⟩, hidD ⟨fun h => (SS0.out.1 (by simpa using h)), fun h => (SS0.out.2 (by simpa using h))⟩⟩
      · have hf0 : D 16 = false := by
          cases h : D 16 with
          | false => rfl
          | true => rw [(hcl 16 _ rfl h 9 (by simp))] at hDi; cases hDi
        have hS0 := SS0.out.1 hf0
        obtain rfl := GG.out.2.2.2.2.2.2.2.1 (hds 7 (by simp))
        obtain rfl := GG.out.2.2.2.2.2.2.2.2.1 (hds 8 (by simp))
        clear hds
        refine wpOpIn_step rfl (fun K hK => ?_)
        go_simp
        exact hK _ _ ⟨_, _, _, _, _, _, _, _, _, _, _, _, _, _, _, _, _, rfl, hidD ⟨GG.out.1, GG.out.2.1, GG.out.2.2.1, GG.out.2.2.2.1, GG.out.2.2.2.2.1, fun h h2 => (GG.out.2.2.2.2.2.1 h (by simpa using h2)), GG.out.2.2.2.2.2.2.1, fun _ => rfl, fun _ => rfl, fun _ => rfl, fun h h2 => (GG.out.2.2.2.2.2.2.2.2.2.2.1 h (by simpa using h2)), fun h h2 => (GG.out.2.2.2.2.2.2.2.2.2.2.2.1 h (by simpa using h2)), GG.out.2.2.2.2.2.2.2.2.2.2.2.2.1, fun h h2 => (GG.out.2.2.2.2.2.2.2.2.2.2.2.2.2.1 h (by simpa using h2)), GG.out.2.2.2.2.2.2.2.2.2.2.2.2.2.2.1, GG.out.2.2.2.2.2.2.2.2.2.2.2.2.2.2.2.1, GG.out.2.2.2.2.2.2.2.2.2.2.2.2.2.2.2.2⟩, hidD ⟨fun h => (SS0.out.1 (by simpa using h)), fun h => (SS0.out.2 (by simpa using h))⟩⟩
      · have hf0 : D 16 = false := by
          cases h : D 16 with
          | false => rfl
          | true => rw [(hcl 16 _ rfl h 10 (by simp))] at hDi; cases hDi
        have hS0 := SS0.out.1 hf0
        obtain rfl := GG.out.2.2.2.2.2.2.2.2.2.1 (hds 9 (by simp))
        have hB := hS0.base
        obtain ⟨⟨e0, e1, e2, e3⟩, hr⟩ := HQC.out n (by omega) V hB.1.1.2.2
        clear hds
        refine wpOpIn_step rfl (fun K hK => ?_)
        go_simp
        exact hK _ _ ⟨_, _, _, _, _, _, _, _, _, _, _, _, _, _, _, _, _, rfl, hidD ⟨GG.out.1, GG.out.2.1, GG.out.2.2.1, GG.out.2.2.2.1, GG.out.2.2.2.2.1, fun h h2 => (GG.out.2.2.2.2.2.1 h (by simpa using h2)), GG.out.2.2.2.2.2.2.1, GG.out.2.2.2.2.2.2.2.1, GG.out.2.2.2.2.2.2.2.2.1, fun _ => rfl, fun _ _ => hr, fun h h2 => (GG.out.2.2.2.2.2.2.2.2.2.2.2.1 h (by simpa using h2)), GG.out.2.2.2.2.2.2.2.2.2.2.2.2.1, fun h h2 => (GG.out.2.2.2.2.2.2.2.2.2.2.2.2.2.1 h (by simpa using h2)), GG.out.2.2.2.2.2.2.2.2.2.2.2.2.2.2.1, GG.out.2.2.2.2.2.2.2.2.2.2.2.2.2.2.2.1, GG.out.2.2.2.2.2.2.2.2.2.2.2.2.2.2.2.2⟩, hidD ⟨fun h => (SS0.out.1 (by simpa using h)), fun h => (SS0.out.2 (by simpa using h))⟩⟩
      · have hf0 : D 16 = false := by
          cases h : D 16 with
          | false => rfl
          | true => rw [(hcl 16 _ rfl h 11 (by simp))] at hDi; cases hDi
        have hS0 := SS0.out.1 hf0
        have h0 := GG.out.2.2.2.2.2.1 (hds 5 (by simp)) hf0
        have h1 := GG.out.2.2.2.2.2.2.2.2.2.2.1 (hds 10 (by simp)) hf0
        clear hds
        have HC := hidD (fun (n9 : Nat) => CallsIn.inRound l ((callsIn_wide (n := n9)).2 (qover_c _ _ (cf R t0) (cf qs n) V h0 h1 HSR.out (HSQN.out n))))
        clear h0 h1
        refine wpOpIn_step rfl (fun K hK => ?_)
        go_simp
        gi_wp2_with (refine ⟨trivial, ?_⟩; gi_at_call 50; refine (HC.out _).mono ?_; rintro e w5 ⟨v5, rfl, hv5, hb5⟩)
        exact ⟨_, _, _, _, _, _, _, _, _, _, _, _, _, _, _, _, _, rfl, hidD ⟨GG.out.1, GG.out.2.1, GG.out.2.2.1, GG.out.2.2.2.1, GG.out.2.2.2.2.1, fun h h2 => (GG.out.2.2.2.2.2.1 h (by simpa using h2)).below hb5, GG.out.2.2.2.2.2.2.1, GG.out.2.2.2.2.2.2.2.1, GG.out.2.2.2.2.2.2.2.2.1, GG.out.2.2.2.2.2.2.2.2.2.1, fun h h2 => (GG.out.2.2.2.2.2.2.2.2.2.2.1 h (by simpa using h2)).below hb5, fun _ _ => ⟨v5, by simp [HLE.out], by rw [← HCX.out]; exact hv5⟩, fun h => (GG.out.2.2.2.2.2.2.2.2.2.2.2.2.1 h).below hb5, fun h h2 => (GG.out.2.2.2.2.2.2.2.2.2.2.2.2.2.1 h (by simpa using h2)).below hb5, GG.out.2.2.2.2.2.2.2.2.2.2.2.2.2.2.1, fun h => (GG.out.2.2.2.2.2.2.2.2.2.2.2.2.2.2.2.1 h).below hb5, GG.out.2.2.2.2.2.2.2.2.2.2.2.2.2.2.2.2⟩, hidD ⟨fun h => (SS0.out.1 (by simpa using h)).below hb5, fun h => (SS0.out.2 (by simpa using h)).below hb5⟩⟩
      · have hf0 : D 16 = false := by
          cases h : D 16 with
          | false => rfl
          | true => rw [(hcl 16 _ rfl h 12 (by simp))] at hDi; cases hDi
        have hS0 := SS0.out.1 hf0
        have h0 := GG.out.2.2.2.2.2.2.2.2.2.2.2.1 (hds 11 (by simp)) hf0
        clear hds
        refine wpOpIn_step rfl (fun K hK => ?_)
        go_simp
        exact hK _ _ ⟨_, _, _, _, _, _, _, _, _, _, _, _, _, _, _, _, _, rfl, hidD ⟨GG.out.1, GG.out.2.1, GG.out.2.2.1, GG.out.2.2.2.1, GG.out.2.2.2.2.1, fun h h2 => (GG.out.2.2.2.2.2.1 h (by simpa using h2)), GG.out.2.2.2.2.2.2.1, GG.out.2.2.2.2.2.2.2.1, GG.out.2.2.2.2.2.2.2.2.1, GG.out.2.2.2.2.2.2.2.2.2.1, fun h h2 => (GG.out.2.2.2.2.2.2.2.2.2.2.1 h (by simpa using h2)), fun h h2 => (GG.out.2.2.2.2.2.2.2.2.2.2.2.1 h (by simpa using h2)), fun _ => (show TupF (D 16) V _ c from by obtain ⟨u, e, h⟩ := h0; exact ⟨u, e, fun _ => h⟩), fun h h2 => (GG.out.2.2.2.2.2.2.2.2.2.2.2.2.2.1 h (by simpa using h2)), GG.out.2.2.2.2.2.2.2.2.2.2.2.2.2.2.1, GG.out.2.2.2.2.2.2.2.2.2.2.2.2.2.2.2.1, GG.out.2.2.2.2.2.2.2.2.2.2.2.2.2.2.2.2⟩, hidD ⟨fun h => (SS0.out.1 (by simpa using h)), fun h => (SS0.out.2 (by simpa using h))⟩⟩
      · have hf0 : D 16 = false := by
          cases h : D 16 with
          | false => rfl
          | true => rw [(hcl 16 _ rfl h 13 (by simp))] at hDi; cases hDi
        have hS0 := SS0.out.1 hf0
        have h0 := GG.out.2.2.2.2.2.2.2.2.2.2.2.2.1 (hds 12 (by simp))
        obtain ⟨u0, rfl, g0⟩ := h0
        clear hds
        refine wpOpIn_step rfl (fun K hK => ?_)
        go_simp
        exact hK _ _ ⟨_, _, _, _, _, _, _, _, _, _, _, _, _, _, _, _, _, rfl, hidD ⟨GG.out.1, GG.out.2.1, GG.out.2.2.1, GG.out.2.2.2.1, GG.out.2.2.2.2.1, fun h h2 => (GG.out.2.2.2.2.2.1 h (by simpa using h2)), GG.out.2.2.2.2.2.2.1, GG.out.2.2.2.2.2.2.2.1, GG.out.2.2.2.2.2.2.2.2.1, GG.out.2.2.2.2.2.2.2.2.2.1, fun h h2 => (GG.out.2.2.2.2.2.2.2.2.2.2.1 h (by simpa using h2)), fun h h2 => (GG.out.2.2.2.2.2.2.2.2.2.2.2.1 h (by simpa using h2)), GG.out.2.2.2.2.2.2.2.2.2.2.2.2.1, fun _ _ => g0 hf0, GG.out.2.2.2.2.2.2.2.2.2.2.2.2.2.2.1, GG.out.2.2.2.2.2.2.2.2.2.2.2.2.2.2.2.1, GG.out.2.2.2.2.2.2.2.2.2.2.2.2.2.2.2.2⟩, hidD ⟨fun h => (SS0.out.1 (by simpa using h)), fun h => (SS0.out.2 (by simpa using h))⟩⟩
      · have h0 := GG.out.2.2.2.2.2.2.2.2.2.2.2.2.1 (hds 12 (by simp))
        obtain ⟨u0, rfl, g0⟩ := h0
        clear hds
        refine wpOpIn_step rfl (fun K hK => ?_)
        go_simp
        exact hK _ _ ⟨_, _, _, _, _, _, _, _, _, _, _, _, _, _, _, _, _, rfl, hidD ⟨GG.out.1, GG.out.2.1, GG.out.2.2.1, GG.out.2.2.2.1, GG.out.2.2.2.2.1, fun h h2 => (GG.out.2.2.2.2.2.1 h (by simpa using h2)), GG.out.2.2.2.2.2.2.1, GG.out.2.2.2.2.2.2.2.1, GG.out.2.2.2.2.2.2.2.2.1, GG.out.2.2.2.2.2.2.2.2.2.1, fun h h2 => (GG.out.2.2.2.2.2.2.2.2.2.2.1 h (by simpa using h2)), fun h h2 => (GG.out.2.2.2.2.2.2.2.2.2.2.2.1 h (by simpa using h2)), GG.out.2.2.2.2.2.2.2.2.2.2.2.2.1, fun h h2 => (GG.out.2.2.2.2.2.2.2.2.2.2.2.2.2.1 h (by simpa using h2)), fun _ => rfl, GG.out.2.2.2.2.2.2.2.2.2.2.2.2.2.2.2.1, GG.out.2.2.2.2.2.2.2.2.2.2.2.2.2.2.2.2⟩, hidD ⟨fun h => (SS0.out.1 (by simpa using h)), fun h => (SS0.out.2 (by simpa using h))⟩⟩
      · have hf0 : D 16 = false := by
          cases h : D 16 with
          | false => rfl
          | true => rw [(hcl 16 _ rfl h 15 (by simp))] at hDi; cases hDi
        have hS0 := SS0.out.1 hf0
        clear hds
        refine wpOpIn_step rfl (fun K hK => ?_)
        go_simp
        exact hK _ _ ⟨_, _, _, _, _, _, _, _, _, _, _, _, _, _, _, _, _, rfl, hidD ⟨GG.out.1, GG.out.2.1, GG.out.2.2.1, GG.out.2.2.2.1, GG.out.2.2.2.2.1, fun h h2 => (GG.out.2.2.2.2.2.1 h (by simpa using h2)).below ((Below.refl _ V).alloc (Nat.le_refl _) _), GG.out.2.2.2.2.2.2.1, GG.out.2.2.2.2.2.2.2.1, GG.out.2.2.2.2.2.2.2.2.1, GG.out.2.2.2.2.2.2.2.2.2.1, fun h h2 => (GG.out.2.2.2.2.2.2.2.2.2.2.1 h (by simpa using h2)).below ((Below.refl _ V).alloc (Nat.le_refl _) _), fun h h2 => (GG.out.2.2.2.2.2.2.2.2.2.2.2.1 h (by simpa using h2)).below ((Below.refl _ V).alloc (Nat.le_refl _) _), fun h => (GG.out.2.2.2.2.2.2.2.2.2.2.2.2.1 h).below ((Below.refl _ V).alloc (Nat.le_refl _) _), fun h h2 => (GG.out.2.2.2.2.2.2.2.2.2.2.2.2.2.1 h (by simpa using h2)).below ((Below.refl _ V).alloc (Nat.le_refl _) _), GG.out.2.2.2.2.2.2.2.2.2.2.2.2.2.2.1, fun _ => trivial, GG.out.2.2.2.2.2.2.2.2.2.2.2.2.2.2.2.2⟩, hidD ⟨fun _ => (show AbS true w W _ (spBs w pa (some ⟨bq, 0, none⟩) la pc lb qc m gR rc B5 (B5 + 1) (B5 + 1 + 1) (B5 + 1 + 1 + 1) R Q) B4 (n : Int) (B5 + 1) (m - k) _ from AbS.alloc (by rw [hDi] at hS0; exact hS0)), fun h => by simp [hf0] at h⟩⟩
      · have hS0 := SS0.out.1 hDi
        have h0 := GG.out.2.2.2.2.2.2.2.2.2.2.2.2.2.1 (hds 13 (by simp)) hDi
        obtain ⟨Bc, rfl, hM⟩ := hS0.2 (hds 15 (by simp))
        obtain ⟨s9, a9, l9, c9, t9, b9, k9, d9, rfl⟩ := IsRat.form h0
        obtain ⟨s8, a8, l8, c8, t8, b8, k8, d8, n8, r8, i8, j8⟩ := hM.1.1.rat (i := 9) rfl
        have e0 := n8.c0
        have e1 := n8.c1
        have e2 := n8.c2
        have e3 := n8.c3
        have f0 := n8.f0
        have f1 := n8.f1
        have f2 := n8.f2
        have f3 := n8.f3
        clear hds
        refine wpOpIn_step rfl (fun K hK => ?_)
        go_simp
        exact hK _ _ ⟨_, _, _, _, _, _, _, _, _, _, _, _, _, _, _, _, _, rfl, hidD ⟨GG.out.1, GG.out.2.1, GG.out.2.2.1, GG.out.2.2.2.1, GG.out.2.2.2.2.1, fun _ h => by simp at h, GG.out.2.2.2.2.2.2.1, GG.out.2.2.2.2.2.2.2.1, GG.out.2.2.2.2.2.2.2.2.1, GG.out.2.2.2.2.2.2.2.2.2.1, fun _ h => by simp at h, fun _ h => by simp at h, fun h => (GG.out.2.2.2.2.2.2.2.2.2.2.2.2.1 h).drop _, fun _ h => by simp at h, GG.out.2.2.2.2.2.2.2.2.2.2.2.2.2.2.1, fun _ => trivial, GG.out.2.2.2.2.2.2.2.2.2.2.2.2.2.2.2.2⟩, hidD ⟨fun h => by simp at h, fun _ => ⟨Bc, rfl, hM.1.upd (hM.1.1.putRat (i := 9) rfl h0) (far_put4 _ _ _ _ _ _) (box_ne4 hM.1.2.1 n8) (hM.1.1.ne 6 9 rfl rfl (by decide)), hM.2.trans (keeps_put4 _ _ _ _ _ _)⟩⟩⟩
      · obtain rfl := GG.out.2.2.2.2.2.2.2.2.2.2.2.2.2.2.1 (hds 14 (by simp))
        clear hds
        refine wpOpIn_step rfl (fun K hK => ?_)
        go_simp
        exact hK _ _ ⟨_, _, _, _, _, _, _, _, _, _, _, _, _, _, _, _, _, rfl, hidD ⟨GG.out.1, GG.out.2.1, GG.out.2.2.1, GG.out.2.2.2.1, GG.out.2.2.2.2.1, fun h h2 => (GG.out.2.2.2.2.2.1 h (by simpa using h2)), GG.out.2.2.2.2.2.2.1, GG.out.2.2.2.2.2.2.2.1, GG.out.2.2.2.2.2.2.2.2.1, GG.out.2.2.2.2.2.2.2.2.2.1, fun h h2 => (GG.out.2.2.2.2.2.2.2.2.2.2.1 h (by simpa using h2)), fun h h2 => (GG.out.2.2.2.2.2.2.2.2.2.2.2.1 h (by simpa using h2)), GG.out.2.2.2.2.2.2.2.2.2.2.2.2.1, fun h h2 => (GG.out.2.2.2.2.2.2.2.2.2.2.2.2.2.1 h (by simpa using h2)), fun _ => rfl, GG.out.2.2.2.2.2.2.2.2.2.2.2.2.2.2.2.1, fun _ => rfl⟩, hidD ⟨fun h => (SS0.out.1 (by simpa using h)), fun h => (SS0.out.2 (by simpa using h))⟩⟩
    case fin1 =>
      rintro D act V hDD ⟨t35x, t36x, t37x, t38x, t39x, t40x, t41x, t42x, t43x, t44x, t45x, t46x, t34x, t47x, t48x, t11x, t12x, rfl, GG, SS0⟩
      obtain ⟨Bc, rfl, hM⟩ := SS0.out.2 (hDD 16 (by decide))
      obtain rfl := GG.out.2.2.2.2.2.2.2.2.2.2.2.2.2.2.2.2 (hDD 17 (by decide))
      have HM := hidD hM
      clear GG SS0 hDD hM
      obtain ⟨s8, a8, l8, c8, t8, b8, k8, d8, n8, r8, i8, j8⟩ := HM.out.1.1.rat (i := 9) rfl
      have e0 := n8.c0
      have e1 := n8.c1
      have e2 := n8.c2
      have e3 := n8.c3
      have e6 := (HM.out.1.1.cell (i := 7) rfl).1.cell
      have hE := HM.out.1.1.rats (i := 6) rfl
      obtain ⟨z0, z1, z2, z3⟩ := HM.out.1.2.2.1 i (by have := HLR.out; omega)
      have f0 := hE.frozen (i * 4)
      have f1 := hE.frozen (i * 4 + 1)
      have f2 := hE.frozen (i * 4 + 2)
      have f3 := hE.frozen (i * 4 + 3)
      have HR8 := hidD r8
      have HM9 := hidD (show SpK w W (putAt V (B5 + 1) (i * 4) (.bool s8) (.slice a8 l8 c8) (.bool t8) (.slice b8 k8 d8)) (spBs w pa (some ⟨bq, 0, none⟩) la pc lb qc m gR rc B5 (B5 + 1) (B5 + 1 + 1) (B5 + 1 + 1 + 1) R (Q.set i c) ++ [some (Bc, .rat c)]) B4 (n : Int) (B5 + 1) i from by
        have hp := HM.out.1.1.putRats (i := 6) rfl (j := i) (by have := HLR.out; omega) r8
        obtain ⟨cs, hcs, _⟩ := hE
        refine ⟨⟨hp, (putAt_far (box_ne4 HM.out.1.2.1 hcs) _ _ _ _).trans HM.out.1.2.1, ZQ.put (by have h := HM.out.1.2.2.1; rwa [HLR.out.2.2.2.2.1] at h) _ _ _ _, ?_⟩, HM.out.2.trans (keeps_putAt _ _ _ _ _ _ _)⟩
        exact (Array.getElem?_eq_some_iff.1 (putAt_heap hcs _ _ _ _)).1)
      have c9 := (HM9.out.1.1.cell (i := 1) rfl).1.cell
      unfold putAt at c9
      clear n8 i8 j8 hE r8 HM
      gi_wp2_with fail
      obtain ⟨W9, hW9⟩ : ∃ W, putAt V (B5 + 1) (i * 4) (.bool s8) (.slice a8 l8 c8) (.bool t8) (.slice b8 k8 d8) = W := ⟨_, rfl⟩
      rw [hW9] at HM9
      unfold putAt at hW9
      rw [hW9]
      clear hW9 c9 e0 e1 e2 e3 e6 z0 z1 z2 z3 f0 f1 f2 f3 HR8
      gi_loopw [56] (fun jv wr => ∃ j : Nat, j ≤ lb ∧ jv = .int .i64 (j : Int) ∧ Hid (SpK w W wr (spBs w pa (some ⟨bq, 0, none⟩) la pc lb qc m gR rc B5 (B5 + 1) (B5 + 1 + 1) (B5 + 1 + 1 + 1) (addAt R i (-c) qs j) (Q.set i c) ++ [some (Bc, .rat c)]) B4 (n : Int) (B5 + 1) i)) (fun jv _ => lb - (intOf jv).toNat)
      case atStart => exact ⟨0, Nat.zero_le _, rfl, HM9⟩
      case round =>
        obtain ⟨j, hj, rfl, HJ⟩ := hrel
        clear HM9
        by_cases hjl : j < lb
        · have hjl2 : (j : Int) < (lb : Int) := by omega
          obtain ⟨⟨e0, e1, e2, e3⟩, hrd⟩ := HQC.out j hjl wr HJ.out.1.1.2.2
          have HRD := hidD hrd
          obtain ⟨t1, ht1⟩ : ∃ t : Nat, i + j = t := ⟨_, rfl⟩
          have hadd1 : (i : Int) + (j : Int) = (t1 : Int) := by omega
          have HT1 := hidD (show t1 < la ∧ t1 = i + j by have := HLR.out; have := HN.out; omega)
          have hwt1 : IntKind.i64.wrap (t1 : Int) = (t1 : Int) := by rw [IntKind.wrap_i64]; have := HT1.out; omega
          have htl1 : (t1 : Int) < (la : Int) := by have := HT1.out; omega
          clear hrd ht1
          gi_wp2_with fail
          have hpd : SpK w W (wr.alloc (.cells #[.bool (s' j), .slice (aa' j) (ll' j) (cc' j), .bool (t' j), .slice (bb' j) (kk' j) (dd' j)] 65)) (spBs w pa (some ⟨bq, 0, none⟩) la pc lb qc m gR rc B5 (B5 + 1) (B5 + 1 + 1) (B5 + 1 + 1 + 1) (addAt R i (-c) qs j) (Q.set i c) ++ [some (Bc, .rat c)] ++ [some (wr.heap.size, .rat (cf qs j))]) B4 (n : Int) (B5 + 1) i := by
            have h1 := HJ.out.below ((Below.refl _ wr).alloc (Nat.le_refl _) (.cells #[.bool (s' j), .slice (aa' j) (ll' j) (cc' j), .bool (t' j), .slice (bb' j) (kk' j) (dd' j)] 65))
            exact ⟨⟨HJ.out.1.1.push (.rat (cf qs j)) HRD.out, h1.1.2⟩, h1.2⟩
          obtain ⟨Wd, hWd⟩ : ∃ W, wr.alloc (.cells #[.bool (s' j), .slice (aa' j) (ll' j) (cc' j), .bool (t' j), .slice (bb' j) (kk' j) (dd' j)] 65) = W := ⟨_, rfl⟩
          obtain ⟨Bd, hBd⟩ : ∃ B, wr.heap.size = B := ⟨_, rfl⟩
          rw [hWd, hBd] at hpd
          rw [hWd, hBd]
          obtain ⟨X, hX⟩ : ∃ X, addAt R i (-c) qs j = X := ⟨_, rfl⟩
          rw [hX] at hpd
          have HXL := hidD (show t1 < X.length by rw [← hX, addAt_length]; have := HLR.out; have := HT1.out; omega)
          have HXS := hidD (show Sq (cf X t1) by rw [← hX]; exact HSX.out j t1)
          have HXN := hidD (show X.set t1 (cf X t1 - c * cf qs j) = addAt R i (-c) qs (j + 1) by
            rw [addAt, hX, ← HT1.out.2, show cf X t1 - c * cf qs j = cf X t1 + -c * cf qs j by grind])
          have ST0 := hpd.below ((Below.refl _ Wd).drew)
          clear hWd hBd hX hpd e0 e1 e2 e3 HRD HJ
          refine wpIn_region_tab hmx [[], [], [], [1, 2], [], [], [], [5, 6], [4, 7], [8], [], [], [10, 11], [9, 12, 12], [0, 3, 0, 1, 2, 3, 4, 5, 6, 7, 8, 9, 10, 11, 12, 13], [14, 13, 13, 0, 1, 2, 3, 4, 5, 6, 7, 8, 9, 10, 11, 12, 13]] (by kernel_rfl) (by decide)
            (fun D act V => ∃ (t61x t62x t63x t64x t65x t66x t67x t68x t69x t70x t71x t72x t73x t74x t75x : Value), act = { tmps := #[Value.agg #[Value.slice pa la pc], Value.agg #[Value.slice (some { block := bq, off := 0 }) lb qc], Value.pointer (some { block := w.heap.size, off := 0 }), Value.pointer (some { block := w.heap.size + 1, off := 0 }), Value.pointer (some { block := w.heap.size + 1 + 1, off := 0 }), Value.pointer (some { block := w.heap.size + 1 + 1 + 1, off := 0 }), Value.bool false, Value.pointer (some { block := B4, off := 0 }), Value.pointer (some { block := B5, off := 0 }), Value.pointer (some { block := B5 + 1 + 1, off := 0 }), Value.int IntKind.i64 ↑i, Value.pointer (some { block := Bc, off := 0 }), Value.bool true, Value.int IntKind.i64 ↑j, Value.pointer (some { block := Bd, off := 0 }), Value.agg #[Value.slice (some { block := bq, off := 0 }) lb qc], Value.int IntKind.i64 ↑n, Value.int IntKind.i64 ↑n, Value.bool (decide (n < 0)), undef, undef, Value.pointer (some { block := w.heap.size, off := 0 }), Value.slice pa la pc, Value.slice (some { block := gR, off := 0 }) la rc, Value.slice (some { block := gR, off := 0 }) la rc, Value.int IntKind.i64 ↑la, Value.int IntKind.i64 ↑n, Value.int IntKind.i64 ↑m, Value.int IntKind.i64 ↑m, Value.slice (some { block := B5 + 1, off := 0 }) m m, Value.slice (some { block := B5 + 1, off := 0 }) m m, Value.func (Fn.func 67) #[] #[Value.pointer (some { block := B5 + 1 + 1 + 1, off := 0 })], Value.int IntKind.i64 ↑i, Value.agg #[Value.bool false, Value.slice none 0 0, Value.bool false, Value.slice none 0 0], t34x, t35x, t36x, t37x, t38x, t39x, t40x, t41x, t42x, t43x, t44x, t45x, t46x, t47x, t48x, Value.slice (some { block := B5 + 1, off := 0 }) m m, Value.int IntKind.i64 ↑i, Value.agg #[Value.bool s8, Value.slice a8 l8 c8, Value.bool t8, Value.slice b8 k8 d8], Value.pointer (some { block := B5 + 1, off := i * 4 }), Value.pointer (some { block := w.heap.size + 1, off := 0 }), Value.slice (some { block := bq, off := 0 }) lb qc, Value.int IntKind.i64 ↑lb, Value.int IntKind.i64 ↑j, Value.bool true, Value.int IntKind.i64 ↑j, Value.pointer (some { block := bq, off := j * 4 }), Value.agg #[Value.bool (s' j), Value.slice (aa' j) (ll' j) (cc' j), Value.bool (t' j), Value.slice (bb' j) (kk' j) (dd' j)], t61x, t62x, t63x, t64x, t65x, t66x, t67x, t68x, t69x, t70x, t71x, t72x, t73x, t74x, t75x, u76, undef, undef, undef, undef], defers := [] } ∧ Hid ((D 0 = true → t61x = .slice (some ⟨gR, 0, none⟩) la rc) ∧ (D 1 = true → t62x = .int .i64 (i : Int)) ∧ (D 2 = true → t63x = .int .i64 (j : Int)) ∧ (D 3 = true → t64x = .int .i64 (t1 : Int)) ∧ (D 4 = true → t65x = .slice (some ⟨gR, 0, none⟩) la rc) ∧ (D 5 = true → t66x = .int .i64 (i : Int)) ∧ (D 6 = true → t67x = .int .i64 (j : Int)) ∧ (D 7 = true → t68x = .int .i64 (t1 : Int)) ∧ (D 8 = true → t69x = .pointer (some ⟨gR, t1 * 4, none⟩)) ∧ (D 9 = true → D 15 = false → IsRat V t70x (cf X t1)) ∧ (D 10 = true → D 15 = false → IsRat V t71x c) ∧ (D 11 = true → D 15 = false → IsRat V t72x (cf qs j)) ∧ (D 12 = true → D 15 = false → IsRat V t73x (c * cf qs j)) ∧ (D 13 = true → D 15 = false → IsRat V t74x (cf X t1 - c * cf qs j)) ∧ (D 14 = true → t75x = .pointer (some ⟨gR, t1 * 4, none⟩))) ∧ Hid ((D 15 = false → SpK w W V (spBs w pa (some ⟨bq, 0, none⟩) la pc lb qc m gR rc B5 (B5 + 1) (B5 + 1 + 1) (B5 + 1 + 1 + 1) (X) (Q.set i c) ++ [some (Bc, .rat c)] ++ [some (Bd, .rat (cf qs j))]) B4 (n : Int) (B5 + 1) i) ∧ (D 15 = true → SpK w W V (spBs w pa (some ⟨bq, 0, none⟩) la pc lb qc m gR rc B5 (B5 + 1) (B5 + 1 + 1) (B5 + 1 + 1 + 1) (X.set t1 (cf X t1 - c * cf qs j)) (Q.set i c) ++ [some (Bc, .rat c)] ++ [some (Bd, .rat (cf qs j))]) B4 (n : Int) (B5 + 1) i)))
            ⟨_, _, _, _, _, _, _, _, _, _, _, _, _, _, _, rfl, hidD ⟨by simp, by simp, by simp, by simp, by simp, by simp, by simp, by simp, by simp, by simp, by simp, by simp, by simp, by simp, by simp⟩, hidD ⟨fun _ => ST0, by simp⟩⟩ ?step2 ?fin2
          case step2 =>
            rintro D act V i ds hcl hi hds hDi ⟨t61x, t62x, t63x, t64x, t65x, t66x, t67x, t68x, t69x, t70x, t71x, t72x, t73x, t74x, t75x, rfl, GG, SS0⟩
            have hi6 : i < 16 := (List.getElem?_eq_some_iff.1 hi).1
            obtain rfl | rfl | rfl | rfl | rfl | rfl | rfl | rfl | rfl | rfl | rfl | rfl | rfl | rfl | rfl | rfl : i = 0 ∨ i = 1 ∨ i = 2 ∨ i = 3 ∨ i = 4 ∨ i = 5 ∨ i = 6 ∨ i = 7 ∨ i = 8 ∨ i = 9 ∨ i = 10 ∨ i = 11 ∨ i = 12 ∨ i = 13 ∨ i = 14 ∨ i = 15 := by omega
            all_goals
              simp only [List.getElem?_cons_zero, List.getElem?_cons_succ, Option.some.injEq] at hi
              subst hi
            · have hf0 : D 15 = false := by
                cases h : D 15 with
                | false => rfl
                | true => rw [(hcl 15 _ rfl h 0 (by simp))] at hDi; cases hDi
              have hS0 := SS0.out.1 hf0
              have e5 := (hS0.1.1.cell (i := 5) rfl).1.cell
              clear hds
              refine wpOpIn_step rfl (fun K hK => ?_)
              go_simp
              exact hK _ _ ⟨_, _, _, _, _, _, _, _, _, _, _, _, _, _, _, rfl, hidD ⟨fun _ => rfl, GG.out.2.1, GG.out.2.2.1, GG.out.2.2.2.1, GG.out.2.2.2.2.1, GG.out.2.2.2.2.2.1, GG.out.2.2.2.2.2.2.1, GG.out.2.2.2.2.2.2.2.1, GG.out.2.2.2.2.2.2.2.2.1, fun h h2 => (GG.out.2.2.2.2.2.2.2.2.2.1 h (by simpa using h2)), fun h h2 => (GG.out.2.2.2.2.2.2.2.2.2.2.1 h (by simpa using h2)), fun h h2 => (GG.out.2.2.2.2.2.2.2.2.2.2.2.1 h (by simpa using h2)), fun h h2 => (GG.out.2.2.2.2.2.2.2.2.2.2.2.2.1 h (by simpa using h2)), fun h h2 => (GG.out.2.2.2.2.2.2.2.2.2.2.2.2.2.1 h (by simpa using h2)), GG.out.2.2.2.2.2.2.2.2.2.2.2.2.2.2⟩, hidD ⟨fun h => (SS0.out.1 (by simpa using h)), fun h => (SS0.out.2 (by simpa using h))⟩⟩
            · have hf0 : D 15 = false := by
                cases h : D 15 with
                | false => rfl
                | true => rw [(hcl 15 _ rfl h 1 (by simp))] at hDi; cases hDi
              have hS0 := SS0.out.1 hf0
              clear hds
              refine wpOpIn_step rfl (fun K hK => ?_)
              go_simp
              exact hK _ _ ⟨_, _, _, _, _, _, _, _, _, _, _, _, _, _, _, rfl, hidD ⟨GG.out.1, fun _ => rfl, GG.out.2.2.1, GG.out.2.2.2.1, GG.out.2.2.2.2.1, GG.out.2.2.2.2.2.1, GG.out.2.2.2.2.2.2.1, GG.out.2.2.2.2.2.2.2.1, GG.out.2.2.2.2.2.2.2.2.1, fun h h2 => (GG.out.2.2.2.2.2.2.2.2.2.1 h (by simpa using h2)), fun h h2 => (GG.out.2.2.2.2.2.2.2.2.2.2.1 h (by simpa using h2)), fun h h2 => (GG.out.2.2.2.2.2.2.2.2.2.2.2.1 h (by simpa using h2)), fun h h2 => (GG.out.2.2.2.2.2.2.2.2.2.2.2.2.1 h (by simpa using h2)), fun h h2 => (GG.out.2.2.2.2.2.2.2.2.2.2.2.2.2.1 h (by simpa using h2)), GG.out.2.2.2.2.2.2.2.2.2.2.2.2.2.2⟩, hidD ⟨fun h => (SS0.out.1 (by simpa using h)), fun h => (SS0.out.2 (by simpa using h))⟩⟩
            · have hf0 : D 15 = false := by
                cases h : D 15 with
                | false => rfl
                | true => rw [(hcl 15 _ rfl h 2 (by simp))] at hDi; cases hDi
              have hS0 := SS0.out.1 hf0
              clear hds
              refine wpOpIn_step rfl (fun K hK => ?_)
              go_simp
              exact hK _ _ ⟨_, _, _, _, _, _, _, _, _, _, _, _, _, _, _, rfl, hidD ⟨GG.out.1, GG.out.2.1, fun _ => rfl, GG.out.2.2.2.1, GG.out.2.2.2.2.1, GG.out.2.2.2.2.2.1, GG.out.2.2.2.2.2.2.1, GG.out.2.2.2.2.2.2.2.1, GG.out.2.2.2.2.2.2.2.2.1, fun h h2 => (GG.out.2.2.2.2.2.2.2.2.2.1 h (by simpa using h2)), fun h h2 => (GG.out.2.2.2.2.2.2.2.2.2.2.1 h (by simpa using h2)), fun h h2 => (GG.out.2.2.2.2.2.2.2.2.2.2.2.1 h (by simpa using h2)), fun h h2 => (GG.out.2.2.2.2.2.2.2.2.2.2.2.2.1 h (by simpa using h2)), fun h h2 => (GG.out.2.2.2.2.2.2.2.2.2.2.2.2.2.1 h (by simpa using h2)), GG.out.2.2.2.2.2.2.2.2.2.2.2.2.2.2⟩, hidD ⟨fun h => (SS0.out.1 (by simpa using h)), fun h => (SS0.out.2 (by simpa using h))⟩⟩
            · have hf0 : D 15 = false := by
                cases h : D 15 with
                | false => rfl
                | true => rw [(hcl 15 _ rfl h 3 (by simp))] at hDi; cases hDi
              have hS0 := SS0.out.1 hf0
              obtain rfl := GG.out.2.1 (hds 1 (by simp))
              obtain rfl := GG.out.2.2.1 (hds 2 (by simp))
              clear hds
              refine wpOpIn_step rfl (fun K hK => ?_)
              go_simp
              exact hK _ _ ⟨_, _, _, _, _, _, _, _, _, _, _, _, _, _, _, rfl, hidD ⟨GG.out.1, fun _ => rfl, fun _ => rfl, fun _ => rfl, GG.out.2.2.2.2.1, GG.out.2.2.2.2.2.1, GG.out.2.2.2.2.2.2.1, GG.out.2.2.2.2.2.2.2.1, GG.out.2.2.2.2.2.2.2.2.1, fun h h2 => (GG.out.2.2.2.2.2.2.2.2.2.1 h (by simpa using h2)), fun h h2 => (GG.out.2.2.2.2.2.2.2.2.2.2.1 h (by simpa using h2)), fun h h2 => (GG.out.2.2.2.2.2.2.2.2.2.2.2.1 h (by simpa using h2)), fun h h2 => (GG.out.2.2.2.2.2.2.2.2.2.2.2.2.1 h (by simpa using h2)), fun h h2 => (GG.out.2.2.2.2.2.2.2.2.2.2.2.2.2.1 h (by simpa using h2)), GG.out.2.2.2.2.2.2.2.2.2.2.2.2.2.2⟩, hidD ⟨fun h => (SS0.out.1 (by simpa using h)), fun h => (SS0.out.2 (by simpa using h))⟩⟩
            · have hf0 : D 15 = false := by
                cases h : D 15 with
                | false => rfl
                | true => rw [(hcl 15 _ rfl h 4 (by simp))] at hDi; cases hDi
              have hS0 := SS0.out.1 hf0
              have e5 := (hS0.1.1.cell (i := 5) rfl).1.cell
              clear hds
              refine wpOpIn_step rfl (fun K hK => ?_)
              go_simp
              exact hK _ _ ⟨_, _, _, _, _, _, _, _, _, _, _, _, _, _, _, rfl, hidD ⟨GG.out.1, GG.out.2.1, GG.out.2.2.1, GG.out.2.2.2.1, fun _ => rfl, GG.out.2.2.2.2.2.1, GG.out.2.2.2.2.2.2.1, GG.out.2.2.2.2.2.2.2.1, GG.out.2.2.2.2.2.2.2.2.1, fun h h2 => (GG.out.2.2.2.2.2.2.2.2.2.1 h (by simpa using h2)), fun h h2 => (GG.out.2.2.2.2.2.2.2.2.2.2.1 h (by simpa using h2)), fun h h2 => (GG.out.2.2.2.2.2.2.2.2.2.2.2.1 h (by simpa using h2)), fun h h2 => (GG.out.2.2.2.2.2.2.2.2.2.2.2.2.1 h (by simpa using h2)), fun h h2 => (GG.out.2.2.2.2.2.2.2.2.2.2.2.2.2.1 h (by simpa using h2)), GG.out.2.2.2.2.2.2.2.2.2.2.2.2.2.2⟩, hidD ⟨fun h => (SS0.out.1 (by simpa using h)), fun h => (SS0.out.2 (by simpa using h))⟩⟩
            · have hf0 : D 15 = false := by
                cases h : D 15 with
                | false => rfl
                | true => rw [(hcl 15 _ rfl h 5 (by simp))] at hDi; cases hDi
              have hS0 := SS0.out.1 hf0
              clear hds
              refine wpOpIn_step rfl (fun K hK => ?_)
              go_simp
              exact hK _ _ ⟨_, _, _, _, _, _, _, _, _, _, _, _, _, _, _, rfl, hidD ⟨GG.out.1, GG.out.2.1, GG.out.2.2.1, GG.out.2.2.2.1, GG.out.2.2.2.2.1, fun _ => rfl, GG.out.2.2.2.2.2.2.1, GG.out.2.2.2.2.2.2.2.1, GG.out.2.2.2.2.2.2.2.2.1, fun h h2 => (GG.out.2.2.2.2.2.2.2.2.2.1 h (by simpa using h2)), fun h h2 => (GG.out.2.2.2.2.2.2.2.2.2.2.1 h (by simpa using h2)), fun h h2 => (GG.out.2.2.2.2.2.2.2.2.2.2.2.1 h (by simpa using h2)), fun h h2 => (GG.out.2.2.2.2.2.2.2.2.2.2.2.2.1 h (by simpa using h2)), fun h h2 => (GG.out.2.2.2.2.2.2.2.2.2.2.2.2.2.1 h (by simpa using h2)), GG.out.2.2.2.2.2.2.2.2.2.2.2.2.2.2⟩, hidD ⟨fun h => (SS0.out.1 (by simpa using h)), fun h => (SS0.out.2 (by simpa using h))⟩⟩
            · have hf0 : D 15 = false := by
                cases h : D 15 with
                | false => rfl
                | true => rw [(hcl 15 _ rfl h 6 (by simp))] at hDi; cases hDi
              have hS0 := SS0.out.1 hf0
              clear hds
              refine wpOpIn_step rfl (fun K hK => ?_)
              go_simp
              exact hK _ _ ⟨_, _, _, _, _, _, _, _, _, _, _, _, _, _, _, rfl, hidD ⟨GG.out.1, GG.out.2.1, GG.out.2.2.1, GG.out.2.2.2.1, GG.out.2.2.2.2.1, GG.out.2.2.2.2.2.1, fun _ => rfl, GG.out.2.2.2.2.2.2.2.1, GG.out.2.2.2.2.2.2.2.2.1, fun h h2 => (GG.out.2.2.2.2.2.2.2.2.2.1 h (by simpa using h2)), fun h h2 => (GG.out.2.2.2.2.2.2.2.2.2.2.1 h (by simpa using h2)), fun h h2 => (GG.out.2.2.2.2.2.2.2.2.2.2.2.1 h (by simpa using h2)), fun h h2 => (GG.out.2.2.2.2.2.2.2.2.2.2.2.2.1 h (by simpa using h2)), fun h h2 => (GG.out.2.2.2.2.2.2.2.2.2.2.2.2.2.1 h (by simpa using h2)), GG.out.2.2.2.2.2.2.2.2.2.2.2.2.2.2⟩, hidD ⟨fun h => (SS0.out.1 (by simpa using h)), fun h => (SS0.out.2 (by simpa using h))⟩⟩
            · have hf0 : D 15 = false := by
                cases h : D 15 with
                | false => rfl
                | true => rw [(hcl 15 _ rfl h 7 (by simp))] at hDi; cases hDi
              have hS0 := SS0.out.1 hf0
              obtain rfl := GG.out.2.2.2.2.2.1 (hds 5 (by simp))
              obtain rfl := GG.out.2.2.2.2.2.2.1 (hds 6 (by simp))
              clear hds
              refine wpOpIn_step rfl (fun K hK => ?_)
              go_simp
              exact hK _ _ ⟨_, _, _, _, _, _, _, _, _, _, _, _, _, _, _, rfl, hidD ⟨GG.out.1, GG.out.2.1, GG.out.2.2.1, GG.out.2.2.2.1, GG.out.2.2.2.2.1, fun _ => rfl, fun _ => rfl, fun _ => rfl, GG.out.2.2.2.2.2.2.2.2.1, fun h h2 => (GG.out.2.2.2.2.2.2.2.2.2.1 h (by simpa using h2)), fun h h2 => (GG.out.2.2.2.2.2.2.2.2.2.2.1 h (by simpa using h2)), fun h h2 => (GG.out.2.2.2.2.2.2.2.2.2.2.2.1 h (by simpa using h2)), fun h h2 => (GG.out.2.2.2.2.2.2.2.2.2.2.2.2.1 h (by simpa using h2)), fun h h2 => (GG.out.2.2.2.2.2.2.2.2.2.2.2.2.2.1 h (by simpa using h2)), GG.out.2.2.2.2.2.2.2.2.2.2.2.2.2.2⟩, hidD ⟨fun h => (SS0.out.1 (by simpa using h)), fun h => (SS0.out.2 (by simpa using h))⟩⟩
            · have hf0 : D 15 = false := by
                cases h : D 15 with
                | false => rfl
                | true => rw [(hcl 15 _ rfl h 8 (by simp))] at hDi; cases hDi
              have hS0 := SS0.out.1 hf0
              obtain rfl := GG.out.2.2.2.2.1 (hds 4 (by simp))
              obtain rfl := GG.out.2.2.2.2.2.2.2.1 (hds 7 (by simp))
              clear hds
              refine wpOpIn_step rfl (fun K hK => ?_)
              go_simp
              exact hK _ _ ⟨_, _, _, _, _, _, _, _, _, _, _, _, _, _, _, rfl, hidD ⟨GG.out.1, GG.out.2.1, GG.out.2.2.1, GG.out.2.2.2.1, fun _ => rfl, GG.out.2.2.2.2.2.1, GG.out.2.2.2.2.2.2.1, fun _ => rfl, fun _ => rfl, fun h h2 => (GG.out.2.2.2.2.2.2.2.2.2.1 h (by simpa using h2)), fun h h2 => (GG.out.2.2.2.2.2.2.2.2.2.2.1 h (by simpa using h2)), fun h h2 => (GG.out.2.2.2.2.2.2.2.2.2.2.2.1 h (by simpa using h2)), fun h h2 => (GG.out.2.2.2.2.2.2.2.2.2.2.2.2.1 h (by simpa using h2)), fun h h2 => (GG.out.2.2.2.2.2.2.2.2.2.2.2.2.2.1 h (by simpa using h2)), GG.out.2.2.2.2.2.2.2.2.2.2.2.2.2.2⟩, hidD ⟨fun h => (SS0.out.1 (by simpa using h)), fun h => (SS0.out.2 (by simpa using h))⟩⟩
            · have hf0 : D 15 = false := by
                cases h : D 15 with
                | false => rfl
                | true => rw [(hcl 15 _ rfl h 9 (by simp))] at hDi; cases hDi
              have hS0 := SS0.out.1 hf0
              obtain rfl := GG.out.2.2.2.2.2.2.2.2.1 (hds 8 (by simp))
              obtain ⟨xa, xb, xc, xd, e0, e1, e2, e3, hr⟩ := (hS0.1.1.rats (i := 4) rfl).at HXL.out
              clear hds
              refine wpOpIn_step rfl (fun K hK => ?_)
              go_simp
              exact hK _ _ ⟨_, _, _, _, _, _, _, _, _, _, _, _, _, _, _, rfl, hidD ⟨GG.out.1, GG.out.2.1, GG.out.2.2.1, GG.out.2.2.2.1, GG.out.2.2.2.2.1, GG.out.2.2.2.2.2.1, GG.out.2.2.2.2.2.2.1, GG.out.2.2.2.2.2.2.2.1, fun _ => rfl, fun _ _ => hr, fun h h2 => (GG.out.2.2.2.2.2.2.2.2.2.2.1 h (by simpa using h2)), fun h h2 => (GG.out.2.2.2.2.2.2.2.2.2.2.2.1 h (by simpa using h2)), fun h h2 => (GG.out.2.2.2.2.2.2.2.2.2.2.2.2.1 h (by simpa using h2)), fun h h2 => (GG.out.2.2.2.2.2.2.2.2.2.2.2.2.2.1 h (by simpa using h2)), GG.out.2.2.2.2.2.2.2.2.2.2.2.2.2.2⟩, hidD ⟨fun h => (SS0.out.1 (by simpa using h)), fun h => (SS0.out.2 (by simpa using h))⟩⟩
            · have hf0 : D 15 = false := by
                cases h : D 15 with
                | false => rfl
                | true => rw [(hcl 15 _ rfl h 10 (by simp))] at hDi; cases hDi
              have hS0 := SS0.out.1 hf0
              obtain ⟨s5, a5, l5, c5, t5, b5, k5, d5, n5, r5, i5, j5⟩ := hS0.1.1.rat (i := 9) rfl
              have e0 := n5.c0
              have e1 := n5.c1
              have e2 := n5.c2
              have e3 := n5.c3
              clear hds
              refine wpOpIn_step rfl (fun K hK => ?_)
              go_simp
              exact hK _ _ ⟨_, _, _, _, _, _, _, _, _, _, _, _, _, _, _, rfl, hidD ⟨GG.out.1, GG.out.2.1, GG.out.2.2.1, GG.out.2.2.2.1, GG.out.2.2.2.2.1, GG.out.2.2.2.2.2.1, GG.out.2.2.2.2.2.2.1, GG.out.2.2.2.2.2.2.2.1, GG.out.2.2.2.2.2.2.2.2.1, fun h h2 => (GG.out.2.2.2.2.2.2.2.2.2.1 h (by simpa using h2)), fun _ _ => r5, fun h h2 => (GG.out.2.2.2.2.2.2.2.2.2.2.2.1 h (by simpa using h2)), fun h h2 => (GG.out.2.2.2.2.2.2.2.2.2.2.2.2.1 h (by simpa using h2)), fun h h2 => (GG.out.2.2.2.2.2.2.2.2.2.2.2.2.2.1 h (by simpa using h2)), GG.out.2.2.2.2.2.2.2.2.2.2.2.2.2.2⟩, hidD ⟨fun h => (SS0.out.1 (by simpa using h)), fun h => (SS0.out.2 (by simpa using h))⟩⟩
            · have hf0 : D 15 = false := by
                cases h : D 15 with
                | false => rfl
                | true => rw [(hcl 15 _ rfl h 11 (by simp))] at hDi; cases hDi
              have hS0 := SS0.out.1 hf0
              obtain ⟨s5, a5, l5, c5, t5, b5, k5, d5, n5, r5, i5, j5⟩ := hS0.1.1.rat (i := 10) rfl
              have e0 := n5.c0
              have e1 := n5.c1
              have e2 := n5.c2
              have e3 := n5.c3
              clear hds
              refine wpOpIn_step rfl (fun K hK => ?_)
              go_simp
              exact hK _ _ ⟨_, _, _, _, _, _, _, _, _, _, _, _, _, _, _, rfl, hidD ⟨GG.out.1, GG.out.2.1, GG.out.2.2.1, GG.out.2.2.2.1, GG.out.2.2.2.2.1, GG.out.2.2.2.2.2.1, GG.out.2.2.2.2.2.2.1, GG.out.2.2.2.2.2.2.2.1, GG.out.2.2.2.2.2.2.2.2.1, fun h h2 => (GG.out.2.2.2.2.2.2.2.2.2.1 h (by simpa using h2)), fun h h2 => (GG.out.2.2.2.2.2.2.2.2.2.2.1 h (by simpa using h2)), fun _ _ => r5, fun h h2 => (GG.out.2.2.2.2.2.2.2.2.2.2.2.2.1 h (by simpa using h2)), fun h h2 => (GG.out.2.2.2.2.2.2.2.2.2.2.2.2.2.1 h (by simpa using h2)), GG.out.2.2.2.2.2.2.2.2.2.2.2.2.2.2⟩, hidD ⟨fun h => (SS0.out.1 (by simpa using h)), fun h => (SS0.out.2 (by simpa using h))⟩⟩
            · have hf0 : D 15 = false := by
                cases h : D 15 with
                | false => rfl
                | true => rw [(hcl 15 _ rfl h 12 (by simp))] at hDi; cases hDi
              have hS0 := SS0.out.1 hf0
              have h0 := GG.out.2.2.2.2.2.2.2.2.2.2.1 (hds 10 (by simp)) hf0
              have h1 := GG.out.2.2.2.2.2.2.2.2.2.2.2.1 (hds 11 (by simp)) hf0
              clear hds
              have HC := hidD (fun (n9 : Nat) => CallsIn.inRound l ((callsIn_wide (n := n9)).2 (qtimes_c _ _ c (cf qs j) V h0 h1 HSC.out (HSQN.out j))))
              clear h0 h1
              refine wpOpIn_step rfl (fun K hK => ?_)
              go_simp
              gi_wp2_with (refine ⟨trivial, ?_⟩; gi_at_call 52; refine (HC.out _).mono ?_; rintro e w5 ⟨v5, rfl, hv5, hb5⟩)
              exact ⟨_, _, _, _, _, _, _, _, _, _, _, _, _, _, _, rfl, hidD ⟨GG.out.1, GG.out.2.1, GG.out.2.2.1, GG.out.2.2.2.1, GG.out.2.2.2.2.1, GG.out.2.2.2.2.2.1, GG.out.2.2.2.2.2.2.1, GG.out.2.2.2.2.2.2.2.1, GG.out.2.2.2.2.2.2.2.2.1, fun h h2 => (GG.out.2.2.2.2.2.2.2.2.2.1 h (by simpa using h2)).below hb5, fun h h2 => (GG.out.2.2.2.2.2.2.2.2.2.2.1 h (by simpa using h2)).below hb5, fun h h2 => (GG.out.2.2.2.2.2.2.2.2.2.2.2.1 h (by simpa using h2)).below hb5, fun _ _ => hv5, fun h h2 => (GG.out.2.2.2.2.2.2.2.2.2.2.2.2.2.1 h (by simpa using h2)).below hb5, GG.out.2.2.2.2.2.2.2.2.2.2.2.2.2.2⟩, hidD ⟨fun h => (SS0.out.1 (by simpa using h)).below hb5, fun h => (SS0.out.2 (by simpa using h)).below hb5⟩⟩
            · have hf0 : D 15 = false := by
                cases h : D 15 with
                | false => rfl
                | true => rw [(hcl 15 _ rfl h 13 (by simp))] at hDi; cases hDi
              have hS0 := SS0.out.1 hf0
              have h0 := GG.out.2.2.2.2.2.2.2.2.2.1 (hds 9 (by simp)) hf0
              have h1 := GG.out.2.2.2.2.2.2.2.2.2.2.2.2.1 (hds 12 (by simp)) hf0
              clear hds
              have HC := hidD (fun (n9 : Nat) => CallsIn.inRound l ((callsIn_wide (n := n9)).2 (qminus_c _ _ (cf X t1) (c * cf qs j) V h0 h1 HXS.out (HSPR.out j))))
              clear h0 h1
              refine wpOpIn_step rfl (fun K hK => ?_)
              go_simp
              gi_wp2_with (refine ⟨trivial, ?_⟩; gi_at_call 51; refine (HC.out _).mono ?_; rintro e w5 ⟨v5, rfl, hv5, hb5⟩)
              exact ⟨_, _, _, _, _, _, _, _, _, _, _, _, _, _, _, rfl, hidD ⟨GG.out.1, GG.out.2.1, GG.out.2.2.1, GG.out.2.2.2.1, GG.out.2.2.2.2.1, GG.out.2.2.2.2.2.1, GG.out.2.2.2.2.2.2.1, GG.out.2.2.2.2.2.2.2.1, GG.out.2.2.2.2.2.2.2.2.1, fun h h2 => (GG.out.2.2.2.2.2.2.2.2.2.1 h (by simpa using h2)).below hb5, fun h h2 => (GG.out.2.2.2.2.2.2.2.2.2.2.1 h (by simpa using h2)).below hb5, fun h h2 => (GG.out.2.2.2.2.2.2.2.2.2.2.2.1 h (by simpa using h2)).below hb5, fun h h2 => (GG.out.2.2.2.2.2.2.2.2.2.2.2.2.1 h (by simpa using h2)).below hb5, fun _ _ => hv5, GG.out.2.2.2.2.2.2.2.2.2.2.2.2.2.2⟩, hidD ⟨fun h => (SS0.out.1 (by simpa using h)).below hb5, fun h => (SS0.out.2 (by simpa using h)).below hb5⟩⟩
            · have hf0 : D 15 = false := by
                cases h : D 15 with
                | false => rfl
                | true => rw [(hcl 15 _ rfl h 14 (by simp))] at hDi; cases hDi
              have hS0 := SS0.out.1 hf0
              obtain rfl := GG.out.1 (hds 0 (by simp))
              obtain rfl := GG.out.2.2.2.1 (hds 3 (by simp))
              clear hds
              refine wpOpIn_step rfl (fun K hK => ?_)
              go_simp
              exact hK _ _ ⟨_, _, _, _, _, _, _, _, _, _, _, _, _, _, _, rfl, hidD ⟨fun _ => rfl, GG.out.2.1, GG.out.2.2.1, fun _ => rfl, GG.out.2.2.2.2.1, GG.out.2.2.2.2.2.1, GG.out.2.2.2.2.2.2.1, GG.out.2.2.2.2.2.2.2.1, GG.out.2.2.2.2.2.2.2.2.1, fun h h2 => (GG.out.2.2.2.2.2.2.2.2.2.1 h (by simpa using h2)), fun h h2 => (GG.out.2.2.2.2.2.2.2.2.2.2.1 h (by simpa using h2)), fun h h2 => (GG.out.2.2.2.2.2.2.2.2.2.2.2.1 h (by simpa using h2)), fun h h2 => (GG.out.2.2.2.2.2.2.2.2.2.2.2.2.1 h (by simpa using h2)), fun h h2 => (GG.out.2.2.2.2.2.2.2.2.2.2.2.2.2.1 h (by simpa using h2)), fun _ => rfl⟩, hidD ⟨fun h => (SS0.out.1 (by simpa using h)), fun h => (SS0.out.2 (by simpa using h))⟩⟩
            · have hS0 := SS0.out.1 hDi
              have h0 := GG.out.2.2.2.2.2.2.2.2.2.2.2.2.2.1 (hds 13 (by simp)) hDi
              obtain rfl := GG.out.2.2.2.2.2.2.2.2.2.2.2.2.2.2 (hds 14 (by simp))
              have hE := hS0.1.1.rats (i := 4) rfl
              obtain ⟨xa, xb, xc, xd, e0, e1, e2, e3, _⟩ := hE.at HXL.out
              have f0 := hE.frozen (t1 * 4)
              have f1 := hE.frozen (t1 * 4 + 1)
              have f2 := hE.frozen (t1 * 4 + 2)
              have f3 := hE.frozen (t1 * 4 + 3)
              obtain ⟨s9, a9, l9, c9, t9, b9, k9, d9, rfl⟩ := IsRat.form h0
              have hcs : ∃ cs, V.heap[gR]? = some (.cells cs 65 (0, 0)) := by obtain ⟨cs, h1, _⟩ := hE; exact ⟨cs, h1⟩
              clear hds
              refine wpOpIn_step rfl (fun K hK => ?_)
              go_simp
              exact hK _ _ ⟨_, _, _, _, _, _, _, _, _, _, _, _, _, _, _, rfl, hidD ⟨GG.out.1, GG.out.2.1, GG.out.2.2.1, GG.out.2.2.2.1, GG.out.2.2.2.2.1, GG.out.2.2.2.2.2.1, GG.out.2.2.2.2.2.2.1, GG.out.2.2.2.2.2.2.2.1, GG.out.2.2.2.2.2.2.2.2.1, fun _ h => by simp at h, fun _ h => by simp at h, fun _ h => by simp at h, fun _ h => by simp at h, fun _ h => by simp at h, fun _ => rfl⟩, hidD ⟨fun h => by simp at h, fun _ => ⟨hS0.1.upd (hS0.1.1.putRats (i := 4) rfl HXL.out h0) (fun B hB => putAt_far hB _ _ _ _) (by obtain ⟨cs, h1⟩ := hcs; exact box_ne4 hS0.1.2.1 h1) (fun e => hS0.1.1.ne 4 6 rfl rfl (by decide) e.symm), hS0.2.trans (keeps_putAt _ _ _ _ _ _ _)⟩⟩⟩
          case fin2 =>
            rintro D act V hDD ⟨t61x, t62x, t63x, t64x, t65x, t66x, t67x, t68x, t69x, t70x, t71x, t72x, t73x, t74x, t75x, rfl, GG, SS0⟩
            have h3 := SS0.out.2 (hDD 15 (by decide))
            rw [HXN.out] at h3
            have HO := hidD (show SpK w W V (spBs w pa (some ⟨bq, 0, none⟩) la pc lb qc m gR rc B5 (B5 + 1) (B5 + 1 + 1) (B5 + 1 + 1 + 1) (addAt R i (-c) qs (j + 1)) (Q.set i c) ++ [some (Bc, .rat c)]) B4 (n : Int) (B5 + 1) i from ⟨⟨h3.1.1.take 10, h3.1.2⟩, h3.2⟩)
            clear GG SS0 hDD h3
            gi_wp2_with fail
            go_roundw
            case rel => exact ⟨j + 1, by omega, by go_num, HO⟩
            case measure => simp [intOf]; omega
        · obtain rfl : j = lb := by omega
          gi_wp2_with fail
          refine ⟨HJ.out.2.from _, ?_⟩
          have h3 := HJ.out.1.1.take 9
          rw [HLB.out] at h3
          show SpB w wr (spBs w pa _ la pc _ qc m gR rc B5 (B5 + 1) (B5 + 1 + 1) (B5 + 1 + 1 + 1) (splitAt ps qs n m (k + 1)).2 (splitAt ps qs n m (k + 1)).1) B4 (n : Int) (B5 + 1) (m - (k + 1))
          rw [HSPL.out, HLR.out.2.2.2.2.2]
          refine ⟨?_, HJ.out.1.2⟩
          have hlb := HLB.out
          rw [← hlb]
          rw [← hlb] at h3
          exact h3
  case done =>
    intro DC W hD hS hK
    have hl1 := (splitAt_length ps qs n m m).2
    have hl2 := (splitAt_length ps qs n m m).1
    have hlead : cf qs n ≠ 0 := by
      have := trim_last HTQ.out HQ0.out
      rwa [show qs.length - 1 = n by have := HN.out; have := HLB.out; omega] at this
    obtain ⟨z, hz4, hz1, hz2, hz3⟩ := HL.out m (Nat.le_refl _)
    have hq1 : quoQ ps qs = trimQ (splitAt ps qs n m m).1 := by unfold quoQ; rw [show qs.length - 1 = n by have := HN.out; have := HLB.out; omega, show ps.length - n = m by have := HN.out; have := HLA.out; omega]
    have hr1 : remQ ps qs = trimQ (splitAt ps qs n m m).2 := by unfold remQ; rw [show qs.length - 1 = n by have := HN.out; have := HLB.out; omega, show ps.length - n = m by have := HN.out; have := HLA.out; omega]
    obtain ⟨R, hR⟩ : ∃ R, (splitAt ps qs n m m).2 = R := ⟨_, rfl⟩
    obtain ⟨Q, hQ⟩ : ∃ Q, (splitAt ps qs n m m).1 = Q := ⟨_, rfl⟩
    rw [hR] at hl1 hz2 hr1
    rw [hQ] at hl2 hz3 hq1
    rw [hR, hQ] at hS
    have HSR := hidD (show Sqs R from Sqs.of fun i => Sq.of (hz2 i) (by omega))
    have HSQ' := hidD (show Sqs Q from Sqs.of fun i => Sq.of (hz3 i) (by omega))
    have hrr : RowK true W (.slice (some ⟨gR, 0, none⟩) la rc) R := by
      have h := (hS.1.rats (i := 4) rfl).row (n := la) (cap := rc) (by have := HLA.out; omega) (by have := HRC.out; omega) (by have := HRC.out; omega) hlma
      rwa [List.take_of_length_le (by have := HLA.out; omega)] at h
    have hqq : RowK true W (.slice (some ⟨B5 + 1, 0, none⟩) m m) Q := by
      have h := (hS.1.rats (i := 6) rfl).row (n := m) (cap := m) (by omega) (Nat.le_refl _) (by omega) hmle
      rwa [List.take_of_length_le (by omega)] at h
    have ST0 : DnS w W.drew DC B5 (B5 + 1 + 1) (.slice (some ⟨gR, 0, none⟩) la rc) (.slice (some ⟨B5 + 1, 0, none⟩) m m) R Q :=
      DnS.below ⟨(hS.1.cell (i := 2) rfl).1, (hS.1.cell (i := 3) rfl).1, (hS.1.cell (i := 5) rfl).1, (hS.1.cell (i := 7) rfl).1, hrr, hqq, hS.1.2.2, hK⟩ ((Below.refl _ W).drew)
    have ST1 : Dn4 false w W.drew DC undef := fun e => by cases e
    have HQ1 := hidD hq1
    have HR1 := hidD hr1
    have HB3 := hidD (show w.heap.size ≤ DC by have := HBW.out; omega)
    clear hS hl1 hl2 hz1 hz2 hz3 hz4 hq1 hr1 hR hQ hlead hrr hqq hK HS3
    gi_wp2_with fail
    refine wpIn_region_tab hmx [[], [0], [], [2, 1], [1, 3, 0, 1], [3, 4, 0, 1, 2, 3, 4], [5, 0, 1, 2, 3, 4, 5]] (by kernel_rfl) (by decide)
      (fun D act V => ∃ (t77x t78x t79x t80x t6x : Value), act = { tmps := #[Value.agg #[Value.slice pa la pc], Value.agg #[Value.slice qa lb qc], Value.pointer (some { block := w.heap.size, off := 0 }), Value.pointer (some { block := w.heap.size + 1, off := 0 }), Value.pointer (some { block := w.heap.size + 1 + 1, off := 0 }), Value.pointer (some { block := w.heap.size + 1 + 1 + 1, off := 0 }), t6x, Value.pointer (some { block := B4, off := 0 }), Value.pointer (some { block := B5, off := 0 }), Value.pointer (some { block := B5 + 1 + 1, off := 0 }), undef, undef, undef, undef, undef, Value.agg #[Value.slice qa lb qc], Value.int IntKind.i64 ↑n, Value.int IntKind.i64 ↑n, Value.bool (decide ((n : Int) < 0)), undef, undef, Value.pointer (some { block := w.heap.size, off := 0 }), Value.slice pa la pc, Value.slice (some { block := gR, off := 0 }) la rc, Value.slice (some { block := gR, off := 0 }) la rc, Value.int IntKind.i64 ↑la, Value.int IntKind.i64 ↑n, Value.int IntKind.i64 ↑m, Value.int IntKind.i64 ↑m, Value.slice (some { block := B5 + 1, off := 0 }) m m, Value.slice (some { block := B5 + 1, off := 0 }) m m, Value.func (Fn.func 67) #[] #[Value.pointer (some { block := B5 + 1 + 1 + 1, off := 0 })], undef, undef, undef, undef, undef, undef, undef, undef, undef, undef, undef, undef, undef, undef, undef, undef, undef, undef, undef, undef, undef, undef, undef, undef, undef, undef, undef, undef, undef, undef, undef, undef, undef, undef, undef, undef, undef, undef, undef, undef, undef, undef, undef, undef, undef, t77x, t78x, t79x, t80x], defers := { target := .collected DC, args := #[] } :: [] } ∧ Hid ((D 0 = true → t77x = .slice (some ⟨B5 + 1, 0, none⟩) m m) ∧ (D 1 = true → D 5 = false → IsPoly V t78x (trimQ Q)) ∧ (D 2 = true → t79x = .slice (some ⟨gR, 0, none⟩) la rc) ∧ (D 3 = true → D 5 = false → IsPoly V t80x (trimQ R)) ∧ (D 6 = true → t6x = .bool true)) ∧ Hid ((D 4 = false → DnS w V DC B5 (B5 + 1 + 1) (.slice (some ⟨gR, 0, none⟩) la rc) (.slice (some ⟨B5 + 1, 0, none⟩) m m) R Q) ∧ (D 4 = true → Tr0 V)) ∧ Hid ((D 5 = false → Dn4 (D 4) w V DC t78x) ∧ (D 5 = true → Dn5 w V DC t78x t80x (trimQ Q) (trimQ R))))
      ⟨_, _, _, _, _, rfl, hidD ⟨by simp, by simp, by simp, by simp, by simp⟩, hidD ⟨fun _ => ST0, by simp⟩, hidD ⟨fun _ => ST1, by simp⟩⟩ ?step3 ?fin3
    case step3 =>
      rintro D act V i ds hcl hi hds hDi ⟨t77x, t78x, t79x, t80x, t6x, rfl, GG, SS0, SS1⟩
      have hi6 : i < 7 := (List.getElem?_eq_some_iff.1 hi).1
      obtain rfl | rfl | rfl | rfl | rfl | rfl | rfl : i = 0 ∨ i = 1 ∨ i = 2 ∨ i = 3 ∨ i = 4 ∨ i = 5 ∨ i = 6 := by omega
      all_goals
        simp only [List.getElem?_cons_zero, List.getElem?_cons_succ, Option.some.injEq] at hi
        subst hi
      · have hf0 : D 4 = false := by
          cases h : D 4 with
          | false => rfl
          | true => rw [(hcl 4 _ rfl h 0 (by simp))] at hDi; cases hDi
        have hS0 := SS0.out.1 hf0
        have hf1 : D 5 = false := by
          cases h : D 5 with
          | false => rfl
          | true => rw [(hcl 5 _ rfl h 0 (by simp))] at hDi; cases hDi
        have hS1 := SS1.out.1 hf1
        have e6 := hS0.2.2.2.1.cell
        clear hds
        refine wpOpIn_step rfl (fun K hK => ?_)
        go_simp
        exact hK _ _ ⟨_, _, _, _, _, rfl, hidD ⟨fun _ => rfl, fun h h2 => (GG.out.2.1 h (by simpa using h2)), GG.out.2.2.1, fun h h2 => (GG.out.2.2.2.1 h (by simpa using h2)), GG.out.2.2.2.2⟩, hidD ⟨fun h => (SS0.out.1 (by simpa using h)), fun h => (SS0.out.2 (by simpa using h))⟩, hidD ⟨fun h => (SS1.out.1 (by simpa using h)), fun h => (SS1.out.2 (by simpa using h))⟩⟩
      · have hf0 : D 4 = false := by
          cases h : D 4 with
          | false => rfl
          | true => rw [(hcl 4 _ rfl h 1 (by simp))] at hDi; cases hDi
        have hS0 := SS0.out.1 hf0
        have hf1 : D 5 = false := by
          cases h : D 5 with
          | false => rfl
          | true => rw [(hcl 5 _ rfl h 1 (by simp))] at hDi; cases hDi
        have hS1 := SS1.out.1 hf1
        obtain rfl := GG.out.1 (hds 0 (by simp))
        clear hds
        have HC := hidD (fun (n9 : Nat) => (callsIn_wide (n := n9)).2 (ymade_c _ Q V hS0.2.2.2.2.2.1 HSQ'.out))
        refine wpOpIn_step rfl (fun K hK => ?_)
        go_simp
        gi_wp2_with (refine ⟨trivial, ?_⟩; gi_at_call 27; refine (HC.out _).mono ?_; rintro e w5 ⟨v5, rfl, hv5, _, hb5⟩)
        exact ⟨_, _, _, _, _, rfl, hidD ⟨fun _ => rfl, fun _ _ => hv5, GG.out.2.2.1, fun h h2 => (GG.out.2.2.2.1 h (by simpa using h2)).below hb5, GG.out.2.2.2.2⟩, hidD ⟨fun h => (SS0.out.1 (by simpa using h)).below hb5, fun h => (SS0.out.2 (by simpa using h)).below hb5⟩, hidD ⟨fun _ => (fun e => by simp [hf0] at e), fun h => by simp [hf1] at h⟩⟩
      · have hf0 : D 4 = false := by
          cases h : D 4 with
          | false => rfl
          | true => rw [(hcl 3 _ rfl (hcl 4 _ rfl h 3 (by simp)) 2 (by simp))] at hDi; cases hDi
        have hS0 := SS0.out.1 hf0
        have hf1 : D 5 = false := by
          cases h : D 5 with
          | false => rfl
          | true => rw [(hcl 5 _ rfl h 2 (by simp))] at hDi; cases hDi
        have hS1 := SS1.out.1 hf1
        have e5 := hS0.2.2.1.cell
        clear hds
        refine wpOpIn_step rfl (fun K hK => ?_)
        go_simp
        exact hK _ _ ⟨_, _, _, _, _, rfl, hidD ⟨GG.out.1, fun h h2 => (GG.out.2.1 h (by simpa using h2)), fun _ => rfl, fun h h2 => (GG.out.2.2.2.1 h (by simpa using h2)), GG.out.2.2.2.2⟩, hidD ⟨fun h => (SS0.out.1 (by simpa using h)), fun h => (SS0.out.2 (by simpa using h))⟩, hidD ⟨fun h => (SS1.out.1 (by simpa using h)), fun h => (SS1.out.2 (by simpa using h))⟩⟩
      · have hf0 : D 4 = false := by
          cases h : D 4 with
          | false => rfl
          | true => rw [(hcl 4 _ rfl h 3 (by simp))] at hDi; cases hDi
        have hS0 := SS0.out.1 hf0
        have hf1 : D 5 = false := by
          cases h : D 5 with
          | false => rfl
          | true => rw [(hcl 5 _ rfl h 3 (by simp))] at hDi; cases hDi
        have hS1 := SS1.out.1 hf1
        obtain rfl := GG.out.2.2.1 (hds 2 (by simp))
        clear hds
        have HC := hidD (fun (n9 : Nat) => (callsIn_wide (n := n9)).2 (ymade_c _ R V hS0.2.2.2.2.1 HSR.out))
        refine wpOpIn_step rfl (fun K hK => ?_)
        go_simp
        gi_wp2_with (refine ⟨trivial, ?_⟩; gi_at_call 27; refine (HC.out _).mono ?_; rintro e w5 ⟨v5, rfl, hv5, _, hb5⟩)
        exact ⟨_, _, _, _, _, rfl, hidD ⟨GG.out.1, fun h h2 => (GG.out.2.1 h (by simpa using h2)).below hb5, fun _ => rfl, fun _ _ => hv5, GG.out.2.2.2.2⟩, hidD ⟨fun h => (SS0.out.1 (by simpa using h)).below hb5, fun h => (SS0.out.2 (by simpa using h)).below hb5⟩, hidD ⟨fun _ => (fun e => by simp [hf0] at e), fun h => by simp [hf1] at h⟩⟩
      · have hS0 := SS0.out.1 hDi
        have hf1 : D 5 = false := by
          cases h : D 5 with
          | false => rfl
          | true => rw [(hcl 5 _ rfl h 4 (by simp))] at hDi; cases hDi
        have hS1 := SS1.out.1 hf1
        have h0 := GG.out.2.1 (hds 1 (by simp)) hf1
        obtain ⟨a9, l9, c9, rfl⟩ := IsPoly.form h0
        have hbx := hS0.1
        have e0 := hbx.cell
        have f0 := hbx.frozen
        have hne : w.heap.size + 1 + 1 + 1 ≠ w.heap.size + 1 + 1 := by omega
        clear hds
        refine wpOpIn_step rfl (fun K hK => ?_)
        go_simp
        exact hK _ _ ⟨_, _, _, _, _, rfl, hidD ⟨GG.out.1, fun h h2 => (GG.out.2.1 h (by simpa using h2)).setP hbx _, GG.out.2.2.1, fun h h2 => (GG.out.2.2.2.1 h (by simpa using h2)).setP hbx _, GG.out.2.2.2.2⟩, hidD ⟨fun h => by simp at h, fun _ => trivial⟩, hidD ⟨fun _ => (fun _ => ⟨_, rfl, hbx.set _, (Below.heap_setCell V ⟨w.heap.size + 1 + 1, 0, none⟩ _ _ hne).trans hS0.2.1, hS0.2.2.2.2.2.2.1.setCell (p := ⟨w.heap.size + 1 + 1, 0, none⟩) (by show w.heap.size ≤ w.heap.size + 1 + 1; omega) _, (KeepsOthers.setCell V ⟨w.heap.size + 1 + 1, 0, none⟩ _).same DC _ hS0.2.2.2.2.2.2.2 rfl⟩), fun h => by simp [hf1] at h⟩⟩
      · have hS1 := SS1.out.1 hDi
        have h0 := GG.out.2.1 (hds 1 (by simp)) hDi
        have h1 := GG.out.2.2.2.1 (hds 3 (by simp)) hDi
        have hd4 := hds 4 (by simp)
        obtain ⟨v2, rfl, hb2, hb3, hbw, hbd⟩ := hS1 (hds 4 (by simp))
        obtain ⟨a9, l9, c9, rfl⟩ := IsPoly.form h1
        have e0 := hb3.cell
        have f0 := hb3.frozen
        have hne : w.heap.size + 1 + 1 ≠ w.heap.size + 1 + 1 + 1 := by omega
        clear hds
        refine wpOpIn_step rfl (fun K hK => ?_)
        go_simp
        exact hK _ _ ⟨_, _, _, _, _, rfl, hidD ⟨GG.out.1, fun _ h => by simp at h, GG.out.2.2.1, fun _ h => by simp at h, GG.out.2.2.2.2⟩, hidD ⟨fun h => by simp [hd4] at h, fun _ => trivial⟩, hidD ⟨fun h => by simp at h, fun _ => ⟨_, _, rfl, rfl, (Below.heap_setCell V ⟨w.heap.size + 1 + 1 + 1, 0, none⟩ _ _ hne).trans hb2, hb3.set _, h0.setP hb3 _, h1.setP hb3 _, hbw.setCell (p := ⟨w.heap.size + 1 + 1 + 1, 0, none⟩) (by show w.heap.size ≤ w.heap.size + 1 + 1 + 1; omega) _, (KeepsOthers.setCell V ⟨w.heap.size + 1 + 1 + 1, 0, none⟩ _).same DC _ hbd rfl⟩⟩⟩
      · clear hds
        refine wpOpIn_step rfl (fun K hK => ?_)
        go_simp
        exact hK _ _ ⟨_, _, _, _, _, rfl, hidD ⟨GG.out.1, fun h h2 => (GG.out.2.1 h (by simpa using h2)), GG.out.2.2.1, fun h h2 => (GG.out.2.2.2.1 h (by simpa using h2)), fun _ => rfl⟩, hidD ⟨fun h => (SS0.out.1 (by simpa using h)), fun h => (SS0.out.2 (by simpa using h))⟩, hidD ⟨fun h => (SS1.out.1 (by simpa using h)), fun h => (SS1.out.2 (by simpa using h))⟩⟩
    case fin3 =>
      rintro E act V hDD ⟨t77x, t78x, t79x, t80x, t6x, rfl, GG, SS0, SS1⟩
      obtain ⟨v, v', rfl, rfl, g2, g3, hi2, hi3, hbw, hbd⟩ := SS1.out.2 (hDD 5 (by decide))
      obtain rfl := GG.out.2.2.2.2 (hDD 6 (by decide))
      clear GG SS0 SS1 hDD
      gi_wp2
      refine ⟨by simp, .inl ⟨_, _, rfl, run_takeDeferred hbd, ?_⟩⟩
      have hg := grownBy_putObj' V DC (.deferred none)
      have hgr : ∀ r, some DC = some r → ∃ o : Obj, V.heap[r]? = some o ∧ o.isCells = false := fun r e => by cases e; exact ⟨_, hbd, rfl⟩
      have q2 : Boxed _ (w.heap.size + 1 + 1) 25 v := block_own hg hgr (show Bx V (w.heap.size + 1 + 1) 25 #[v] from g2)
      have q3 : Boxed _ (w.heap.size + 1 + 1 + 1) 25 v' := block_own hg hgr (show Bx V (w.heap.size + 1 + 1 + 1) 25 #[v'] from g3)
      have x2 := q2.cell
      have x3 := q3.cell
      refine ⟨.tuple #[.agg #[v], .agg #[v'], .bool true], by simp [results, Tryz.results22, go_sem, x2, x3], _, _, rfl, ?_, ?_, ?_⟩
      · rw [HQ1.out]
        obtain ⟨u, e, h⟩ := hi2
        exact ⟨u, e, rowK_own hg hgr h⟩
      · rw [HR1.out]
        obtain ⟨u, e, h⟩ := hi3
        exact ⟨u, e, rowK_own hg hgr h⟩
      · exact hbw.trans (belowK_b (w := w) (Nat.le_refl _) _ DC _ _ HB3.out hbd rfl rfl)
end Go.Proofs.YteldjhhjnchdeaaGreatDoor.M3
