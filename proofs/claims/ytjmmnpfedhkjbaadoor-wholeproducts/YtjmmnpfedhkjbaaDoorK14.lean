import Derived.Test.YtjmmnpfedhkjbaaDoorK11
import Derived.Test.YtjmmnpfedhkjbaaDoorK13
import Derived.Test.YtjmmnpfedhkjbaaDoorK03
import Derived.Test.YtjmmnpfedhkjbaaDoorK06
namespace Go.Proofs.YtjmmnpfedhkjbaaDoor
open Go.RowKit Go.Shelf

theorem ownsRow_kept {B : Nat} {W W' : World} {row : Option Nat} {base : Nat} {e : TypeId} {size n : Nat} {v : Value} {xs : List Value} (h : W.ownsRow base e size v n xs) (hg : W.grownBy W' row) (hr : ∀ r, row = some r → B ≤ r ∧ ∃ o : Obj, W.heap[r]? = some o ∧ o.isCells = false) : W'.ownsRow base e size v n xs := by
  obtain ⟨h1, h2⟩ := h
  refine ⟨h1, ?_⟩
  rcases h2 with h2 | ⟨b, cap, cur, e1, e2, e3, e4⟩
  · exact Or.inl h2
  · refine Or.inr ⟨b, cap, cur, e1, e2, (hg.block b (Array.getElem?_eq_some_iff.1 e3).1 (fun e => ?_)).trans e3, e4⟩
    obtain ⟨_, o, ho, hc⟩ := hr b e.symm
    rw [e3] at ho; cases ho; cases hc

theorem builderAt_kept {B : Nat} {W W' : World} {row : Option Nat} {T e : TypeId} {B0 b : Nat} {p : Value} {bs : List Value} (h : Lib.BuilderAt T e B0 b p bs W) (hg : W.grownBy W' row) (hr : ∀ r, row = some r → B ≤ r ∧ ∃ o : Obj, W.heap[r]? = some o ∧ o.isCells = false) : Lib.BuilderAt T e B0 b p bs W' := by
  obtain ⟨h1, v, h2, h3, h4⟩ := h
  refine ⟨h1, v, (hg.block b (Array.getElem?_eq_some_iff.1 h2).1 (fun e => ?_)).trans h2, ownsRow_kept h3 hg hr, h4⟩
  obtain ⟨_, o, ho, hc⟩ := hr b e.symm
  rw [h2] at ho; cases ho; cases hc

theorem builder_kept {B : Nat} {W W' : World} {row : Option Nat} {T e : TypeId} {B0 b : Nat} {bs : List Value} (h : Lib.IsBuilder T e B0 b bs W) (hg : W.grownBy W' row) (hr : ∀ r, row = some r → B ≤ r ∧ ∃ o : Obj, W.heap[r]? = some o ∧ o.isCells = false) : Lib.IsBuilder T e B0 b bs W' :=
  h.elim (fun h => Or.inl (builderAt_kept h hg hr)) (fun h => Or.inr (builderAt_kept h hg hr))

theorem tab_below {P : Program} {w w' : World} {name : String} {k : IntKind} {zs : List Int} (h : Lib.TabIs P w name k zs) (hb : Below w.heap.size w w') : Lib.TabIs P w' name k zs := by
  unfold Lib.TabIs World.var? at *
  cases hg : P.globalNamed name with
  | none => rw [hg] at h; cases h
  | some g =>
    rw [hg] at h
    simp only [Option.bind_some] at h ⊢
    have hlt : g < w.heap.size := by
      rcases Nat.lt_or_ge g w.heap.size with h' | h'
      · exact h'
      · rw [Array.getElem?_eq_none h'] at h; cases h
    rw [hb.block g hlt]
    exact h

/-- The text of the k highest chunks. -/
def topText (cs : List Nat) (k : Nat) : List UInt8 := chunkText (cs.drop (cs.length - k))

theorem topText_zero (cs : List Nat) : topText cs 0 = [] := by
  rw [topText, Nat.sub_zero, List.drop_length]; rfl
theorem topText_all (cs : List Nat) : topText cs cs.length = chunkText cs := by
  rw [topText, Nat.sub_self, List.drop_zero]
theorem topText_first {cs : List Nat} (h : 0 < cs.length) : topText cs 1 = Lib.decDigits (cs[cs.length - 1]?.getD 0) := by
  rw [topText, List.drop_eq_getElem_cons (by omega), List.drop_eq_nil_of_le (by omega), chunkText, List.getElem?_eq_getElem (by omega)]
  rfl
theorem topText_next {cs : List Nat} {k : Nat} (hk : 0 < k) (h : k < cs.length) : topText cs (k + 1) = topText cs k ++ pad19 (cs[cs.length - 1 - k]?.getD 0) := by
  have e : cs.drop (cs.length - (k + 1)) = cs[cs.length - 1 - k]?.getD 0 :: cs.drop (cs.length - k) := by
    rw [show cs.length - (k + 1) = cs.length - 1 - k from by omega, List.drop_eq_getElem_cons (by omega), show cs.length - 1 - k + 1 = cs.length - k from by omega, List.getElem?_eq_getElem (by omega)]
    rfl
  rw [topText, topText, e]
  cases hd : cs.drop (cs.length - k) with
  | nil => have := congrArg List.length hd; rw [List.length_drop, List.length_nil] at this; omega
  | cons d ds => rw [chunkText]; simp

/-- What the rounds of text keep. -/
def TxI (w : World) (B0 M : Nat) (cs : List Nat) (v : Value) (k : Nat) (W : World) : Prop :=
  ((((Boxed W w.heap.size 22 v ∧ Boxed W (B0 + 1) 22 v) ∧ Below w.heap.size w W) ∧ W.ownsRow M 56 1 v cs.length (cellsOf .u64 cs)) ∧ Lib.IsBuilder 75 5 B0 B0 (Lib.byteCells (topText cs k)) W)

theorem txI_own (w : World) (B0 M : Nat) (cs : List Nat) (v : Value) (hB : w.heap.size ≤ B0) : OwnFrom (B0 + 1 + 1) (TxI w B0 M cs v) :=
  OwnFrom.and (OwnFrom.and (OwnFrom.and (OwnFrom.and (Own.from (boxed_own _ _ (fun _ => v)) _) (Own.from (boxed_own _ _ (fun _ => v)) _)) (ownFrom_below (Nat.le_refl _) (by omega)))
    (fun _ _ _ _ h hg hr => ownsRow_kept h hg hr)) (fun _ _ _ _ h hg hr => builder_kept h hg hr)
end Go.Proofs.YtjmmnpfedhkjbaaDoor
namespace Go.Proofs.YtjmmnpfedhkjbaaDoor
open Go.RowKit Go.Shelf

attribute [local go_sem] Oper.semAt_some

/-- The number that a word's cell holds. -/
def cellNat (W : World) (b j : Nat) : Nat := match W.cell? ⟨b, j, none⟩ with
  | some (.int _ z) => z.toNat
  | _ => 0

/-- The number that a row of words holds, whose block it begins. -/
def restVal (W : World) : Value → Nat
  | .slice (some p) l _ => val B64 ((List.range l).map (cellNat W p.block))
  | _ => 0

theorem restVal_arr {W : World} {g l cap : Nat} {zs : List Nat} (h : Arr W g zs) (hl : l ≤ zs.length) : restVal W (.slice (some ⟨g, 0, none⟩) l cap) = val B64 (zs.take l) := by
  unfold restVal
  have e : (List.range l).map (cellNat W g) = zs.take l := by
    refine List.ext_getElem (by rw [List.length_map, List.length_range, List.length_take]; omega) (fun j h1 h2 => ?_)
    have hj : j < zs.length := by rw [List.length_map, List.length_range] at h1; omega
    rw [List.getElem_map, List.getElem_range, List.getElem_take, cellNat, h.cell hj, List.getElem?_eq_getElem hj]
    rfl
  exact congrArg (val B64) e

/-- What is left of the number while its chunks are taken. -/
def Rst (W : World) (g : Nat) (rv : Value) (n : Nat) : Prop :=
  (rv = .slice none 0 0 ∧ n = 0) ∨ ∃ l cap zs, rv = .slice (some ⟨g, 0, none⟩) l cap ∧ Arr W g zs ∧ Dig B64 zs ∧ l ≤ zs.length ∧ zs.take l = limbs B64 n ∧ l ≤ 1099511627776 ∧ l ≤ cap ∧ cap ≤ 9223372036854775807

theorem Rst.val {W : World} {g : Nat} {rv : Value} {n : Nat} (h : Rst W g rv n) : restVal W rv = n := by
  rcases h with ⟨rfl, rfl⟩ | ⟨l, cap, zs, rfl, hA, _, hl, hz, _⟩
  · rfl
  · rw [restVal_arr hA hl, hz, val_limbs (by unfold B64; omega)]

theorem Rst.zero {W : World} {g : Nat} {rv : Value} (h : Rst W g rv 0) : ∃ ax cx, rv = .slice ax 0 cx := by
  rcases h with ⟨rfl, _⟩ | ⟨l, cap, zs, rfl, _, _, hll, hz, _⟩
  · exact ⟨_, _, rfl⟩
  · rw [limbs_zero] at hz
    have h1 := congrArg List.length hz
    rw [List.length_take, List.length_nil] at h1
    have : l = 0 := by omega
    subst this
    exact ⟨_, _, rfl⟩

theorem wpOp_go {P : Program} {ops : Array Oper} {Q : Exit → Act → World → Prop} {i : Nat} {o : Oper} {K : Act → World → Prop} {a : Act} {w : World} (ho : ops[i]? = some o) (hgd : o.guard = none)
    (h : ∀ K' : Act → World → Prop, (∀ a w, K a w → K' a w) → o.wp P a w K' Q) : wpOp P ops Q i K a w := by
  unfold wpOp
  rw [ho]
  simp only [Region.wanted, hgd, if_true]
  exact Or.inl (h K (fun _ _ h => h))

theorem ownsRow_far {W W' : World} {base g : Nat} {e : TypeId} {size n : Nat} {v : Value} {xs : List Value} (h : W.ownsRow base e size v n xs) (hg : W.grownBy W' (some g)) (hlt : g < base) : W'.ownsRow base e size v n xs := by
  obtain ⟨h1, h2⟩ := h
  refine ⟨h1, ?_⟩
  rcases h2 with h2 | ⟨b, cap, cur, e1, e2, e3, e4⟩
  · exact Or.inl h2
  · exact Or.inr ⟨b, cap, cur, e1, e2, (hg.block b (Array.getElem?_eq_some_iff.1 e3).1 (fun e => by injection e; omega)).trans e3, e4⟩

theorem ownsRow_after {W W' : World} {base : Nat} {e : TypeId} {size n : Nat} {v : Value} {xs : List Value} (h : W.ownsRow base e size v n xs) (hb : Below W.heap.size W W') : W'.ownsRow base e size v n xs := by
  obtain ⟨h1, h2⟩ := h
  refine ⟨h1, ?_⟩
  rcases h2 with h2 | ⟨b, cap, cur, e1, e2, e3, e4⟩
  · exact Or.inl h2
  · exact Or.inr ⟨b, cap, cur, e1, e2, (hb.block b (Array.getElem?_eq_some_iff.1 e3).1).trans e3, e4⟩

theorem split_chunk (g l cap : Nat) (zs : List Nat) (n' : Nat) (V : World) (hA : Arr V g zs) (hD : Dig B64 zs) (hll : l ≤ zs.length) (hz : zs.take l = limbs B64 n') (hl40 : l ≤ 1099511627776) :
    Calls Tryd.prog 47 #[.slice (some ⟨g, 0, none⟩) l cap, .int .u64 10000000000000000000] V fun e w' => e = .returned (.int .u64 (n' % C19 : Nat)) ∧ ∃ q, SpWAt zs l C19 l (n' % C19) q ∧ Arr w' g (spMid zs l l q) ∧ V.grownBy w' (some g) := by
  have h := splitByWord_w g l cap zs C19 V hA hD hll hl40 (by have := C19_two; omega) C19_lt
  rw [show ((C19 : Nat) : Int) = 10000000000000000000 from rfl] at h
  refine h.mono ?_
  rintro e w' ⟨rest, q, rfl, h1, h2, h3⟩
  have e1 := (h1.chunk hz).1
  subst e1
  exact ⟨rfl, q, h1, h2, h3⟩

theorem builder_after {W W' : World} {T e : TypeId} {B0 b : Nat} {bs : List Value} (h : Lib.IsBuilder T e B0 b bs W) (hb : Below W.heap.size W W') : Lib.IsBuilder T e B0 b bs W' :=
  builder_kept (B := 0) h (grown_below hb none) (fun _ e => by cases e)

theorem repeatL_zero (n : Nat) : Lib.repeatL [48] n = List.replicate n 48 := by
  induction n with
  | zero => rfl
  | succ n ih => rw [List.replicate_succ, ← ih]; rfl

theorem topText_length {cs : List Nat} {k : Nat} (hd : Dig C19 cs) (hk : k ≤ cs.length) : (topText cs k).length ≤ 19 * k := by
  have h1 : ∀ l : List Nat, Dig C19 l → (chunkText l).length ≤ 19 * l.length := by
    intro l
    induction l with
    | nil => intro _; simp [chunkText]
    | cons c l ih =>
      intro h
      have h2 := decDigits_le19 h.head
      have h3 := ih h.tail
      cases l with
      | nil => simpa [chunkText] using h2
      | cons d ds =>
        have h4 := (pad19_spec h.head).1
        rw [chunkText, List.length_append, h4, List.length_cons]
        · omega
        · exact fun e => by cases e
  have := h1 (cs.drop (cs.length - k)) (hd.drop _)
  rw [List.length_drop] at this
  rw [topText]
  omega

/-- What a round of text leaves, behind its last writing. -/
theorem txI_next {w W W' : World} {B0 M : Nat} {cs : List Nat} {v : Value} {k : Nat} (h : TxI w B0 M cs v k W) (hw : w.heap.size < B0)
    (hM : ∀ p l c, v = .slice (some p) l c → p.block ≠ B0)
    (hk : ∀ j o, W.heap[j]? = some o → j ≠ B0 → (∀ cur z, o ≠ .cells cur 5 z) → W'.heap[j]? = some o) (hb : Below B0 W W') {bs : List Value} (hbw : Lib.BuilderAt 75 5 B0 B0 (.pointer (some ⟨B0, 0, none⟩)) bs W') (e : bs = Lib.byteCells (topText cs (k + 1))) :
    KeepsOthers W W' ∧ TxI w B0 M cs v (k + 1) W' := by
  obtain ⟨⟨⟨⟨y1, y2⟩, y3⟩, y4⟩, y5⟩ := h
  have hcB : ∃ c, W.heap[B0]? = some (.cells c 75 (0, 0)) := by
    rcases y5 with ⟨_, u, h, _⟩ | ⟨_, u, h, _⟩
    · exact ⟨_, h⟩
    · exact ⟨_, h⟩
  refine ⟨⟨hb.size, fun j o hj ho => hk j o hj (fun ej => ?_) (fun cur z eo => by rw [eo] at ho; cases ho)⟩, ⟨⟨⟨hk _ _ y1 (by omega) (fun cur z h => by cases h), hk _ _ y2 (by omega) (fun cur z h => by cases h)⟩, y3.trans (hb.mono (by omega))⟩, ?_⟩, Or.inr (by rw [← e]; exact hbw)⟩
  · obtain ⟨c, hc⟩ := hcB
    rw [ej, hc] at hj; cases hj; cases ho
  · obtain ⟨h1, h2⟩ := y4
    refine ⟨h1, ?_⟩
    rcases h2 with h2 | ⟨b, cap, cur, e1, e2, e3, e4⟩
    · exact Or.inl h2
    · exact Or.inr ⟨b, cap, cur, e1, e2, hk _ _ e3 (hM _ _ _ e1) (fun cur z h => by cases h), e4⟩

set_option maxRecDepth 100000 in
set_option maxHeartbeats 2000000 in
theorem mtext_w (a : Option Addr) (len ca n : Nat) (w : World) (h : Row .u64 w (.slice a len ca) (limbs B64 n)) (h0 : n ≠ 0) (htab : Lib.TabIs Tryd.prog w "internal/strconv.uint64pow10" .u64 Lib.pow10Tab) :
    Calls Tryd.prog 30 #[.slice a len ca] w fun e w' => e = .returned (.string ⟨(decN n).toArray⟩) ∧ Below w.heap.size w w' := by
  obtain ⟨hl, hcap, hcm, hlm, hc⟩ := row_fn h
  have hlp : 0 < len := by rw [hl]; exact List.length_pos_iff.2 (fun e => h0 ((limbs_eq_nil (by unfold B64; omega)).1 e))
  obtain ⟨ab, ao, rfl, _, _⟩ := hc 0 hlp
  have HCL := hidD (show ∀ V, Below w.heap.size w V → Calls Tryd.prog 46 #[.slice (some ⟨ab, ao, none⟩) len ca] V fun e w' => ∃ v', e = .returned v' ∧ w'.ownsRow V.heap.size 56 1 v' (limbs B64 n).length (cellsOf .u64 (limbs B64 n)) ∧ Below V.heap.size V w' from fun V hV => by
    have h1 := clone_some ⟨ab, ao, none⟩ ca (limbs B64 n) V (by omega) (fun j hj => by
      obtain ⟨b', o', e, hlt, hcell⟩ := hc j (by omega)
      cases e
      rw [Lib.add_plain]
      exact (hV.cell (p := ⟨ab, ao + j, none⟩) hlt).trans hcell)
    rw [← hl] at h1 ⊢
    exact h1)
  have HL := hidD hl
  have HT := hidD htab
  clear hc hl htab h
  refine (callsIn_wide (n := 3)).1 ?_
  refine callsIn_of_wp_marks Tryd.func30 rfl trivial ?_ rfl
  simp only [Tryd.ntmps30, List.size_toArray, List.length_cons, List.length_nil, Nat.reduceAdd, Nat.reduceSub, Array.replicate_succ, Array.replicate_zero, List.push_toArray, List.append_toArray, List.nil_append, List.cons_append]
  refine wpIn_wide.2 ?_
  go_wp2_with (go_at_call 46; refine (HCL.out _ ((Below.refl _ w).alloc (Nat.le_refl _) _)).mono ?_; rintro e w1 ⟨v1, rfl, ho1, hb1⟩)
  obtain ⟨g, cap1, rfl, hgb, hA1, hc11, hc12⟩ : ∃ g cap1, v1 = .slice (some ⟨g, 0, none⟩) len cap1 ∧ w.heap.size + 1 ≤ g ∧ Arr w1 g (limbs B64 n) ∧ len ≤ cap1 ∧ cap1 ≤ 9223372036854775807 := by
    rw [← HL.out] at ho1
    rcases ho1.2 with ⟨_, e⟩ | ⟨g, cap1, cur, e, h2, h3, h4, h5, _⟩
    · omega
    · subst e
      exact ⟨g, cap1, rfl, by simpa using h2, Arr.owns ho1, h4, h5⟩
  have hgl := hA1.lt
  have hN1 : w.heap.size + 1 ≤ w1.heap.size := by omega
  have hbx : Boxed w1 w.heap.size 22 (.slice none 0 0) := by
    have h1 := Boxed.new w 22 (.slice none 0 0)
    exact (hb1.block w.heap.size (by simp)).trans h1
  have hB1 : Below w.heap.size w w1 := ((Below.refl _ w).alloc (Nat.le_refl _) _).trans (hb1.mono (by simp))
  clear ho1 hb1 HCL
  go_loopw [4] (fun rv wr => ∃ (n' : Nat) (cs : List Nat) (v : Value), Rst wr g rv n' ∧ Boxed wr w.heap.size 22 v ∧ wr.ownsRow w1.heap.size 56 1 v cs.length (cellsOf .u64 cs) ∧ Hid (ChkAt n cs n') ∧ Below w.heap.size w wr ∧ w1.heap.size ≤ wr.heap.size) (fun rv wr => restVal wr rv)
  case atStart => exact ⟨n, [], .slice none 0 0, Or.inr ⟨len, cap1, limbs B64 n, rfl, hA1, dig_limbs (by unfold B64; omega) n, by rw [HL.out]; exact Nat.le_refl _, by rw [List.take_of_length_le (by rw [HL.out]; exact Nat.le_refl _)], hlm, hc11, hc12⟩, hbx, ⟨rfl, Or.inl ⟨rfl, rfl⟩⟩, ChkAt.start n, hB1, Nat.le_refl _⟩
  case round =>
    obtain ⟨n', cs, v, hR, hbv, hov, HC, hB, hsz⟩ := hrel
    by_cases hn : n' = 0
    · subst hn
      obtain ⟨ax, cx, rfl⟩ := hR.zero
      have hcs := HC.out.done
      have hcp : 0 < cs.length := by rw [hcs]; exact List.length_pos_iff.2 (fun e => h0 ((limbs_eq_nil C19_two).1 e))
      have hcl : cs.length ≤ 2199023255552 := by have h1 := HC.out.length; have h2 := chunks_length (n := n) (len := 1099511627776) (by rw [← HL.out]; exact hlm); omega
      obtain ⟨cb, vc, rfl⟩ : ∃ cb vc, v = .slice (some ⟨cb, 0, none⟩) cs.length vc := by
        rcases hov.2 with ⟨_, e⟩ | ⟨cb, vc, cur, e, _⟩
        · omega
        · exact ⟨cb, vc, e⟩
      have HCS := hidD hcs
      have d0 := (hbv.alloc (.cells #[.pointer none, .slice none 0 0] 75)).cell
      clear hR HC hcs
      go_wp2_with (go_at_call 48; refine ((callsIn_wide (n := 2)).1 (bwu_in Fence.wide _ trivial rfl _ _ _ _)).mono ?_; rintro e w' ⟨rfl, rfl⟩)
      refine (wpIn_wide (n := 3)).1 ?_
      obtain ⟨B0, hB0e⟩ : ∃ B0, B0 = wr.heap.size := ⟨_, rfl⟩
      obtain ⟨W0, hW0⟩ : ∃ W0, (wr.alloc (.cells #[.pointer none, .slice none 0 0] 75)).alloc (.cells #[.slice (some ⟨cb, 0, none⟩) cs.length vc] 22) = W0 := ⟨_, rfl⟩
      have hS0 : W0.heap.size = B0 + 1 + 1 := by rw [← hW0, hB0e]; simp
      have x1 : Boxed W0 w.heap.size 22 (.slice (some ⟨cb, 0, none⟩) cs.length vc) := by rw [← hW0]; exact (hbv.alloc _).alloc _
      have x2 : Boxed W0 (B0 + 1) 22 (.slice (some ⟨cb, 0, none⟩) cs.length vc) := by
        have h1 := Boxed.new (wr.alloc (.cells #[.pointer none, .slice none 0 0] 75)) 22 (.slice (some ⟨cb, 0, none⟩) cs.length vc)
        rw [World.size_alloc, ← hB0e, hW0] at h1
        exact h1
      have x3 : Below w.heap.size w W0 := by rw [← hW0]; exact (hB.alloc hB.size _).alloc (by have := hB.size; simp; omega) _
      have x4 : W0.ownsRow w1.heap.size 56 1 (.slice (some ⟨cb, 0, none⟩) cs.length vc) cs.length (cellsOf .u64 cs) := by rw [← hW0]; exact (hov.alloc _).alloc _
      have x5 : Lib.IsBuilder 75 5 B0 B0 (Lib.byteCells (topText cs 0)) W0 := by
        refine Or.inl ⟨Nat.le_refl _, .slice none 0 0, ?_, ?_, by simp [Value.ownBlock]⟩
        · rw [← hW0, hB0e]
          exact (Below.heap_alloc _ _ _ (by simp)).trans (World.alloc_heap_new wr _)
        · rw [topText_zero]; exact ⟨rfl, Or.inl ⟨rfl, rfl⟩⟩
      have hwB : w.heap.size + 1 ≤ B0 := by omega
      have hNW : (wr.alloc (.cells #[.pointer none, .slice none 0 0] 75)).heap.size = B0 + 1 := by rw [hB0e]; simp
      have hcbl : cb < B0 := by
        rcases hov.2 with ⟨e, _⟩ | ⟨g', cap', cur, e, _, hc, _⟩
        · cases e
        · cases e; rw [hB0e]; exact (Array.getElem?_eq_some_iff.1 hc).1
      rw [hW0]
      simp only [← hB0e]
      clear hW0 hbv hov hB hsz hB0e d0
      refine wpIn_rangeN rfl (by omega) (gf := 64) (lb := #[.pointer (some ⟨B0 + 1, 0, none⟩)]) rfl trivial (enters_of Tryd.func64 (by kernel_rfl) rfl)
        (bwu1_seq Fence.wide _ trivial rfl (by omega) (B0 + 1) (some ⟨cb, 0, none⟩) cs.length vc (fun j => cs[j]?.getD 0) (by omega)) (fun _ => rfl)
        (TxI w B0 w1.heap.size cs (.slice (some ⟨cb, 0, none⟩) cs.length vc)) (fun _ _ _ => False) (by rw [hS0]; exact txI_own w B0 w1.heap.size cs _ (by omega)) (fun c _ _ _ _ h _ _ => h.elim)
        ⟨⟨⟨⟨x1, x2⟩, x3⟩, x4⟩, x5⟩ ?rd
        (fun k => { tmps := #[.slice (some ⟨ab, ao, none⟩) len ca, undef, .string ⟨#[]⟩, .pointer (some ⟨w.heap.size, 0, none⟩), .slice ax 0 cx, .pointer (some ⟨B0, 0, none⟩), .int .i64 ((cs.length : Int) - 1 - k), .int .u64 (cs[cs.length - 1 - k]?.getD 0 : Nat), undef, .slice (some ⟨ab, ao, none⟩) len ca, .slice (some ⟨g, 0, none⟩) len cap1, .slice ax 0 cx, .int .i64 0, .bool false, u14, u15, u16, u17, u18, u19, u20, .slice (some ⟨cb, 0, none⟩) cs.length vc, .func (.func 64) #[] #[.pointer (some ⟨B0 + 1, 0, none⟩)], .int .i64 ((cs.length : Int) - 1 - k), .int .u64 (cs[cs.length - 1 - k]?.getD 0 : Nat), undef, undef, undef, undef, undef, undef, undef, undef, undef, undef, undef, undef, undef, undef, undef], defers := [] }) ?assign ?body ?done ?stop
      case rd =>
        rintro k W ⟨⟨⟨⟨_, c2⟩, hBW⟩, ho⟩, _⟩
        refine ⟨c2.cell, fun hk => ⟨cb, 0, rfl, ?_⟩⟩
        rw [Nat.zero_add, ho.cellAt (cs.length - 1 - k) (by omega)]
        simp only [cellsOf, List.getElem?_map, List.getElem?_eq_getElem (show cs.length - 1 - k < cs.length by omega), Option.map_some, Option.getD_some]
      case assign =>
        intro l k W K hK
        unfold bwdArgs
        gi_wp2
        exact hK
      case stop =>
        rintro D c k W _ _ h _
        exact h.elim
      case done =>
        rintro D W hD ⟨⟨⟨⟨y1, y2⟩, y3⟩, y4⟩, y5⟩ hK
        rw [topText_all] at y5
        have hBsz : B0 ≤ W.heap.size := by have := y2.lt; omega
        have HYB := hidD (show Lib.IsBuilderF 75 5 B0 B0 (Lib.byteCells (chunkText cs)) W from Lib.IsBuilderF.of y5)
        have HCT := hidD (show chunkText cs = decN n by rw [HCS.out]; exact chunks_text h0)
        clear y5
        go_wp2_with (go_at_call 52; refine (Tryd.Builder_String_any_k B0 B0 (chunkText cs) _ HYB.out hBsz).mono ?_; rintro e w7 ⟨rfl, _, hb7, hk7⟩)
        have hK7 := hk7 D _ hK (fun e => by cases e; omega) (fun c fz e => by cases e)
        refine ⟨by simp, .inl ⟨_, _, rfl, run_takeDeferred hK7, ?_⟩⟩
        refine ⟨.string ⟨(chunkText cs).toArray⟩, by simp [results, Tryd.results30, go_sem], by rw [HCT.out], ?_⟩
        exact below_grown (y3.trans (hb7.mono (by omega))) (grownBy_putObj' _ D (.deferred none)) (by omega)
      case body =>
        rintro l k W ⟨⟨⟨⟨y1, y2⟩, y3⟩, y4⟩, y5⟩ hk hszW
        have hcd : cs[cs.length - 1 - k]?.getD 0 < C19 := (show Dig C19 cs by rw [HCS.out]; exact dig_limbs C19_two n).getD (by have := C19_two; omega) _
        have HFM := hidD (fun (V : World) (hV : Below w.heap.size w V) (m : Nat) => CallsIn.inRound l ((callsIn_wide (n := m)).2 (formatUint_c (cs[cs.length - 1 - k]?.getD 0) (by have := C19_lt; unfold B64 at this; omega) V (tab_below HT.out hV))))
        have e1 : ((cs.length : Int) - 1 - k) = ((cs.length - 1 - k : Nat) : Int) := by omega
        rw [e1]
        have d0 := y1.cell
        by_cases hk0 : k = 0
        · subst hk0
          have hnl : decide (((cs.length - 1 - 0 : Nat) : Int) < (cs.length : Int) - 1) = false := by simp; omega
          have HX := hidD (show Lib.byteCells (topText cs 0) ++ Lib.strCells ⟨(Lib.decDigits (cs[cs.length - 1 - 0]?.getD 0)).toArray⟩ = Lib.byteCells (topText cs (0 + 1)) by rw [topText_zero, topText_first hcp]; rfl)
          generalize cs[cs.length - 1 - 0]?.getD 0 = x at *
          gi_wp2_with (first
            | (refine ⟨trivial, ?_⟩; gi_at_call 49; refine (HFM.out _ y3 _).mono ?_; rintro e w5 ⟨rfl, hb5⟩; have d05 := (boxed_below y1 hb5).cell))
          have hy5 := builder_after y5 hb5
          refine ⟨trivial, ?_⟩
          gi_at_call 50
          refine (CallsIn.inRound l ((callsIn_wide (n := _)).2 (writeString_c B0 B0 _ _ _ hy5 ?hl ?hs))).mono ?_
          case hl =>
            have h1 := decDigits_le19 hcd
            rw [topText_zero]
            show 0 + (Lib.decDigits x).toArray.size ≤ _
            rw [List.size_toArray]; omega
          case hs => have := y2.lt; have := hb5.size; omega
          rintro e w6 ⟨⟨v6, rfl⟩, ⟨hbw, hb6⟩, hk6⟩
          gi_wp2
          have h5 : TxI w B0 w1.heap.size cs (.slice (some ⟨cb, 0, none⟩) cs.length vc) 0 w5 := ⟨⟨⟨⟨boxed_below y1 hb5, boxed_below y2 hb5⟩, y3.trans (hb5.mono y3.size)⟩, ownsRow_after y4 hb5⟩, hy5⟩
          obtain ⟨hko, hT⟩ := txI_next h5 (by omega) (fun p l c e => by cases e; simp only; omega) hk6 hb6 hbw HX.out
          exact ⟨((keeps_below hb5).trans hko).from _, hT⟩
        · have hnl : decide (((cs.length - 1 - k : Nat) : Int) < (cs.length : Int) - 1) = true := by simp; omega
          have HX := hidD (show (Lib.byteCells (topText cs k) ++ Lib.strCells ⟨(Lib.repeatL [48] (19 - (Lib.decDigits (cs[cs.length - 1 - k]?.getD 0)).length)).toArray⟩) ++ Lib.strCells ⟨(Lib.decDigits (cs[cs.length - 1 - k]?.getD 0)).toArray⟩ = Lib.byteCells (topText cs (k + 1)) by
            rw [topText_next (by omega) hk, pad19, repeatL_zero]
            simp [Lib.byteCells, Lib.strCells])
          have h19 := decDigits_le19 hcd
          generalize cs[cs.length - 1 - k]?.getD 0 = x at *
          obtain ⟨ds, hds⟩ : ∃ ds : ByteArray, ds = ⟨(Lib.decDigits x).toArray⟩ := ⟨_, rfl⟩
          have hdz : ds.size = (Lib.decDigits x).length := by rw [hds]; exact List.size_toArray ..
          rw [← hdz] at h19 HX
          rw [← hds] at HFM HX
          have hz : (19 : Int) - (ds.size : Int) = ((19 - ds.size : Nat) : Int) := by omega
          clear hds hdz
          gi_wp2_with (first
            | (refine ⟨trivial, ?_⟩; gi_at_call 49; refine (HFM.out _ y3 _).mono ?_; rintro e w5 ⟨rfl, hb5⟩; have d05 := (boxed_below y1 hb5).cell))
          refine ⟨trivial, ?_⟩
          gi_at_call 51
          refine (CallsIn.inRound l ((callsIn_wide (n := _)).2 (Tryd.strings_Repeat ⟨#[48]⟩ (19 - ds.size) _ (by omega) (by show 1 * _ ≤ _; omega)))).mono ?_
          rintro e w6 ⟨rfl, hb6⟩
          obtain ⟨zs, hzs⟩ : ∃ zs : ByteArray, (⟨(Lib.repeatL [48] (19 - ds.size)).toArray⟩ : ByteArray) = zs := ⟨_, rfl⟩
          have hzl : zs.size = 19 - ds.size := by
            rw [← hzs]
            show (Lib.repeatL [48] (19 - ds.size)).toArray.size = _
            rw [List.size_toArray, repeatL_zero, List.length_replicate]
          rw [hzs] at HX
          rw [show (⟨(Lib.repeatL (ByteArray.mk #[48]).data.toList (19 - ds.size)).toArray⟩ : ByteArray) = zs from hzs]
          clear hzs
          have hy6 := builder_after (builder_after y5 hb5) hb6
          have hl6 := topText_length (cs := cs) (k := k) (by rw [HCS.out]; exact dig_limbs C19_two n) (by omega)
          have hs6 : B0 ≤ w6.heap.size := by have := y2.lt; have := hb5.size; have := hb6.size; omega
          gi_wp2
          refine ⟨trivial, ?_⟩
          gi_at_call 50
          refine (CallsIn.inRound l ((callsIn_wide (n := _)).2 (writeString_c B0 B0 _ _ _ hy6 (by rw [Lib.byteCells_length]; omega) hs6))).mono ?_
          rintro e w7 ⟨⟨v7, rfl⟩, ⟨hbw7, hb7⟩, hk7⟩
          gi_wp2
          refine ⟨trivial, ?_⟩
          gi_at_call 50
          refine (CallsIn.inRound l ((callsIn_wide (n := _)).2 (writeString_c B0 B0 _ _ _ (Or.inr hbw7) (by rw [List.length_append, Lib.byteCells_length, Lib.strCells_length]; omega) (by have := hb7.size; omega)))).mono ?_
          rintro e w8 ⟨⟨v8, rfl⟩, ⟨hbw8, hb8⟩, hk8⟩
          gi_wp2
          have h6 : TxI w B0 w1.heap.size cs (.slice (some ⟨cb, 0, none⟩) cs.length vc) k w6 := ⟨⟨⟨⟨boxed_below (boxed_below y1 hb5) hb6, boxed_below (boxed_below y2 hb5) hb6⟩, (y3.trans (hb5.mono y3.size)).trans (hb6.mono (Nat.le_trans y3.size hb5.size))⟩, ownsRow_after (ownsRow_after y4 hb5) hb6⟩, hy6⟩
          obtain ⟨hko, hT⟩ := txI_next h6 (by omega) (fun p l c e => by cases e; simp only; omega) (fun j o hj hjB ho => hk8 j o (hk7 j o hj hjB ho) hjB ho) (hb7.trans hb8) hbw8 HX.out
          exact ⟨((keeps_below hb5).trans ((keeps_below hb6).trans hko)).from _, hT⟩
    · obtain ⟨l, cap, zs, rfl, hA, hD, hll, hz, hl40, hlc, hcm'⟩ : ∃ l cap zs, _ := hR.resolve_left (fun h => hn h.2)
      have hl0 : 0 < l := by
        rcases Nat.eq_zero_or_pos l with h | h
        · subst h
          exact absurd ((limbs_eq_nil (B := B64) (by unfold B64; omega)).1 (by rw [← hz]; rfl)) hn
        · exact h
      have hmx : Tryd.prog.follows .mixedOrders = true := by kernel_rfl
      obtain ⟨i0, hi, hz0, hz1, hz2⟩ := info_parts Tryd.infoU64
      have HSP := hidD (fun V (hV : Arr V g zs) => split_chunk g l cap zs n' V hV hD hll hz hl40)
      have HCN := hidD (ChkAt.step HC.out hn)
      have hcl : cs.length ≤ 2199023255552 := by have h1 := HC.out.length; have h2 := chunks_length (n := n) (len := 1099511627776) (by rw [← HL.out]; exact hlm); omega
      obtain ⟨c, hc⟩ : ∃ c, c = n' % C19 := ⟨_, rfl⟩
      rw [← hc] at HSP HCN
      have HST := hidD hz
      clear hz hc hR
      go_upto_region 5 with fail
      refine wp_region_tab hmx [[], [], [1], [2], [0, 3, 2], [4, 4, 0, 1, 2, 3, 4]] (by kernel_rfl) (by decide)
        (fun D a V => ∃ t16 t17 t18 t19 t20 : Value, a = { tmps := #[.slice (some ⟨ab, ao, none⟩) len ca, undef, .string ⟨#[]⟩, .pointer (some ⟨w.heap.size, 0, none⟩), .slice (some ⟨g, 0, none⟩) l cap, undef, undef, undef, undef, .slice (some ⟨ab, ao, none⟩) len ca, .slice (some ⟨g, 0, none⟩) len cap1, .slice (some ⟨g, 0, none⟩) l cap, .int .i64 (l : Nat), .bool true, u14, u15, t16, t17, t18, t19, t20, undef, undef, undef, undef, undef, undef, undef, undef, undef, undef, undef, undef, undef, undef, undef, undef, undef, undef, undef], defers := [] } ∧
          (D 0 = true → t16 = v) ∧ (D 1 = true → t17 = .slice (some ⟨g, 0, none⟩) l cap) ∧ (D 2 = true → t18 = .int .u64 (c : Nat)) ∧
          (D 2 = false → Arr V g zs) ∧ (D 2 = true → ∃ q, SpWAt zs l C19 l c q ∧ Arr V g (spMid zs l l q)) ∧
          (D 3 = true → D 4 = false → ∃ nb, t19 = .slice (some ⟨nb, 0, none⟩) 1 1 ∧ V.cell? ⟨nb, 0, none⟩ = some (.int .u64 (c : Nat))) ∧
          (D 4 = false → V.ownsRow w1.heap.size 56 1 v cs.length (cellsOf .u64 cs)) ∧ (D 4 = true → V.ownsRow w1.heap.size 56 1 t20 (cs.length + 1) (cellsOf .u64 (cs ++ [c]))) ∧
          (D 5 = false → Boxed V w.heap.size 22 v) ∧ (D 5 = true → Boxed V w.heap.size 22 t20) ∧ Below w.heap.size w V ∧ w1.heap.size ≤ V.heap.size)
        ⟨_, _, _, _, _, rfl, by simp, by simp, by simp, fun _ => hA.of_block rfl, by simp, by simp, fun _ => hov, by simp, fun _ => hbv, by simp, hB.drew, hsz⟩ ?step ?fin
      case fin =>
        rintro D a V hDD ⟨t16, t17, t18, t19, t20, rfl, g0, g1, g2, g3, g4, g5, g6, g7, g8, g9, hBV, hsV⟩
        obtain ⟨q, hq, hAq⟩ := g4 (hDD 2 (by decide))
        have ho := g7 (hDD 4 (by decide))
        have hb := g9 (hDD 5 (by decide))
        clear g0 g1 g2 g3 g4 g5 g6 g7 g8 g9 hDD
        have hq1 := hq.1
        have hrow : Row .u64 V (.slice (some ⟨g, 0, none⟩) l cap) q := by
          have h1 := hAq.row 0 l cap (by rw [spMid_length hq1 hll (Nat.le_refl _)]; omega) hlc hcm' hl40
          rw [List.drop_zero] at h1
          have e1 : (spMid zs l l q).take l = q := by rw [spMid, Nat.sub_self, List.take_zero, List.nil_append, List.take_append_of_le_length (by omega), List.take_of_length_le (by omega)]
          rwa [e1] at h1
        have HQ := hidD hq
        clear hq
        go_wp2_with (go_at_call 31; refine (trimmed_w _ _ _ q _ hrow).mono ?_; rintro e w5 ⟨u, rfl, ⟨hu, hb5⟩, hform⟩)
        have hfin := HQ.out.chunk HST.out
        have hR5 : Rst w5 g u (n' / C19) := by
          rcases hform with ⟨rfl, e⟩ | rfl
          · exact Or.inl ⟨rfl, (limbs_eq_nil (B := B64) (by unfold B64; omega)).1 (by rw [← hfin.2, e])⟩
          · have h1 := trimL_length q
            refine Or.inr ⟨_, cap, spMid zs l l q, rfl, hAq.below hb5, ?_, by rw [spMid_length hq1 hll (Nat.le_refl _)]; omega, ?_, by omega, by omega, hcm'⟩
            · rw [spMid, Nat.sub_self, List.take_zero, List.nil_append]
              exact HQ.out.2.1.append (hD.drop l)
            · rw [spMid, Nat.sub_self, List.take_zero, List.nil_append, List.take_append_of_le_length h1, take_trimL, hfin.2]
        have hm0 : Rst wr g (.slice (some ⟨g, 0, none⟩) l cap) n' := Or.inr ⟨l, cap, zs, rfl, hA, hD, hll, HST.out, hl40, hlc, hcm'⟩
        go_roundw
        case rel => exact ⟨n' / C19, cs ++ [c], t20, hR5, boxed_below hb hb5, by rw [List.length_append]; exact ownsRow_after ho hb5, HCN.out, hBV.trans (hb5.mono hBV.size), Nat.le_trans hsV hb5.size⟩
        case measure =>
          rw [hR5.val, hm0.val]
          exact Nat.div_lt_self (by omega) (by have := C19_two; omega)
      case step =>
        rintro D a V i ds hcl2 hi2 hds hDi ⟨t16, t17, t18, t19, t20, rfl, g0, g1, g2, g3, g4, g5, g6, g7, g8, g9, hBV, hsV⟩
        have hi6 : i < 6 := (List.getElem?_eq_some_iff.1 hi2).1
        obtain rfl | rfl | rfl | rfl | rfl | rfl : i = 0 ∨ i = 1 ∨ i = 2 ∨ i = 3 ∨ i = 4 ∨ i = 5 := by omega
        all_goals
          simp only [List.getElem?_cons_zero, List.getElem?_cons_succ, Option.some.injEq] at hi2
          subst hi2
        · have hf : D 5 = false := by
            cases h : D 5 with
            | false => rfl
            | true => rw [hcl2 5 _ rfl h 0 (by simp)] at hDi; cases hDi
          have d := (g8 hf).cell
          clear hds
          refine wpOp_go rfl rfl (fun K hK => ?_)
          go_simp
          exact hK _ _ ⟨_, _, _, _, _, rfl, fun _ => rfl, g1, g2, g3, g4, g5, g6, g7, g8, g9, hBV, hsV⟩
        · clear hds
          refine wpOp_go rfl rfl (fun K hK => ?_)
          go_simp
          exact hK _ _ ⟨_, _, _, _, _, rfl, g0, fun _ => rfl, g2, g3, g4, g5, g6, g7, g8, g9, hBV, hsV⟩
        · obtain rfl := g1 (hds 1 (by simp))
          have hf4 : D 4 = false := by
            cases h : D 4 with
            | false => rfl
            | true => rw [hcl2 4 _ rfl h 2 (by simp)] at hDi; cases hDi
          have hf3 : D 3 = false := by
            cases h : D 3 with
            | false => rfl
            | true => rw [hcl2 3 _ rfl h 2 (by simp)] at hDi; cases hDi
          have hf5 : D 5 = false := by
            cases h : D 5 with
            | false => rfl
            | true => rw [hcl2 5 _ rfl h 2 (by simp)] at hDi; cases hDi
          have hAV := g3 hDi
          have hoV := g6 hf4
          have hbV := g8 hf5
          clear g1 g2 g3 g4 g5 g6 g7 g8 g9 hds
          refine wpOp_go rfl rfl (fun K hK => ?_)
          go_simp
          go_wp2_with (go_at_call 47; refine (HSP.out V hAV).mono ?_; rintro e w' ⟨rfl, q, hq, hAq, hgq⟩)
          exact ⟨_, _, _, _, _, rfl, g0, fun _ => rfl, fun _ => rfl, fun h => by simp at h, fun _ => ⟨q, hq, hAq⟩, fun h => by simp [hf3] at h, fun _ => ownsRow_far hoV hgq (by omega), fun h => by simp [hf4] at h, fun _ => hbV.kept hgq (fun e => by injection e; omega), fun h => by simp [hf5] at h, below_grown hBV hgq (by omega), Nat.le_trans hsV hgq.size⟩
        · obtain rfl := g2 (hds 2 (by simp))
          have hf4 : D 4 = false := by
            cases h : D 4 with
            | false => rfl
            | true => rw [hcl2 4 _ rfl h 3 (by simp)] at hDi; cases hDi
          have hf5 : D 5 = false := by
            cases h : D 5 with
            | false => rfl
            | true => rw [hcl2 5 _ rfl h 3 (by simp)] at hDi; cases hDi
          have hd2 := hds 2 (by simp)
          obtain ⟨q, hq, hAq⟩ := g4 hd2
          have hoV := g6 hf4
          have hbV := g8 hf5
          clear g3 g4 g5 g6 g7 g8 g9 hds
          refine wpOp_go rfl rfl (fun K hK => ?_)
          go_simp
          refine hK _ _ ⟨_, _, _, _, _, rfl, g0, by first | exact g1 | exact fun _ => rfl, fun _ => rfl, fun h => by simp [hd2] at h, fun _ => ⟨q, hq, hAq.alloc _⟩, fun _ _ => ⟨_, rfl, ?_⟩, fun _ => hoV.alloc _, fun h => by simp [hf4] at h, fun _ => hbV.alloc _, fun h => by simp [hf5] at h, hBV.alloc hBV.size _, by simp; omega⟩
          exact (Boxed.new V _ _).cell
        · obtain rfl := g0 (hds 0 (by simp))
          have hf5 : D 5 = false := by
            cases h : D 5 with
            | false => rfl
            | true => rw [hcl2 5 _ rfl h 4 (by simp)] at hDi; cases hDi
          have hd2 := hds 2 (by simp)
          obtain ⟨q, hq, hAq⟩ := g4 hd2
          obtain ⟨nb, rfl, hnb⟩ := g5 (hds 3 (by simp)) hDi
          have hoV := g6 hDi
          have hbV := g8 hf5
          refine wpOp_go rfl rfl (fun K hK => wp_append_own _ (.tmp 16) (.tmp 19) 22 rfl w1.heap.size 56 i0 (.int .u64 0) 1 8 Tryd.underlying22 hi hz0 hz1 hz2 rfl (by decide) t16 cs.length (cellsOf .u64 cs) rfl hoV ⟨nb, 0, none⟩ 1 1 [.int .u64 (c : Nat)] rfl rfl ?q1 ?q2 (by unfold maxLen; omega) (by omega) hsV ?q3)
          case q1 =>
            intro j u hj
            cases j with
            | zero => cases hj; exact hnb
            | succ j => cases hj
          case q2 => intro u hu; cases hu with | head => rfl | tail _ h => cases h
          case q3 =>
            intro v' w' h2 h3 h4
            have hgo : ∀ b, b < w1.heap.size → some b ≠ t16.ownBlock := fun b hb e => by have := (hoV.lt b e.symm).1; omega
            refine hK _ _ ⟨_, _, _, _, _, rfl, fun _ => rfl, g1, g2, fun h => by simp [hd2] at h, fun _ => ⟨q, hq, hAq.kept h3 (hgo g hgl)⟩, fun _ h => by simp at h, fun h => by simp at h, fun _ => by rw [cellsOf_snoc]; exact h2, fun _ => hbV.kept h3 (hgo _ (by omega)), fun h => by simp [hf5] at h, hBV.grown h3 hBV.size (fun k hk => by have := (hoV.lt k hk).1; omega), Nat.le_trans hsV h3.size⟩
        · have hd2 := hds 2 (by simp)
          have hd4 := hds 4 (by simp)
          obtain ⟨q, hq, hAq⟩ := g4 hd2
          have hoV := g7 hd4
          have hbV := g8 hDi
          clear g5 g9
          obtain ⟨ao2, n2, cap2, rfl⟩ : ∃ ao2 n2 cap2, t20 = .slice ao2 n2 cap2 := by
            rcases hoV.2 with ⟨hv, _⟩ | ⟨g, cap, cur, hv, _⟩
            · exact ⟨_, _, _, hv⟩
            · exact ⟨_, _, _, hv⟩
          have d := hbV.cell
          have f := hbV.frozen
          have hgs := grownBy_setCell' V w.heap.size (.slice ao2 n2 cap2)
          clear g3 g4 g6 g7 g8 hds
          refine wpOp_go rfl rfl (fun K hK => ?_)
          go_simp
          exact hK _ _ ⟨_, _, _, _, _, rfl, (by first | exact g0 | exact fun _ => rfl), (by first | exact g1 | exact fun _ => rfl), (by first | exact g2 | exact fun _ => rfl), fun h => by simp [hd2] at h, fun _ => ⟨q, hq, hAq.kept hgs (fun e => by injection e; omega)⟩, fun _ h => by simp [hd4] at h, fun h => by simp [hd4] at h, fun _ => ownsRow_far hoV hgs (by omega), fun h => by simp at h, fun _ => hbV.set _, hBV.setCell (p := ⟨w.heap.size, 0, none⟩) (Nat.le_refl _) _, Nat.le_trans hsV hgs.size⟩
end Go.Proofs.YtjmmnpfedhkjbaaDoor
