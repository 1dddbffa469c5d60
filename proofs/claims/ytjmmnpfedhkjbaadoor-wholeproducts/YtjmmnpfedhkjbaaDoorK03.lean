import Derived.RangeFuncNested
import Derived.RangeFuncBound
import Derived.RangeFuncCalls
import Derived.RangeFuncLeaves
import Derived.RangeFuncBox
import Derived.Shelf.Abstract
import Derived.Shelf.RegionOpen
import Derived.WalkKit
import Derived.WalkSpells
import Derived.WalkLawsBesides
import Derived.OwnWalkIn
import Derived.TacticsInMore
import Derived.LoopNIn
import Derived.LoopIn
import Derived.Maps.AppendAt
import Derived.Deep.QuietTactic
import Derived.BigQuiet
import Derived.Test.YtjmmnpfedhkjbaaDoorK01
import Derived.Test.YtjmmnpfedhkjbaaDoorProg
namespace Go.Proofs.YtjmmnpfedhkjbaaDoor
open Go.RowKit Go.Shelf

/-- The slice value v holds the numbers ds in the world W. -/
def Row (k : IntKind) (W : World) (v : Value) (ds : List Nat) : Prop :=
  ∃ a cap, v = .slice a ds.length cap ∧ ds.length ≤ cap ∧ cap ≤ 9223372036854775807 ∧ ds.length ≤ 1099511627776 ∧
    (ds = [] ∨ ∃ b off, a = some ⟨b, off, none⟩ ∧ b < W.heap.size ∧ ∀ j, j < ds.length → W.cell? ⟨b, off + j, none⟩ = some (.int k (ds[j]?.getD 0 : Nat)))

theorem Row.below {k : IntKind} {W W' : World} {v : Value} {ds : List Nat} (h : Row k W v ds) (hb : Below W.heap.size W W') : Row k W' v ds := by
  obtain ⟨a, cap, e, h1, h2, h2', h3⟩ := h
  refine ⟨a, cap, e, h1, h2, h2', ?_⟩
  rcases h3 with h3 | ⟨b, off, ea, hlt, hc⟩
  · exact Or.inl h3
  · exact Or.inr ⟨b, off, ea, Nat.lt_of_lt_of_le hlt hb.size, fun j hj => (hb.cell (p := ⟨b, off + j, none⟩) hlt).trans (hc j hj)⟩

theorem Row.nil (k : IntKind) (W : World) : Row k W (.slice none 0 0) [] := ⟨none, 0, rfl, Nat.le_refl _, by omega, by simp, Or.inl rfl⟩

theorem ret_int {k : IntKind} {a b : Int} (h : a = b) : Ending.returned (.int k a) = .returned (.int k b) := by rw [h]

/-- A row's cells, hidden from the walk. -/
theorem Row.open {k : IntKind} {W : World} {v : Value} {ds : List Nat} (h : Row k W v ds) : ∃ a cap, v = .slice a ds.length cap ∧ ds.length ≤ cap ∧ cap ≤ 9223372036854775807 ∧ ds.length ≤ 1099511627776 ∧
    Hid (∀ j, j < ds.length → ∃ b off, a = some ⟨b, off, none⟩ ∧ b < W.heap.size ∧ W.cell? ⟨b, off + j, none⟩ = some (.int k (ds[j]?.getD 0 : Nat))) := by
  obtain ⟨a, cap, e, h1, h2, h2', h3⟩ := h
  refine ⟨a, cap, e, h1, h2, h2', fun j hj => ?_⟩
  rcases h3 with h3 | ⟨b, off, ea, hb, hc⟩
  · rw [h3] at hj; simp at hj
  · exact ⟨b, off, ea, hb, hc j hj⟩

theorem Tryd.infoInt : (Tryd.prog.info? 3).map (fun i => (i.zero, i.size, i.bytes)) = some (some (.int .i64 0), 1, 8) := by kernel_rfl
theorem Tryd.infoU64 : (Tryd.prog.info? 56).map (fun i => (i.zero, i.size, i.bytes)) = some (some (.int .u64 0), 1, 8) := by kernel_rfl

/-- The numbers as a row's cells. -/
def cellsOf (k : IntKind) (ds : List Nat) : List Value := ds.map (fun d => Value.int k (d : Nat))

theorem cellsOf_snoc (k : IntKind) (ds : List Nat) (d : Nat) : cellsOf k (ds ++ [d]) = cellsOf k ds ++ [.int k (d : Nat)] := by simp [cellsOf]
theorem cellsOf_length (k : IntKind) (ds : List Nat) : (cellsOf k ds).length = ds.length := by simp [cellsOf]

theorem Row.of_owns {k : IntKind} {w : World} {base : Nat} {e : TypeId} {v : Value} {n : Nat} {ds : List Nat} (h : w.ownsRow base e 1 v n (cellsOf k ds)) (hl : ds.length ≤ 1099511627776) : Row k w v ds := by
  obtain ⟨h1, h2⟩ := h
  rw [cellsOf_length] at h1
  simp at h1
  subst h1
  rcases h2 with ⟨rfl, h0⟩ | ⟨g, cap, cur, rfl, _, hg, hle, hmax, hsz, htk⟩
  · have : ds = [] := List.eq_nil_of_length_eq_zero h0
    subst this
    exact Row.nil k w
  · refine ⟨_, cap, rfl, hle, by unfold maxLen at hmax; omega, hl, Or.inr ⟨g, 0, rfl, (Array.getElem?_eq_some_iff.1 hg).1, fun j hj => ?_⟩⟩
    have hj2 : j < cur.size := by omega
    have e1 : cur[j]? = some (.int k (ds[j]?.getD 0 : Nat)) := by
      have e2 : (cur.toList.take (ds.length * 1))[j]? = (cellsOf k ds)[j]? := by rw [htk]
      rw [List.getElem?_take_of_lt (by omega)] at e2
      rw [← Array.getElem?_toList, e2]
      simp [cellsOf, List.getElem?_map, List.getElem?_eq_getElem hj]
    simp [World.cell?, hg, e1]

/-- Behind an append of one number onto a row that the call owns. -/
theorem append_end {k : IntKind} {w wr w3 : World} {e : TypeId} {o : Obj} {v v' : Value} {acc : List Nat} {D : Int} (d : Nat) (hD : D = (d : Nat)) (hB : Below w.heap.size w wr) (hown : wr.ownsRow w.heap.size e 1 v acc.length (cellsOf k acc))
    (hown' : w3.ownsRow w.heap.size e 1 v' (acc.length + 1) (cellsOf k acc ++ [.int k D])) (hgrow : (wr.alloc o).grownBy w3 v.ownBlock) :
    ∃ g cv, v' = .slice (some ⟨g, 0, none⟩) (acc ++ [d]).length cv ∧ w3.ownsRow w.heap.size e 1 v' (acc ++ [d]).length (cellsOf k (acc ++ [d])) ∧ Below w.heap.size w w3 := by
  obtain ⟨g, cv, hv⟩ := ownsRow_succ hown'
  subst hD
  refine ⟨g, cv, by rw [hv]; simp, by rw [cellsOf_snoc]; simpa using hown', ?_⟩
  exact (hB.alloc hB.size _).grown hgrow (by simp; have := hB.size; omega) (fun q hq => (hown.lt q hq).1)

end Go.Proofs.YtjmmnpfedhkjbaaDoor
namespace Go.Proofs.YtjmmnpfedhkjbaaDoor
open Go.RowKit Go.Shelf

/-- An iterator that gives N rounds, the k-th with the arguments args k, where the body's word J keeps what it reads. -/
def SeqN (F : Fence) (n : Nat) (P : Program) (g : Nat) (lb : Array Value) (N : Nat) (args : Nat → Array Value) (Rd : Nat → World → Prop) : Prop :=
  ∀ (l : Nat) (J Jx : Nat → World → Prop) (W : World), (∀ k W1, J k W1 → Rd k W1) →
    (∀ k W1, J k W1 → k < N → YieldAt F (n - 1) P l (args k) W1 fun e W' => (e = .returned (.bool true) ∧ J (k + 1) W') ∨ (e = .returned (.bool false) ∧ Jx k W')) →
    J 0 W → CallsIn F n P g (#[.func (.yield l) #[] #[]] ++ lb) W fun e W' => (∃ v, e = .returned v) ∧ (J N W' ∨ ∃ k, k < N ∧ Jx k W')

/-- How the body of the k-th round may be left. -/
def roundPost (B : Nat) (I : Nat → World → Prop) (Ix : Code → Nat → World → Prop) (k : Nat) (W : World) : Exit → Act → World → Prop
  | .normal, _, W' => KeepsFrom B W W' ∧ I (k + 1) W'
  | .ret, _, W' => KeepsFrom B W W' ∧ Ix .ret k W'
  | .exit id, _, W' => KeepsFrom B W W' ∧ Ix (.exit id) k W'
  | .goto t, _, W' => KeepsFrom B W W' ∧ Ix (.goto t) k W'
  | .panic _, _, _ => False
  | .outgrown, _, _ => False

variable {F : Fence} {n : Nat} {P : Program}

/-- A range over such an iterator, by an invariant that counts the rounds. -/
theorem wpIn_rangeN {g : Operand} {ps : Array Tmp} {assign body : Code} {Q : Exit → Act → World → Prop} {a : Act} {w : World}
    (hro : F.round = none) (h1 : 1 ≤ n) {gf : Nat} {lb : Array Value} (hg : a.eval g = .func (.func gf) #[] lb) (hFg : F.fn gf) (eg : ∀ args w, (callFunc gf args).run P w = .ok (.enter gf args) w)
    {N : Nat} {args : Nat → Array Value} {Rd : Nat → World → Prop} (hseq : SeqN F (n - 1) P gf lb N args Rd) (hps : ∀ k, (args k).size = ps.size)
    (I : Nat → World → Prop) (Ix : Code → Nat → World → Prop) (hI : OwnFrom w.heap.size I) (hIx : ∀ c, OwnFrom w.heap.size (Ix c)) (h0 : I 0 w) (hRd : ∀ k W, I k W → Rd k W) (a₁ : Nat → Act)
    (hassign : ∀ (l k : Nat) (W : World) (K : Act → World → Prop), K (a₁ k) W →
      assign.wpIn (F.inRound l) (n - 1 - 1) P (Exit.then K (fun _ _ _ => False)) { tmps := (ps.zip (args k)).foldl (fun t (p, v) => t.setIfInBounds p v) a.tmps, defers := [] } W)
    (hbody : ∀ (l k : Nat) (W : World), I k W → k < N → w.heap.size < W.heap.size → body.wpIn (F.inRound l) (n - 1 - 1) P (roundPost w.heap.size I Ix k W) (a₁ k) W)
    (hdone : ∀ (D : Nat) (W : World), w.heap.size ≤ D → I N W → W.heap[D]? = some (.deferred (some [])) → Q .normal { a with defers := { target := .collected D, args := #[] } :: a.defers } W)
    (hstop : ∀ (D : Nat) (c : Code) (k : Nat) (W : World), w.heap.size ≤ D → k < N → Ix c k W → W.heap[D]? = some (.deferred (some [])) → c.wpIn F n P Q { a with defers := { target := .collected D, args := #[] } :: a.defers } W) :
    (Code.rangeFunc g ps assign body).wpIn F n P Q a w := by
  refine wpIn_rangeFunc fun fn hfn => ?_
  rw [hro]
  obtain ⟨rc, hrc⟩ : ∃ rc : LoopState → Option Code → Loop, rc = fun st pe => { state := st, pending := pe, fn, tmps := a.tmps, params := ps, assign, body, defers := w.heap.size } := ⟨_, rfl⟩
  obtain ⟨V, hV⟩ : ∃ V, (w.alloc (.deferred (some []))).alloc (.loop (rc .ready none)) = V := ⟨_, rfl⟩
  have vL : V.heap[w.heap.size + 1]? = some (.loop (rc .ready none)) := by
    rw [← hV]
    have := World.alloc_heap_new (w.alloc (.deferred (some []))) (.loop (rc .ready none))
    rwa [World.size_alloc] at this
  have vD : V.heap[w.heap.size]? = some (.deferred (some [])) := by
    rw [← hV]; exact (Below.heap_alloc _ _ _ (by simp)).trans (World.alloc_heap_new w _)
  have vI : I 0 V := by rw [← hV]; exact hI.alloc _ (hI.alloc _ h0)
  refine ⟨w.heap.size + 1, [{ target := .collected w.heap.size, args := #[] }], V, { target := .fn (.func gf) lb, args := #[.func (.yield (w.heap.size + 1)) #[] #[]] }, V, gf,
    #[.func (.yield (w.heap.size + 1)) #[] #[]] ++ lb, V, ?_, ?_, ?_, ?_, fun _ => h1, ?_⟩
  · rw [← hV, hrc]; exact run_enterLoop_outer _ _ _ _ _
  · simp only [resolve, hg]; simp [go_sem]
  · intro f' hf'; simp [Target.leads] at hf'; subst hf'; exact hFg
  · simp [invoke, go_sem, eg]
  refine (hseq (w.heap.size + 1)
    (fun k W => I k W ∧ W.heap[w.heap.size + 1]? = some (.loop (rc .ready none)) ∧ W.heap[w.heap.size]? = some (.deferred (some [])))
    (fun k W => ∃ c, Ix c k W ∧ W.heap[w.heap.size + 1]? = some (.loop (rc .done (some c))) ∧ W.heap[w.heap.size]? = some (.deferred (some [])))
    V (fun k W h => hRd k W h.1) ?_ ⟨vI, vL, vD⟩).mono ?_
  · rintro k W ⟨hi, hl, hk⟩ hlt
    have hsz : w.heap.size + 1 < W.heap.size := (Array.getElem?_eq_some_iff.1 hl).1
    have hy := run_yield (P := P) (args := args k) hl (by rw [hrc]; exact hps k)
    rw [hrc] at hy
    refine ⟨fn, _, assign, body, hy, roundIn_of_wpIn hfn (hassign _ k W _ ⟨_, run_beginRound hl (by rw [hrc]), ?_⟩)⟩
    obtain ⟨W2, hW2⟩ : ∃ W2, W.putObj (w.heap.size + 1) (.loop { rc .ready none with state := .busy }) = W2 := ⟨_, rfl⟩
    rw [hW2]
    have hl2 : W2.heap[w.heap.size + 1]? = some (.loop { rc .ready none with state := .busy }) := by rw [← hW2]; exact World.putObj_heap_same hsz
    have hk2 : W2.heap[w.heap.size]? = some (.deferred (some [])) := by rw [← hW2]; exact (World.putObj_heap_other (by omega)).trans hk
    have hi2 : I k W2 := by rw [← hW2]; exact hI.putObj _ hi (by omega) hl rfl
    have hs2 : w.heap.size < W2.heap.size := (Array.getElem?_eq_some_iff.1 hk2).1
    have fin : ∀ (jump : Option Code) (W3 : World), KeepsFrom w.heap.size W2 W3 →
        (Instr.endRound (w.heap.size + 1) jump).run P W3 = .ok (.bool jump.isNone) (W3.putObj (w.heap.size + 1) (.loop (rc (if jump.isNone then .ready else .done) jump))) ∧
        W3.heap[w.heap.size + 1]? = some (.loop { rc .ready none with state := .busy }) ∧
        (W3.putObj (w.heap.size + 1) (.loop (rc (if jump.isNone then .ready else .done) jump))).heap[w.heap.size + 1]? = some (.loop (rc (if jump.isNone then .ready else .done) jump)) ∧
        (W3.putObj (w.heap.size + 1) (.loop (rc (if jump.isNone then .ready else .done) jump))).heap[w.heap.size]? = some (.deferred (some [])) := fun jump W3 hk3 => by
      have hl3 := hk3.same _ _ (by omega) hl2 rfl
      have hr := run_endRound (P := P) jump hl3
      rw [hrc] at hr ⊢
      exact ⟨hr, by rw [hrc] at hl3; exact hl3, World.putObj_heap_same (Array.getElem?_eq_some_iff.1 hl3).1, (World.putObj_heap_other (by omega)).trans (hk3.same _ _ (Nat.le_refl _) hk2 rfl)⟩
    refine wpIn_mono (hbody _ k W2 hi2 hlt hs2) fun e a3 W3 hp => ?_
    cases e with
    | normal =>
      obtain ⟨hr, hl3, hl4, hk4⟩ := fin none W3 hp.1
      exact ⟨_, _, hr, .inl ⟨rfl, hI.putObj _ hp.2 (by omega) hl3 rfl, hl4, hk4⟩⟩
    | ret =>
      obtain ⟨hr, hl3, hl4, hk4⟩ := fin (some .ret) W3 hp.1
      exact ⟨_, _, hr, .inr ⟨rfl, .ret, (hIx _).putObj _ hp.2 (by omega) hl3 rfl, hl4, hk4⟩⟩
    | exit id =>
      obtain ⟨hr, hl3, hl4, hk4⟩ := fin (some (.exit id)) W3 hp.1
      exact ⟨_, _, hr, .inr ⟨rfl, .exit id, (hIx _).putObj _ hp.2 (by omega) hl3 rfl, hl4, hk4⟩⟩
    | goto t =>
      obtain ⟨hr, hl3, hl4, hk4⟩ := fin (some (.goto t)) W3 hp.1
      exact ⟨_, _, hr, .inr ⟨rfl, .goto t, (hIx _).putObj _ hp.2 (by omega) hl3 rfl, hl4, hk4⟩⟩
    | panic ch => exact hp.elim
    | outgrown => exact hp.elim
  · rintro e W2 ⟨⟨v, rfl⟩, (⟨hi, hl, hk⟩ | ⟨k, hk0, c, hi, hl, hk⟩)⟩
    · exact ⟨none, _, by have := run_endLoop (P := P) hl (by rw [hrc]; simp); rw [hrc] at this; exact this, hdone _ _ (Nat.le_refl _) (hI.putObj _ hi (by omega) hl rfl) ((World.putObj_heap_other (by omega)).trans hk)⟩
    · exact ⟨some c, _, by have := run_endLoop (P := P) hl (by rw [hrc]; simp); rw [hrc] at this; exact this, hstop _ c k _ (Nat.le_refl _) hk0 ((hIx c).putObj _ hi (by omega) hl rfl) ((World.putObj_heap_other (by omega)).trans hk)⟩

end Go.Proofs.YtjmmnpfedhkjbaaDoor
namespace Go.Proofs.YtjmmnpfedhkjbaaDoor
open Go.RowKit Go.Shelf

attribute [local go_sem] Oper.semAt_some

/-- What a range backward over a slice reads. -/
def BwdRd (Bs : Nat) (a : Option Addr) (len cap : Nat) (zs : Nat → Nat) (k : Nat) (W : World) : Prop :=
  W.cell? ⟨Bs, 0, none⟩ = some (.slice a len cap) ∧ (k < len → ∃ b off, a = some ⟨b, off, none⟩ ∧ W.cell? ⟨b, off + (len - 1 - k), none⟩ = some (.int .u64 (zs (len - 1 - k) : Nat)))

/-- What a round is handed. -/
def bwdArgs (len : Nat) (zs : Nat → Nat) (k : Nat) : Array Value := #[.int .i64 ((len : Int) - 1 - k), .int .u64 (zs (len - 1 - k) : Nat)]

set_option maxRecDepth 100000 in
set_option maxHeartbeats 2000000 in
theorem bwd1_seq (F : Fence) (n : Nat) (hf : F.fn 71) (hro : F.round = none) (hn : 1 ≤ n) (Bs : Nat) (a : Option Addr) (len cap : Nat) (zs : Nat → Nat) (hlen : len ≤ 1099511627776) :
    SeqN F n Tryd.prog 71 #[.pointer (some ⟨Bs, 0, none⟩)] len (bwdArgs len zs) (BwdRd Bs a len cap zs) := fun l J Jx W hR hY h0 => by
  have hbs := (hR 0 W h0).1
  refine callsIn_of_wp Tryd.func71 rfl hf ?_ hro
  simp only [Tryd.ntmps71, List.size_toArray, List.length_cons, List.length_nil, Nat.reduceAdd, Nat.reduceSub, Array.replicate_succ, Array.replicate_zero, List.push_toArray, List.append_toArray, List.nil_append, List.cons_append]
  gi_wp2
  gi_loopw [3] (fun i wr => ∃ k : Nat, k ≤ len ∧ i = .int .i64 ((len : Int) - 1 - k) ∧ J k wr) (fun i _ => (intOf i + 1).toNat)
  case atStart => exact ⟨0, Nat.zero_le _, by simp, h0⟩
  case round =>
    obtain ⟨k, hk, rfl, hJ⟩ := hrel
    obtain ⟨hb2, hc2⟩ := hR k wr hJ
    by_cases hlt : k < len
    · obtain ⟨b, off, rfl, hc⟩ := hc2 hlt
      obtain ⟨fn, tmps, assign, body, hy, hRd⟩ := hY k wr hJ hlt
      have e1 : ((len : Int) - 1 - k) = ((len - 1 - k : Nat) : Int) := by omega
      have e2 : len - 1 - k < len := by omega
      dsimp only [bwdArgs] at hy
      rw [e1] at hy ⊢
      generalize hm : len - 1 - k = m at *
      have HM := Hid.out (p := Hid (len - 1 - k = m)) hm
      clear hm e1
      gi_wp2
      refine hRd.mono ?_
      rintro e W3 (⟨rfl, hJ3⟩ | ⟨rfl, hJx3⟩)
      · gi_wp2
        go_roundw
        case rel => exact ⟨k + 1, by omega, by (congr 1; have := HM.out; omega), hJ3⟩
        case measure => simp [intOf]
      · gi_wp2
        refine bodyPost_ret (results_none rfl _ _ _) rfl ?_
        exact ⟨⟨_, rfl⟩, .inr ⟨k, hlt, hJx3⟩⟩
    · obtain rfl : k = len := by omega
      gi_wp2
      go_end0
      exact ⟨⟨_, rfl⟩, .inl hJ⟩

set_option maxHeartbeats 1000000 in
theorem bwd_in (F : Fence) (n : Nat) (hf : F.fn 53) (hro : F.round = none) (a : Option Addr) (len cap : Nat) (w : World) :
    CallsIn F n Tryd.prog 53 #[.slice a len cap] w fun e w' => e = .returned (.func (.func 71) #[] #[.pointer (some ⟨w.heap.size, 0, none⟩)]) ∧ w' = w.alloc (.cells #[.slice a len cap] 23) := by
  refine callsIn_of_wp Tryd.func53 rfl hf ?_ hro
  simp only [Tryd.ntmps53, List.size_toArray, List.length_cons, List.length_nil, Nat.reduceAdd, Nat.reduceSub, Array.replicate_succ, Array.replicate_zero, List.push_toArray, List.append_toArray, List.nil_append, List.cons_append]
  gi_wp2
  go_ret
  exact ⟨rfl, rfl⟩
end Go.Proofs.YtjmmnpfedhkjbaaDoor
namespace Go.Proofs.YtjmmnpfedhkjbaaDoor
open Go.RowKit Go.Shelf

attribute [local go_sem] Oper.semAt_some

theorem row_fn {k : IntKind} {W : World} {a : Option Addr} {l cap : Nat} {ds : List Nat} (h : Row k W (.slice a l cap) ds) : l = ds.length ∧ l ≤ cap ∧ cap ≤ 9223372036854775807 ∧ l ≤ 1099511627776 ∧
    ∀ j, j < l → ∃ b off, a = some ⟨b, off, none⟩ ∧ b < W.heap.size ∧ W.cell? ⟨b, off + j, none⟩ = some (.int k (ds[j]?.getD 0 : Nat)) := by
  obtain ⟨a', c', e, h1, h2, h3, h4⟩ := Row.open h
  cases e
  exact ⟨rfl, h1, h2, h3, h4⟩

theorem getD_zero {ds : List Nat} {j : Nat} (hj : j < ds.length) (h : ds[j]?.getD 0 = 0) : ds[j]? = some 0 := by
  rw [List.getElem?_eq_getElem hj] at h ⊢
  exact congrArg some h

/-- What the rounds of trimmed keep. -/
def TrmI (w : World) (a : Option Addr) (len cap : Nat) (ds : List Nat) (k : Nat) (W : World) : Prop :=
  (((Boxed W w.heap.size 23 (.slice a len cap) ∧ Boxed W (w.heap.size + 1) 23 (.slice none 0 0)) ∧ Boxed W (w.heap.size + 1 + 1) 23 (.slice a len cap)) ∧ Below w.heap.size w W) ∧ ∀ j, len - k ≤ j → j < len → ds[j]?.getD 0 = 0

/-- What a round of trimmed leaves that returns. -/
def TrmX (w : World) (a : Option Addr) (len cap : Nat) (ds : List Nat) (c : Code) (k : Nat) (W : World) : Prop :=
  (Boxed W (w.heap.size + 1) 23 (.slice a (len - 1 - k + 1) cap) ∧ Below w.heap.size w W) ∧ (c = .ret ∧ ds[len - 1 - k]?.getD 0 ≠ 0 ∧ ∀ j, len - k ≤ j → j < len → ds[j]?.getD 0 = 0)

theorem trmI_own (w : World) (a : Option Addr) (len cap : Nat) (ds : List Nat) : OwnFrom (w.heap.size + 1 + 1 + 1) (TrmI w a len cap ds) :=
  OwnFrom.and (OwnFrom.and (OwnFrom.and (OwnFrom.and (Own.from (boxed_own _ _ (fun _ => .slice a len cap)) _) (Own.from (boxed_own _ _ (fun _ => .slice none 0 0)) _)) (Own.from (boxed_own _ _ (fun _ => .slice a len cap)) _)) (ownFrom_below (Nat.le_refl _) (by omega))) (ownFrom_pure _ _)

theorem trmX_own (w : World) (a : Option Addr) (len cap : Nat) (ds : List Nat) (c : Code) : OwnFrom (w.heap.size + 1 + 1 + 1) (TrmX w a len cap ds c) :=
  OwnFrom.and (OwnFrom.and (Own.from (boxed_own _ _ (fun k => .slice a (len - 1 - k + 1) cap)) _) (ownFrom_below (Nat.le_refl _) (by omega))) (ownFrom_pure _ _)

set_option maxRecDepth 100000 in
set_option maxHeartbeats 2000000 in
theorem trimmed_w (a : Option Addr) (len cap : Nat) (ds : List Nat) (w : World) (h : Row .u64 w (.slice a len cap) ds) :
    Calls Tryd.prog 31 #[.slice a len cap] w fun e w' => ∃ u, e = .returned u ∧ (Row .u64 w' u (trimL ds) ∧ Below w.heap.size w w') ∧ (u = .slice none 0 0 ∧ trimL ds = [] ∨ u = .slice a (trimL ds).length cap) := by
  obtain ⟨hl, hcap, hcm, hlm, hc⟩ := row_fn h
  have HL := Hid.out (p := Hid (len = ds.length)) hl
  have HC := Hid.out (p := Hid (∀ j, j < len → ∃ b off, a = some ⟨b, off, none⟩ ∧ b < w.heap.size ∧ w.cell? ⟨b, off + j, none⟩ = some (.int .u64 (ds[j]?.getD 0 : Nat)))) hc
  clear hc hl
  refine (callsIn_wide (n := 3)).1 ?_
  refine callsIn_of_wp_marks Tryd.func31 rfl trivial ?_ rfl
  simp only [Tryd.ntmps31, List.size_toArray, List.length_cons, List.length_nil, Nat.reduceAdd, Nat.reduceSub, Array.replicate_succ, Array.replicate_zero, List.push_toArray, List.append_toArray, List.nil_append, List.cons_append]
  gi_wp2_with (refine ⟨trivial, ?_⟩; gi_at_call 53; refine (bwd_in Fence.wide _ trivial rfl _ _ _ _).mono ?_; rintro e w' ⟨rfl, rfl⟩)
  have b0 := ((Boxed.new w 23 (.slice a len cap)).alloc (.cells #[.slice none 0 0] 23)).alloc (.cells #[.slice a len cap] 23)
  have b1 := (Boxed.new (w.alloc (.cells #[.slice a len cap] 23)) 23 (.slice none 0 0)).alloc (.cells #[.slice a len cap] 23)
  have b2 := Boxed.new ((w.alloc (.cells #[.slice a len cap] 23)).alloc (.cells #[.slice none 0 0] 23)) 23 (.slice a len cap)
  simp only [World.size_alloc] at b1 b2
  have hB0 : Below w.heap.size w (((w.alloc (.cells #[.slice a len cap] 23)).alloc (.cells #[.slice none 0 0] 23)).alloc (.cells #[.slice a len cap] 23)) := (((Below.refl _ w).alloc (Nat.le_refl _) _).alloc (by simp) _).alloc (by simp; omega) _
  have hN : (((w.alloc (.cells #[.slice a len cap] 23)).alloc (.cells #[.slice none 0 0] 23)).alloc (.cells #[.slice a len cap] 23)).heap.size = w.heap.size + 1 + 1 + 1 := by simp
  refine wpIn_rangeN rfl (by omega) (gf := 71) (lb := #[.pointer (some ⟨w.heap.size + 1 + 1, 0, none⟩)]) rfl trivial (enters_of Tryd.func71 (by kernel_rfl) rfl)
    (bwd1_seq Fence.wide _ trivial rfl (by omega) (w.heap.size + 1 + 1) a len cap (fun j => ds[j]?.getD 0) hlm) (fun _ => rfl)
    (TrmI w a len cap ds) (TrmX w a len cap ds) (by rw [hN]; exact trmI_own w a len cap ds) (fun c => by rw [hN]; exact trmX_own w a len cap ds c)
    ⟨⟨⟨⟨b0, b1⟩, b2⟩, hB0⟩, fun j h1 h2 => by omega⟩ ?rd
    (fun k => { tmps := #[.slice a len cap, .pointer (some ⟨w.heap.size, 0, none⟩), .pointer (some ⟨w.heap.size + 1, 0, none⟩), .int .i64 ((len : Int) - 1 - k), .int .u64 (ds[len - 1 - k]?.getD 0 : Nat), .slice a len cap, .func (.func 71) #[] #[.pointer (some ⟨w.heap.size + 1 + 1, 0, none⟩)], .int .i64 ((len : Int) - 1 - k), .int .u64 (ds[len - 1 - k]?.getD 0 : Nat), undef, undef, undef, undef, undef, undef], defers := [] }) ?assign ?body ?done ?stop
  case rd =>
    rintro k W ⟨⟨⟨_, c2⟩, hB⟩, _⟩
    refine ⟨c2.cell, fun hk => ?_⟩
    obtain ⟨b, off, ea, hb, hc⟩ := HC.out (len - 1 - k) (by omega)
    exact ⟨b, off, ea, (hB.cell (p := ⟨b, off + (len - 1 - k), none⟩) hb).trans hc⟩
  case assign =>
    intro l k W K hK
    unfold bwdArgs
    gi_wp2
    exact hK
  case body =>
    rintro l k W ⟨⟨⟨⟨c0, c1⟩, c2⟩, hB⟩, hz⟩ hk hsz
    have d0 := c0.cell
    have d1 := c1.cell
    have f1 := c1.frozen
    have HZ := Hid.out (p := Hid (∀ j, len - k ≤ j → j < len → ds[j]?.getD 0 = 0)) hz
    clear hz
    have e1 : ((len : Int) - 1 - k) = ((len - 1 - k : Nat) : Int) := by omega
    rw [e1]
    by_cases hx : ds[len - 1 - k]?.getD 0 = 0
    · have HX := Hid.out (p := Hid (ds[len - 1 - k]?.getD 0 = 0)) hx
      rw [hx]
      clear hx e1
      gi_wp2
      refine ⟨KeepsFrom.refl _ _, ⟨⟨⟨c0, c1⟩, c2⟩, hB⟩, fun j h1 h2 => ?_⟩
      by_cases hj : j = len - 1 - k
      · rw [hj]; exact HX.out
      · exact HZ.out j (by omega) h2
    · have hm : len - 1 - k < len := by omega
      have hx2 : (((ds[len - 1 - k]?.getD 0 : Nat) : Int) != 0) = true := by rw [bne_iff_ne]; omega
      have HX := Hid.out (p := Hid (ds[len - 1 - k]?.getD 0 ≠ 0)) hx
      clear hx e1
      have HK := Hid.out (p := Hid (ds[len - 1 - k]?.getD 0 ≠ 0 ∧ ∀ j, len - k ≤ j → j < len → ds[j]?.getD 0 = 0)) ⟨HX.out, HZ.out⟩
      clear HX HZ
      generalize ds[len - 1 - k]?.getD 0 = x at hx2 ⊢
      have HM := Hid.out (p := Hid (len - 1 - k = len - 1 - k)) rfl
      generalize hm0 : len - 1 - k = m at hm ⊢
      have HM0 := Hid.out (p := Hid (len - 1 - k = m)) hm0
      clear hm0 HM
      gi_wp2
      refine ⟨(KeepsOthers.setCell _ _ _).from _, ⟨?_, hB.setCell (p := ⟨w.heap.size + 1, 0, none⟩) (by simp) _⟩, rfl, HK.out⟩
      rw [HM0.out]
      exact c1.set _
  case done =>
    rintro D W hD ⟨⟨⟨⟨c0, c1⟩, c2⟩, hB⟩, hz⟩ hK
    have d1 := c1.cell
    have f1 := c1.frozen
    have HZ := Hid.out (p := Hid (∀ j, len - len ≤ j → j < len → ds[j]?.getD 0 = 0)) hz
    clear hz
    gi_wp2
    have hK2 : (W.setCell ⟨w.heap.size + 1, 0, none⟩ (.slice none 0 0)).heap[D]? = some (.deferred (some [])) := (KeepsOthers.setCell W ⟨w.heap.size + 1, 0, none⟩ (.slice none 0 0)).same D _ hK rfl
    refine ⟨by simp, .inl ⟨_, _, rfl, run_takeDeferred hK2, ?_⟩⟩
    have b1' := (c1.set (.slice none 0 0)).kept (grownBy_putObj' _ D (.deferred none)) (fun e => by cases e; rw [show (W.setCell ⟨w.heap.size + 1, 0, none⟩ (.slice none 0 0)).heap[w.heap.size + 1]? = _ from c1.set (.slice none 0 0)] at hK2; cases hK2)
    have q := b1'.cell
    have e0 : trimL ds = [] := trimL_none ds fun j hj => getD_zero hj (HZ.out j (by omega) (by rw [HL.out]; exact hj))
    refine ⟨.slice none 0 0, by simp [results, Tryd.results31, go_sem, q], _, rfl, ⟨?_, ?_⟩, Or.inl ⟨rfl, e0⟩⟩
    · rw [e0]
      exact Row.nil _ _
    · exact (hB.setCell (p := ⟨w.heap.size + 1, 0, none⟩) (by simp) _).trans (belowK_b (w := w) (Nat.le_refl _) _ D _ _ (by simp at hD; omega) hK2 rfl rfl)
  case stop =>
    rintro D c k W hD hk ⟨⟨c1, hB⟩, rfl, hx, hz⟩ hK
    have d1 := c1.cell
    have HZ := Hid.out (p := Hid (ds[len - 1 - k]?.getD 0 ≠ 0 ∧ ∀ j, len - k ≤ j → j < len → ds[j]?.getD 0 = 0)) ⟨hx, hz⟩
    clear hz hx
    gi_wp2
    refine ⟨by simp, .inl ⟨_, _, rfl, run_takeDeferred hK, ?_⟩⟩
    have b1' := c1.kept (grownBy_putObj' _ D (.deferred none)) (fun e => by cases e; rw [show W.heap[w.heap.size + 1]? = _ from c1] at hK; cases hK)
    have q := b1'.cell
    have hB2 : Below w.heap.size w (W.putObj D (.deferred none)) := hB.trans (belowK_b (w := w) (Nat.le_refl _) _ D _ _ (by simp at hD; omega) hK rfl rfl)
    have hlen := HL.out
    have e : trimL ds = ds.take (len - 1 - k + 1) := by
      refine trimL_at ds (len - 1 - k) (by omega) ?_ ?_
      · intro h0
        apply HZ.out.1
        rw [h0]; rfl
      · intro j h1 h2
        exact getD_zero h2 (HZ.out.2 j (by omega) (by omega))
    have el : (ds.take (len - 1 - k + 1)).length = len - 1 - k + 1 := by rw [List.length_take]; omega
    refine ⟨.slice a (len - 1 - k + 1) cap, by simp [results, Tryd.results31, go_sem, q], _, rfl, ⟨?_, hB2⟩, Or.inr (by rw [e, el])⟩
    rw [e]
    have hr := Row.below h hB2
    obtain ⟨_, _, _, _, hcs⟩ := row_fn hr
    obtain ⟨b, off, ea, hb, _⟩ := hcs (len - 1 - k) (by omega)
    refine ⟨a, cap, by rw [el], by omega, hcm, by omega, Or.inr ⟨b, off, ea, hb, fun j hj => ?_⟩⟩
    rw [el] at hj
    obtain ⟨b', off', ea', _, hc'⟩ := hcs j (by omega)
    rw [ea] at ea'
    cases ea'
    rw [hc', List.getElem?_take_of_lt hj]

theorem trimmed_c (v : Value) (ds : List Nat) (w : World) (h : Row .u64 w v ds) :
    Calls Tryd.prog 31 #[v] w fun e w' => ∃ u, e = .returned u ∧ Row .u64 w' u (trimL ds) ∧ Below w.heap.size w w' := by
  obtain ⟨a, cap, rfl, h1⟩ := id h
  refine (trimmed_w a _ cap ds w h).mono ?_
  rintro e w' ⟨u, rfl, ⟨h2, h3⟩, _⟩
  exact ⟨u, rfl, h2, h3⟩
end Go.Proofs.YtjmmnpfedhkjbaaDoor
namespace Go.Proofs.YtjmmnpfedhkjbaaDoor
open Go.RowKit Go.Shelf

attribute [local go_sem] Oper.semAt_some

set_option maxRecDepth 100000 in
set_option maxHeartbeats 2000000 in
theorem bwu1_seq (F : Fence) (n : Nat) (hf : F.fn 64) (hro : F.round = none) (hn : 1 ≤ n) (Bs : Nat) (a : Option Addr) (len cap : Nat) (zs : Nat → Nat) (hlen : len ≤ 4398046511104) :
    SeqN F n Tryd.prog 64 #[.pointer (some ⟨Bs, 0, none⟩)] len (bwdArgs len zs) (BwdRd Bs a len cap zs) := fun l J Jx W hR hY h0 => by
  have hbs := (hR 0 W h0).1
  refine callsIn_of_wp Tryd.func64 rfl hf ?_ hro
  simp only [Tryd.ntmps64, List.size_toArray, List.length_cons, List.length_nil, Nat.reduceAdd, Nat.reduceSub, Array.replicate_succ, Array.replicate_zero, List.push_toArray, List.append_toArray, List.nil_append, List.cons_append]
  gi_wp2
  gi_loopw [3] (fun i wr => ∃ k : Nat, k ≤ len ∧ i = .int .i64 ((len : Int) - 1 - k) ∧ J k wr) (fun i _ => (intOf i + 1).toNat)
  case atStart => exact ⟨0, Nat.zero_le _, by simp, h0⟩
  case round =>
    obtain ⟨k, hk, rfl, hJ⟩ := hrel
    obtain ⟨hb2, hc2⟩ := hR k wr hJ
    by_cases hlt : k < len
    · obtain ⟨b, off, rfl, hc⟩ := hc2 hlt
      obtain ⟨fn, tmps, assign, body, hy, hRd⟩ := hY k wr hJ hlt
      have e1 : ((len : Int) - 1 - k) = ((len - 1 - k : Nat) : Int) := by omega
      have e2 : len - 1 - k < len := by omega
      dsimp only [bwdArgs] at hy
      rw [e1] at hy ⊢
      generalize hm : len - 1 - k = m at *
      have HM := Hid.out (p := Hid (len - 1 - k = m)) hm
      clear hm e1
      gi_wp2
      refine hRd.mono ?_
      rintro e W3 (⟨rfl, hJ3⟩ | ⟨rfl, hJx3⟩)
      · gi_wp2
        go_roundw
        case rel => exact ⟨k + 1, by omega, by (congr 1; have := HM.out; omega), hJ3⟩
        case measure => simp [intOf]
      · gi_wp2
        refine bodyPost_ret (results_none rfl _ _ _) rfl ?_
        exact ⟨⟨_, rfl⟩, .inr ⟨k, hlt, hJx3⟩⟩
    · obtain rfl : k = len := by omega
      gi_wp2
      go_end0
      exact ⟨⟨_, rfl⟩, .inl hJ⟩

set_option maxHeartbeats 1000000 in
theorem bwu_in (F : Fence) (n : Nat) (hf : F.fn 48) (hro : F.round = none) (a : Option Addr) (len cap : Nat) (w : World) :
    CallsIn F n Tryd.prog 48 #[.slice a len cap] w fun e w' => e = .returned (.func (.func 64) #[] #[.pointer (some ⟨w.heap.size, 0, none⟩)]) ∧ w' = w.alloc (.cells #[.slice a len cap] 22) := by
  refine callsIn_of_wp Tryd.func48 rfl hf ?_ hro
  simp only [Tryd.ntmps48, List.size_toArray, List.length_cons, List.length_nil, Nat.reduceAdd, Nat.reduceSub, Array.replicate_succ, Array.replicate_zero, List.push_toArray, List.append_toArray, List.nil_append, List.cons_append]
  gi_wp2
  go_ret
  exact ⟨rfl, rfl⟩
end Go.Proofs.YtjmmnpfedhkjbaaDoor
namespace Go.Proofs.YtjmmnpfedhkjbaaDoor
open Go.RowKit Go.Shelf

set_option maxHeartbeats 400000 in
theorem made_c (a : Option Addr) (len cap : Nat) (m : Bool) (w : World) : Calls Tryd.prog 37 #[.slice a len cap, .bool m] w fun e w' => e = .returned (.agg #[.slice a len cap, .bool (m && decide (0 < len))]) ∧ Below w.heap.size w w' := by
  cases m
  · go_enter Tryd.func37, Tryd.ntmps37
    go_wp2
    exact bodyPost_ret (v := .agg #[.slice a len cap, .bool false]) (by simp [results, Tryd.results37, go_sem]) rfl ⟨by simp, (Below.refl _ _).alloc (Nat.le_refl _) _⟩
  · go_enter Tryd.func37, Tryd.ntmps37
    go_wp2
    exact bodyPost_ret (v := .agg #[.slice a len cap, .bool (decide (0 < len))]) (by simp [results, Tryd.results37, go_sem]) rfl ⟨by simp, (Below.refl _ _).alloc (Nat.le_refl _) _⟩

/-- The length of a slice value. -/
def lenV : Value → Nat | .slice _ k _ => k | _ => 0

set_option maxHeartbeats 400000 in
theorem trim_c (v : Value) (ds : List Nat) (w : World) (h : Row .i64 w v ds) : Calls Tryd.prog 29 #[v] w fun e w' => ∃ u, e = .returned u ∧ Row .i64 w u (trimL ds) ∧ w' = w := by
  obtain ⟨a, cap, rfl, hlc, hcap, hlm, hcs⟩ := h
  have HC : Hid (ds = [] ∨ ∃ b off, a = some ⟨b, off, none⟩ ∧ b < w.heap.size ∧ ∀ j, j < ds.length → w.cell? ⟨b, off + j, none⟩ = some (.int .i64 (ds[j]?.getD 0 : Nat))) := hcs
  clear hcs
  go_enter Tryd.func29, Tryd.ntmps29
  go_wp2
  go_loop [0] (fun d => ∃ k : Nat, k ≤ ds.length ∧ d = .slice a k cap ∧ Hid (trimL (ds.take k) = trimL ds)) (fun d => lenV d)
  case atStart => exact ⟨ds.length, Nat.le_refl _, rfl, by rw [List.take_length]; exact rfl⟩
  case round =>
    obtain ⟨k, hk, rfl, ht⟩ := hrel
    cases k with
    | zero =>
      go_wp2
      go_ret
      refine ⟨_, rfl, ?_, rfl⟩
      have : trimL ds = [] := by rw [← ht.out]; simp [trimL]
      rw [this]
      exact ⟨a, cap, rfl, by simp, hcap, by simp, Or.inl rfl⟩
    | succ k =>
      rcases HC.out with hd | ⟨b, off, ea, hb, hc⟩
      · rw [hd] at hk; simp at hk
      · subst ea
        have hck := hc k (by omega)
        have HH : Hid (∀ j, j < ds.length → w.cell? ⟨b, off + j, none⟩ = some (.int .i64 (ds[j]?.getD 0 : Nat))) := hc
        have HT : Hid (ds.take (k + 1) = ds.take k ++ [ds[k]?.getD 0]) := by
          show ds.take (k + 1) = _
          rw [List.take_succ_eq_append_getElem (by omega), List.getElem?_eq_getElem (by omega)]; rfl
        clear hc HC
        generalize ds[k]?.getD 0 = x at hck HT
        by_cases hx0 : x = 0
        · subst hx0
          go_wp2
          go_round
          case rel =>
            refine ⟨k, by omega, by simp, ?_⟩
            show trimL (ds.take k) = trimL ds
            rw [← ht.out, HT.out, trimL_snoc_zero]
          case measure => simp [lenV]
        · have hx1 : ((x : Int) == 0) = false := by simp; exact hx0
          go_wp2
          go_ret
          refine ⟨.slice (some ⟨b, off, none⟩) (k + 1) cap, rfl, ?_, rfl⟩
          have e : trimL ds = ds.take (k + 1) := by rw [← ht.out, HT.out, trimL_snoc_ne _ hx0]
          have el : (ds.take (k + 1)).length = k + 1 := by rw [List.length_take]; omega
          rw [e]
          refine ⟨_, cap, by rw [el], by omega, hcap, by omega, Or.inr ⟨b, off, rfl, hb, fun j hj => ?_⟩⟩
          rw [el] at hj
          rw [HH.out j (by omega), List.getElem?_take_of_lt hj]
end Go.Proofs.YtjmmnpfedhkjbaaDoor
namespace Go.Proofs.YtjmmnpfedhkjbaaDoor
open Go.RowKit Go.Shelf

set_option maxHeartbeats 1000000 in
theorem order_c (B : Nat) (hB : 2 ≤ B) (va vb : Value) (da db : List Nat) (w : World) (ha : Row .i64 w va da) (hb : Row .i64 w vb db) (xa : Dig B da) (xb : Dig B db) (ta : Top da) (tb : Top db) :
    Calls Tryd.prog 39 #[va, vb] w fun e w' => e = .returned (.int .i64 (cmpN (val B da) (val B db))) ∧ Below w.heap.size w w' := by
  obtain ⟨a, ca, rfl, hla, hca, hma, HA⟩ := ha.open
  obtain ⟨b, cb, rfl, hlb, hcb, hmb, HB⟩ := hb.open
  by_cases hl : da.length = db.length
  · have HL : Hid (da.length = db.length) := hl
    rw [← hl]
    rw [← hl] at hlb
    clear hl
    go_enter Tryd.func39, Tryd.ntmps39
    go_wp2
    go_loopw [5] (fun i wr => ∃ k : Nat, k ≤ da.length ∧ i = .int .i64 ((k : Int) - 1) ∧ Hid (da.drop k = db.drop k) ∧ Below w.heap.size w wr) (fun i _ => (intOf i + 1).toNat)
    case atStart => exact ⟨da.length, Nat.le_refl _, rfl, by show da.drop _ = db.drop _; rw [List.drop_eq_nil_of_le (Nat.le_refl _), List.drop_eq_nil_of_le (by rw [HL.out]; exact Nat.le_refl _)], Below.refl _ _⟩
    case round =>
      obtain ⟨k, hk, rfl, hd, hB⟩ := hrel
      cases k with
      | zero =>
        go_wp2
        go_ret
        have e : da = db := by have := hd.out; simpa using this
        exact ⟨ret_int (by rw [e, cmpN_self]), hB⟩
      | succ k =>
        obtain ⟨ba, oa, rfl, hba, hc1⟩ := HA.out k (by omega)
        obtain ⟨bb, ob, rfl, hbb, hc2⟩ := HB.out k (by have := HL.out; omega)
        have hq1 : wr.cell? ⟨ba, oa + k, none⟩ = some (.int .i64 (da[k]?.getD 0 : Nat)) := (hB.cell (p := ⟨ba, oa + k, none⟩) hba).trans hc1
        have hq2 : wr.cell? ⟨bb, ob + k, none⟩ = some (.int .i64 (db[k]?.getD 0 : Nat)) := (hB.cell (p := ⟨bb, ob + k, none⟩) hbb).trans hc2
        clear hc1 hc2
        have HX := Hid.out (p := Hid ((da[k]?.getD 0 = db[k]?.getD 0 ∧ da.drop k = db.drop k) ∨ (da[k]?.getD 0 < db[k]?.getD 0 ∧ val B da < val B db) ∨ (db[k]?.getD 0 < da[k]?.getD 0 ∧ val B db < val B da))) (by
          rcases Nat.lt_trichotomy (da[k]?.getD 0) (db[k]?.getD 0) with h | h | h
          · exact Or.inr (Or.inl ⟨h, val_lt_at xa HL.out k (by omega) hd.out h⟩)
          · exact Or.inl ⟨h, drop_eq_step HL.out k (by omega) hd.out h⟩
          · exact Or.inr (Or.inr ⟨h, val_lt_at xb HL.out.symm k (by have := HL.out; omega) hd.out.symm h⟩))
        generalize da[k]?.getD 0 = x at hq1 HX
        generalize db[k]?.getD 0 = y at hq2 HX
        rcases Nat.lt_trichotomy x y with h | h | h
        · have g1 : ((x : Int) != y) = true := by rw [bne_iff_ne]; omega
          go_wp2
          go_quiet (fail)
          go_wp2
          go_quiet (fail)
          go_wp2
          go_ret
          refine ⟨ret_int ?_, below_drewN (below_drewN hB _) _⟩
          rcases HX.out with ⟨g, _⟩ | ⟨_, g⟩ | ⟨g, _⟩
          · omega
          · rw [cmpN_lt g]
          · omega
        · subst h
          have g1 : ((x : Int) != x) = false := by simp
          go_wp2
          go_quiet (fail)
          go_wp2
          go_roundw
          case rel =>
            refine ⟨k, by omega, by simp, ?_, below_drewN hB _⟩
            rcases HX.out with ⟨_, g⟩ | ⟨g, _⟩ | ⟨g, _⟩
            · exact g
            · omega
            · omega
          case measure => simp [intOf]
        · have g1 : ((x : Int) != y) = true := by rw [bne_iff_ne]; omega
          have g2 : decide ((x : Int) < y) = false := decide_eq_false (by omega)
          go_wp2
          go_quiet (fail)
          go_wp2
          go_quiet (fail)
          go_wp2
          go_ret
          refine ⟨ret_int ?_, below_drewN (below_drewN hB _) _⟩
          rcases HX.out with ⟨g, _⟩ | ⟨g, _⟩ | ⟨_, g⟩
          · omega
          · omega
          · rw [cmpN_gt g]
  · have hl1 : ((da.length : Int) != db.length) = true := by rw [bne_iff_ne]; omega
    clear HA HB
    by_cases h : da.length < db.length
    · have g := val_lt_of_length hB xa xb ta tb h
      have G : Hid (val B da < val B db) := g
      clear g
      go_enter Tryd.func39, Tryd.ntmps39
      go_wp2
      go_ret
      exact ⟨ret_int (by rw [cmpN_lt G.out]), Below.refl _ _⟩
    · have g := val_lt_of_length hB xb xa tb ta (by omega)
      have G : Hid (val B db < val B da) := g
      clear g
      have h' : db.length < da.length := by omega
      go_enter Tryd.func39, Tryd.ntmps39
      go_wp2
      go_ret
      exact ⟨ret_int (by rw [cmpN_gt G.out]), Below.refl _ _⟩
end Go.Proofs.YtjmmnpfedhkjbaaDoor
namespace Go.Proofs.YtjmmnpfedhkjbaaDoor
open Go.RowKit Go.Shelf

/-- The slice value v holds the digits of base 10000 of n. -/
def RN (W : World) (v : Value) (n : Nat) : Prop := Row .i64 W v (limbs 10000 n)

/-- A fact, hidden from the walk. -/
theorem hide {p : Prop} (h : p) : Hid p := h

/-- What a sum's loop knows. -/
def PlusAt (da db : List Nat) (k c : Nat) (acc : List Nat) : Prop :=
  acc.length = k ∧ Dig 10000 acc ∧ c ≤ 1 ∧ val 10000 acc + 10000 ^ k * c = val 10000 (da.take k) + val 10000 (db.take k) ∧
    (k ≤ max da.length db.length ∨ (k = max da.length db.length + 1 ∧ c = 0 ∧ 10000 ^ (k - 1) ≤ val 10000 acc))

theorem PlusAt.start (da db : List Nat) : PlusAt da db 0 0 [] := ⟨rfl, Dig.nil _, by omega, by simp [val], Or.inl (by omega)⟩

theorem PlusAt.step {da db : List Nat} {k c : Nat} {acc : List Nat} (h : PlusAt da db k c acc) (xa : Dig 10000 da) (xb : Dig 10000 db) (hgo : k < da.length ∨ k < db.length ∨ 0 < c) :
    PlusAt da db (k + 1) ((c + (da[k]?.getD 0 + db[k]?.getD 0)) / 10000) (acc ++ [(c + (da[k]?.getD 0 + db[k]?.getD 0)) % 10000]) := by
  obtain ⟨hl, hd, hc, hv, hk⟩ := h
  have h1 := xa.getD (by omega) k
  have h2 := xb.getD (by omega) k
  subst hl
  refine ⟨by simp, hd.append (Dig.cons (Nat.mod_lt _ (by omega)) (Dig.nil _)), by omega, ?_, ?_⟩
  · rw [sum_step acc c _ _ hv, val_take_succ, val_take_succ, Nat.mul_add]
    omega
  · rcases hk with hk | ⟨hk, h0, _⟩
    · by_cases hk2 : acc.length < max da.length db.length
      · exact Or.inl (by omega)
      · have e1 : da[acc.length]?.getD 0 = 0 := by rw [List.getElem?_eq_none (by omega)]; rfl
        have e2 : db[acc.length]?.getD 0 = 0 := by rw [List.getElem?_eq_none (by omega)]; rfl
        have e3 : c = 1 := by omega
        rw [e1, e2, e3]
        refine Or.inr ⟨by omega, by omega, ?_⟩
        rw [val_snoc]
        simp
    · omega

theorem PlusAt.done {m n k : Nat} {acc : List Nat} (h : PlusAt (limbs 10000 m) (limbs 10000 n) k 0 acc) (h1 : (limbs 10000 m).length ≤ k) (h2 : (limbs 10000 n).length ≤ k) : acc = limbs 10000 (m + n) := by
  obtain ⟨hl, hd, hc, hv, hk⟩ := h
  rw [List.take_of_length_le h1, List.take_of_length_le h2, val_limbs (by omega), val_limbs (by omega)] at hv
  refine sum_done (by omega) hd (by omega) ?_ (by omega)
  rcases hk with hk | ⟨_, _, hk⟩
  · exact Or.inl (by omega)
  · exact Or.inr (by rw [hl]; exact hk)

set_option maxHeartbeats 2000000 in
theorem plus_c (va vb : Value) (m n : Nat) (w : World) (ha : RN w va m) (hb : RN w vb n) (hma : (limbs 10000 m).length ≤ 1000000000) (hmb : (limbs 10000 n).length ≤ 1000000000) :
    Calls Tryd.prog 38 #[va, vb] w fun e w' => ∃ u, e = .returned u ∧ RN w' u (m + n) ∧ Below w.heap.size w w' := by
  obtain ⟨a, ca, rfl, hla, hca, _, HA⟩ := Row.open ha
  obtain ⟨b, cb, rfl, hlb, hcb, _, HB⟩ := Row.open hb
  have xa := dig_limbs (B := 10000) (by omega) m
  have xb := dig_limbs (B := 10000) (by omega) n
  have HF : Hid (∀ k acc, PlusAt (limbs 10000 m) (limbs 10000 n) k 0 acc → (limbs 10000 m).length ≤ k → (limbs 10000 n).length ≤ k → acc = limbs 10000 (m + n)) := fun k acc h h1 h2 => h.done h1 h2
  obtain ⟨i0, hi, hz0, hz1, hz2⟩ := info_parts Tryd.infoInt
  unfold RN
  clear ha hb
  generalize limbs 10000 m = da at *
  generalize limbs 10000 n = db at *
  generalize limbs 10000 (m + n) = dc at *
  go_enter Tryd.func38, Tryd.ntmps38
  go_wp2
  go_loopw [5, 6, 7] (fun d c i wr => ∃ (k cc : Nat) (acc : List Nat) (ao : Option Addr) (cv : Nat), i = .int .i64 k ∧ c = .int .i64 cc ∧ d = .slice ao acc.length cv ∧ PlusAt da db k cc acc ∧ wr.ownsRow w.heap.size 3 1 d acc.length (cellsOf .i64 acc) ∧ Below w.heap.size w wr)
    (fun _ _ i _ => 1000000002 - (intOf i).toNat)
  case atStart => exact ⟨0, 0, [], none, 0, rfl, rfl, rfl, PlusAt.start da db, World.ownsRow_nil _ _ _ _, Below.refl _ _⟩
  case round =>
    obtain ⟨k, cc, acc, ao, cv, rfl, rfl, rfl, hP, hown, hB⟩ := hrel
    have hsize := hB.size
    have hkl := hP.1
    have hc1 := hP.2.2.1
    have hkm : k ≤ 1000000001 := by rcases hP.2.2.2.2 with h | ⟨h, _⟩ <;> omega
    have hst := hP.step xa xb
    have HP : Hid (PlusAt da db k cc acc) := hP
    clear hP
    by_cases h1 : k < da.length
    · obtain ⟨ba, oa, rfl, hba, hq1⟩ := HA.out k h1
      have hq1 : wr.cell? ⟨ba, oa + k, none⟩ = some (.int .i64 (da[k]?.getD 0 : Nat)) := (hB.cell (p := ⟨ba, oa + k, none⟩) hba).trans hq1
      by_cases h2 : k < db.length
      · obtain ⟨bb, ob, rfl, hbb, hq2⟩ := HB.out k h2
        have hq2 : wr.cell? ⟨bb, ob + k, none⟩ = some (.int .i64 (db[k]?.getD 0 : Nat)) := (hB.cell (p := ⟨bb, ob + k, none⟩) hbb).trans hq2
        have HS := hide (hst (Or.inl h1))
        clear hst
        have hx := xa.getD (by omega) k
        have hy := xb.getD (by omega) k
        generalize da[k]?.getD 0 = x at *
        generalize db[k]?.getD 0 = y at *
        go_wp2_with (first
          | (at_builtin; refine wpList_append_own _ rfl _ _ 28 rfl w.heap.size 3 i0 (.int .i64 0) 1 8 Tryd.underlying28 hi hz0 hz1 hz2 rfl (by decide) (.slice ao acc.length cv) acc.length (cellsOf .i64 acc) rfl (hown.alloc _) ⟨wr.heap.size, 0, none⟩ 1 1 [_] rfl rfl (cell_one_new _ _ _) (by simp [Value.oneCell']) (by unfold maxLen; omega) (by omega) (by simp; omega) ?_; intro v' w3 hown' hgrow hnil))
        obtain ⟨g, cv', e1, ho, hB3⟩ := append_end ((cc + (x + y)) % 10000) (by omega) hB hown hown' hgrow
        go_roundw
        case rel => exact ⟨k + 1, (cc + (x + y)) / 10000, _, _, _, by simp, by go_num, e1, HS.out, ho, hB3⟩
        case measure => simp [intOf]; omega
      · have ey : db[k]?.getD 0 = 0 := by rw [List.getElem?_eq_none (by omega)]; rfl
        have HS := hide (hst (Or.inl h1))
        clear hst
        have hx := xa.getD (by omega) k
        rw [ey] at HS
        clear ey
        generalize da[k]?.getD 0 = x at *
        go_wp2_with (first
          | (at_builtin; refine wpList_append_own _ rfl _ _ 28 rfl w.heap.size 3 i0 (.int .i64 0) 1 8 Tryd.underlying28 hi hz0 hz1 hz2 rfl (by decide) (.slice ao acc.length cv) acc.length (cellsOf .i64 acc) rfl (hown.alloc _) ⟨wr.heap.size, 0, none⟩ 1 1 [_] rfl rfl (cell_one_new _ _ _) (by simp [Value.oneCell']) (by unfold maxLen; omega) (by omega) (by simp; omega) ?_; intro v' w3 hown' hgrow hnil))
        obtain ⟨g, cv', e1, ho, hB3⟩ := append_end ((cc + (x + 0)) % 10000) (by omega) hB hown hown' hgrow
        go_roundw
        case rel => exact ⟨k + 1, (cc + (x + 0)) / 10000, _, _, _, by simp, by go_num, e1, HS.out, ho, hB3⟩
        case measure => simp [intOf]; omega
    · have ex : da[k]?.getD 0 = 0 := by rw [List.getElem?_eq_none (by omega)]; rfl
      by_cases h2 : k < db.length
      · obtain ⟨bb, ob, rfl, hbb, hq2⟩ := HB.out k h2
        have hq2 : wr.cell? ⟨bb, ob + k, none⟩ = some (.int .i64 (db[k]?.getD 0 : Nat)) := (hB.cell (p := ⟨bb, ob + k, none⟩) hbb).trans hq2
        have HS := hide (hst (Or.inr (Or.inl h2)))
        clear hst
        have hy := xb.getD (by omega) k
        rw [ex] at HS
        clear ex
        generalize db[k]?.getD 0 = y at *
        go_wp2_with (first
          | (at_builtin; refine wpList_append_own _ rfl _ _ 28 rfl w.heap.size 3 i0 (.int .i64 0) 1 8 Tryd.underlying28 hi hz0 hz1 hz2 rfl (by decide) (.slice ao acc.length cv) acc.length (cellsOf .i64 acc) rfl (hown.alloc _) ⟨wr.heap.size, 0, none⟩ 1 1 [_] rfl rfl (cell_one_new _ _ _) (by simp [Value.oneCell']) (by unfold maxLen; omega) (by omega) (by simp; omega) ?_; intro v' w3 hown' hgrow hnil))
        obtain ⟨g, cv', e1, ho, hB3⟩ := append_end ((cc + (0 + y)) % 10000) (by omega) hB hown hown' hgrow
        go_roundw
        case rel => exact ⟨k + 1, (cc + (0 + y)) / 10000, _, _, _, by simp, by go_num, e1, HS.out, ho, hB3⟩
        case measure => simp [intOf]; omega
      · have ey : db[k]?.getD 0 = 0 := by rw [List.getElem?_eq_none (by omega)]; rfl
        rw [ex, ey] at hst
        clear ex ey
        by_cases h3 : cc = 0
        · subst h3
          clear hst
          go_wp2
          go_ret
          have e := HF.out k acc HP.out (by omega) (by omega)
          subst e
          exact ⟨_, rfl, Row.of_owns hown (by omega), hB⟩
        · have h4 : cc = 1 := by omega
          have HS := hide (hst (Or.inr (Or.inr (by omega))))
          clear hst h3
          subst h4
          go_wp2_with (first
            | (at_builtin; refine wpList_append_own _ rfl _ _ 28 rfl w.heap.size 3 i0 (.int .i64 0) 1 8 Tryd.underlying28 hi hz0 hz1 hz2 rfl (by decide) (.slice ao acc.length cv) acc.length (cellsOf .i64 acc) rfl (hown.alloc _) ⟨wr.heap.size, 0, none⟩ 1 1 [_] rfl rfl (cell_one_new _ _ _) (by simp [Value.oneCell']) (by unfold maxLen; omega) (by omega) (by simp; omega) ?_; intro v' w3 hown' hgrow hnil))
          obtain ⟨g, cv', e1, ho, hB3⟩ := append_end ((1 + (0 + 0)) % 10000) (by omega) hB hown hown' hgrow
          go_roundw
          case rel => exact ⟨k + 1, (1 + (0 + 0)) / 10000, _, _, _, by simp, by go_num, e1, HS.out, ho, hB3⟩
          case measure => simp [intOf]; omega
end Go.Proofs.YtjmmnpfedhkjbaaDoor
namespace Go.Proofs.YtjmmnpfedhkjbaaDoor
open Go.RowKit Go.Shelf

/-- What a difference's loop knows. -/
def MinusAt (da db : List Nat) (k : Nat) (c : Int) (acc : List Nat) : Prop :=
  acc.length = k ∧ Dig 10000 acc ∧ (c = 0 ∨ c = -1) ∧ (val 10000 acc : Int) + val 10000 (db.take k) = val 10000 (da.take k) - (10000 ^ k : Nat) * c

theorem MinusAt.start (da db : List Nat) : MinusAt da db 0 0 [] := ⟨rfl, Dig.nil _, Or.inl rfl, by simp [val]⟩

theorem MinusAt.step {da db : List Nat} {k : Nat} {c : Int} {acc : List Nat} (h : MinusAt da db k c acc) (xa : Dig 10000 da) (xb : Dig 10000 db) (c' : Int) (d : Nat) (hd : (d : Int) = c + da[k]?.getD 0 - db[k]?.getD 0 - 10000 * c') (hd2 : d < 10000) :
    MinusAt da db (k + 1) c' (acc ++ [d]) := by
  obtain ⟨hl, hg, hc, hv⟩ := h
  have h1 := xa.getD (by omega) k
  have h2 := xb.getD (by omega) k
  subst hl
  refine ⟨by simp, hg.append (Dig.cons hd2 (Dig.nil _)), by omega, ?_⟩
  rw [val_snoc, val_take_succ, val_take_succ]
  generalize hq : (10000 ^ acc.length : Nat) = q at hv ⊢
  have e : (10000 ^ (acc.length + 1) : Nat) = q * 10000 := by rw [Nat.pow_succ, hq]
  rw [e]
  have e2 : ((q * d : Nat) : Int) = (q : Int) * c + q * (da[acc.length]?.getD 0 : Nat) - q * (db[acc.length]?.getD 0 : Nat) - q * (10000 * c') := by
    rw [Int.natCast_mul, hd, Int.mul_sub, Int.mul_sub, Int.mul_add]
  have e3 : ((q * 10000 : Nat) : Int) * c' = q * (10000 * c') := by rw [Int.natCast_mul, Int.mul_assoc]; rfl
  rw [e3]
  generalize (q : Int) * (10000 * c') = z at *
  simp only [Int.natCast_add, Int.natCast_mul] at *
  omega

theorem MinusAt.done {m n : Nat} {c : Int} {acc : List Nat} (hmn : n ≤ m) (h : MinusAt (limbs 10000 m) (limbs 10000 n) (limbs 10000 m).length c acc) : trimL acc = limbs 10000 (m - n) := by
  obtain ⟨hl, hd, hc, hv⟩ := h
  have hle : (limbs 10000 n).length ≤ (limbs 10000 m).length := by
    rcases Nat.lt_or_ge (limbs 10000 m).length (limbs 10000 n).length with g | g
    · have := limbs_lt_length (by omega) g
      omega
    · exact g
  rw [List.take_of_length_le (Nat.le_refl _), List.take_of_length_le hle, val_limbs (by omega), val_limbs (by omega)] at hv
  have h1 := val_lt hd
  rw [hl] at h1
  have hv2 : val 10000 acc = m - n := by
    rcases hc with rfl | rfl
    · omega
    · generalize (10000 ^ (limbs 10000 m).length : Nat) = q at hv h1
      omega
  rw [← limbs_val (by omega) hd, hv2]

set_option maxHeartbeats 2000000 in
theorem minus_c (va vb : Value) (m n : Nat) (w : World) (ha : RN w va m) (hb : RN w vb n) (hmn : n ≤ m) (hma : (limbs 10000 m).length ≤ 1000000000) :
    Calls Tryd.prog 40 #[va, vb] w fun e w' => ∃ u, e = .returned u ∧ RN w' u (m - n) ∧ Below w.heap.size w w' := by
  obtain ⟨a, ca, rfl, hla, hca, _, HA⟩ := Row.open ha
  obtain ⟨b, cb, rfl, hlb, hcb, _, HB⟩ := Row.open hb
  have xa := dig_limbs (B := 10000) (by omega) m
  have xb := dig_limbs (B := 10000) (by omega) n
  have HF : Hid (∀ c acc, MinusAt (limbs 10000 m) (limbs 10000 n) (limbs 10000 m).length c acc → trimL acc = limbs 10000 (m - n)) := fun c acc h => h.done hmn
  have HM : Hid (n ≤ m) := hmn
  obtain ⟨i0, hi, hz0, hz1, hz2⟩ := info_parts Tryd.infoInt
  unfold RN
  clear ha hb hmn HM
  generalize limbs 10000 m = da at *
  generalize limbs 10000 n = db at *
  generalize limbs 10000 (m - n) = dc at *
  go_enter Tryd.func40, Tryd.ntmps40
  go_wp2
  go_loopw [5, 6, 7] (fun d c i wr => ∃ (k : Nat) (cc : Int) (acc : List Nat) (ao : Option Addr) (cv : Nat), i = .int .i64 k ∧ c = .int .i64 cc ∧ d = .slice ao acc.length cv ∧ k ≤ da.length ∧ MinusAt da db k cc acc ∧ wr.ownsRow w.heap.size 3 1 d acc.length (cellsOf .i64 acc) ∧ Below w.heap.size w wr)
    (fun _ _ i _ => 1000000002 - (intOf i).toNat)
  case atStart => exact ⟨0, 0, [], none, 0, rfl, rfl, rfl, Nat.zero_le _, MinusAt.start da db, World.ownsRow_nil _ _ _ _, Below.refl _ _⟩
  case round =>
    obtain ⟨k, cc, acc, ao, cv, rfl, rfl, rfl, hk, hP, hown, hB⟩ := hrel
    have hsize := hB.size
    have hkl := hP.1
    have hc1 : -1 ≤ cc := by rcases hP.2.2.1 with h | h <;> omega
    have hc2 : cc ≤ 0 := by rcases hP.2.2.1 with h | h <;> omega
    by_cases h1 : k < da.length
    · obtain ⟨ba, oa, rfl, hba, hq1⟩ := HA.out k h1
      have hq1 : wr.cell? ⟨ba, oa + k, none⟩ = some (.int .i64 (da[k]?.getD 0 : Nat)) := (hB.cell (p := ⟨ba, oa + k, none⟩) hba).trans hq1
      have HS := hide (hP.step xa xb)
      have hx := xa.getD (by omega) k
      have hy := xb.getD (by omega) k
      clear hP
      by_cases h2 : k < db.length
      · obtain ⟨bb, ob, rfl, hbb, hq2⟩ := HB.out k h2
        have hq2 : wr.cell? ⟨bb, ob + k, none⟩ = some (.int .i64 (db[k]?.getD 0 : Nat)) := (hB.cell (p := ⟨bb, ob + k, none⟩) hbb).trans hq2
        generalize da[k]?.getD 0 = x at *
        generalize db[k]?.getD 0 = y at *
        by_cases ht : cc + x - y < 0
        · go_wp2_with (first
            | (at_builtin; refine wpList_append_own _ rfl _ _ 28 rfl w.heap.size 3 i0 (.int .i64 0) 1 8 Tryd.underlying28 hi hz0 hz1 hz2 rfl (by decide) (.slice ao acc.length cv) acc.length (cellsOf .i64 acc) rfl (hown.alloc _) ⟨wr.heap.size, 0, none⟩ 1 1 [_] rfl rfl (cell_one_new _ _ _) (by simp [Value.oneCell']) (by unfold maxLen; omega) (by omega) (by simp; omega) ?_; intro v' w3 hown' hgrow hnil))
          obtain ⟨g, cv', e1, ho, hB3⟩ := append_end ((cc + x - y + 10000).toNat) (by omega) hB hown hown' hgrow
          go_roundw
          case rel => exact ⟨k + 1, -1, _, _, _, by simp, rfl, e1, by omega, HS.out (-1) _ (by omega) (by omega), ho, hB3⟩
          case measure => simp [intOf]; omega
        · go_wp2_with (first
            | (at_builtin; refine wpList_append_own _ rfl _ _ 28 rfl w.heap.size 3 i0 (.int .i64 0) 1 8 Tryd.underlying28 hi hz0 hz1 hz2 rfl (by decide) (.slice ao acc.length cv) acc.length (cellsOf .i64 acc) rfl (hown.alloc _) ⟨wr.heap.size, 0, none⟩ 1 1 [_] rfl rfl (cell_one_new _ _ _) (by simp [Value.oneCell']) (by unfold maxLen; omega) (by omega) (by simp; omega) ?_; intro v' w3 hown' hgrow hnil))
          obtain ⟨g, cv', e1, ho, hB3⟩ := append_end ((cc + x - y).toNat) (by omega) hB hown hown' hgrow
          go_roundw
          case rel => exact ⟨k + 1, 0, _, _, _, by simp, rfl, e1, by omega, HS.out 0 _ (by omega) (by omega), ho, hB3⟩
          case measure => simp [intOf]; omega
      · have ey : db[k]?.getD 0 = 0 := by rw [List.getElem?_eq_none (by omega)]; rfl
        rw [ey] at HS
        clear ey hy
        generalize da[k]?.getD 0 = x at *
        by_cases ht : cc + x < 0
        · go_wp2_with (first
            | (at_builtin; refine wpList_append_own _ rfl _ _ 28 rfl w.heap.size 3 i0 (.int .i64 0) 1 8 Tryd.underlying28 hi hz0 hz1 hz2 rfl (by decide) (.slice ao acc.length cv) acc.length (cellsOf .i64 acc) rfl (hown.alloc _) ⟨wr.heap.size, 0, none⟩ 1 1 [_] rfl rfl (cell_one_new _ _ _) (by simp [Value.oneCell']) (by unfold maxLen; omega) (by omega) (by simp; omega) ?_; intro v' w3 hown' hgrow hnil))
          obtain ⟨g, cv', e1, ho, hB3⟩ := append_end ((cc + x + 10000).toNat) (by omega) hB hown hown' hgrow
          go_roundw
          case rel => exact ⟨k + 1, -1, _, _, _, by simp, rfl, e1, by omega, HS.out (-1) _ (by omega) (by omega), ho, hB3⟩
          case measure => simp [intOf]; omega
        · go_wp2_with (first
            | (at_builtin; refine wpList_append_own _ rfl _ _ 28 rfl w.heap.size 3 i0 (.int .i64 0) 1 8 Tryd.underlying28 hi hz0 hz1 hz2 rfl (by decide) (.slice ao acc.length cv) acc.length (cellsOf .i64 acc) rfl (hown.alloc _) ⟨wr.heap.size, 0, none⟩ 1 1 [_] rfl rfl (cell_one_new _ _ _) (by simp [Value.oneCell']) (by unfold maxLen; omega) (by omega) (by simp; omega) ?_; intro v' w3 hown' hgrow hnil))
          obtain ⟨g, cv', e1, ho, hB3⟩ := append_end ((cc + x).toNat) (by omega) hB hown hown' hgrow
          go_roundw
          case rel => exact ⟨k + 1, 0, _, _, _, by simp, rfl, e1, by omega, HS.out 0 _ (by omega) (by omega), ho, hB3⟩
          case measure => simp [intOf]; omega
    · have hkk : k = da.length := by omega
      have hP2 : MinusAt da db da.length cc acc := by rw [← hkk]; exact hP
      have HQ := hide (HF.out cc acc hP2)
      have hlen : acc.length ≤ 1099511627776 := by omega
      have hrow := Row.of_owns hown hlen
      clear hP hP2 hkk hkl
      go_wp2_with (first
        | (go_at_call 29; refine (trim_c _ _ _ hrow).mono ?_; rintro e w' ⟨u, rfl, hu, rfl⟩))
      go_ret
      rw [HQ.out] at hu
      exact ⟨_, rfl, hu, hB⟩
end Go.Proofs.YtjmmnpfedhkjbaaDoor
