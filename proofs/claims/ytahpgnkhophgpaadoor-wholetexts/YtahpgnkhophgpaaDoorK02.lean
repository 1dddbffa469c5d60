import Derived.Test.YtahpgnkhophgpaaDoorK01
import Derived.Lib.Strings
import Derived.Shelf.Spec.BitsCarry
namespace Go.Proofs.YtahpgnkhophgpaaDoor
open Go.RowKit Go.Shelf

/-- An iterator that gives N rounds, the k-th with the arguments args k, where the body's word J keeps what it reads. -/
def SeqN (F : Fence) (n : Nat) (P : Program) (g : Nat) (lb : Array Value) (N : Nat) (args : Nat → Array Value) (Rd : Nat → World → Prop) : Prop :=
  ∀ (l : Nat) (J Jx : Nat → World → Prop) (W : World), (∀ k W1, J k W1 → Rd k W1) →
    (∀ k W1, J k W1 → k < N → YieldAt F (n - 1) P l (args k) W1 fun e W' => (e = .returned (.bool true) ∧ J (k + 1) W') ∨ (e = .returned (.bool false) ∧ Jx k W')) →
    J 0 W → CallsIn F n P g (#[.func (.yield l) #[] #[]] ++ lb) W fun e W' => (∃ v, e = .returned v) ∧ (J N W' ∨ ∃ k, k < N ∧ Jx k W')

/-- How the body of the k-th round may be left. -/
def roundPost (B : Nat) (I : Nat → World → Prop) (Ix : Code → Nat → World → Prop) (k : Nat) (W : World) : Exit → Act → World → Prop
  | .normal, _, W' => KeepsFrom B W W' ∧ I (k + 1) W'
  | .ret, _, W' => KeepsFrom B W W' ∧ Ix .ret k W'
  | .exit id, _, W' => KeepsFrom B W W' ∧ Ix (.exit id) k W'
  | .goto t, _, W' => KeepsFrom B W W' ∧ Ix (.goto t) k W'
  | .panic _, _, _ => False
  | .outgrown, _, _ => False

variable {F : Fence} {n : Nat} {P : Program}

/-- A range over such an iterator, by an invariant that counts the rounds. -/
theorem wpIn_rangeN {g : Operand} {ps : Array Tmp} {assign body : Code} {Q : Exit → Act → World → Prop} {a : Act} {w : World}
    (hro : F.round = none) (h1 : 1 ≤ n) {gf : Nat} {lb : Array Value} (hg : a.eval g = .func (.func gf) #[] lb) (hFg : F.fn gf) (eg : ∀ args w, (callFunc gf args).run P w = .ok (.enter gf args) w)
    {N : Nat} {args : Nat → Array Value} {Rd : Nat → World → Prop} (hseq : SeqN F (n - 1) P gf lb N args Rd) (hps : ∀ k, (args k).size = ps.size)
    (I : Nat → World → Prop) (Ix : Code → Nat → World → Prop) (hI : OwnFrom w.heap.size I) (hIx : ∀ c, OwnFrom w.heap.size (Ix c)) (h0 : I 0 w) (hRd : ∀ k W, I k W → Rd k W) (a₁ : Nat → Act)
    (hassign : ∀ (l k : Nat) (W : World) (K : Act → World → Prop), K (a₁ k) W →
      assign.wpIn (F.inRound l) (n - 1 - 1) P (Exit.then K (fun _ _ _ => False)) { tmps := (ps.zip (args k)).foldl (fun t (p, v) => t.setIfInBounds p v) a.tmps, defers := [] } W)
    (hbody : ∀ (l k : Nat) (W : World), I k W → k < N → w.heap.size < W.heap.size → body.wpIn (F.inRound l) (n - 1 - 1) P (roundPost w.heap.size I Ix k W) (a₁ k) W)
    (hdone : ∀ (D : Nat) (W : World), w.heap.size ≤ D → I N W → W.heap[D]? = some (.deferred (some [])) → Q .normal { a with defers := { target := .collected D, args := #[] } :: a.defers } W)
    (hstop : ∀ (D : Nat) (c : Code) (k : Nat) (W : World), w.heap.size ≤ D → k < N → Ix c k W → W.heap[D]? = some (.deferred (some [])) → c.wpIn F n P Q { a with defers := { target := .collected D, args := #[] } :: a.defers } W) :
    (Code.rangeFunc g ps assign body).wpIn F n P Q a w := by
  refine wpIn_rangeFunc fun fn hfn => ?_
  rw [hro]
  obtain ⟨rc, hrc⟩ : ∃ rc : LoopState → Option Code → Loop, rc = fun st pe => { state := st, pending := pe, fn, tmps := a.tmps, params := ps, assign, body, defers := w.heap.size } := ⟨_, rfl⟩
  obtain ⟨V, hV⟩ : ∃ V, (w.alloc (.deferred (some []))).alloc (.loop (rc .ready none)) = V := ⟨_, rfl⟩
  have vL : V.heap[w.heap.size + 1]? = some (.loop (rc .ready none)) := by
    rw [← hV]
    have := World.alloc_heap_new (w.alloc (.deferred (some []))) (.loop (rc .ready none))
    rwa [World.size_alloc] at this
  have vD : V.heap[w.heap.size]? = some (.deferred (some [])) := by
    rw [← hV]; exact (Below.heap_alloc _ _ _ (by simp)).trans (World.alloc_heap_new w _)
  have vI : I 0 V := by rw [← hV]; exact hI.alloc _ (hI.alloc _ h0)
  refine ⟨w.heap.size + 1, [{ target := .collected w.heap.size, args := #[] }], V, { target := .fn (.func gf) lb, args := #[.func (.yield (w.heap.size + 1)) #[] #[]] }, V, gf,
    #[.func (.yield (w.heap.size + 1)) #[] #[]] ++ lb, V, ?_, ?_, ?_, ?_, fun _ => h1, ?_⟩
  · rw [← hV, hrc]; exact run_enterLoop_outer _ _ _ _ _
  · simp only [resolve, hg]; simp [go_sem]
  · intro f' hf'; simp [Target.leads] at hf'; subst hf'; exact hFg
  · simp [invoke, go_sem, eg]
  refine (hseq (w.heap.size + 1)
    (fun k W => I k W ∧ W.heap[w.heap.size + 1]? = some (.loop (rc .ready none)) ∧ W.heap[w.heap.size]? = some (.deferred (some [])))
    (fun k W => ∃ c, Ix c k W ∧ W.heap[w.heap.size + 1]? = some (.loop (rc .done (some c))) ∧ W.heap[w.heap.size]? = some (.deferred (some [])))
    V (fun k W h => hRd k W h.1) ?_ ⟨vI, vL, vD⟩).mono ?_
  · rintro k W ⟨hi, hl, hk⟩ hlt
    have hsz : w.heap.size + 1 < W.heap.size := (Array.getElem?_eq_some_iff.1 hl).1
    have hy := run_yield (P := P) (args := args k) hl (by rw [hrc]; exact hps k)
    rw [hrc] at hy
    refine ⟨fn, _, assign, body, hy, roundIn_of_wpIn hfn (hassign _ k W _ ⟨_, run_beginRound hl (by rw [hrc]), ?_⟩)⟩
    obtain ⟨W2, hW2⟩ : ∃ W2, W.putObj (w.heap.size + 1) (.loop { rc .ready none with state := .busy }) = W2 := ⟨_, rfl⟩
    rw [hW2]
    have hl2 : W2.heap[w.heap.size + 1]? = some (.loop { rc .ready none with state := .busy }) := by rw [← hW2]; exact World.putObj_heap_same hsz
    have hk2 : W2.heap[w.heap.size]? = some (.deferred (some [])) := by rw [← hW2]; exact (World.putObj_heap_other (by omega)).trans hk
    have hi2 : I k W2 := by rw [← hW2]; exact hI.putObj _ hi (by omega) hl rfl
    have hs2 : w.heap.size < W2.heap.size := (Array.getElem?_eq_some_iff.1 hk2).1
    have fin : ∀ (jump : Option Code) (W3 : World), KeepsFrom w.heap.size W2 W3 →
        (Instr.endRound (w.heap.size + 1) jump).run P W3 = .ok (.bool jump.isNone) (W3.putObj (w.heap.size + 1) (.loop (rc (if jump.isNone then .ready else .done) jump))) ∧
        W3.heap[w.heap.size + 1]? = some (.loop { rc .ready none with state := .busy }) ∧
        (W3.putObj (w.heap.size + 1) (.loop (rc (if jump.isNone then .ready else .done) jump))).heap[w.heap.size + 1]? = some (.loop (rc (if jump.isNone then .ready else .done) jump)) ∧
        (W3.putObj (w.heap.size + 1) (.loop (rc (if jump.isNone then .ready else .done) jump))).heap[w.heap.size]? = some (.deferred (some [])) := fun jump W3 hk3 => by
      have hl3 := hk3.same _ _ (by omega) hl2 rfl
      have hr := run_endRound (P := P) jump hl3
      rw [hrc] at hr ⊢
      exact ⟨hr, by rw [hrc] at hl3; exact hl3, World.putObj_heap_same (Array.getElem?_eq_some_iff.1 hl3).1, (World.putObj_heap_other (by omega)).trans (hk3.same _ _ (Nat.le_refl _) hk2 rfl)⟩
    refine wpIn_mono (hbody _ k W2 hi2 hlt hs2) fun e a3 W3 hp => ?_
    cases e with
    | normal =>
      obtain ⟨hr, hl3, hl4, hk4⟩ := fin none W3 hp.1
      exact ⟨_, _, hr, .inl ⟨rfl, hI.putObj _ hp.2 (by omega) hl3 rfl, hl4, hk4⟩⟩
    | ret =>
      obtain ⟨hr, hl3, hl4, hk4⟩ := fin (some .ret) W3 hp.1
      exact ⟨_, _, hr, .inr ⟨rfl, .ret, (hIx _).putObj _ hp.2 (by omega) hl3 rfl, hl4, hk4⟩⟩
    | exit id =>
      obtain ⟨hr, hl3, hl4, hk4⟩ := fin (some (.exit id)) W3 hp.1
      exact ⟨_, _, hr, .inr ⟨rfl, .exit id, (hIx _).putObj _ hp.2 (by omega) hl3 rfl, hl4, hk4⟩⟩
    | goto t =>
      obtain ⟨hr, hl3, hl4, hk4⟩ := fin (some (.goto t)) W3 hp.1
      exact ⟨_, _, hr, .inr ⟨rfl, .goto t, (hIx _).putObj _ hp.2 (by omega) hl3 rfl, hl4, hk4⟩⟩
    | panic ch => exact hp.elim
    | outgrown => exact hp.elim
  · rintro e W2 ⟨⟨v, rfl⟩, (⟨hi, hl, hk⟩ | ⟨k, hk0, c, hi, hl, hk⟩)⟩
    · exact ⟨none, _, by have := run_endLoop (P := P) hl (by rw [hrc]; simp); rw [hrc] at this; exact this, hdone _ _ (Nat.le_refl _) (hI.putObj _ hi (by omega) hl rfl) ((World.putObj_heap_other (by omega)).trans hk)⟩
    · exact ⟨some c, _, by have := run_endLoop (P := P) hl (by rw [hrc]; simp); rw [hrc] at this; exact this, hstop _ c k _ (Nat.le_refl _) hk0 ((hIx c).putObj _ hi (by omega) hl rfl) ((World.putObj_heap_other (by omega)).trans hk)⟩

end Go.Proofs.YtahpgnkhophgpaaDoor

namespace Go.Proofs.YtahpgnkhophgpaaDoor
open Go.RowKit Go.Shelf

attribute [local go_sem] Oper.semAt_some

/-- What a range backward over a slice reads. -/
def BwdRd (Bs : Nat) (a : Option Addr) (len cap : Nat) (zs : Nat → Nat) (k : Nat) (W : World) : Prop :=
  W.cell? ⟨Bs, 0, none⟩ = some (.slice a len cap) ∧ (k < len → ∃ b off, a = some ⟨b, off, none⟩ ∧ W.cell? ⟨b, off + (len - 1 - k), none⟩ = some (.int .u64 (zs (len - 1 - k) : Nat)))

/-- What a round is handed. -/
def bwdArgs (len : Nat) (zs : Nat → Nat) (k : Nat) : Array Value := #[.int .i64 ((len : Int) - 1 - k), .int .u64 (zs (len - 1 - k) : Nat)]

set_option maxRecDepth 100000 in
set_option maxHeartbeats 2000000 in
theorem bwd1_seq (F : Fence) (n : Nat) (hf : F.fn 71) (hro : F.round = none) (hn : 1 ≤ n) (Bs : Nat) (a : Option Addr) (len cap : Nat) (zs : Nat → Nat) (hlen : len ≤ 1099511627776) :
    SeqN F n Tryd.prog 71 #[.pointer (some ⟨Bs, 0, none⟩)] len (bwdArgs len zs) (BwdRd Bs a len cap zs) := fun l J Jx W hR hY h0 => by
  have hbs := (hR 0 W h0).1
  refine callsIn_of_wp Tryd.func71 rfl hf ?_ hro
  simp only [Tryd.ntmps71, List.size_toArray, List.length_cons, List.length_nil, Nat.reduceAdd, Nat.reduceSub, Array.replicate_succ, Array.replicate_zero, List.push_toArray, List.append_toArray, List.nil_append, List.cons_append]
  gi_wp2
  gi_loopw [3] (fun i wr => ∃ k : Nat, k ≤ len ∧ i = .int .i64 ((len : Int) - 1 - k) ∧ J k wr) (fun i _ => (intOf i + 1).toNat)
  case atStart => exact ⟨0, Nat.zero_le _, by simp, h0⟩
  case round =>
    obtain ⟨k, hk, rfl, hJ⟩ := hrel
    obtain ⟨hb2, hc2⟩ := hR k wr hJ
    by_cases hlt : k < len
    · obtain ⟨b, off, rfl, hc⟩ := hc2 hlt
      obtain ⟨fn, tmps, assign, body, hy, hRd⟩ := hY k wr hJ hlt
      have e1 : ((len : Int) - 1 - k) = ((len - 1 - k : Nat) : Int) := by omega
      have e2 : len - 1 - k < len := by omega
      dsimp only [bwdArgs] at hy
      rw [e1] at hy ⊢
      generalize hm : len - 1 - k = m at *
      have HM := Hid.out (p := Hid (len - 1 - k = m)) hm
      clear hm e1
      gi_wp2
      refine hRd.mono ?_
      rintro e W3 (⟨rfl, hJ3⟩ | ⟨rfl, hJx3⟩)
      · gi_wp2
        go_roundw
        case rel => exact ⟨k + 1, by omega, by (congr 1; have := HM.out; omega), hJ3⟩
        case measure => simp [intOf]
      · gi_wp2
        refine bodyPost_ret (results_none rfl _ _ _) rfl ?_
        exact ⟨⟨_, rfl⟩, .inr ⟨k, hlt, hJx3⟩⟩
    · obtain rfl : k = len := by omega
      gi_wp2
      go_end0
      exact ⟨⟨_, rfl⟩, .inl hJ⟩

set_option maxHeartbeats 1000000 in
theorem bwd_in (F : Fence) (n : Nat) (hf : F.fn 53) (hro : F.round = none) (a : Option Addr) (len cap : Nat) (w : World) :
    CallsIn F n Tryd.prog 53 #[.slice a len cap] w fun e w' => e = .returned (.func (.func 71) #[] #[.pointer (some ⟨w.heap.size, 0, none⟩)]) ∧ w' = w.alloc (.cells #[.slice a len cap] 23) := by
  refine callsIn_of_wp Tryd.func53 rfl hf ?_ hro
  simp only [Tryd.ntmps53, List.size_toArray, List.length_cons, List.length_nil, Nat.reduceAdd, Nat.reduceSub, Array.replicate_succ, Array.replicate_zero, List.push_toArray, List.append_toArray, List.nil_append, List.cons_append]
  gi_wp2
  go_ret
  exact ⟨rfl, rfl⟩
end Go.Proofs.YtahpgnkhophgpaaDoor

namespace Go.Proofs.YtahpgnkhophgpaaDoor
open Go.RowKit Go.Shelf

attribute [local go_sem] Oper.semAt_some

theorem row_fn {k : IntKind} {W : World} {a : Option Addr} {l cap : Nat} {ds : List Nat} (h : Row k W (.slice a l cap) ds) : l = ds.length ∧ l ≤ cap ∧ cap ≤ 9223372036854775807 ∧ l ≤ 1099511627776 ∧
    ∀ j, j < l → ∃ b off, a = some ⟨b, off, none⟩ ∧ b < W.heap.size ∧ W.cell? ⟨b, off + j, none⟩ = some (.int k (ds[j]?.getD 0 : Nat)) := by
  obtain ⟨a', c', e, h1, h2, h3, h4⟩ := Row.open h
  cases e
  exact ⟨rfl, h1, h2, h3, h4⟩

theorem getD_zero {ds : List Nat} {j : Nat} (hj : j < ds.length) (h : ds[j]?.getD 0 = 0) : ds[j]? = some 0 := by
  rw [List.getElem?_eq_getElem hj] at h ⊢
  exact congrArg some h

/-- What the rounds of trimmed keep. -/
def TrmI (w : World) (a : Option Addr) (len cap : Nat) (ds : List Nat) (k : Nat) (W : World) : Prop :=
  (((Boxed W w.heap.size 23 (.slice a len cap) ∧ Boxed W (w.heap.size + 1) 23 (.slice none 0 0)) ∧ Boxed W (w.heap.size + 1 + 1) 23 (.slice a len cap)) ∧ Below w.heap.size w W) ∧ ∀ j, len - k ≤ j → j < len → ds[j]?.getD 0 = 0

/-- What a round of trimmed leaves that returns. -/
def TrmX (w : World) (a : Option Addr) (len cap : Nat) (ds : List Nat) (c : Code) (k : Nat) (W : World) : Prop :=
  (Boxed W (w.heap.size + 1) 23 (.slice a (len - 1 - k + 1) cap) ∧ Below w.heap.size w W) ∧ (c = .ret ∧ ds[len - 1 - k]?.getD 0 ≠ 0 ∧ ∀ j, len - k ≤ j → j < len → ds[j]?.getD 0 = 0)

theorem trmI_own (w : World) (a : Option Addr) (len cap : Nat) (ds : List Nat) : OwnFrom (w.heap.size + 1 + 1 + 1) (TrmI w a len cap ds) :=
  OwnFrom.and (OwnFrom.and (OwnFrom.and (OwnFrom.and (Own.from (boxed_own _ _ (fun _ => .slice a len cap)) _) (Own.from (boxed_own _ _ (fun _ => .slice none 0 0)) _)) (Own.from (boxed_own _ _ (fun _ => .slice a len cap)) _)) (ownFrom_below (Nat.le_refl _) (by omega))) (ownFrom_pure _ _)

theorem trmX_own (w : World) (a : Option Addr) (len cap : Nat) (ds : List Nat) (c : Code) : OwnFrom (w.heap.size + 1 + 1 + 1) (TrmX w a len cap ds c) :=
  OwnFrom.and (OwnFrom.and (Own.from (boxed_own _ _ (fun k => .slice a (len - 1 - k + 1) cap)) _) (ownFrom_below (Nat.le_refl _) (by omega))) (ownFrom_pure _ _)

set_option maxRecDepth 100000 in
set_option maxHeartbeats 2000000 in
theorem trimmed_w (a : Option Addr) (len cap : Nat) (ds : List Nat) (w : World) (h : Row .u64 w (.slice a len cap) ds) :
    Calls Tryd.prog 31 #[.slice a len cap] w fun e w' => ∃ u, e = .returned u ∧ (Row .u64 w' u (trimL ds) ∧ Below w.heap.size w w') ∧ (u = .slice none 0 0 ∧ trimL ds = [] ∨ u = .slice a (trimL ds).length cap) := by
  obtain ⟨hl, hcap, hcm, hlm, hc⟩ := row_fn h
  have HL := Hid.out (p := Hid (len = ds.length)) hl
  have HC := Hid.out (p := Hid (∀ j, j < len → ∃ b off, a = some ⟨b, off, none⟩ ∧ b < w.heap.size ∧ w.cell? ⟨b, off + j, none⟩ = some (.int .u64 (ds[j]?.getD 0 : Nat)))) hc
  clear hc hl
  refine (callsIn_wide (n := 3)).1 ?_
  refine callsIn_of_wp_marks Tryd.func31 rfl trivial ?_ rfl
  simp only [Tryd.ntmps31, List.size_toArray, List.length_cons, List.length_nil, Nat.reduceAdd, Nat.reduceSub, Array.replicate_succ, Array.replicate_zero, List.push_toArray, List.append_toArray, List.nil_append, List.cons_append]
  gi_wp2_with (refine ⟨trivial, ?_⟩; gi_at_call 53; refine (bwd_in Fence.wide _ trivial rfl _ _ _ _).mono ?_; rintro e w' ⟨rfl, rfl⟩)
  have b0 := ((Boxed.new w 23 (.slice a len cap)).alloc (.cells #[.slice none 0 0] 23)).alloc (.cells #[.slice a len cap] 23)
  have b1 := (Boxed.new (w.alloc (.cells #[.slice a len cap] 23)) 23 (.slice none 0 0)).alloc (.cells #[.slice a len cap] 23)
  have b2 := Boxed.new ((w.alloc (.cells #[.slice a len cap] 23)).alloc (.cells #[.slice none 0 0] 23)) 23 (.slice a len cap)
  simp only [World.size_alloc] at b1 b2
  have hB0 : Below w.heap.size w (((w.alloc (.cells #[.slice a len cap] 23)).alloc (.cells #[.slice none 0 0] 23)).alloc (.cells #[.slice a len cap] 23)) := (((Below.refl _ w).alloc (Nat.le_refl _) _).alloc (by simp) _).alloc (by simp; omega) _
  have hN : (((w.alloc (.cells #[.slice a len cap] 23)).alloc (.cells #[.slice none 0 0] 23)).alloc (.cells #[.slice a len cap] 23)).heap.size = w.heap.size + 1 + 1 + 1 := by simp
  refine wpIn_rangeN rfl (by omega) (gf := 71) (lb := #[.pointer (some ⟨w.heap.size + 1 + 1, 0, none⟩)]) rfl trivial (enters_of Tryd.func71 (by kernel_rfl) rfl)
    (bwd1_seq Fence.wide _ trivial rfl (by omega) (w.heap.size + 1 + 1) a len cap (fun j => ds[j]?.getD 0) hlm) (fun _ => rfl)
    (TrmI w a len cap ds) (TrmX w a len cap ds) (by rw [hN]; exact trmI_own w a len cap ds) (fun c => by rw [hN]; exact trmX_own w a len cap ds c)
    ⟨⟨⟨⟨b0, b1⟩, b2⟩, hB0⟩, fun j h1 h2 => by omega⟩ ?rd
    (fun k => { tmps := #[.slice a len cap, .pointer (some ⟨w.heap.size, 0, none⟩), .pointer (some ⟨w.heap.size + 1, 0, none⟩), .int .i64 ((len : Int) - 1 - k), .int .u64 (ds[len - 1 - k]?.getD 0 : Nat), .slice a len cap, .func (.func 71) #[] #[.pointer (some ⟨w.heap.size + 1 + 1, 0, none⟩)], .int .i64 ((len : Int) - 1 - k), .int .u64 (ds[len - 1 - k]?.getD 0 : Nat), undef, undef, undef, undef, undef, undef], defers := [] }) ?assign ?body ?done ?stop
  case rd =>
    rintro k W ⟨⟨⟨_, c2⟩, hB⟩, _⟩
    refine ⟨c2.cell, fun hk => ?_⟩
    obtain ⟨b, off, ea, hb, hc⟩ := HC.out (len - 1 - k) (by omega)
    exact ⟨b, off, ea, (hB.cell (p := ⟨b, off + (len - 1 - k), none⟩) hb).trans hc⟩
  case assign =>
    intro l k W K hK
    unfold bwdArgs
    gi_wp2
    exact hK
  case body =>
    rintro l k W ⟨⟨⟨⟨c0, c1⟩, c2⟩, hB⟩, hz⟩ hk hsz
    have d0 := c0.cell
    have d1 := c1.cell
    have f1 := c1.frozen
    have HZ := Hid.out (p := Hid (∀ j, len - k ≤ j → j < len → ds[j]?.getD 0 = 0)) hz
    clear hz
    have e1 : ((len : Int) - 1 - k) = ((len - 1 - k : Nat) : Int) := by omega
    rw [e1]
    by_cases hx : ds[len - 1 - k]?.getD 0 = 0
    · have HX := Hid.out (p := Hid (ds[len - 1 - k]?.getD 0 = 0)) hx
      rw [hx]
      clear hx e1
      gi_wp2
      refine ⟨KeepsFrom.refl _ _, ⟨⟨⟨c0, c1⟩, c2⟩, hB⟩, fun j h1 h2 => ?_⟩
      by_cases hj : j = len - 1 - k
      · rw [hj]; exact HX.out
      · exact HZ.out j (by omega) h2
    · have hm : len - 1 - k < len := by omega
      have hx2 : (((ds[len - 1 - k]?.getD 0 : Nat) : Int) != 0) = true := by rw [bne_iff_ne]; omega
      have HX := Hid.out (p := Hid (ds[len - 1 - k]?.getD 0 ≠ 0)) hx
      clear hx e1
      have HK := Hid.out (p := Hid (ds[len - 1 - k]?.getD 0 ≠ 0 ∧ ∀ j, len - k ≤ j → j < len → ds[j]?.getD 0 = 0)) ⟨HX.out, HZ.out⟩
      clear HX HZ
      generalize ds[len - 1 - k]?.getD 0 = x at hx2 ⊢
      have HM := Hid.out (p := Hid (len - 1 - k = len - 1 - k)) rfl
      generalize hm0 : len - 1 - k = m at hm ⊢
      have HM0 := Hid.out (p := Hid (len - 1 - k = m)) hm0
      clear hm0 HM
      gi_wp2
      refine ⟨(KeepsOthers.setCell _ _ _).from _, ⟨?_, hB.setCell (p := ⟨w.heap.size + 1, 0, none⟩) (by simp) _⟩, rfl, HK.out⟩
      rw [HM0.out]
      exact c1.set _
  case done =>
    rintro D W hD ⟨⟨⟨⟨c0, c1⟩, c2⟩, hB⟩, hz⟩ hK
    have d1 := c1.cell
    have f1 := c1.frozen
    have HZ := Hid.out (p := Hid (∀ j, len - len ≤ j → j < len → ds[j]?.getD 0 = 0)) hz
    clear hz
    gi_wp2
    have hK2 : (W.setCell ⟨w.heap.size + 1, 0, none⟩ (.slice none 0 0)).heap[D]? = some (.deferred (some [])) := (KeepsOthers.setCell W ⟨w.heap.size + 1, 0, none⟩ (.slice none 0 0)).same D _ hK rfl
    refine ⟨by simp, .inl ⟨_, _, rfl, run_takeDeferred hK2, ?_⟩⟩
    have b1' := (c1.set (.slice none 0 0)).kept (grownBy_putObj' _ D (.deferred none)) (fun e => by cases e; rw [show (W.setCell ⟨w.heap.size + 1, 0, none⟩ (.slice none 0 0)).heap[w.heap.size + 1]? = _ from c1.set (.slice none 0 0)] at hK2; cases hK2)
    have q := b1'.cell
    have e0 : trimL ds = [] := trimL_none ds fun j hj => getD_zero hj (HZ.out j (by omega) (by rw [HL.out]; exact hj))
    refine ⟨.slice none 0 0, by simp [results, Tryd.results31, go_sem, q], _, rfl, ⟨?_, ?_⟩, Or.inl ⟨rfl, e0⟩⟩
    · rw [e0]
      exact Row.nil _ _
    · exact (hB.setCell (p := ⟨w.heap.size + 1, 0, none⟩) (by simp) _).trans (belowK_b (w := w) (Nat.le_refl _) _ D _ _ (by simp at hD; omega) hK2 rfl rfl)
  case stop =>
    rintro D c k W hD hk ⟨⟨c1, hB⟩, rfl, hx, hz⟩ hK
    have d1 := c1.cell
    have HZ := Hid.out (p := Hid (ds[len - 1 - k]?.getD 0 ≠ 0 ∧ ∀ j, len - k ≤ j → j < len → ds[j]?.getD 0 = 0)) ⟨hx, hz⟩
    clear hz hx
    gi_wp2
    refine ⟨by simp, .inl ⟨_, _, rfl, run_takeDeferred hK, ?_⟩⟩
    have b1' := c1.kept (grownBy_putObj' _ D (.deferred none)) (fun e => by cases e; rw [show W.heap[w.heap.size + 1]? = _ from c1] at hK; cases hK)
    have q := b1'.cell
    have hB2 : Below w.heap.size w (W.putObj D (.deferred none)) := hB.trans (belowK_b (w := w) (Nat.le_refl _) _ D _ _ (by simp at hD; omega) hK rfl rfl)
    have hlen := HL.out
    have e : trimL ds = ds.take (len - 1 - k + 1) := by
      refine trimL_at ds (len - 1 - k) (by omega) ?_ ?_
      · intro h0
        apply HZ.out.1
        rw [h0]; rfl
      · intro j h1 h2
        exact getD_zero h2 (HZ.out.2 j (by omega) (by omega))
    have el : (ds.take (len - 1 - k + 1)).length = len - 1 - k + 1 := by rw [List.length_take]; omega
    refine ⟨.slice a (len - 1 - k + 1) cap, by simp [results, Tryd.results31, go_sem, q], _, rfl, ⟨?_, hB2⟩, Or.inr (by rw [e, el])⟩
    rw [e]
    have hr := Row.below h hB2
    obtain ⟨_, _, _, _, hcs⟩ := row_fn hr
    obtain ⟨b, off, ea, hb, _⟩ := hcs (len - 1 - k) (by omega)
    refine ⟨a, cap, by rw [el], by omega, hcm, by omega, Or.inr ⟨b, off, ea, hb, fun j hj => ?_⟩⟩
    rw [el] at hj
    obtain ⟨b', off', ea', _, hc'⟩ := hcs j (by omega)
    rw [ea] at ea'
    cases ea'
    rw [hc', List.getElem?_take_of_lt hj]

theorem trimmed_c (v : Value) (ds : List Nat) (w : World) (h : Row .u64 w v ds) :
    Calls Tryd.prog 31 #[v] w fun e w' => ∃ u, e = .returned u ∧ Row .u64 w' u (trimL ds) ∧ Below w.heap.size w w' := by
  obtain ⟨a, cap, rfl, h1⟩ := id h
  refine (trimmed_w a _ cap ds w h).mono ?_
  rintro e w' ⟨u, rfl, ⟨h2, h3⟩, _⟩
  exact ⟨u, rfl, h2, h3⟩
end Go.Proofs.YtahpgnkhophgpaaDoor

namespace Go.Proofs.YtahpgnkhophgpaaDoor
open Go.RowKit Go.Shelf

/-- A word's base. -/
def B64 : Nat := 18446744073709551616
theorem two_le_B64 : 2 ≤ B64 := by unfold B64; omega

/-- The slice value v holds the words of n. -/
def UN (W : World) (v : Value) (n : Nat) : Prop := Row .u64 W v (limbs B64 n)

theorem UN.below {W W' : World} {v : Value} {n : Nat} (h : UN W v n) (hb : Below W.heap.size W W') : UN W' v n := Row.below h hb
theorem UN.form {W : World} {v : Value} {n : Nat} (h : UN W v n) : ∃ a cap, v = .slice a (limbs B64 n).length cap := by
  obtain ⟨a, cap, e, _⟩ := h
  exact ⟨a, cap, e⟩
theorem UN.len {W : World} {a : Option Addr} {l c n : Nat} (h : UN W (.slice a l c) n) : l = (limbs B64 n).length := by
  obtain ⟨a', cap, e, _⟩ := h
  cases e
  rfl

/-- The value v is the program's number z. -/
def IsInt (W : World) (v : Value) (z : Int) : Prop := ∃ a l cap, v = .agg #[.bool (decide (z < 0)), .slice a l cap] ∧ UN W (.slice a l cap) z.natAbs

theorem IsInt.below {W W' : World} {v : Value} {z : Int} (h : IsInt W v z) (hb : Below W.heap.size W W') : IsInt W' v z := by
  obtain ⟨a, l, cap, e, hr⟩ := h
  exact ⟨a, l, cap, e, hr.below hb⟩

theorem wlen_pos_iff {n : Nat} : 0 < (limbs B64 n).length ↔ n ≠ 0 := by
  rw [List.length_pos_iff, Ne, limbs_eq_nil two_le_B64]

theorem agg_bool' {d : Value} {p q : Bool} (h : p = q) : Value.agg #[.bool p, d] = .agg #[.bool q, d] := by rw [h]

set_option maxHeartbeats 400000 in
theorem sign_c (b : Bool) (w : World) : Calls Tryd.prog 36 #[.bool b] w fun e w' => e = .returned (.int .i64 (if b then 1 else -1)) ∧ w' = w := by
  cases b
  · go_enter Tryd.func36, Tryd.ntmps36
    go_wp2
    go_ret
    exact ⟨rfl, rfl⟩
  · go_enter Tryd.func36, Tryd.ntmps36
    go_wp2
    go_ret
    exact ⟨rfl, rfl⟩

set_option maxHeartbeats 400000 in
theorem signed_w (b : Bool) (a : Option Addr) (l cap : Nat) (w : World) : Calls Tryd.prog 27 #[.bool b, .slice a l cap] w fun e w' => e = .returned (.agg #[.bool (b && decide (0 < l)), .slice a l cap]) ∧ Below w.heap.size w w' := by
  cases b
  · go_enter Tryd.func27, Tryd.ntmps27
    go_wp2
    exact bodyPost_ret (v := .agg #[.bool false, .slice a l cap]) (by simp [results, Tryd.results27, go_sem]) rfl ⟨by simp, (Below.refl _ _).alloc (Nat.le_refl _) _⟩
  · go_enter Tryd.func27, Tryd.ntmps27
    go_wp2
    exact bodyPost_ret (v := .agg #[.bool (decide (0 < l)), .slice a l cap]) (by simp [results, Tryd.results27, go_sem]) rfl ⟨by simp, (Below.refl _ _).alloc (Nat.le_refl _) _⟩

theorem signed_c (b : Bool) (v : Value) (n : Nat) (w : World) (h : UN w v n) : Calls Tryd.prog 27 #[.bool b, v] w fun e w' => ∃ u, e = .returned u ∧ IsInt w' u (if b then -(n : Int) else n) ∧ Below w.heap.size w w' := by
  obtain ⟨a, cap, rfl⟩ := h.form
  refine (signed_w b a _ cap w).mono ?_
  rintro e w' ⟨rfl, hB⟩
  refine ⟨_, rfl, ⟨a, (limbs B64 n).length, cap, ?_, ?_⟩, hB⟩
  · refine agg_bool' ?_
    rw [Bool.eq_iff_iff]
    simp only [Bool.and_eq_true, decide_eq_true_eq]
    rw [wlen_pos_iff]
    cases b
    · simp
    · simp; omega
  · have e : (if b then -(n : Int) else n).natAbs = n := by cases b <;> simp
    rw [e]
    exact h.below hB

/-- The list of a text's bytes. -/
def wlst (s : ByteArray) : List UInt8 := s.data.toList

theorem wlst_length (s : ByteArray) : (wlst s).length = s.size := Array.length_toList
theorem wlst_get (s : ByteArray) (i : Nat) (h : i < s.size) : (wlst s)[i]'(by rw [wlst_length]; exact h) = s[i] := rfl

theorem ret_bool {a b : Bool} (h : a = b) : Ending.returned (.bool a) = .returned (.bool b) := by rw [h]

/-- Digits alone, without a needless zero. -/
def isNum (l : List UInt8) : Bool := l.all isD && (decide (l = [48]) || (!l.isEmpty && !decide (l.head? = some 48)))

set_option maxRecDepth 100000 in
set_option maxHeartbeats 1000000 in
theorem isNumber_w (s : ByteArray) (hs : s.size ≤ 140737488351232) (w : World) : Calls Tryd.prog 26 #[.string s] w fun e w' => e = .returned (.bool (isNum (wlst s))) ∧ w' = w := by
  go_enter Tryd.func26, Tryd.ntmps26
  go_wp2
  go_loop [6] (fun iv => ∃ i : Nat, iv = .int .i64 i ∧ i ≤ s.size ∧ Hid (((wlst s).take i).all isD = true)) (fun iv => s.size - (intOf iv).toNat)
  case atStart => exact ⟨0, rfl, Nat.zero_le _, rfl⟩
  case round =>
    obtain ⟨i, rfl, hi, HA⟩ := hrel
    by_cases hlt : i < s.size
    · by_cases hd : isD s[i] = true
      · have hb := isD_bounds hd
        have hb1 : 48 ≤ s[i].toNat := hb.1
        have hb2 : s[i].toNat ≤ 57 := hb.2
        have HN : Hid (((wlst s).take (i + 1)).all isD = true) := by
          show _ = true
          rw [List.take_succ_eq_append_getElem (by rw [wlst_length]; exact hlt), List.all_append, HA.out, wlst_get s i hlt]
          simp [hd]
        clear hb hd
        go_wp2
        exact ⟨⟨i + 1, by simp, by omega, HN⟩, by simp [intOf]; omega⟩
      · have hall : isNum (wlst s) = false := by
          have : (wlst s).all isD = false := by
            rw [List.all_eq_false]
            exact ⟨_, List.getElem_mem (by rw [wlst_length]; exact hlt), by rw [wlst_get s i hlt]; exact hd⟩
          simp [isNum, this]
        have hnd : s[i].toNat < 48 ∨ (48 ≤ s[i].toNat ∧ 57 < s[i].toNat) := by
          simp [isD] at hd
          omega
        have HN := Hid.out (p := Hid (isNum (wlst s) = false)) hall
        clear hall hd
        rcases hnd with hnd | ⟨hnd1, hnd2⟩
        · go_wp2
          go_ret
          exact ⟨ret_bool HN.out.symm, rfl⟩
        · go_wp2
          go_ret
          exact ⟨ret_bool HN.out.symm, rfl⟩
    · have hall : (wlst s).all isD = true := by
        have := HA.out
        rwa [List.take_of_length_le (by rw [wlst_length]; omega)] at this
      by_cases h0 : s.size = 0
      · have hs0 : s = ⟨#[]⟩ := by
          apply ByteArray.ext
          exact Array.eq_empty_of_size_eq_zero h0
        subst hs0
        go_wp2
        go_ret
        exact ⟨rfl, rfl⟩
      · have hp : 0 < s.size := by omega
        have hne : s.toList.isEmpty = false := by
          rw [Lib.toList_data]
          have := wlst_length s
          cases h : s.data.toList with
          | nil => rw [wlst, h] at this; simp at this; omega
          | cons x l => rfl
        have hhd : (wlst s).head? = some s[0] := by
          have hl := wlst_length s
          cases hc : wlst s with
          | nil => rw [hc] at hl; simp at hl; omega
          | cons x l =>
            have := wlst_get s 0 hp
            simp only [hc, List.getElem_cons_zero] at this
            rw [List.head?_cons, this]
        have hnem : (wlst s).isEmpty = false := by rw [← hne, Lib.toList_data]; rfl
        have hres : isNum (wlst s) = ((s.toList == [48]) || ((s[0].toNat : Int) != 48)) := by
          rw [isNum, hall, hnem, hhd, Lib.toList_data]
          have e1 : decide (wlst s = [48]) = (s.data.toList == [48]) := by
            rw [Bool.eq_iff_iff, decide_eq_true_iff, beq_iff_eq]; rfl
          have e2 : (!decide (some s[0] = some (48 : UInt8))) = ((s[0].toNat : Int) != 48) := by
            rw [Bool.eq_iff_iff]
            simp only [Bool.not_eq_true', decide_eq_false_iff_not, bne_iff_ne, Option.some.injEq, ne_eq]
            refine not_congr ?_
            rw [← UInt8.toNat_inj]
            show _ ↔ (s[0].toNat : Int) = ((48 : Nat) : Int)
            rw [Int.ofNat_inj]
            rfl
          rw [e1, e2]
          simp
        have HR := Hid.out (p := Hid (isNum (wlst s) = ((s.toList == [48]) || ((s[0].toNat : Int) != 48)))) hres
        clear hres hhd hnem hall HA h0
        cases hq : (s.toList == [48])
        · rw [hq] at HR
          go_wp2
          go_ret
          exact ⟨ret_bool HR.out.symm, rfl⟩
        · rw [hq] at HR
          go_wp2
          go_ret
          exact ⟨ret_bool HR.out.symm, rfl⟩
end Go.Proofs.YtahpgnkhophgpaaDoor

namespace Go.Proofs.YtahpgnkhophgpaaDoor
open Go.RowKit Go.Shelf

/-- Block b begins with the words xs, and may be written. -/
def Arr (W : World) (b : Nat) (xs : List Nat) : Prop := ∃ tl : List Value, W.heap[b]? = some (.cells (cellsOf .u64 xs ++ tl).toArray 56 (0, 0))

theorem Arr.lt {W : World} {b : Nat} {xs : List Nat} (h : Arr W b xs) : b < W.heap.size := by obtain ⟨_, h⟩ := h; exact (Array.getElem?_eq_some_iff.1 h).1
theorem Arr.cell {W : World} {b : Nat} {xs : List Nat} (h : Arr W b xs) {j : Nat} (hj : j < xs.length) : W.cell? ⟨b, j, none⟩ = some (.int .u64 (xs[j]?.getD 0 : Nat)) := by
  obtain ⟨tl, h⟩ := h
  have e : (cellsOf .u64 xs ++ tl)[j]? = some (.int .u64 (xs[j]?.getD 0 : Nat)) := by
    rw [List.getElem?_append_left (by rw [cellsOf_length]; exact hj)]
    simp [cellsOf, List.getElem?_eq_getElem hj]
  simp [World.cell?, h, e]
theorem Arr.frozen {W : World} {b : Nat} {xs : List Nat} (h : Arr W b xs) (j : Nat) : W.frozen? ⟨b, j, none⟩ = false := by obtain ⟨_, h⟩ := h; simp [World.frozen?, h]
theorem Arr.of_block {W W' : World} {b : Nat} {xs : List Nat} (h : Arr W b xs) (e : W'.heap[b]? = W.heap[b]?) : Arr W' b xs := by obtain ⟨tl, h⟩ := h; exact ⟨tl, e.trans h⟩
theorem Arr.kept {W W' : World} {row : Option Nat} {b : Nat} {xs : List Nat} (h : Arr W b xs) (hg : W.grownBy W' row) (hne : some b ≠ row) : Arr W' b xs := h.of_block (hg.block b h.lt hne)
theorem Arr.below {W W' : World} {b : Nat} {xs : List Nat} (h : Arr W b xs) (hb : Below W.heap.size W W') : Arr W' b xs := h.of_block (hb.block b h.lt)
theorem Arr.alloc {W : World} {b : Nat} {xs : List Nat} (h : Arr W b xs) (o : Obj) : Arr (W.alloc o) b xs := h.below ((Below.refl _ W).alloc (Nat.le_refl _) o)
theorem Arr.set {W : World} {b : Nat} {xs : List Nat} (h : Arr W b xs) (j v : Nat) : Arr (W.setCell ⟨b, j, none⟩ (.int .u64 (v : Nat))) b (xs.set j v) := by
  obtain ⟨tl, h⟩ := h
  obtain ⟨hlt, hk⟩ := Array.getElem?_eq_some_iff.1 h
  have e : ∃ tl', (cellsOf .u64 xs ++ tl).set j (.int .u64 (v : Nat)) = cellsOf .u64 (xs.set j v) ++ tl' := by
    rcases Nat.lt_or_ge j xs.length with hj | hj
    · exact ⟨tl, by rw [List.set_append_left _ _ (by rw [cellsOf_length]; exact hj)]; simp [cellsOf, List.map_set]⟩
    · exact ⟨_, by rw [List.set_append_right _ _ (by rw [cellsOf_length]; exact hj), List.set_eq_of_length_le hj]⟩
  obtain ⟨tl', e⟩ := e
  refine ⟨tl', ?_⟩
  show (W.heap.modify b _)[b]? = _
  rw [Array.getElem?_eq_getElem (by rw [Array.size_modify]; exact hlt), Array.getElem_modify_self, hk, ← e]
  simp
theorem Arr.far {W : World} {b : Nat} {xs : List Nat} (h : Arr W b xs) {p : Addr} (hp : b ≠ p.block) (u : Value) : Arr (W.setCell p u) b xs := h.of_block (Below.heap_setCell W p u b hp)
/-- A block that holds words is none of another kind. -/
theorem Arr.other {W : World} {b : Nat} {xs : List Nat} (h : Arr W b xs) {o : Obj} (ho : W.heap[b]? = some o) : o.isCells = true := by obtain ⟨tl, h⟩ := h; rw [h] at ho; cases ho; rfl
theorem Arr.made {W : World} {b : Nat} {xs : List Nat} (h : W.heap[b]? = some (.cells (cellsOf .u64 xs).toArray 56 (0, 0))) : Arr W b xs := ⟨[], by rw [List.append_nil]; exact h⟩
/-- What one has of one's own, as a block of words. -/
theorem Arr.owns {W : World} {base : Nat} {g n cap : Nat} {xs : List Nat} (h : W.ownsRow base 56 1 (.slice (some ⟨g, 0, none⟩) n cap) n (cellsOf .u64 xs)) : Arr W g xs := by
  obtain ⟨h1, h2⟩ := h
  rcases h2 with ⟨e, _⟩ | ⟨g', cap', cur, e, _, hb, _, _, _, ht⟩
  · cases e
  · cases e
    refine ⟨cur.toList.drop (n * 1), ?_⟩
    rw [← ht, List.take_append_drop, hb]

theorem grown_set (W : World) (b j : Nat) (v : Value) : W.grownBy (W.setCell ⟨b, j, none⟩ v) (some b) :=
  ⟨rfl, rfl, rfl, (KeepsWalks.setCell W _ v).size, fun k _ hk => Below.heap_setCell _ _ _ k (fun e => hk (by rw [e]))⟩

theorem grown_trans {A B C : World} {row : Option Nat} (h : A.grownBy B row) (k : B.grownBy C row) : A.grownBy C row :=
  ⟨k.os.trans h.os, k.tape.trans h.tape, k.output.trans h.output, Nat.le_trans h.size k.size, fun i hi hr => (k.block i (Nat.lt_of_lt_of_le hi h.size) hr).trans (h.block i hi hr)⟩

theorem grown_refl (A : World) (row : Option Nat) : A.grownBy A row := ⟨rfl, rfl, rfl, Nat.le_refl _, fun _ _ _ => rfl⟩

theorem grown_below {A B : World} (h : Below A.heap.size A B) (row : Option Nat) : A.grownBy B row := ⟨h.os, h.tape, h.output, h.size, fun i hi _ => h.block i hi⟩

theorem below_grown {w A B : World} {b : Nat} (h : Below w.heap.size w A) (hg : A.grownBy B (some b)) (hb : w.heap.size ≤ b) : Below w.heap.size w B :=
  h.grown hg h.size (fun k e => by cases e; exact hb)

/-- A piece of a written block as a row. -/
theorem Arr.row {W : World} {b : Nat} {xs : List Nat} (h : Arr W b xs) (off len cap : Nat) (h1 : off + len ≤ xs.length) (h2 : len ≤ cap) (h3 : cap ≤ 9223372036854775807) (h4 : len ≤ 1099511627776) : Row .u64 W (.slice (some ⟨b, off, none⟩) len cap) ((xs.drop off).take len) := by
  have e : ((xs.drop off).take len).length = len := by rw [List.length_take, List.length_drop]; omega
  refine ⟨_, cap, by rw [e], by omega, h3, by omega, Or.inr ⟨b, off, rfl, h.lt, fun j hj => ?_⟩⟩
  rw [e] at hj
  rw [h.cell (by omega), List.getElem?_take_of_lt hj, List.getElem?_drop]

theorem Row.grown {k : IntKind} {W W' : World} {b : Nat} {a : Option Addr} {l cap : Nat} {ds : List Nat} (h : Row k W (.slice a l cap) ds) (hg : W.grownBy W' (some b)) (hne : ∀ p, a = some p → 0 < l → p.block ≠ b) : Row k W' (.slice a l cap) ds := by
  obtain ⟨a', c', e, h1, h2, h3, h4⟩ := h
  cases e
  refine ⟨a, cap, rfl, h1, h2, h3, ?_⟩
  rcases h4 with h4 | ⟨b', off, ea, hlt, hc⟩
  · exact Or.inl h4
  · by_cases h0 : ds = []
    · exact Or.inl h0
    · have hl : 0 < ds.length := List.length_pos_iff.2 h0
      have hb := hne _ ea hl
      refine Or.inr ⟨b', off, ea, Nat.lt_of_lt_of_le hlt hg.size, fun j hj => ?_⟩
      exact (World.cell?_of_block (w := W) (hg.block b' hlt (fun e => hb (by cases e; rfl)))).trans (hc j hj)

/-- The words that bits.Add64 gives. -/
def addLo (x y c : Nat) : Nat := (x + y + c) % B64
def addHi (x y c : Nat) : Nat := (x + y + c) / B64
/-- The words that bits.Sub64 gives. -/
def subLo (x y c : Nat) : Nat := (x + B64 - y - c) % B64
def subHi (x y c : Nat) : Nat := if x < y + c then 1 else 0

theorem add64_r (x y c : Nat) (hc : c ≤ 1) (w : World) : (callFunc 62 #[.int .u64 (x : Nat), .int .u64 (y : Nat), .int .u64 (c : Nat)]).run Tryd.prog w =
    .ok (.value (.tuple #[.int .u64 (addLo x y c : Nat), .int .u64 (addHi x y c : Nat)])) w := by
  rw [run_callFunc_extern Tryd.func62 (by kernel_rfl) (by kernel_rfl) (by kernel_rfl) (e := add64Entry) (by kernel_rfl), run_add64 x y c (by omega) (by omega) (by omega) (by omega)]
  simp only [Result.andThen, addLo, addHi, B64]
  congr 5 <;> omega

theorem add64_0 (x y : Nat) (w : World) : (callFunc 62 #[.int .u64 (x : Nat), .int .u64 (y : Nat), .int .u64 0]).run Tryd.prog w =
    .ok (.value (.tuple #[.int .u64 (addLo x y 0 : Nat), .int .u64 (addHi x y 0 : Nat)])) w := add64_r x y 0 (by omega) w

theorem sub64_r (x y c : Nat) (hc : c ≤ 1) (w : World) : (callFunc 72 #[.int .u64 (x : Nat), .int .u64 (y : Nat), .int .u64 (c : Nat)]).run Tryd.prog w =
    .ok (.value (.tuple #[.int .u64 (subLo x y c : Nat), .int .u64 (subHi x y c : Nat)])) w := by
  rw [run_callFunc_extern Tryd.func72 (by kernel_rfl) (by kernel_rfl) (by kernel_rfl) (e := sub64Entry) (by kernel_rfl), run_sub64 x y c hc]
  rfl

end Go.Proofs.YtahpgnkhophgpaaDoor

namespace Go.Proofs.YtahpgnkhophgpaaDoor
open Go.RowKit Go.Shelf

theorem hidD {p : Prop} (h : p) : Hid p := h

/-- The block's words while addTimes goes on. -/
def mid (xs : List Nat) (ro i : Nat) (q : List Nat) : List Nat := xs.take ro ++ (q ++ xs.drop (ro + i))

theorem mid_zero (xs : List Nat) (ro : Nat) : mid xs ro 0 [] = xs := by simp [mid]
theorem mid_length {xs : List Nat} {ro i : Nat} {q : List Nat} (hq : q.length = i) (h : ro + i ≤ xs.length) : (mid xs ro i q).length = xs.length := by
  simp only [mid, List.length_append, List.length_take, List.length_drop]; omega
theorem mid_get {xs : List Nat} {ro i : Nat} {q : List Nat} (hq : q.length = i) (h : ro + i < xs.length) : (mid xs ro i q)[ro + i]?.getD 0 = xs[ro + i]?.getD 0 := by
  have h1 : (xs.take ro).length = ro := by rw [List.length_take]; omega
  rw [mid, List.getElem?_append_right (by omega), h1, List.getElem?_append_right (by omega), List.getElem?_drop]
  congr 2
  omega
theorem mid_set {xs : List Nat} {ro i : Nat} {q : List Nat} (hq : q.length = i) (h : ro + i < xs.length) (d : Nat) : (mid xs ro i q).set (ro + i) d = mid xs ro (i + 1) (q ++ [d]) := by
  have h1 : (xs.take ro).length = ro := by rw [List.length_take]; omega
  rw [mid, List.set_append_right _ _ (by omega), h1, show ro + i - ro = i from by omega, List.set_append_right _ _ (by omega), hq, Nat.sub_self]
  rw [List.drop_eq_getElem_cons h, List.set_cons_zero, mid]
  simp [Nat.add_assoc]

/-- A row without its words behind i is as it was there. -/
theorem mid_rest {xs : List Nat} {ro i len : Nat} {q : List Nat} (hi : i ≤ len) : mid xs ro i q = mid xs ro len (q ++ (xs.drop (ro + i)).take (len - i)) := by
  rw [mid, mid, List.append_assoc]
  congr 2
  have e : xs.drop (ro + len) = (xs.drop (ro + i)).drop (len - i) := by rw [List.drop_drop]; congr 1; omega
  rw [e, List.take_append_drop]

theorem sub_step {x y c : Nat} (hx : x < B64) (hy : y < B64) (hc : c ≤ 1) : subLo x y c < B64 ∧ subHi x y c ≤ 1 ∧ subLo x y c + y + c = x + B64 * subHi x y c := by
  unfold subLo subHi
  unfold B64 at *
  split <;> omega

theorem add_step {x y c : Nat} (hx : x < B64) (hy : y < B64) (hc : c ≤ 1) : addLo x y c < B64 ∧ addHi x y c ≤ 1 ∧ addLo x y c + B64 * addHi x y c = x + y + c := by
  unfold addLo addHi
  unfold B64 at *
  omega

/-- What the loops of takeOff know. -/
def SubAt (xs bs : List Nat) (ro i c : Nat) (q : List Nat) : Prop :=
  q.length = i ∧ Dig B64 q ∧ c ≤ 1 ∧ val B64 q + val B64 (bs.take i) = val B64 ((xs.drop ro).take i) + B64 ^ i * c

theorem SubAt.start (xs bs : List Nat) (ro : Nat) : SubAt xs bs ro 0 0 [] := ⟨rfl, Dig.nil _, by omega, by simp [val]⟩

theorem SubAt.step {xs bs : List Nat} {ro i c : Nat} {q : List Nat} (h : SubAt xs bs ro i c q) (d c' : Nat) (hd : d < B64) (ho : c' ≤ 1) (he : d + bs[i]?.getD 0 + c = xs[ro + i]?.getD 0 + B64 * c') : SubAt xs bs ro (i + 1) c' (q ++ [d]) := by
  obtain ⟨h1, h2, h3, h4⟩ := h
  refine ⟨by simp; omega, h2.append (Dig.cons hd (Dig.nil _)), ho, ?_⟩
  rw [val_snoc, h1, val_take_succ, val_take_succ, List.getElem?_drop, Nat.pow_succ, Nat.mul_assoc]
  have e2 : B64 ^ i * d + B64 ^ i * (bs[i]?.getD 0) + B64 ^ i * c = B64 ^ i * (xs[ro + i]?.getD 0) + B64 ^ i * (B64 * c') := by
    rw [← Nat.mul_add, ← Nat.mul_add, he, Nat.mul_add]
  omega

theorem SubAt.rest {xs bs : List Nat} {ro i len : Nat} {q : List Nat} (h : SubAt xs bs ro i 0 q) (hx : Dig B64 xs) (hb : bs.length ≤ i) (hi : i ≤ len) (hl : ro + len ≤ xs.length) : SubAt xs bs ro len 0 (q ++ (xs.drop (ro + i)).take (len - i)) := by
  obtain ⟨h1, h2, h3, h4⟩ := h
  refine ⟨by rw [List.length_append, List.length_take, List.length_drop]; omega, h2.append ((hx.drop _).take _), by omega, ?_⟩
  have e1 : (xs.drop ro).take len = (xs.drop ro).take i ++ (xs.drop (ro + i)).take (len - i) := by
    rw [← List.drop_drop, ← List.take_add, show i + (len - i) = len from by omega]
  have e2 : ((xs.drop ro).take i).length = i := by rw [List.length_take, List.length_drop]; omega
  rw [e1, val_append, val_append, h1, e2]
  rw [List.take_of_length_le hb] at h4
  rw [List.take_of_length_le (show bs.length ≤ len by omega)]
  omega

/-- What the loops of add know. -/
def AddAt (xs bs : List Nat) (ro i c : Nat) (q : List Nat) : Prop :=
  q.length = i ∧ Dig B64 q ∧ c ≤ 1 ∧ val B64 q + B64 ^ i * c = val B64 ((xs.drop ro).take i) + val B64 (bs.take i)

theorem AddAt.start (xs bs : List Nat) (ro : Nat) : AddAt xs bs ro 0 0 [] := ⟨rfl, Dig.nil _, by omega, by simp [val]⟩

theorem AddAt.step {xs bs : List Nat} {ro i c : Nat} {q : List Nat} (h : AddAt xs bs ro i c q) (d c' : Nat) (hd : d < B64) (ho : c' ≤ 1) (he : d + B64 * c' = xs[ro + i]?.getD 0 + bs[i]?.getD 0 + c) : AddAt xs bs ro (i + 1) c' (q ++ [d]) := by
  obtain ⟨h1, h2, h3, h4⟩ := h
  refine ⟨by simp; omega, h2.append (Dig.cons hd (Dig.nil _)), ho, ?_⟩
  rw [val_snoc, h1, val_take_succ, val_take_succ, List.getElem?_drop, Nat.pow_succ, Nat.mul_assoc]
  have e2 : B64 ^ i * d + B64 ^ i * (B64 * c') = B64 ^ i * (xs[ro + i]?.getD 0) + B64 ^ i * (bs[i]?.getD 0) + B64 ^ i * c := by
    rw [← Nat.mul_add, he, Nat.mul_add, Nat.mul_add]
  omega

theorem AddAt.rest {xs bs : List Nat} {ro i len : Nat} {q : List Nat} (h : AddAt xs bs ro i 0 q) (hx : Dig B64 xs) (hb : bs.length ≤ i) (hi : i ≤ len) (hl : ro + len ≤ xs.length) : AddAt xs bs ro len 0 (q ++ (xs.drop (ro + i)).take (len - i)) := by
  obtain ⟨h1, h2, h3, h4⟩ := h
  refine ⟨by rw [List.length_append, List.length_take, List.length_drop]; omega, h2.append ((hx.drop _).take _), by omega, ?_⟩
  have e1 : (xs.drop ro).take len = (xs.drop ro).take i ++ (xs.drop (ro + i)).take (len - i) := by
    rw [← List.drop_drop, ← List.take_add, show i + (len - i) = len from by omega]
  have e2 : ((xs.drop ro).take i).length = i := by rw [List.length_take, List.length_drop]; omega
  rw [e1, val_append, val_append, h1, e2]
  rw [List.take_of_length_le hb] at h4
  rw [List.take_of_length_le (show bs.length ≤ len by omega)]
  omega
end Go.Proofs.YtahpgnkhophgpaaDoor

