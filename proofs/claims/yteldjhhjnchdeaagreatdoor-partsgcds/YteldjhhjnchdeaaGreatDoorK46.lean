import Derived.Test.YteldjhhjnchdeaaGreatDoorK45
import Derived.Test.YteldjhhjnchdeaaGreatDoorK33
import Derived.Test.YteldjhhjnchdeaaGreatDoorK35
import Derived.Test.YteldjhhjnchdeaaGreatDoorK44
import Derived.Test.YteldjhhjnchdeaaGreatDoorK28
namespace Go.Proofs.YteldjhhjnchdeaaGreatDoor.M3
open Go.RowKit Go.Shelf

attribute [local go_sem] Oper.semAt_some

set_option maxHeartbeats 1000000 in
theorem cOf_in (n : Nat) (pa qa : Option Addr) (pl pc ql qc : Nat) (w : World) :
    CallsIn Fence.wide n Tryz.prog 25 #[.agg #[.slice pa pl pc], .agg #[.slice qa ql qc]] w fun e w' => e = .returned (.func (.func 55) #[] #[.pointer (some ⟨w.heap.size, 0, none⟩), .pointer (some ⟨w.heap.size + 1, 0, none⟩)]) ∧ w' = (w.alloc (.cells #[.slice pa pl pc] 25)).alloc (.cells #[.slice qa ql qc] 25) := by
  refine callsIn_of_wp Tryz.func25 rfl trivial ?_ rfl
  simp only [Tryz.ntmps25, List.size_toArray, List.length_cons, List.length_nil, Nat.reduceAdd, Nat.reduceSub, Array.replicate_succ, Array.replicate_zero, List.push_toArray, List.append_toArray, List.nil_append, List.cons_append]
  gi_wp2
  go_ret
  exact ⟨rfl, rfl⟩

/-- How a round's body may be left. -/
def postC (B : Nat) (I : List (List Rat) → World → Prop) (H : List (List Rat)) (W : World) : Exit → Act → World → Prop
  | .normal, _, W' => I H W' ∧ W.heap.size ≤ W'.heap.size ∧ (∀ (k : Nat) (o : Obj), B ≤ k → W.heap[k]? = some o → W'.heap[k]? = some o) ∧ ∀ v ps, IsPoly W v ps → IsPoly W' v ps
  | _, _, _ => False
theorem poly_own {W W' : World} {row : Option Nat} (hg : W.grownBy W' row) (hr : ∀ r, row = some r → ∃ o : Obj, W.heap[r]? = some o ∧ o.isCells = false) {v : Value} {ps : List Rat} (h : IsPoly W v ps) : IsPoly W' v ps := by
  obtain ⟨u, e, h⟩ := h
  exact ⟨u, e, rowK_own hg hr h⟩
theorem poly_putObj {W : World} {l : Nat} {o o' : Obj} (hl : W.heap[l]? = some o) (ho : o.isCells = false) {v : Value} {ps : List Rat} (h : IsPoly W v ps) : IsPoly (W.putObj l o') v ps :=
  poly_own (grownBy_putObj' W l o') (fun r e => by cases e; exact ⟨o, hl, ho⟩) h

/-- A RANGE OVER THE CHAIN. -/
theorem wpIn_rangeC {g : Operand} {ps : Array Tmp} {assign body : Code} {Q : Exit → Act → World → Prop} {a : Act} {w : World} {n : Nat}
    (h1 : 2 ≤ n) {K Bp Bq : Nat} {pa qa : Option Addr} {pl pc ql qc : Nat} {p q : List Rat} (hok : ChOk K p q) (hbp : BxP w Bp pa pl pc) (hbq : BxP w Bq qa ql qc) (ip : IsPoly w (.agg #[.slice pa pl pc]) p) (iq : IsPoly w (.agg #[.slice qa ql qc]) q)
    (hg : a.eval g = .func (.func 55) #[] #[.pointer (some ⟨Bp, 0, none⟩), .pointer (some ⟨Bq, 0, none⟩)]) (eg : ∀ args w, (callFunc 55 args).run Tryz.prog w = .ok (.enter 55 args) w) (hps : ps.size = 1)
    (I : List (List Rat) → World → Prop) (hI : OwnFrom w.heap.size I) (hIb : GB I) (hIs : GS w.heap.size I) (h0 : I [] w) (a₁ : Value → Nat → Act)
    (hassign : ∀ (l : Nat) (x : Option Addr) (xl xc : Nat) (W : World) (K : Act → World → Prop), K (a₁ (.slice x xl xc) W.heap.size) (W.alloc (.cells #[.slice x xl xc] 25)) →
      assign.wpIn (Fence.wide.inRound l) (n - 1 - 1) Tryz.prog (Exit.then K (fun _ _ _ => False)) { tmps := (ps.zip #[.agg #[.slice x xl xc]]).foldl (fun t (p, v) => t.setIfInBounds p v) a.tmps, defers := [] } W)
    (hbody : ∀ (l b : Nat) (x : Option Addr) (xl xc : Nat) (r : List Rat) (H : List (List Rat)) (W : World), I H W → w.heap.size + 1 < b → BxP W b x xl xc → IsPoly W (.agg #[.slice x xl xc]) r →
      body.wpIn (Fence.wide.inRound l) (n - 1 - 1) Tryz.prog (postC w.heap.size I (H ++ [r]) W) (a₁ (.slice x xl xc) b) W)
    (hdone : ∀ (D : Nat) (W : World) (H : List (List Rat)) (r : List Rat), w.heap.size ≤ D → I (H ++ [r]) W → chnQ p q = H ++ [r] → Chn p q (ChA K p q) r [] → W.heap[D]? = some (.deferred (some [])) → Q .normal { a with defers := { target := .collected D, args := #[] } :: a.defers } W) :
    (Code.rangeFunc g ps assign body).wpIn Fence.wide n Tryz.prog Q a w := by
  refine wpIn_rangeFunc fun fn hfn => ?_
  rw [show Fence.wide.round = none from rfl]
  obtain ⟨rc, hrc⟩ : ∃ rc : LoopState → Option Code → Loop, rc = fun st pe => { state := st, pending := pe, fn, tmps := a.tmps, params := ps, assign, body, defers := w.heap.size } := ⟨_, rfl⟩
  obtain ⟨V, hV⟩ : ∃ V, (w.alloc (.deferred (some []))).alloc (.loop (rc .ready none)) = V := ⟨_, rfl⟩
  have vL : V.heap[w.heap.size + 1]? = some (.loop (rc .ready none)) := by
    rw [← hV]
    have := World.alloc_heap_new (w.alloc (.deferred (some []))) (.loop (rc .ready none))
    rwa [World.size_alloc] at this
  have vD : V.heap[w.heap.size]? = some (.deferred (some [])) := by
    rw [← hV]; exact (Below.heap_alloc _ _ _ (by simp)).trans (World.alloc_heap_new w _)
  have vI : I [] V := by rw [← hV]; exact hI.alloc _ (hI.alloc _ h0)
  have hBV : Below w.heap.size w V := by rw [← hV]; exact ((Below.refl _ w).alloc (Nat.le_refl _) _).alloc (by rw [World.size_alloc]; omega) _
  have hVs : V.heap.size = w.heap.size + 2 := by rw [← hV]; simp
  refine ⟨w.heap.size + 1, [{ target := .collected w.heap.size, args := #[] }], V, { target := .fn (.func 55) #[.pointer (some ⟨Bp, 0, none⟩), .pointer (some ⟨Bq, 0, none⟩)], args := #[.func (.yield (w.heap.size + 1)) #[] #[]] }, V, 55,
    #[.func (.yield (w.heap.size + 1)) #[] #[]] ++ #[.pointer (some ⟨Bp, 0, none⟩), .pointer (some ⟨Bq, 0, none⟩)], V, ?_, ?_, ?_, ?_, fun _ => by omega, ?_⟩
  · rw [← hV, hrc]; exact run_enterLoop_outer _ _ _ _ _
  · simp only [resolve, hg]; simp [go_sem]
  · intro f' hf'; simp [Target.leads] at hf'; subst hf'; exact trivial
  · simp [invoke, go_sem, eg]
  refine (cOf1_seq K (n - 1) (by omega) Bp Bq pa qa pl pc ql qc p q hok (w.heap.size + 1) (w.heap.size + 2)
    (fun H W => I H W ∧ W.heap[w.heap.size + 1]? = some (.loop (rc .ready none)) ∧ W.heap[w.heap.size]? = some (.deferred (some [])))
    V (by omega) (hbp.below hBV) (hbq.below hBV) (ip.below hBV) (iq.below hBV) ?_ ?_ ?_ ⟨vI, vL, vD⟩).mono ?_
  · rintro H W W' ⟨hi, hl, hk⟩ hb
    exact ⟨hIb _ _ _ hi hb, (hb.block _ (Array.getElem?_eq_some_iff.1 hl).1).trans hl, (hb.block _ (Array.getElem?_eq_some_iff.1 hk).1).trans hk⟩
  · rintro H W B x xl xc u hB hb ⟨hi, hl, hk⟩
    exact ⟨hIs _ _ _ _ _ _ _ (by omega) hb hi, (Below.heap_setCell W ⟨B, 0, none⟩ u _ (by show w.heap.size + 1 ≠ B; omega)).trans hl, (Below.heap_setCell W ⟨B, 0, none⟩ u _ (by show w.heap.size ≠ B; omega)).trans hk⟩
  · rintro H W B4 B5 a4 l4 c4 a5 l5 c5 p4 q5 hB4 hB5 hs4 hs5 ⟨hi, hl, hk⟩ h4 h5 i4 i5
    have hsz : w.heap.size + 1 < W.heap.size := (Array.getElem?_eq_some_iff.1 hl).1
    have hy := run_yield (P := Tryz.prog) (args := #[.agg #[.slice a4 l4 c4]]) hl (by rw [hrc]; exact hps.symm)
    rw [hrc] at hy
    obtain ⟨W1, hW1⟩ : ∃ W1, W.alloc (.cells #[.slice a4 l4 c4] 25) = W1 := ⟨_, rfl⟩
    have hA : Below W.heap.size W W1 := by rw [← hW1]; exact (Below.refl _ W).alloc (Nat.le_refl _) _
    have hl1 : W1.heap[w.heap.size + 1]? = some (.loop (rc .ready none)) := (hA.block _ hsz).trans hl
    have hk1 : W1.heap[w.heap.size]? = some (.deferred (some [])) := (hA.block _ (by omega)).trans hk
    have hi1 : I H W1 := hIb _ _ _ hi hA
    have hb1 : BxP W1 W.heap.size a4 l4 c4 := by rw [← hW1]; exact Boxed.new W 25 (.slice a4 l4 c4)
    refine ⟨fn, _, assign, body, hy, roundIn_of_wpIn hfn (hassign _ _ _ _ W _ ?_)⟩
    rw [hW1]
    refine ⟨_, run_beginRound hl1 (by rw [hrc]), ?_⟩
    obtain ⟨bx, hbx⟩ : ∃ bx, W.heap.size = bx := ⟨_, rfl⟩
    have h41 := h4.below hA
    have h51 := h5.below hA
    have i41 := i4.below hA
    have i51 := i5.below hA
    rw [hbx] at hb1 hsz hs4 hs5 ⊢
    have hsz1 : w.heap.size + 1 < W1.heap.size := (Array.getElem?_eq_some_iff.1 hl1).1
    obtain ⟨W2, hW2⟩ : ∃ W2, W1.putObj (w.heap.size + 1) (.loop { rc .ready none with state := .busy }) = W2 := ⟨_, rfl⟩
    rw [hW2]
    have hl2 : W2.heap[w.heap.size + 1]? = some (.loop { rc .ready none with state := .busy }) := by rw [← hW2]; exact World.putObj_heap_same hsz1
    have hot : ∀ k, k ≠ w.heap.size + 1 → W2.heap[k]? = W1.heap[k]? := fun k hk => by rw [← hW2]; exact World.putObj_heap_other (by omega)
    have hb2 : BxP W2 bx a4 l4 c4 := (hot bx (by omega)).trans hb1
    have hk2 : W2.heap[w.heap.size]? = some (.deferred (some [])) := (hot _ (by omega)).trans hk1
    have hi2 : I H W2 := by rw [← hW2]; exact hI.putObj _ hi1 (by omega) hl1 rfl
    have h42 : BxP W2 B4 a4 l4 c4 := (hot B4 (by omega)).trans h41
    have h52 : BxP W2 B5 a5 l5 c5 := (hot B5 (by omega)).trans h51
    have i42 : IsPoly W2 (.agg #[.slice a4 l4 c4]) p4 := by rw [← hW2]; exact poly_putObj hl1 rfl i41
    have i52 : IsPoly W2 (.agg #[.slice a5 l5 c5]) q5 := by rw [← hW2]; exact poly_putObj hl1 rfl i51
    refine wpIn_mono (hbody _ bx a4 l4 c4 p4 H W2 hi2 hsz hb2 i42) fun e a3 W3 hp => ?_
    cases e with
    | normal =>
      obtain ⟨hi3, hs3, hb3, hp3⟩ := hp
      have hl3 := hb3 _ _ (by omega) hl2
      have hr := run_endRound (P := Tryz.prog) none hl3
      have hot4 : ∀ k, k ≠ w.heap.size + 1 → (W3.putObj (w.heap.size + 1) (.loop (rc .ready none))).heap[k]? = W3.heap[k]? := fun k hk => World.putObj_heap_other (by omega)
      have hr2 : (Instr.endRound (w.heap.size + 1) none).run Tryz.prog W3 = .ok (.bool true) (W3.putObj (w.heap.size + 1) (.loop (rc .ready none))) := by
        rw [hrc] at hr ⊢
        exact hr
      exact ⟨_, _, hr2, rfl, ⟨hI.putObj _ hi3 (by omega) hl3 rfl, World.putObj_heap_same (Array.getElem?_eq_some_iff.1 hl3).1, (hot4 _ (by omega)).trans (hb3 _ _ (Nat.le_refl _) hk2)⟩,
        (hot4 _ (by omega)).trans (hb3 _ _ (by omega) h42), (hot4 _ (by omega)).trans (hb3 _ _ (by omega) h52), poly_putObj hl3 rfl (hp3 _ _ i42), poly_putObj hl3 rfl (hp3 _ _ i52)⟩
    | ret => exact hp.elim
    | exit id => exact hp.elim
    | goto t => exact hp.elim
    | panic ch => exact hp.elim
    | outgrown => exact hp.elim
  · rintro e W2 ⟨⟨v, rfl⟩, H, r, ⟨hi, hl, hk⟩, hc, hn⟩
    exact ⟨none, _, by have := run_endLoop (P := Tryz.prog) hl (by rw [hrc]; simp); rw [hrc] at this; exact this, hdone _ _ H r (Nat.le_refl _) (hI.putObj _ hi (by omega) hl rfl) hc hn ((World.putObj_heap_other (by omega)).trans hk)⟩
end Go.Proofs.YteldjhhjnchdeaaGreatDoor.M3
namespace Go.Proofs.YteldjhhjnchdeaaGreatDoor.M3
open Go.RowKit Go.Shelf

attribute [local go_sem] Oper.semAt_some

theorem Mem.setFar {w V : World} {bs : List (Option (Nat × Dat))} (M : Mem w V bs) {B : Nat} (hB : w.heap.size ≤ B) {a : Option Addr} {l c : Nat} (hb : BxP V B a l c) (hne : ∀ (i : Nat) B' d, bs[i]? = some (some (B', d)) → B' ≠ B) (u : Value) : Mem w (V.setCell ⟨B, 0, Option.none⟩ u) bs := by
  refine ⟨fun i B' d h => ?_, M.2.1, M.2.2.setCell (p := ⟨B, 0, Option.none⟩) hB u⟩
  obtain ⟨⟨cs, h1, h2⟩, hw⟩ := M.1 i B' d h
  exact ⟨⟨cs, h1.far (p := ⟨B, 0, Option.none⟩) (hne i B' d h) u, h2.set1 hb rfl u⟩, hw⟩
def gcdB (w : World) (pa qa : Option Addr) (pl pc ql qc : Nat) (H : List (List Rat)) : List (Option (Nat × Dat)) :=
  [some (w.heap.size, .cell 25 (.slice pa pl pc)), some (w.heap.size + 1, .cell 25 (.slice qa ql qc)), some (w.heap.size + 1 + 1, .cell 25 (.slice none 0 0)), some (w.heap.size + 1 + 1 + 1, .poly (H.getLastD []))]
theorem gcdB_lt {w : World} {pa qa : Option Addr} {pl pc ql qc : Nat} {H : List (List Rat)} {i B : Nat} {d : Dat} (e : (gcdB w pa qa pl pc ql qc H)[i]? = some (some (B, d))) : B ≤ w.heap.size + 1 + 1 + 1 := by
  unfold gcdB at e
  rcases i with _ | _ | _ | _ | i <;> simp at e <;> omega

set_option maxRecDepth 100000 in
set_option maxHeartbeats 8000000 in
theorem gGCD_c (K : Nat) (va vb : Value) (p q : List Rat) (w : World) (ha : IsPoly w va p) (hb : IsPoly w vb q) (hok : ChOk K p q) :
    Calls Tryz.prog 8 #[va, vb] w fun e w' => ∃ u, e = .returned u ∧ IsPoly w' u (gcdQ p q) ∧ Below w.heap.size w w' := by
  obtain ⟨pa, pl, pc, rfl⟩ := ha.form
  obtain ⟨qa, ql, qc, rfl⟩ := hb.form
  have M0 : Mem w _ _ := ((((Mem.nil w).push (.cell 25 (.slice pa pl pc)) (cs := #[.slice pa pl pc]) ⟨rfl, rfl⟩).push (.cell 25 (.slice qa ql qc)) (cs := #[.slice qa ql qc]) ⟨rfl, rfl⟩).push (.cell 25 (.slice none 0 0)) (cs := #[.slice none 0 0]) ⟨rfl, rfl⟩).push (.poly []) (cs := #[.slice none 0 0]) (poly0 _)
  simp only [World.size_alloc] at M0
  obtain ⟨W0, hW0⟩ : ∃ W0, (((w.alloc (.cells #[.slice pa pl pc] 25)).alloc (.cells #[.slice qa ql qc] 25)).alloc (.cells #[.slice none 0 0] 25)).alloc (.cells #[.slice none 0 0] 25) = W0 := ⟨_, rfl⟩
  have M1 : Mem w W0 (gcdB w pa qa pl pc ql qc []) := by rw [← hW0]; exact M0
  have hN : W0.heap.size = w.heap.size + 1 + 1 + 1 + 1 := by rw [← hW0]; simp
  have HW0 := hidD hW0
  have HM1 := hidD M1
  have HN := hidD hN
  have HP := hidD (fun (V : World) (hB : Below w.heap.size w V) => ha.below hB)
  have HQ := hidD (fun (V : World) (hB : Below w.heap.size w V) => hb.below hB)
  have HOK := hidD hok
  have c0 := (Mem.cell M1 (i := 0) rfl).1.cell
  have c1 := (Mem.cell M1 (i := 1) rfl).1.cell
  have HMO := hidD (fun (V : World) (x : Value) (r : List Rat) (hx : IsPoly V x r) (hc : Chn p q (ChA K p q) r []) => show Calls Tryz.prog 26 #[x] V fun e w' => ∃ u, e = .returned u ∧ IsPoly w' u (gcdQ p q) ∧ Below V.heap.size V w' by
    have hbd := hok.bd
    have h1 := gmonic_c x r V hx (Sqs.of fun i => Sq.of (hc.wa.smq hbd.2.2.2 i) hbd.1) hc.ta (fun i => by
      have h2 := Ln.sqs hc.ta hc.wa.ln hbd.2.2.2 i
      unfold monQ at h2
      rw [cf_scQ, Rat.div_def, Rat.one_mul, ← Rat.div_def] at h2
      exact Sq.of h2 hbd.1)
    rw [← hc.gc, gcdQ_nil]
    exact h1)
  clear ha hb hok M0 M1 hW0 hN
  refine (callsIn_wide (n := 3)).1 ?_
  refine callsIn_of_wp_marks Tryz.func8 rfl trivial ?_ rfl
  simp only [Tryz.ntmps8, List.size_toArray, List.length_cons, List.length_nil, Nat.reduceAdd, Nat.reduceSub, Array.replicate_succ, Array.replicate_zero, List.push_toArray, List.append_toArray, List.nil_append, List.cons_append]
  gi_wp2_with fail
  rw [HW0.out]
  refine ⟨trivial, ?_⟩
  refine (cOf_in _ _ _ _ _ _ _ _).mono ?_
  rintro e w' ⟨rfl, rfl⟩
  obtain ⟨W1, hW1⟩ : ∃ W1, (W0.alloc (.cells #[.slice pa pl pc] 25)).alloc (.cells #[.slice qa ql qc] 25) = W1 := ⟨_, rfl⟩
  have hB1 : Below W0.heap.size W0 W1 := by rw [← hW1]; exact ((Below.refl _ W0).alloc (Nat.le_refl _) _).alloc (by rw [World.size_alloc]; omega) _
  have nP : BxP W1 W0.heap.size pa pl pc := by rw [← hW1]; exact (Boxed.new W0 25 (.slice pa pl pc)).alloc _
  have nQ : BxP W1 (W0.heap.size + 1) qa ql qc := by
    rw [← hW1]
    have := Boxed.new (W0.alloc (.cells #[.slice pa pl pc] 25)) 25 (.slice qa ql qc)
    rwa [World.size_alloc] at this
  have M2 := Mem.below HM1.out hB1
  have hs1 : W1.heap.size = w.heap.size + 6 := by rw [← hW1]; simp [HN.out]
  rw [hW1, HN.out]
  rw [HN.out] at nP nQ
  have HM2 := hidD M2
  have HNP := hidD nP
  have HNQ := hidD nQ
  have HS1 := hidD hs1
  clear M2 nP nQ hs1 hB1 hW1 HW0 HN c0 c1 HM1
  gi_wp2_with fail
  refine wpIn_rangeC (by omega) HOK.out HNP.out HNQ.out (HP.out W1 HM2.out.2.2) (HQ.out W1 HM2.out.2.2) rfl (enters_of Tryz.func55 (by kernel_rfl) rfl) rfl
    (fun H W => Mem w W (gcdB w pa qa pl pc ql qc H)) (fun H W W' row M hg hr => Mem.own M hg (fun r e => ⟨by have := (hr r e).1; have := HS1.out; omega, (hr r e).2⟩)) (fun H W W' M hb => Mem.below M hb)
    (fun H W B a l c u hB hb M => Mem.setFar M (by have := HS1.out; omega) hb (fun i B' d e => by have := gcdB_lt e; have := HS1.out; omega) u) HM2.out
    (fun v b => { tmps := #[.agg #[.slice pa pl pc], .agg #[.slice qa ql qc], .pointer (some ⟨w.heap.size, 0, none⟩), .pointer (some ⟨w.heap.size + 1, 0, none⟩), .pointer (some ⟨w.heap.size + 1 + 1, 0, none⟩), .pointer (some ⟨w.heap.size + 1 + 1 + 1, 0, none⟩), .pointer (some ⟨b, 0, none⟩), .agg #[.slice pa pl pc], .agg #[.slice qa ql qc], .func (.func 55) #[] #[.pointer (some ⟨w.heap.size + 1 + 1 + 1 + 1, 0, none⟩), .pointer (some ⟨w.heap.size + 1 + 1 + 1 + 1 + 1, 0, none⟩)], .agg #[v], undef, undef, undef], defers := [] }) ?assign ?body ?done
  case assign =>
    intro l x xl xc W K hK
    gi_wp2
    exact hK
  case body =>
    intro l b x xl xc r H W M hb hbx hr
    have hw : W1.heap.size ≤ W.heap.size := Nat.le_trans (by omega) (Nat.le_of_lt (Bx.lt (cs := #[.slice x xl xc]) hbx))
    obtain ⟨ya, yl, yc, n3, r3⟩ := Mem.poly2 M (i := 3) rfl
    have e3 := n3.cell
    have f3 := n3.frozen
    have eb := hbx.cell
    have HH := hidD (show ∀ act, postC W1.heap.size (fun H W => Mem w W (gcdB w pa qa pl pc ql qc H)) (H ++ [r]) W .normal act (W.setCell ⟨w.heap.size + 1 + 1 + 1, 0, none⟩ (.slice x xl xc)) from fun act => by
      refine ⟨?_, ?_, fun k o hk ho => ?_, fun v ps h => h.setB n3⟩
      · have h4 := Mem.putPoly M (i := 3) rfl hr
        show Mem w _ (gcdB w pa qa pl pc ql qc (H ++ [r]))
        unfold gcdB at h4 ⊢
        rw [show (H ++ [r]).getLastD [] = r by simp]
        exact h4
      · rw [World.size_setCell]; exact Nat.le_refl _
      · exact (Below.heap_setCell W ⟨w.heap.size + 1 + 1 + 1, 0, none⟩ _ k (by show k ≠ w.heap.size + 1 + 1 + 1; have := HS1.out; omega)).trans ho)
    clear M hb hbx hr hw n3 r3
    gi_wp2
    exact HH.out _
  case done =>
    intro D W H r hD M hch hcn hK
    have hDw : w.heap.size ≤ D := by have := HS1.out; omega
    have M : Mem w W [some (w.heap.size, .cell 25 (.slice pa pl pc)), some (w.heap.size + 1, .cell 25 (.slice qa ql qc)), some (w.heap.size + 1 + 1, .cell 25 (.slice none 0 0)), some (w.heap.size + 1 + 1 + 1, .poly r)] := by
      have h4 : Mem w W (gcdB w pa qa pl pc ql qc (H ++ [r])) := M
      unfold gcdB at h4
      rwa [show (H ++ [r]).getLastD [] = r by simp] at h4
    obtain ⟨ya, yl, yc, n3, r3⟩ := Mem.poly2 M (i := 3) rfl
    have e3 := n3.cell
    have n2 := (Mem.cell M (i := 2) rfl).1
    have HC := hidD (HMO.out W _ r r3 hcn)
    have HBW := hidD M.2.2
    have HK := hidD hK
    clear M hch hcn hK r3 n3 HMO
    gi_wp2_with (refine ⟨trivial, ?_⟩; gi_at_call 26; refine ((callsIn_wide (n := _)).2 HC.out).mono ?_; clear HC; rintro e w5 ⟨u5, rfl, hu5, hb5⟩; obtain ⟨a7, l7, c7, rfl⟩ := hu5.form; have n5 := boxed_below n2 hb5; have x0 := n5.cell; have x1 := n5.frozen)
    have hK2 : (w5.setCell ⟨w.heap.size + 1 + 1, 0, none⟩ (.slice a7 l7 c7)).heap[D]? = some (.deferred (some [])) := by
      rw [Below.heap_setCell w5 ⟨w.heap.size + 1 + 1, 0, none⟩ _ D (by show D ≠ w.heap.size + 1 + 1; have := HS1.out; omega)]
      exact (hb5.block D (Array.getElem?_eq_some_iff.1 HK.out).1).trans HK.out
    refine ⟨by simp, .inl ⟨_, _, rfl, run_takeDeferred hK2, ?_⟩⟩
    have q : BxP (w5.setCell ⟨w.heap.size + 1 + 1, 0, none⟩ (.slice a7 l7 c7)) (w.heap.size + 1 + 1) a7 l7 c7 := BxP.put (show BxP w5 (w.heap.size + 1 + 1) none 0 0 from n5)
    have hg := grownBy_putObj' (w5.setCell ⟨w.heap.size + 1 + 1, 0, none⟩ (.slice a7 l7 c7)) D (.deferred none)
    have hgr : ∀ r, some D = some r → ∃ o : Obj, (w5.setCell ⟨w.heap.size + 1 + 1, 0, none⟩ (.slice a7 l7 c7)).heap[r]? = some o ∧ o.isCells = false := fun r e => by cases e; exact ⟨_, hK2, rfl⟩
    have q2 : BxP _ (w.heap.size + 1 + 1) a7 l7 c7 := block_own hg hgr q
    have g0 := q2.cell
    refine ⟨.agg #[.slice a7 l7 c7], by simp [results, Tryz.results8, go_sem, g0], _, rfl, ?_, ?_⟩
    · exact poly_own hg hgr (hu5.setB n5)
    · exact ((HBW.out.trans (hb5.mono HBW.out.size)).setCell (p := ⟨w.heap.size + 1 + 1, 0, none⟩) (by show w.heap.size ≤ w.heap.size + 1 + 1; omega) _).trans (belowK_b (w := w) (Nat.le_refl _) _ D _ _ hDw hK2 rfl rfl)
end Go.Proofs.YteldjhhjnchdeaaGreatDoor.M3
namespace Go.Proofs.YteldjhhjnchdeaaGreatDoor.M3
open Go.RowKit Go.Shelf

attribute [local go_sem] Oper.semAt_some

def XmB (w V : World) (va : Value) (ps : List Rat) : Prop := RowK false V va ps ∧ Below w.heap.size w V
theorem XmB.below {w V V' : World} {va : Value} {ps : List Rat} (h : XmB w V va ps) (hb : Below V.heap.size V V') : XmB w V' va ps := ⟨h.1.below hb, h.2.trans (hb.mono h.2.size)⟩
theorem inv_div (c : Rat) : ((1 : Int) : Rat) / c = 1 / c := rfl

set_option maxRecDepth 100000 in
set_option maxHeartbeats 8000000 in
theorem zMonic_c (va : Value) (ps : List Rat) (w : World) (ha : RowK false w va ps) (htp : trimQ ps = ps) (hps : Sqs ps) (hsi : ps ≠ [] → Sq (1 / cf ps (ps.length - 1))) (hlen : ps.length < 1099511627776) :
    Calls Tryz.prog 40 #[va] w fun e w' => ∃ u, e = .returned u ∧ RowK false w' u (monQ ps) ∧ Below w.heap.size w w' := by
  have hmx : Tryz.prog.follows .mixedOrders = true := by kernel_rfl
  obtain ⟨a, la, ca, rfl⟩ := ha.form
  obtain ⟨hla, hca, hcma, hlma, s, t, aa, bb, ll, cc, kk, dd, hc⟩ := ha.formsF
  by_cases h0 : ps = []
  · have hl0 : la = 0 := by rw [hla, h0]; rfl
    have HA := hidD (show RowK false w (.slice a la ca) (monQ ps) by rw [h0] at ha ⊢; exact ha)
    have hl1 : (la : Int) = 0 := by omega
    clear ha hc hps hsi htp h0
    go_enter Tryz.func40, Tryz.ntmps40
    go_wp2_with fail
    go_ret
    exact ⟨_, rfl, HA.out, Below.refl _ _⟩
  · have hl0 : ¬ (la : Int) = 0 := by have := List.length_pos_iff.2 h0; omega
    obtain ⟨m, hm⟩ : ∃ m : Nat, la - 1 = m := ⟨_, rfl⟩
    have hm1 : (la : Int) - 1 = (m : Int) := by omega
    have hm2 : IntKind.i64.wrap (m : Int) = (m : Int) := by rw [IntKind.wrap_i64]; omega
    have hml : (m : Int) < (la : Int) := by omega
    have hmp : ps.length - 1 = m := by omega
    obtain ⟨hi1, b1, rfl, hb1, c10, c11, c12, c13⟩ := hc m (by omega)
    have HCL := hidD (show ∀ V, Below w.heap.size w V → (V.cell? ⟨b1, m * 4, none⟩ = some (.slice (aa m) (ll m) (cc m)) ∧ V.cell? ⟨b1, m * 4 + 1, none⟩ = some (.bool (s m)) ∧ V.cell? ⟨b1, m * 4 + 2, none⟩ = some (.slice (bb m) (kk m) (dd m)) ∧ V.cell? ⟨b1, m * 4 + 3, none⟩ = some (.bool (t m))) ∧ IsRef V (.agg #[.slice (aa m) (ll m) (cc m), .bool (s m), .slice (bb m) (kk m) (dd m), .bool (t m)]) (cf ps m) from fun V hB => by
      exact ⟨⟨(hB.cell (p := ⟨b1, _, none⟩) hb1).trans c10, (hB.cell (p := ⟨b1, _, none⟩) hb1).trans c11, (hB.cell (p := ⟨b1, _, none⟩) hb1).trans c12, (hB.cell (p := ⟨b1, _, none⟩) hb1).trans c13⟩, hi1.below hB⟩)
    have HNZ := hidD (show cf ps m ≠ 0 by rw [← hmp]; exact trim_last htp h0)
    have HSI := hidD (show Sq (1 / cf ps m) by rw [← hmp]; exact hsi h0)
    have HTT := hidD (show trimQ (scaleR (1 / cf ps m) ps) = monQ ps by unfold monQ scQ; rw [hmp])
    have HPS := hidD hps
    have HLN := hidD hlen
    have ST0 : XmB w w.drew (.slice (some ⟨b1, 0, none⟩) la ca) ps := XmB.below ⟨ha, Below.refl _ _⟩ ((Below.refl _ w).drew)
    have HX := hidD ST0
    clear ha hc hi1 hb1 c10 c11 c12 c13 hps hsi htp h0 hmp hla hca hcma hlen ST0
    go_enter Tryz.func40, Tryz.ntmps40
    go_upto_region 3 with fail
    obtain ⟨bz, hbz⟩ : ∃ b, ((la : Int) == 0) = b := ⟨_, rfl⟩
    rw [hbz]
    clear hbz
    have ST0 := HX.out
    refine wp_region_tab hmx [[], [], [], [], [3], [4], [2, 5], [6], [1, 7, 1], [0, 8, 8], [9, 9, 0, 1, 2, 3, 4, 5, 6, 7, 8, 9]] (by kernel_rfl) (by decide)
      (fun D act V => ∃ (t7x t8x t9x t10x t11x t12x t13x t14x t15x t16x t2x : Value), act = { tmps := #[Value.slice (some { block := b1, off := 0 }) la ca, undef, t2x, Value.slice (some { block := b1, off := 0 }) la ca, Value.int IntKind.i64 ↑la, Value.bool bz, undef, t7x, t8x, t9x, t10x, t11x, t12x, t13x, t14x, t15x, t16x], defers := [] } ∧ Hid ((D 0 = true → t7x = .slice (some ⟨b1, 0, none⟩) la ca) ∧ (D 1 = true → IsRef V t8x ((1 : Int) : Rat)) ∧ (D 2 = true → t9x = .slice (some ⟨b1, 0, none⟩) la ca) ∧ (D 3 = true → t10x = .slice (some ⟨b1, 0, none⟩) la ca) ∧ (D 4 = true → t11x = .int .i64 (la : Int)) ∧ (D 5 = true → t12x = .int .i64 (m : Int)) ∧ (D 6 = true → t13x = .pointer (some ⟨b1, m * 4, none⟩)) ∧ (D 7 = true → IsRef V t14x (cf ps m)) ∧ (D 8 = true → IsRef V t15x (1 / cf ps m)) ∧ (D 9 = true → RowK false V t16x (monQ ps)) ∧ (D 10 = true → RowK false V t2x (monQ ps))) ∧ Hid (XmB w V (.slice (some ⟨b1, 0, none⟩) la ca) ps))
      ⟨_, _, _, _, _, _, _, _, _, _, _, rfl, hidD ⟨by simp, by simp, by simp, by simp, by simp, by simp, by simp, by simp, by simp, by simp, by simp⟩, hidD ST0⟩ ?step1 ?fin1
    case step1 =>
      rintro D act V i ds hcl hi hds hDi ⟨t7x, t8x, t9x, t10x, t11x, t12x, t13x, t14x, t15x, t16x, t2x, rfl, GG, SS0⟩
      have hi6 : i < 11 := (List.getElem?_eq_some_iff.1 hi).1
      obtain rfl | rfl | rfl | rfl | rfl | rfl | rfl | rfl | rfl | rfl | rfl : i = 0 ∨ i = 1 ∨ i = 2 ∨ i = 3 ∨ i = 4 ∨ i = 5 ∨ i = 6 ∨ i = 7 ∨ i = 8 ∨ i = 9 ∨ i = 10 := by omega
      all_goals
        simp only [List.getElem?_cons_zero, List.getElem?_cons_succ, Option.some.injEq] at hi
        subst hi
      · have hS0 := SS0.out
        clear hds
        refine wpOp_go rfl rfl (fun K hK => ?_)
        go_simp
        exact hK _ _ ⟨_, _, _, _, _, _, _, _, _, _, _, rfl, hidD ⟨fun _ => rfl, GG.out.2.1, GG.out.2.2.1, GG.out.2.2.2.1, GG.out.2.2.2.2.1, GG.out.2.2.2.2.2.1, GG.out.2.2.2.2.2.2.1, GG.out.2.2.2.2.2.2.2.1, GG.out.2.2.2.2.2.2.2.2.1, GG.out.2.2.2.2.2.2.2.2.2.1, GG.out.2.2.2.2.2.2.2.2.2.2⟩, hidD (SS0.out)⟩
      · have hS0 := SS0.out
        clear hds
        have HC := hidD (swhole_c 1 (by omega) (by omega) V)
        refine wpOp_go rfl rfl (fun K hK => ?_)
        go_simp
        go_wp2_with (go_at_call 42; refine HC.out.mono ?_; rintro e w5 ⟨v5, rfl, hv5, hb5⟩)
        exact ⟨_, _, _, _, _, _, _, _, _, _, _, rfl, hidD ⟨GG.out.1, fun _ => hv5, GG.out.2.2.1, GG.out.2.2.2.1, GG.out.2.2.2.2.1, GG.out.2.2.2.2.2.1, GG.out.2.2.2.2.2.2.1, fun h => (GG.out.2.2.2.2.2.2.2.1 h).below hb5, fun h => (GG.out.2.2.2.2.2.2.2.2.1 h).below hb5, fun h => (GG.out.2.2.2.2.2.2.2.2.2.1 h).below hb5, fun h => (GG.out.2.2.2.2.2.2.2.2.2.2 h).below hb5⟩, hidD (SS0.out.below hb5)⟩
      · have hS0 := SS0.out
        clear hds
        refine wpOp_go rfl rfl (fun K hK => ?_)
        go_simp
        exact hK _ _ ⟨_, _, _, _, _, _, _, _, _, _, _, rfl, hidD ⟨GG.out.1, GG.out.2.1, fun _ => rfl, GG.out.2.2.2.1, GG.out.2.2.2.2.1, GG.out.2.2.2.2.2.1, GG.out.2.2.2.2.2.2.1, GG.out.2.2.2.2.2.2.2.1, GG.out.2.2.2.2.2.2.2.2.1, GG.out.2.2.2.2.2.2.2.2.2.1, GG.out.2.2.2.2.2.2.2.2.2.2⟩, hidD (SS0.out)⟩
      · have hS0 := SS0.out
        clear hds
        refine wpOp_go rfl rfl (fun K hK => ?_)
        go_simp
        exact hK _ _ ⟨_, _, _, _, _, _, _, _, _, _, _, rfl, hidD ⟨GG.out.1, GG.out.2.1, GG.out.2.2.1, fun _ => rfl, GG.out.2.2.2.2.1, GG.out.2.2.2.2.2.1, GG.out.2.2.2.2.2.2.1, GG.out.2.2.2.2.2.2.2.1, GG.out.2.2.2.2.2.2.2.2.1, GG.out.2.2.2.2.2.2.2.2.2.1, GG.out.2.2.2.2.2.2.2.2.2.2⟩, hidD (SS0.out)⟩
      · have hS0 := SS0.out
        obtain rfl := GG.out.2.2.2.1 (hds 3 (by simp))
        clear hds
        refine wpOp_go rfl rfl (fun K hK => ?_)
        go_simp
        exact hK _ _ ⟨_, _, _, _, _, _, _, _, _, _, _, rfl, hidD ⟨GG.out.1, GG.out.2.1, GG.out.2.2.1, fun _ => rfl, fun _ => rfl, GG.out.2.2.2.2.2.1, GG.out.2.2.2.2.2.2.1, GG.out.2.2.2.2.2.2.2.1, GG.out.2.2.2.2.2.2.2.2.1, GG.out.2.2.2.2.2.2.2.2.2.1, GG.out.2.2.2.2.2.2.2.2.2.2⟩, hidD (SS0.out)⟩
      · have hS0 := SS0.out
        obtain rfl := GG.out.2.2.2.2.1 (hds 4 (by simp))
        clear hds
        refine wpOp_go rfl rfl (fun K hK => ?_)
        go_simp
        exact hK _ _ ⟨_, _, _, _, _, _, _, _, _, _, _, rfl, hidD ⟨GG.out.1, GG.out.2.1, GG.out.2.2.1, GG.out.2.2.2.1, fun _ => rfl, fun _ => rfl, GG.out.2.2.2.2.2.2.1, GG.out.2.2.2.2.2.2.2.1, GG.out.2.2.2.2.2.2.2.2.1, GG.out.2.2.2.2.2.2.2.2.2.1, GG.out.2.2.2.2.2.2.2.2.2.2⟩, hidD (SS0.out)⟩
      · have hS0 := SS0.out
        obtain rfl := GG.out.2.2.1 (hds 2 (by simp))
        obtain rfl := GG.out.2.2.2.2.2.1 (hds 5 (by simp))
        clear hds
        refine wpOp_go rfl rfl (fun K hK => ?_)
        go_simp
        exact hK _ _ ⟨_, _, _, _, _, _, _, _, _, _, _, rfl, hidD ⟨GG.out.1, GG.out.2.1, fun _ => rfl, GG.out.2.2.2.1, GG.out.2.2.2.2.1, fun _ => rfl, fun _ => rfl, GG.out.2.2.2.2.2.2.2.1, GG.out.2.2.2.2.2.2.2.2.1, GG.out.2.2.2.2.2.2.2.2.2.1, GG.out.2.2.2.2.2.2.2.2.2.2⟩, hidD (SS0.out)⟩
      · have hS0 := SS0.out
        obtain rfl := GG.out.2.2.2.2.2.2.1 (hds 6 (by simp))
        obtain ⟨⟨e0, e1, e2, e3⟩, hr⟩ := HCL.out V hS0.2
        clear hds
        refine wpOp_go rfl rfl (fun K hK => ?_)
        go_simp
        exact hK _ _ ⟨_, _, _, _, _, _, _, _, _, _, _, rfl, hidD ⟨GG.out.1, GG.out.2.1, GG.out.2.2.1, GG.out.2.2.2.1, GG.out.2.2.2.2.1, GG.out.2.2.2.2.2.1, fun _ => rfl, fun _ => hr, GG.out.2.2.2.2.2.2.2.2.1, GG.out.2.2.2.2.2.2.2.2.2.1, GG.out.2.2.2.2.2.2.2.2.2.2⟩, hidD (SS0.out)⟩
      · have hS0 := SS0.out
        have h0 := GG.out.2.1 (hds 1 (by simp))
        have h1 := GG.out.2.2.2.2.2.2.2.1 (hds 7 (by simp))
        clear hds
        have HC := hidD (sover_c _ _ ((1 : Int) : Rat) (cf ps m) V h0 h1 (Sq.of (k := 1) ⟨Sm.one 1 (by omega), Sm.one 1 (by omega)⟩ (by omega)) (HPS.out.at m) HNZ.out)
        rw [inv_div] at HC
        clear h0 h1
        refine wpOp_go rfl rfl (fun K hK => ?_)
        go_simp
        go_wp2_with (go_at_call 77; refine HC.out.mono ?_; rintro e w5 ⟨v5, rfl, hv5, hb5⟩)
        exact ⟨_, _, _, _, _, _, _, _, _, _, _, rfl, hidD ⟨GG.out.1, fun h => (GG.out.2.1 h).below hb5, GG.out.2.2.1, GG.out.2.2.2.1, GG.out.2.2.2.2.1, GG.out.2.2.2.2.2.1, GG.out.2.2.2.2.2.2.1, fun h => (GG.out.2.2.2.2.2.2.2.1 h).below hb5, fun _ => hv5, fun h => (GG.out.2.2.2.2.2.2.2.2.2.1 h).below hb5, fun h => (GG.out.2.2.2.2.2.2.2.2.2.2 h).below hb5⟩, hidD (SS0.out.below hb5)⟩
      · have hS0 := SS0.out
        have h0 := GG.out.2.2.2.2.2.2.2.2.1 (hds 8 (by simp))
        obtain rfl := GG.out.1 (hds 0 (by simp))
        clear hds
        have HC := hidD (xScaled_c _ _ ps (1 / cf ps m) V hS0.1 h0 HPS.out HSI.out HLN.out)
        rw [HTT.out] at HC
        clear h0
        refine wpOp_go rfl rfl (fun K hK => ?_)
        go_simp
        go_wp2_with (go_at_call 76; refine HC.out.mono ?_; rintro e w5 ⟨v5, rfl, hv5, hb5⟩)
        exact ⟨_, _, _, _, _, _, _, _, _, _, _, rfl, hidD ⟨fun _ => rfl, fun h => (GG.out.2.1 h).below hb5, GG.out.2.2.1, GG.out.2.2.2.1, GG.out.2.2.2.2.1, GG.out.2.2.2.2.2.1, GG.out.2.2.2.2.2.2.1, fun h => (GG.out.2.2.2.2.2.2.2.1 h).below hb5, fun h => (GG.out.2.2.2.2.2.2.2.2.1 h).below hb5, fun _ => hv5, fun h => (GG.out.2.2.2.2.2.2.2.2.2.2 h).below hb5⟩, hidD (SS0.out.below hb5)⟩
      · have hS0 := SS0.out
        have h0 := GG.out.2.2.2.2.2.2.2.2.2.1 (hds 9 (by simp))
        clear hds
        refine wpOp_go rfl rfl (fun K hK => ?_)
        go_simp
        exact hK _ _ ⟨_, _, _, _, _, _, _, _, _, _, _, rfl, hidD ⟨GG.out.1, GG.out.2.1, GG.out.2.2.1, GG.out.2.2.2.1, GG.out.2.2.2.2.1, GG.out.2.2.2.2.2.1, GG.out.2.2.2.2.2.2.1, GG.out.2.2.2.2.2.2.2.1, GG.out.2.2.2.2.2.2.2.2.1, GG.out.2.2.2.2.2.2.2.2.2.1, fun _ => h0⟩, hidD (SS0.out)⟩
    case fin1 =>
      rintro D act V hDD ⟨t7x, t8x, t9x, t10x, t11x, t12x, t13x, t14x, t15x, t16x, t2x, rfl, GG, SS0⟩
      have h9 := GG.out.2.2.2.2.2.2.2.2.2.2 (hDD 10 (by decide))
      have HH := hidD (show RowK false V t2x (monQ ps) ∧ Below w.heap.size w V from ⟨h9, SS0.out.2⟩)
      clear GG SS0 hDD h9
      go_wp2_with fail
      go_ret
      exact ⟨_, rfl, HH.out⟩

theorem Rhn.dvn {K : Nat} {p q a b : List Rat} (h : Rhn p q (ChA K p q) a b) (hb : b ≠ []) : ∃ D E : Int, Dvn D E E (ChA K p q) (ChA K p q) a b := by
  obtain ⟨D, d1, d2, d3⟩ := h.ca
  obtain ⟨E, e1, e2, e3⟩ := h.cb
  exact ⟨D, E, d1, d2, d3, e1, e2, e3, e1, e2, by rw [h.mb hb, Rat.divInt_self' e1]⟩
theorem ChOk.fit {K : Nat} {p q a : List Rat} (hok : ChOk K p q) (ha : a.length ≤ max p.length q.length) : ChA K p q + a.length * (ChA K p q + 1) + 1 + (2 * ChA K p q + 1) ≤ 1000000 := by
  have h1 : (a.length + 2) * (ChA K p q + 1) ≤ (max p.length q.length + 2) * (ChA K p q + 1) := Nat.mul_le_mul_right _ (by omega)
  have h2 : (a.length + 2) * (ChA K p q + 1) = a.length * (ChA K p q + 1) + 2 * (ChA K p q + 1) := Nat.add_mul _ _ _
  have h3 := hok.le
  omega

set_option maxRecDepth 100000 in
set_option maxHeartbeats 8000000 in
theorem zGCD_c (K : Nat) (va vb : Value) (p q : List Rat) (w : World) (ha : RowK false w va p) (hb : RowK false w vb q) (hok : ChOk K p q) :
    Calls Tryz.prog 13 #[va, vb] w fun e w' => ∃ u, e = .returned u ∧ RowK false w' u (gcdQ p q) ∧ Below w.heap.size w w' := by
  obtain ⟨A, hA⟩ : ∃ A, ChA K p q = A := ⟨_, rfl⟩
  have hbd := hok.bd
  have hln := hok.ln
  have mono : ∀ (r : List Rat), trimQ r = r → (∃ D : Int, D ≠ 0 ∧ Sm 1000000 D ∧ CDL D 1000000 r) → r.length ≤ 1000 → ∀ (V : World) (x : Value), RowK false V x r → Calls Tryz.prog 40 #[x] V fun e w' => ∃ u, e = .returned u ∧ RowK false w' u (monQ r) ∧ Below V.heap.size V w' := fun r tr hr hl V x hx => by
    obtain ⟨D, d1, d2, d3⟩ := hr
    exact zMonic_c x r V hx tr (Sqs.of fun i => Sq.of ((d3 i).smq d1 d2) (Nat.le_refl _)) (fun h0 => by
      rw [Rat.div_def, Rat.one_mul]
      exact Sq.of (((d3 _).smq d1 d2).inv (trim_last tr h0)) (Nat.le_refl _)) (by omega)
  have cdup : ∀ (r : List Rat), (∃ D : Int, D ≠ 0 ∧ Sm K D ∧ CDL D K r) → ∃ D : Int, D ≠ 0 ∧ Sm 1000000 D ∧ CDL D 1000000 r := fun r h => by
    obtain ⟨D, d1, d2, d3⟩ := h
    exact ⟨D, d1, d2.mono hbd.2.1, fun i => (d3 i).mono hbd.2.1⟩
  have H1 := hidD (fun (V : World) (hB : Below w.heap.size w V) => mono p hok.tp (cdup p hok.cp) (by omega) V va (ha.below hB))
  have H2 := hidD (fun (V : World) (hB : Below w.heap.size w V) => mono q hok.tq (cdup q hok.cq) (by omega) V vb (hb.below hB))
  have HS := hidD (Rhn.start hok.tp hok.tq hok.lp hok.lq hbd.2.2.1)
  have HNX := hidD (fun (a b : List Rat) (h : Rhn p q (ChA K p q) a b) (hb : b ≠ []) => Rhn.next hok.tp hok.tq hok.lp hok.lq hbd.2.2.1 h hb)
  have HSP := hidD (fun (a b : List Rat) (h : Rhn p q (ChA K p q) a b) (h0 : b ≠ []) (V : World) (x y : Value) (hx : RowK false V x a) (hy : RowK false V y b) => show Calls Tryz.prog 41 #[x, y] V fun e w' => ∃ u v, e = .returned (.tuple #[u, v]) ∧ RowK false w' u (quoQ a b) ∧ RowK false w' v (remQ a b) ∧ Below V.heap.size V w' by
    obtain ⟨D, E, hd⟩ := Rhn.dvn h h0
    have hf := hok.fit h.la
    exact xSplit_g _ (ChA K p q) x y a b V hx hy (hd.divS a.length (by omega)) hd.start hd.sq h.ta h.tb h0 (by have := h.la; omega))
  have HMR := hidD (fun (a b : List Rat) (h : Rhn p q (ChA K p q) a b) (h0 : b ≠ []) (V : World) (x : Value) (hx : RowK false V x (remQ a b)) => mono (remQ a b) (rem_trim _ _) (by
    obtain ⟨D, E, hd⟩ := Rhn.dvn h h0
    have hf := hok.fit h.la
    obtain ⟨m, hm⟩ : ∃ m, a.length - (b.length - 1) = m := ⟨_, rfl⟩
    have hm2 : m * (ChA K p q + 1) ≤ a.length * (ChA K p q + 1) := Nat.mul_le_mul_right _ (by omega)
    have h1 := hd.den m
    have h2 := (hd.rem hm).1
    exact ⟨_, h1.1, h1.2.mono (by omega), fun i => (h2 i).mono (by omega)⟩) (by
    have h1 := (split_ok a b h.tb h0).2.1
    have h2 := h.lb
    omega) V x hx)
  have HGC := hidD (fun (a : List Rat) (h : Rhn p q (ChA K p q) a []) => show a = gcdQ p q by rw [← h.gc, gcdQ_nil, h.ma])
  have HLE := hidD (fun (a b : List Rat) (h : Rhn p q (ChA K p q) a b) => show b.length ≤ 1000 by have := h.lb; omega)
  rw [hA] at HS HNX HSP HMR HGC HLE
  clear mono cdup hok hbd hln ha hb hA
  go_enter Tryz.func13, Tryz.ntmps13
  have hq0 : Below w.heap.size w w := Below.refl _ _
  go_wp2_with (first
    | (go_at_call 40; refine (H1.out _ hq0).mono ?_; clear H1; rintro e w1 ⟨u1, rfl, hu1, hb1⟩; have hq1 := hq0.trans (hb1.mono hq0.size); clear hq0)
    | (go_at_call 40; refine (H2.out _ hq1).mono ?_; clear H2; rintro e w2 ⟨u2, rfl, hu2, hb2⟩; have hq2 := hq1.trans (hb2.mono hq1.size); have hu1 := hu1.below hb2))
  obtain ⟨xa, xl, xc, rfl⟩ := hu1.form
  obtain ⟨ya, yl, yc, rfl⟩ := hu2.form
  go_loopw [5, 6, 7, 8] (fun av bv _ _ wr => ∃ (a b : List Rat) (xa : Option Addr) (xl xc : Nat) (ya : Option Addr) (yl yc : Nat), av = .slice xa xl xc ∧ bv = .slice ya yl yc ∧ yl ≤ 1000 ∧ Hid (yl = b.length) ∧ Hid (RowK false wr (.slice xa xl xc) a) ∧ Hid (RowK false wr (.slice ya yl yc) b) ∧ Hid (Rhn p q A a b) ∧ Hid (Below w.heap.size w wr)) (fun _ bv _ _ _ => lenOf bv)
  case atStart => exact ⟨_, _, _, _, _, _, _, _, rfl, rfl, by have := HLE.out _ _ HS.out; have := hu2.formsF.1; omega, hidD hu2.formsF.1, hidD hu1, hidD hu2, HS, hidD hq2⟩
  case round =>
    clear hu1 hu2 hb1 hb2 hq1 hq2 HS
    obtain ⟨a, b, xa, xl, xc, ya, yl, yc, rfl, rfl, hyl, HYL, HA, HB, HR, HQ⟩ := hrel
    by_cases hb0 : b = []
    · have hl0 : ¬ (0 : Int) < (yl : Int) := by have := HYL.out; rw [hb0] at this; simp at this; omega
      have HRR := hidD (show a = gcdQ p q from HGC.out a (by have := HR.out; rwa [hb0] at this))
      clear hb0
      go_wp2_with fail
      go_ret
      exact ⟨_, rfl, by rw [← HRR.out]; exact HA.out, HQ.out⟩
    · have hl0 : (0 : Int) < (yl : Int) := by have := HYL.out; have := List.length_pos_iff.2 hb0; omega
      have H3 := hidD (HSP.out a b HR.out hb0 wr _ _ HA.out HB.out)
      have H4 := hidD (fun (V : World) (x : Value) (hx : RowK false V x (remQ a b)) => HMR.out a b HR.out hb0 V x hx)
      have HN := hidD (HNX.out a b HR.out hb0)
      have HSH := hidD (show (monQ (remQ a b)).length < b.length by rw [monQ_length (rem_trim _ _)]; exact (split_ok a b HR.out.tb hb0).2.1)
      clear hb0
      go_wp2_with (first
        | (go_at_call 41; refine H3.out.mono ?_; clear H3; rintro e w3 ⟨u3, v3, rfl, hu3, hv3, hb3⟩)
        | (go_at_call 40; refine (H4.out _ _ hv3).mono ?_; clear H4; rintro e w4 ⟨u4, rfl, hu4, hb4⟩; obtain ⟨za, zl, zc, rfl⟩ := hu4.form))
      have HU4 := hidD hu4
      have HB4 := hidD ((HB.out.below hb3).below hb4)
      have HQ4 := hidD ((HQ.out.trans (hb3.mono HQ.out.size)).trans (hb4.mono (Nat.le_trans HQ.out.size hb3.size)))
      clear hu3 hv3 hb3 hu4 hb4
      go_roundw
      case rel => exact ⟨b, monQ (remQ a b), _, _, _, _, _, _, rfl, rfl, by have := HU4.out.formsF.1; have := HSH.out; have := HYL.out; omega, hidD HU4.out.formsF.1, HB4, HU4, HN, HQ4⟩
      case measure =>
        show zl < yl
        have h1 := HU4.out.formsF.1
        have h2 := HSH.out
        have h3 := HYL.out
        omega
end Go.Proofs.YteldjhhjnchdeaaGreatDoor.M3
namespace Go.Proofs.YteldjhhjnchdeaaGreatDoor

/-! Divisors of polynomials. -/
/-- a divides b. -/
def Dv (a b : List Rat) : Prop := ∃ c : List Rat, ∀ x, ev b x = ev a x * ev c x
/-- a and b have no divisor in common. -/
def Cop (a b : List Rat) : Prop := ∃ u v : List Rat, ∀ x, ev u x * ev a x + ev v x * ev b x = 1
section
variable {a b c d p q : List Rat}
theorem Dv.refl (a : List Rat) : Dv a a := ⟨[1], fun x => by simp [ev]; grind⟩
theorem Dv.trans (h : Dv a b) (h2 : Dv b c) : Dv a c := by
  obtain ⟨u, hu⟩ := h
  obtain ⟨v, hv⟩ := h2
  exact ⟨mulQ u v, fun x => by rw [hv, hu, ev_mulQ]; grind⟩
theorem Dv.zero (a : List Rat) : Dv a [] := ⟨[], fun x => by simp [ev]⟩
theorem Dv.mul (h : Dv a b) (c : List Rat) : Dv a (mulQ b c) := by
  obtain ⟨u, hu⟩ := h
  exact ⟨mulQ u c, fun x => by rw [ev_mulQ, hu, ev_mulQ]; grind⟩
theorem Dv.mul' (h : Dv a b) (c : List Rat) : Dv a (mulQ c b) := by
  obtain ⟨u, hu⟩ := h
  exact ⟨mulQ u c, fun x => by rw [ev_mulQ, hu, ev_mulQ]; grind⟩
theorem Dv.comb (h : Dv d a) (h2 : Dv d b) (u v : List Rat) (hc : ∀ x, ev c x = ev u x * ev a x + ev v x * ev b x) : Dv d c := by
  obtain ⟨s, hs⟩ := h
  obtain ⟨t, ht⟩ := h2
  exact ⟨addQ (mulQ u s) (mulQ v t), fun x => by rw [hc, hs, ht, ev_addQ, ev_mulQ, ev_mulQ]; grind⟩
theorem Dv.of_sc {k : Rat} (hk : k ≠ 0) (h : Dv a b) : Dv (scQ k a) b := by
  obtain ⟨u, hu⟩ := h
  have e : (1 / k) * k = 1 := Rat.div_mul_cancel hk
  exact ⟨scQ (1 / k) u, fun x => by rw [hu, ev_scQ, ev_scQ]; grind⟩
theorem Dv.sc (h : Dv a b) (k : Rat) : Dv a (scQ k b) := by
  obtain ⟨u, hu⟩ := h
  exact ⟨scQ k u, fun x => by rw [ev_scQ, hu, ev_scQ]; grind⟩
theorem Cop.symm (h : Cop a b) : Cop b a := by
  obtain ⟨u, v, h⟩ := h
  exact ⟨v, u, fun x => by rw [← h x]; grind⟩
theorem Cop.of_dv (h : Cop a b) (hd : Dv d a) : Cop d b := by
  obtain ⟨u, v, h⟩ := h
  obtain ⟨s, hs⟩ := hd
  exact ⟨mulQ u s, v, fun x => by rw [← h x, hs x, ev_mulQ]; grind⟩
theorem Cop.dv (h : Cop a b) (hd : Dv a (mulQ b c)) : Dv a c := by
  obtain ⟨u, v, h⟩ := h
  obtain ⟨k, hk⟩ := hd
  refine ⟨addQ (mulQ u c) (mulQ v k), fun x => ?_⟩
  have h1 := h x
  have h2 := hk x
  rw [ev_mulQ] at h2
  rw [ev_addQ, ev_mulQ, ev_mulQ]
  grind
theorem Cop.mul (h : Cop a b) (h2 : Cop a c) : Cop a (mulQ b c) := by
  obtain ⟨u, v, h⟩ := h
  obtain ⟨s, t, h2⟩ := h2
  refine ⟨addQ u (mulQ (mulQ v b) s), mulQ v t, fun x => ?_⟩
  have h3 := h x
  have h4 := h2 x
  rw [ev_addQ, ev_mulQ, ev_mulQ, ev_mulQ, ev_mulQ]
  grind
theorem Cop.unit (h : Cop a b) (hd : Dv a b) : Dv a [1] := by
  obtain ⟨u, v, h⟩ := h
  obtain ⟨s, hs⟩ := hd
  refine ⟨addQ u (mulQ v s), fun x => ?_⟩
  have h3 := h x
  have h4 := hs x
  rw [ev_addQ, ev_mulQ]
  simp [ev]
  grind
end
theorem ev_monQ {p : List Rat} (x : Rat) : ev (monQ p) x = ev p x * (1 / cf p (p.length - 1)) := ev_scQ _ _ _
/-- The greatest common divisor divides both, and is put together of both. -/
theorem gcdF_ok : ∀ (n : Nat) (p q : List Rat), trimQ p = p → trimQ q = q → q.length ≤ n → Dv (gcdF n p q) p ∧ Dv (gcdF n p q) q ∧ ∃ u v : List Rat, ∀ x, ev (gcdF n p q) x = ev u x * ev p x + ev v x * ev q x := by
  intro n
  induction n with
  | zero =>
    intro p q hp hq hl
    have hq0 : q = [] := nil_of_len (by omega)
    subst hq0
    rw [gcdF]
    refine ⟨?_, Dv.zero _, [1 / cf p (p.length - 1)], [], fun x => by rw [ev_monQ]; simp [ev]; grind⟩
    by_cases h0 : p = []
    · subst h0; exact Dv.refl _
    · exact Dv.of_sc (inv_ne (trim_last hp h0)) (Dv.refl _)
  | succ n ih =>
    intro p q hp hq hl
    by_cases hq0 : q = []
    · subst hq0
      simp only [gcdF, if_pos]
      refine ⟨?_, Dv.zero _, [1 / cf p (p.length - 1)], [], fun x => by rw [ev_monQ]; simp [ev]; grind⟩
      by_cases h0 : p = []
      · subst h0; exact Dv.refl _
      · exact Dv.of_sc (inv_ne (trim_last hp h0)) (Dv.refl _)
    · simp only [gcdF, if_neg hq0]
      obtain ⟨s1, s2, s3, s4⟩ := split_ok p q hq hq0
      obtain ⟨h1, h2, u, v, h3⟩ := ih q (remQ p q) hq s4 (by omega)
      refine ⟨h1.comb h2 (quoQ p q) [1] (fun x => by rw [s1 x]; simp [ev]; grind), h1, v, subQ u (mulQ v (quoQ p q)), fun x => ?_⟩
      rw [h3 x, s1 x, ev_subQ, ev_mulQ]
      grind
section
variable {p q d : List Rat}
theorem gcdQ_ok (hp : trimQ p = p) (hq : trimQ q = q) : Dv (gcdQ p q) p ∧ Dv (gcdQ p q) q ∧ ∃ u v : List Rat, ∀ x, ev (gcdQ p q) x = ev u x * ev p x + ev v x * ev q x := gcdF_ok _ p q hp hq (Nat.le_refl _)
theorem dv_gcdQ (hp : trimQ p = p) (hq : trimQ q = q) (h1 : Dv d p) (h2 : Dv d q) : Dv d (gcdQ p q) := by
  obtain ⟨_, _, u, v, h⟩ := gcdQ_ok hp hq
  exact h1.comb h2 u v h
theorem gcdF_mon : ∀ (n : Nat) (p q : List Rat), trimQ p = p → trimQ q = q → q.length ≤ n → monQ (gcdF n p q) = gcdF n p q := by
  intro n
  induction n with
  | zero => intro p q hp _ _; exact monQ_mon hp
  | succ n ih =>
    intro p q hp hq hl
    rw [gcdF]
    split
    · exact monQ_mon hp
    · rename_i h0
      have := (split_ok p q hq h0).2.1
      exact ih _ _ hq (rem_trim _ _) (by omega)
theorem gcdQ_monic (hp : trimQ p = p) (hq : trimQ q = q) : monQ (gcdQ p q) = gcdQ p q := gcdF_mon _ p q hp hq (Nat.le_refl _)
end
theorem ev_trimmed {p : List Rat} (hp : trimQ p = p) (h : ∀ x, ev p x = 0) : p = [] := ev_eq hp rfl (fun x => by rw [h x]; rfl)
/-- A divisor of what is not 0, and its length. -/
theorem Dv.some {a b : List Rat} (hb : trimQ b = b) (h : Dv a b) : ∃ c, trimQ c = c ∧ b = mulQ a c := by
  obtain ⟨c, hc⟩ := h
  exact ⟨trimQ c, trim_trim _, ev_eq hb (mulQ_trim _ _) fun x => by rw [ev_mulQ, ev_trim, hc]⟩
theorem mulQ_nil (a : List Rat) : mulQ a [] = [] := ev_trimmed (mulQ_trim _ _) fun x => by rw [ev_mulQ]; simp [ev]
theorem Dv.anti {a b : List Rat} (ha : trimQ a = a) (hb : trimQ b = b) (h : Dv a b) (h2 : Dv b a) : ∃ k : Rat, k ≠ 0 ∧ b = scQ k a := by
  obtain ⟨c, hc, e⟩ := h.some hb
  obtain ⟨d, hd, e2⟩ := h2.some ha
  by_cases h0 : a = []
  · refine ⟨1, by decide, ?_⟩
    rw [e, h0]; rfl
  · have hb0 : b ≠ [] := fun e3 => h0 (by rw [e2, e3]; rfl)
    have hc0 : c ≠ [] := fun e3 => hb0 (by rw [e, e3]; exact mulQ_nil _)
    have hd0 : d ≠ [] := fun e3 => h0 (by rw [e2, e3]; exact mulQ_nil _)
    have l1 := mulQ_len_eq ha hc h0 hc0
    have l2 := mulQ_len_eq hb hd hb0 hd0
    rw [← e] at l1
    rw [← e2] at l2
    have p1 : 0 < c.length := List.length_pos_iff.2 hc0
    have p2 : 0 < d.length := List.length_pos_iff.2 hd0
    have p3 : 0 < a.length := List.length_pos_iff.2 h0
    have hcl : c.length = 1 := by omega
    match c, hcl with
    | [k], _ =>
      have hk : k ≠ 0 := by
        have := trim_last hc (by simp)
        simpa [cf_zero] using this
      refine ⟨k, hk, ev_eq hb (scQ_trim _ _) fun x => ?_⟩
      rw [e, ev_mulQ, ev_scQ]
      simp [ev]
      grind
theorem Dv.eq {a b : List Rat} (ha : trimQ a = a) (hb : trimQ b = b) (ma : monQ a = a) (mb : monQ b = b) (h : Dv a b) (h2 : Dv b a) : a = b := by
  obtain ⟨k, hk, e⟩ := h.anti ha hb h2
  rw [← mb, e, monQ_sc hk ha, ma]
/-- What is divided by a divisor. -/
theorem quo_exact {p g : List Rat} (hg : trimQ g = g) (h0 : g ≠ []) (h : Dv g p) : remQ p g = [] ∧ ∀ x, ev p x = ev g x * ev (quoQ p g) x := by
  obtain ⟨c, hc⟩ := h
  have h1 := rem_unique (p := p) (u := trimQ c) (v := []) hg h0 (trim_trim _) rfl (List.length_pos_iff.2 h0) (fun x => by rw [hc, ev_trim]; simp [ev]; grind)
  refine ⟨h1.2.symm, fun x => ?_⟩
  rw [← h1.1, ev_trim, hc]
theorem ev_cancel {g u v : List Rat} (hg : trimQ g = g) (h0 : g ≠ []) (h : ∀ x, ev g x * ev u x = ev g x * ev v x) : ∀ x, ev u x = ev v x := by
  have h1 : mulQ g (subQ u v) = [] := ev_trimmed (mulQ_trim _ _) fun x => by rw [ev_mulQ, ev_subQ]; have := h x; grind
  have h2 : subQ u v = [] := by
    by_cases h3 : subQ u v = []
    · exact h3
    · exfalso
      have l := mulQ_len_eq hg (subQ_trim u v) h0 h3
      rw [h1] at l
      have p1 : 0 < g.length := List.length_pos_iff.2 h0
      have p2 : 0 < (subQ u v).length := List.length_pos_iff.2 h3
      simp at l
      omega
  intro x
  have h4 := congrArg (fun r => ev r x) h2
  simp only [ev_subQ] at h4
  have h5 : ev [] x = 0 := rfl
  rw [h5] at h4
  grind
/-- Divided by their greatest common divisor, two have nothing in common. -/
theorem cop_quo {p q : List Rat} (hp : trimQ p = p) (hq : trimQ q = q) (h0 : gcdQ p q ≠ []) : Cop (quoQ p (gcdQ p q)) (quoQ q (gcdQ p q)) := by
  obtain ⟨h1, h2, u, v, h3⟩ := gcdQ_ok hp hq
  have ht := gcdQ_trim p q
  have e1 := (quo_exact ht h0 h1).2
  have e2 := (quo_exact ht h0 h2).2
  refine ⟨u, v, ?_⟩
  have h4 := ev_cancel (u := addQ (mulQ u (quoQ p (gcdQ p q))) (mulQ v (quoQ q (gcdQ p q)))) (v := [1]) ht h0 (fun x => by
    rw [ev_addQ, ev_mulQ, ev_mulQ]
    have h5 := h3 x
    have h6 := e1 x
    have h7 := e2 x
    simp [ev]
    grind)
  intro x
  have h5 := h4 x
  rw [ev_addQ, ev_mulQ, ev_mulQ] at h5
  rw [h5]
  simp [ev]
  grind
theorem gcdQ_ne {p q : List Rat} (hp : trimQ p = p) (hq : trimQ q = q) (h : p ≠ [] ∨ q ≠ []) : gcdQ p q ≠ [] := fun e => by
  obtain ⟨h1, h2, _⟩ := gcdQ_ok hp hq
  rw [e] at h1 h2
  obtain ⟨c, hc⟩ := h1
  obtain ⟨d, hd⟩ := h2
  rcases h with h | h
  · exact h (ev_trimmed hp fun x => by rw [hc]; simp [ev])
  · exact h (ev_trimmed hq fun x => by rw [hd]; simp [ev])
end Go.Proofs.YteldjhhjnchdeaaGreatDoor
namespace Go.Proofs.YteldjhhjnchdeaaGreatDoor

/-! Parts by how often they stand: the code's way and the document's way say the same. -/
section
variable {a b c d e f g k p q r u w y z R : List Rat}
theorem ev_slope_mul (p q : List Rat) (x : Rat) : ev (slopeQ (mulQ p q)) x = ev (slopeQ p) x * ev q x + ev p x * ev (slopeQ q) x := by
  rw [slope_mul, ev_addQ, ev_mulQ, ev_mulQ]
theorem cf_slopeQ (p : List Rat) (i : Nat) : cf (slopeQ p) i = cf p (i + 1) * (((i + 1 : Nat) : Int) : Rat) := by
  unfold slopeQ
  rw [cf_trim, cf_slopeR]
  rfl
theorem slope_shorter (h0 : p ≠ []) : (slopeQ p).length < p.length := by
  have h1 : 0 < p.length := List.length_pos_iff.2 h0
  have h2 : (slopeQ p).length ≤ p.length - 1 := trim_len (slopeQ_trim _) fun i hi => by
    rw [cf_slopeQ, cf_ge (by omega), Rat.zero_mul]
  omega
theorem slope_nil (hp : trimQ p = p) (h : slopeQ p = []) : p.length ≤ 1 := by
  refine trim_len hp fun i hi => ?_
  obtain ⟨j, rfl⟩ : ∃ j, i = j + 1 := ⟨i - 1, by omega⟩
  have h1 := cf_slopeQ p j
  rw [h, cf_nil] at h1
  rcases Rat.mul_eq_zero.1 h1.symm with h2 | h2
  · exact h2
  · exfalso
    have h3 : ((j + 1 : Nat) : Int) = 0 := by exact_mod_cast h2
    omega
theorem const_dv (hp : trimQ p = p) (h0 : p ≠ []) (hl : p.length ≤ 1) : Dv p [1] := by
  have h1 : 0 < p.length := List.length_pos_iff.2 h0
  match p, hl, hp, h0 with
  | [c], _, hp, _ =>
    have hc : c ≠ 0 := by
      have := trim_last hp (by simp)
      simpa [cf_zero] using this
    have h2 : (1 / c) * c = 1 := Rat.div_mul_cancel hc
    exact ⟨[1 / c], fun x => by simp [ev]; grind⟩
/-- What divides its slope is a number. -/
theorem dv_slope (hu : trimQ u = u) (h0 : u ≠ []) (h : Dv u (slopeQ u)) : Dv u [1] := by
  refine const_dv hu h0 (slope_nil hu ?_)
  obtain ⟨c, hc, e⟩ := h.some (slopeQ_trim u)
  by_cases h1 : slopeQ u = []
  · exact h1
  · exfalso
    have hc0 : c ≠ [] := fun e2 => h1 (by rw [e, e2]; exact mulQ_nil _)
    have l1 := mulQ_len_eq hu hc h0 hc0
    have l2 := slope_shorter h0
    have l3 : 0 < c.length := List.length_pos_iff.2 hc0
    rw [← e] at l1
    omega
theorem Dv.trimmed (h : Dv a b) : Dv (trimQ a) b := by
  obtain ⟨c, hc⟩ := h
  exact ⟨c, fun x => by rw [hc, ev_trim]⟩
theorem ev_ne (hp : trimQ p = p) (h0 : p ≠ []) : ¬ ∀ x, ev p x = 0 := fun h => h0 (ev_trimmed hp h)
theorem mul_ne_nil (ha : trimQ a = a) (hb : trimQ b = b) (ha0 : a ≠ []) (hb0 : b ≠ []) : mulQ a b ≠ [] := fun e => by
  have l := mulQ_len_eq ha hb ha0 hb0
  have p1 : 0 < a.length := List.length_pos_iff.2 ha0
  have p2 : 0 < b.length := List.length_pos_iff.2 hb0
  rw [e] at l
  simp at l
  omega
/-- A divisor of d without one in common with f is a number, if d divides d' f. -/
theorem dv_free (hd : trimQ d = d) (hd0 : d ≠ []) (h : Dv d (mulQ (slopeQ d) f)) : ∀ (n : Nat) (u : List Rat), trimQ u = u → d.length - u.length ≤ n → Dv u d → Cop u f → Dv u [1] := by
  intro n
  induction n with
  | zero =>
    intro u hu hl hud hcop
    obtain ⟨m, hm, e⟩ := hud.some hd
    have hu0 : u ≠ [] := fun e2 => hd0 (by rw [e, e2]; rfl)
    have hm0 : m ≠ [] := fun e2 => hd0 (by rw [e, e2]; exact mulQ_nil _)
    have l1 := mulQ_len_eq hu hm hu0 hm0
    rw [← e] at l1
    have p2 : 0 < m.length := List.length_pos_iff.2 hm0
    have p3 : 0 < u.length := List.length_pos_iff.2 hu0
    have hm1 : m.length ≤ 1 := by omega
    have hm2 := const_dv hm hm0 hm1
    -- u is d, by a number
    have hdu : Dv d u := by
      obtain ⟨c, hc⟩ := hm2
      refine ⟨c, fun x => ?_⟩
      have h1 := hc x
      rw [e, ev_mulQ, Rat.mul_assoc, ← h1]
      simp [ev]
      grind
    have h2 : Dv u (mulQ f (slopeQ d)) := by
      obtain ⟨c, hc⟩ := hud.trans h
      exact ⟨c, fun x => by rw [← hc, ev_mulQ, ev_mulQ]; grind⟩
    have h3 := hcop.dv h2
    refine dv_slope hu hu0 ?_
    obtain ⟨k, hk, e3⟩ := hdu.anti hd hu hud
    have h4 : slopeQ u = scQ k (slopeQ d) := by
      refine ev_eq (slopeQ_trim _) (scQ_trim _ _) fun x => ?_
      rw [e3, ev_scQ]
      have h5 : scQ k d = mulQ d [k] := ev_eq (scQ_trim _ _) (mulQ_trim _ _) fun x => by rw [ev_scQ, ev_mulQ]; simp [ev]; grind
      rw [h5, ev_slope_mul]
      have h6 : ev (slopeQ [k]) x = 0 := by rw [ev_slopeQ]; simp [dv, ev]; grind
      rw [h6]
      simp [ev]
      grind
    rw [h4]
    exact h3.sc k
  | succ n ih =>
    intro u hu hl hud hcop
    obtain ⟨m, hm, e⟩ := hud.some hd
    have hu0 : u ≠ [] := fun e2 => hd0 (by rw [e, e2]; rfl)
    have hm0 : m ≠ [] := fun e2 => hd0 (by rw [e, e2]; exact mulQ_nil _)
    obtain ⟨g1, g2, s, t, g3⟩ := gcdQ_ok hu hm
    have hg0 := gcdQ_ne hu hm (Or.inl hu0)
    have hgt := gcdQ_trim u m
    by_cases hg : (gcdQ u m).length ≤ 1
    · obtain ⟨c, hc⟩ := const_dv hgt hg0 hg
      have hum : Cop u m := ⟨mulQ s c, mulQ t c, fun x => by
        have h1 := hc x
        have h2 := g3 x
        rw [ev_mulQ, ev_mulQ]
        have h3 : ev [1] x = 1 := by simp [ev]; grind
        rw [h3] at h1
        grind⟩
      have h2 : Dv u (mulQ f (mulQ m (slopeQ u))) := by
        obtain ⟨v, hv⟩ := h
        refine ⟨subQ (mulQ m v) (mulQ f (slopeQ m)), fun x => ?_⟩
        have h4 := hv x
        have h5 := ev_slope_mul u m x
        rw [← e] at h5
        have h6 : ev d x = ev u x * ev m x := by rw [e, ev_mulQ]
        rw [ev_mulQ] at h4
        rw [ev_mulQ, ev_mulQ, ev_subQ, ev_mulQ, ev_mulQ]
        grind
      exact dv_slope hu hu0 (hum.dv (hcop.dv h2))
    · have hug : Dv (mulQ u (gcdQ u m)) d := by
        obtain ⟨v, hv⟩ := g2
        exact ⟨v, fun x => by rw [e, ev_mulQ, hv, ev_mulQ]; grind⟩
      have l1 := mulQ_len_eq hu hgt hu0 hg0
      have p3 : 0 < u.length := List.length_pos_iff.2 hu0
      have h2 := ih (mulQ u (gcdQ u m)) (mulQ_trim _ _) (by omega) hug (hcop.symm.mul (hcop.of_dv g1).symm).symm
      obtain ⟨v, hv⟩ := h2
      exact ⟨mulQ (gcdQ u m) v, fun x => by rw [hv, ev_mulQ, ev_mulQ]; grind⟩
/-- The parts not reached yet: w, of R; y is the slope over. -/
structure Yun (R w y : List Rat) : Prop where
  tR : trimQ R = R
  R0 : R ≠ []
  tw : trimQ w = w
  w0 : w ≠ []
  mw : monQ w = w
  ty : trimQ y = y
  eq : ∀ x, ev y x * ev R x = ev w x * ev (slopeQ R) x
  cop : Cop w y
theorem Yun.dv (h : Yun R w y) : Dv w R := by
  refine h.cop.dv ⟨slopeQ R, fun x => ?_⟩
  rw [ev_mulQ, h.eq]
theorem mon_quo (hw : trimQ w = w) (w0 : w ≠ []) (mw : monQ w = w) (hg : trimQ g = g) (mg : monQ g = g) (h : Dv g w) : monQ (quoQ w g) = quoQ w g ∧ g ≠ [] ∧ quoQ w g ≠ [] ∧ w = mulQ g (quoQ w g) := by
  have g0 : g ≠ [] := fun e => w0 (by
    obtain ⟨c, hc⟩ := h
    exact ev_trimmed hw fun x => by rw [hc, e]; simp [ev])
  have e := (quo_exact hg g0 h).2
  have e2 : w = mulQ g (quoQ w g) := ev_eq hw (mulQ_trim _ _) fun x => by rw [ev_mulQ, ← e]
  have q0 : quoQ w g ≠ [] := fun e3 => w0 (by rw [e2, e3]; exact mulQ_nil _)
  refine ⟨?_, g0, q0, e2⟩
  have l := mulQ_len_eq hg (quo_trim w g) g0 q0
  have p1 : 0 < g.length := List.length_pos_iff.2 g0
  have p2 : 0 < (quoQ w g).length := List.length_pos_iff.2 q0
  have h1 : cf w (w.length - 1) = cf g (g.length - 1) * cf (quoQ w g) ((quoQ w g).length - 1) := by
    obtain ⟨Q, hQ⟩ : ∃ Q, quoQ w g = Q := ⟨_, rfl⟩
    rw [hQ] at e2 l p2 ⊢
    rw [e2, l, show g.length + Q.length - 1 - 1 = (g.length - 1) + (Q.length - 1) by omega]
    unfold mulQ
    rw [cf_trim]
    exact cf_mulR_top g Q (g.length - 1) (Q.length - 1) (by omega) (by omega)
  have lw : cf w (w.length - 1) = 1 := by have := monQ_lead hw w0; rwa [mw] at this
  have lg : cf g (g.length - 1) = 1 := by have := monQ_lead hg g0; rwa [mg] at this
  rw [lw, lg, Rat.one_mul] at h1
  unfold monQ
  rw [← h1, show (1 : Rat) / 1 = 1 by grind]
  exact scQ_one (quo_trim _ _)
/-- ONE STEP: what is left of w behind its part of this turn is what w has in common with the rest; the part is what is lost. -/
theorem Yun.step (h : Yun R w y) : gcdQ w (quoQ R w) = quoQ w (gcdQ w (subQ y (slopeQ w))) ∧ quoQ w (gcdQ w (quoQ R w)) = gcdQ w (subQ y (slopeQ w)) ∧
    Yun (quoQ R w) (quoQ w (gcdQ w (subQ y (slopeQ w)))) (quoQ (subQ y (slopeQ w)) (gcdQ w (subQ y (slopeQ w)))) ∧ R = mulQ w (quoQ R w) ∧
    (∀ x, ev (subQ y (slopeQ w)) x * ev (quoQ R w) x = ev w x * ev (slopeQ (quoQ R w)) x) ∧ w = mulQ (gcdQ w (subQ y (slopeQ w))) (quoQ w (gcdQ w (subQ y (slopeQ w)))) := by
  obtain ⟨r, hr⟩ : ∃ r, quoQ R w = r := ⟨_, rfl⟩
  obtain ⟨z, hz⟩ : ∃ z, subQ y (slopeQ w) = z := ⟨_, rfl⟩
  have tr : trimQ r = r := by rw [← hr]; exact quo_trim _ _
  have tz : trimQ z = z := by rw [← hz]; exact subQ_trim _ _
  have eR : ∀ x, ev R x = ev w x * ev r x := by rw [← hr]; exact (quo_exact h.tw h.w0 h.dv).2
  have eR2 : R = mulQ w r := ev_eq h.tR (mulQ_trim _ _) fun x => by rw [ev_mulQ, eR]
  have r0 : r ≠ [] := fun e => h.R0 (by rw [eR2, e]; exact mulQ_nil _)
  -- z r = w r'
  have ezr : ∀ x, ev z x * ev r x = ev w x * ev (slopeQ r) x := by
    have h1 := ev_cancel (g := w) (u := mulQ z r) (v := mulQ w (slopeQ r)) h.tw h.w0 (fun x => by
      have h2 := h.eq x
      have h3 := ev_slope_mul w r x
      rw [← eR2] at h3
      rw [ev_mulQ, ev_mulQ, ← hz, ev_subQ]
      have h4 := eR x
      grind)
    intro x
    have h2 := h1 x
    rwa [ev_mulQ, ev_mulQ] at h2
  have tsr := slopeQ_trim r
  obtain ⟨d, hd⟩ : ∃ d, gcdQ r (slopeQ r) = d := ⟨_, rfl⟩
  have td : trimQ d = d := by rw [← hd]; exact gcdQ_trim _ _
  have d0 : d ≠ [] := by rw [← hd]; exact gcdQ_ne tr tsr (Or.inl r0)
  obtain ⟨g1, g2, _⟩ := gcdQ_ok tr tsr
  rw [hd] at g1 g2
  obtain ⟨f, hf⟩ : ∃ f, quoQ r d = f := ⟨_, rfl⟩
  obtain ⟨e, he⟩ : ∃ e, quoQ (slopeQ r) d = e := ⟨_, rfl⟩
  have ef : ∀ x, ev r x = ev d x * ev f x := by rw [← hf]; exact (quo_exact td d0 g1).2
  have ee : ∀ x, ev (slopeQ r) x = ev d x * ev e x := by rw [← he]; exact (quo_exact td d0 g2).2
  have tf : trimQ f = f := by rw [← hf]; exact quo_trim _ _
  have f0 : f ≠ [] := fun e2 => r0 (ev_trimmed tr fun x => by rw [ef, e2]; simp [ev])
  have hfe : Cop f e := by
    have := cop_quo tr tsr (by rw [hd]; exact d0)
    rwa [hd, hf, he] at this
  -- z f = w e
  have ezf : ∀ x, ev z x * ev f x = ev w x * ev e x := by
    have h1 := ev_cancel (g := d) (u := mulQ z f) (v := mulQ w e) td d0 (fun x => by
      have h2 := ezr x
      rw [ef, ee] at h2
      rw [ev_mulQ, ev_mulQ]
      grind)
    intro x
    have h2 := h1 x
    rwa [ev_mulQ, ev_mulQ] at h2
  have hfw : Dv f w := hfe.dv (⟨z, fun x => by rw [ev_mulQ]; have := ezf x; grind⟩)
  obtain ⟨k, tk, ek⟩ := hfw.some h.tw
  have ekx : ∀ x, ev w x = ev f x * ev k x := fun x => by rw [ek, ev_mulQ]
  have ezk : ∀ x, ev z x = ev k x * ev e x := by
    have h1 := ev_cancel (g := f) (u := z) (v := mulQ k e) tf f0 (fun x => by
      have h2 := ezf x
      rw [ekx] at h2
      rw [ev_mulQ]
      grind)
    intro x
    have h2 := h1 x
    rwa [ev_mulQ] at h2
  obtain ⟨P, hP⟩ : ∃ P, gcdQ w z = P := ⟨_, rfl⟩
  have tP : trimQ P = P := by rw [← hP]; exact gcdQ_trim _ _
  have mP : monQ P = P := by rw [← hP]; exact gcdQ_monic h.tw tz
  obtain ⟨p1, p2, _⟩ := gcdQ_ok h.tw tz
  have hkP : Dv k P := by rw [← hP]; exact dv_gcdQ h.tw tz ⟨f, fun x => by rw [ekx]; grind⟩ ⟨e, ezk⟩
  rw [hP] at p1 p2
  have hPk : Dv P k := by
    obtain ⟨u, v, huv⟩ := hfe
    refine p1.comb p2 u v (fun x => ?_)
    have h1 := huv x
    rw [ekx, ezk]
    grind
  obtain ⟨m1, P0, n0, eW⟩ := mon_quo h.tw h.w0 h.mw tP mP p1
  have zP := (quo_exact tP P0 p2).2
  have wP := (quo_exact tP P0 p1).2
  -- k has nothing in common with f, and so with d
  have hky : Cop k y := h.cop.of_dv ⟨f, fun x => by rw [ekx]; grind⟩
  have hkf : Cop k f := by
    obtain ⟨u, v, huv⟩ := hky
    refine ⟨addQ u (mulQ v (addQ e (slopeQ f))), mulQ v (slopeQ k), fun x => ?_⟩
    have h1 := huv x
    have h2 : ev y x = ev z x + ev (slopeQ w) x := by rw [← hz, ev_subQ]; grind
    have h3 := ev_slope_mul f k x
    rw [← ek] at h3
    have h4 := ezk x
    rw [ev_addQ, ev_mulQ, ev_mulQ, ev_addQ]
    grind
  have hdd : Dv d (mulQ (slopeQ d) f) := by
    refine ⟨subQ e (slopeQ f), fun x => ?_⟩
    have h1 : r = mulQ d f := ev_eq tr (mulQ_trim _ _) fun x => by rw [ev_mulQ, ef]
    have h2 := ev_slope_mul d f x
    rw [← h1, ee] at h2
    rw [ev_mulQ, ev_subQ]
    grind
  have hkd : Cop k d := by
    obtain ⟨q1, q2, s, t, q3⟩ := gcdQ_ok tk td
    obtain ⟨c, hc⟩ := dv_free td d0 hdd (d.length) (gcdQ k d) (gcdQ_trim _ _) (by omega) q2 (hkf.of_dv q1)
    refine ⟨mulQ s c, mulQ t c, fun x => ?_⟩
    have h1 := hc x
    have h2 := q3 x
    have h3 : ev [1] x = 1 := by simp [ev]; grind
    rw [h3] at h1
    rw [ev_mulQ, ev_mulQ]
    grind
  -- what w and r have in common is f
  obtain ⟨c1, c2, s, t, c3⟩ := gcdQ_ok h.tw tr
  have hfG : Dv f (gcdQ w r) := dv_gcdQ h.tw tr hfw ⟨d, fun x => by rw [ef]; grind⟩
  have hGf : Dv (gcdQ w r) f := by
    obtain ⟨u, v, huv⟩ := hkd
    refine c1.comb c2 u v (fun x => ?_)
    have h1 := huv x
    rw [ekx, ef]
    grind
  obtain ⟨n, hn⟩ : ∃ n, quoQ w P = n := ⟨_, rfl⟩
  rw [hn] at m1 n0 eW wP
  have tn : trimQ n = n := by rw [← hn]; exact quo_trim _ _
  have hfn : Dv f n := by
    obtain ⟨c, hc⟩ := hPk
    refine ⟨c, fun x => ?_⟩
    have h1 := ev_cancel (g := P) (u := n) (v := mulQ f c) tP P0 (fun x => by
      have h2 := wP x
      have h3 := ekx x
      have h4 := hc x
      rw [ev_mulQ]
      grind)
    have h2 := h1 x
    rwa [ev_mulQ] at h2
  have hnf : Dv n f := by
    have k0 : k ≠ [] := fun e2 => h.w0 (by rw [ek, e2]; exact mulQ_nil _)
    obtain ⟨c, hc⟩ := hkP
    refine ⟨c, fun x => ?_⟩
    have h1 := ev_cancel (g := k) (u := f) (v := mulQ n c) tk k0 (fun x => by
      have h2 := wP x
      have h3 := ekx x
      have h4 := hc x
      rw [ev_mulQ]
      grind)
    have h2 := h1 x
    rwa [ev_mulQ] at h2
  have hG : gcdQ w r = n := Dv.eq (gcdQ_trim _ _) tn (gcdQ_monic h.tw tr) m1 (hGf.trans hfn) (hnf.trans hfG)
  have hnw : Dv n w := ⟨P, fun x => by rw [wP]; grind⟩
  have hlost : quoQ w n = P := by
    refine ev_eq (quo_trim _ _) tP fun x => ?_
    have h1 := (quo_exact tn n0 hnw).2
    refine ev_cancel (g := n) (u := quoQ w n) (v := P) tn n0 (fun x => ?_) x
    have h2 := h1 x
    have h3 := wP x
    grind
  rw [hr, hz, hP, hn]
  refine ⟨hG, by rw [hG]; exact hlost, ⟨tr, r0, tn, n0, m1, quo_trim _ _, fun x => ?_, ?_⟩, eR2, ezr, eW⟩
  · refine (ev_cancel (g := P) (u := mulQ (quoQ z P) r) (v := mulQ n (slopeQ r)) tP P0 (fun x => ?_) x |> fun h1 => by rwa [ev_mulQ, ev_mulQ] at h1)
    have h2 := ezr x
    have h3 := zP x
    have h4 := wP x
    rw [ev_mulQ, ev_mulQ]
    grind
  · have := cop_quo h.tw tz (by rw [hP]; exact P0)
    rwa [hP, hn] at this
/-- At the beginning. -/
theorem Yun.start (tp : trimQ p = p) (p0 : p ≠ []) (mp : monQ p = p) : Yun p (quoQ p (gcdQ p (slopeQ p))) (quoQ (slopeQ p) (gcdQ p (slopeQ p))) := by
  have ts := slopeQ_trim p
  obtain ⟨g1, g2, _⟩ := gcdQ_ok tp ts
  have g0 := gcdQ_ne tp ts (Or.inl p0)
  obtain ⟨m1, _, n0, e⟩ := mon_quo tp p0 mp (gcdQ_trim _ _) (gcdQ_monic tp ts) g1
  have e1 := (quo_exact (gcdQ_trim p (slopeQ p)) g0 g1).2
  have e2 := (quo_exact (gcdQ_trim p (slopeQ p)) g0 g2).2
  refine ⟨tp, p0, quo_trim _ _, n0, m1, quo_trim _ _, fun x => ?_, cop_quo tp ts g0⟩
  have h1 := e1 x
  have h2 := e2 x
  grind
end
end Go.Proofs.YteldjhhjnchdeaaGreatDoor
namespace Go.Proofs.YteldjhhjnchdeaaGreatDoor
open Go.RowKit Go.Shelf

/-- Over one denominator of at most M words. -/
def Cd (M : Nat) (p : List Rat) : Prop := ∃ D : Int, D ≠ 0 ∧ Sm M D ∧ CDL D M p
section
variable {M N : Nat} {p q : List Rat}
theorem Cd.mono (h : Cd M p) (hn : M ≤ N) : Cd N p := by
  obtain ⟨D, d1, d2, d3⟩ := h
  exact ⟨D, d1, d2.mono hn, fun i => (d3 i).mono hn⟩
theorem Cd.smq (h : Cd M p) (i : Nat) : SmQ M (cf p i) := by
  obtain ⟨D, d1, d2, d3⟩ := h
  exact (d3 i).smq d1 d2
theorem Cd.ln (h : Cd M p) : Ln M p := by
  obtain ⟨D, d1, d2, d3⟩ := h
  exact d3.ln d1
theorem Cd.sqs (h : Cd M p) (hM : M ≤ 1000000) : Sqs p := Sqs.of fun i => Sq.of (h.smq i) hM
theorem Cd.pos (h : Cd M p) : 1 ≤ M := by
  obtain ⟨D, d1, d2, _⟩ := h
  by_cases h7 : 1 ≤ M
  · exact h7
  · exfalso
    obtain rfl : M = 0 := by omega
    unfold Sm at d2
    have : D.natAbs ≠ 0 := Int.natAbs_ne_zero.2 d1
    simp at d2
    omega
theorem Cd.mon (h : Cd M p) (tp : trimQ p = p) : Cd M (monQ p) := mon_cd' tp h.ln h.pos
theorem Cd.monS (h : Cd M p) (tp : trimQ p = p) (hM : M ≤ 1000000) (i : Nat) : Sq (cf p i / cf p (p.length - 1)) := by
  have h2 := Ln.sqs tp h.ln h.pos i
  unfold monQ at h2
  rw [cf_scQ, Rat.div_def, Rat.one_mul, ← Rat.div_def] at h2
  exact Sq.of h2 hM
/-- A division by what has the highest coefficient 1. -/
theorem Cd.dvn (h : Cd M p) (h2 : Cd M q) (hm : cf q (q.length - 1) = 1) : ∃ D E : Int, Dvn D E E M M p q := by
  obtain ⟨D, d1, d2, d3⟩ := h
  obtain ⟨E, e1, e2, e3⟩ := h2
  exact ⟨D, E, d1, d2, d3, e1, e2, e3, e1, e2, by rw [hm, Rat.divInt_self' e1]⟩
theorem Cd.quo (h : Cd M p) (h2 : Cd M q) (hm : cf q (q.length - 1) = 1) : Cd ((p.length + 1) * (M + 1)) (quoQ p q) ∧ Cd ((p.length + 1) * (M + 1)) (remQ p q) := by
  obtain ⟨D, E, hd⟩ := h.dvn h2 hm
  obtain ⟨m, hm⟩ : ∃ m, p.length - (q.length - 1) = m := ⟨_, rfl⟩
  have h3 := hd.den m
  have h4 := hd.rem hm
  have h5 : m * (M + 1) ≤ p.length * (M + 1) := Nat.mul_le_mul_right _ (by omega)
  have h6 : (p.length + 1) * (M + 1) = p.length * (M + 1) + (M + 1) := by rw [Nat.add_mul, Nat.one_mul]
  exact ⟨⟨_, h3.1, h3.2.mono (by omega), fun i => (h4.2 i).mono (by omega)⟩, ⟨_, h3.1, h3.2.mono (by omega), fun i => (h4.1 i).mono (by omega)⟩⟩
end
theorem mon_one {q : List Rat} (tq : trimQ q = q) (q0 : q ≠ []) (mq : monQ q = q) : cf q (q.length - 1) = 1 := by
  have := monQ_lead tq q0
  rwa [mq] at this
/-- p over q, if q is not 0. -/
def ovQ (p q : List Rat) : List Rat := if q = [] then [] else quoQ p q
theorem ovQ_trim (p q : List Rat) : trimQ (ovQ p q) = ovQ p q := by
  unfold ovQ
  split
  · rfl
  · exact quo_trim _ _
theorem Cd.ov {M : Nat} {p q : List Rat} (h : Cd M p) (h2 : Cd M q) (tq : trimQ q = q) (mq : monQ q = q) : Cd ((p.length + 1) * (M + 1)) (ovQ p q) := by
  unfold ovQ
  split
  · refine (show Cd 1 [] from cd_nil (by omega)).mono ?_
    have : 1 * 1 ≤ (p.length + 1) * (M + 1) := Nat.mul_le_mul (by omega) (by omega)
    omega
  · rename_i h0
    exact (h.quo h2 (mon_one tq h0 mq)).1
/-- What has each root once. -/
def freQ (p : List Rat) : List Rat := monQ (ovQ p (gcdQ p (slopeQ p)))
namespace M3
theorem Chn.ends {p q : List Rat} {K : Nat} (hok : ChOk K p q) : ∀ (n : Nat) (a b : List Rat), b.length ≤ n → Chn p q (ChA K p q) a b → ∃ r, Chn p q (ChA K p q) r [] := by
  intro n
  induction n with
  | zero =>
    intro a b hl h
    have hb : b = [] := nil_of_len (by omega)
    subst hb
    exact ⟨a, h⟩
  | succ n ih =>
    intro a b hl h
    by_cases hb : b = []
    · subst hb; exact ⟨a, h⟩
    · have h1 := lft_shorter (a := a) h.tb hb
      exact ih b (lftQ a b) (by omega) (Chn.next hok.tp hok.tq hok.lp hok.lq hok.bd.2.2.1 h hb)
theorem ChOk.gcd {p q : List Rat} {K : Nat} (hok : ChOk K p q) : Cd (ChA K p q) (gcdQ p q) := by
  obtain ⟨r, hr⟩ := Chn.ends hok _ _ _ (Nat.le_refl _) (Chn.start hok.tp hok.tq hok.lp hok.lq hok.bd.2.2.1)
  rw [← hr.gc, gcdQ_nil]
  exact mon_cd' hr.ta hr.wa.ln hok.bd.2.2.2
theorem gmonic_n (M : Nat) (v : Value) (p : List Rat) (w : World) (h : IsPoly w v p) (tp : trimQ p = p) (hc : Cd M p) (hM : M ≤ 1000000) :
    Calls Tryz.prog 26 #[v] w fun e w' => ∃ u, e = .returned u ∧ IsPoly w' u (monQ p) ∧ Below w.heap.size w w' :=
  gmonic_c v p w h (hc.sqs hM) tp (fun i => hc.monS tp hM i)
theorem zMonic_n (M : Nat) (v : Value) (p : List Rat) (w : World) (h : RowK false w v p) (tp : trimQ p = p) (hc : Cd M p) (hM : M ≤ 1000000) (hl : p.length ≤ 1000000) :
    Calls Tryz.prog 40 #[v] w fun e w' => ∃ u, e = .returned u ∧ RowK false w' u (monQ p) ∧ Below w.heap.size w w' :=
  zMonic_c v p w h tp (hc.sqs hM) (fun h0 => by
    rw [Rat.div_def, Rat.one_mul]
    exact Sq.of ((hc.smq _).inv (trim_last tp h0)) hM) (by omega)
theorem xSplit_n (M : Nat) (va vb : Value) (p q : List Rat) (w : World) (ha : RowK false w va p) (hb : RowK false w vb q) (hp : Cd M p) (hq : Cd M q) (tp : trimQ p = p) (tq : trimQ q = q) (q0 : q ≠ []) (mq : monQ q = q) (hM : (p.length + 3) * (M + 1) ≤ 1000000) (hl : p.length ≤ 1000) :
    Calls Tryz.prog 41 #[va, vb] w fun e w' => ∃ u v, e = .returned (.tuple #[u, v]) ∧ RowK false w' u (quoQ p q) ∧ RowK false w' v (remQ p q) ∧ Below w.heap.size w w' := by
  obtain ⟨D, E, hd⟩ := hp.dvn hq (mon_one tq q0 mq)
  have h1 : (p.length + 3) * (M + 1) = p.length * (M + 1) + 3 * (M + 1) := Nat.add_mul _ _ _
  exact xSplit_g _ M va vb p q w ha hb (hd.divS p.length (by omega)) hd.start hd.sq tp tq q0 hl
theorem ySplit_m (M : Nat) (va vb : Value) (p q : List Rat) (w : World) (ha : IsPoly w va p) (hb : IsPoly w vb q) (hp : Cd M p) (hq : Cd M q) (tp : trimQ p = p) (tq : trimQ q = q) (mq : monQ q = q) (hM : 2 * ((p.length + 3) * (M + 1)) ≤ 1000000) :
    Calls Tryz.prog 22 #[va, vb] w fun e w' => ∃ u v, e = .returned (.tuple #[u, v, .bool (decide (q ≠ []))]) ∧ IsPoly w' u (if q = [] then [] else quoQ p q) ∧ IsPoly w' v (if q = [] then [] else remQ p q) ∧ Below w.heap.size w w' := by
  have h1 : (p.length + 3) * (M + 1) = p.length * (M + 1) + 3 * (M + 1) := Nat.add_mul _ _ _
  refine ySplit_g M va vb p q w ha hb (hp.sqs (by omega)) hq.smq tp tq (fun q0 => ?_)
  obtain ⟨D, E, hd⟩ := hp.dvn hq (mon_one tq q0 mq)
  obtain ⟨m, hm⟩ : ∃ m, p.length - (q.length - 1) = m := ⟨_, rfl⟩
  have h5 : m * (M + 1) ≤ p.length * (M + 1) := Nat.mul_le_mul_right _ (by omega)
  rw [hm]
  exact hd.sizes (by omega)

attribute [local go_sem] Oper.semAt_some
set_option maxRecDepth 100000 in
set_option maxHeartbeats 8000000 in
theorem gover_c (M : Nat) (va vb : Value) (p q : List Rat) (w : World) (ha : IsPoly w va p) (hb : IsPoly w vb q) (hp : Cd M p) (hq : Cd M q) (tp : trimQ p = p) (tq : trimQ q = q) (mq : monQ q = q) (hM : 2 * ((p.length + 3) * (M + 1)) ≤ 1000000) :
    Calls Tryz.prog 46 #[va, vb] w fun e w' => ∃ u, e = .returned u ∧ IsPoly w' u (ovQ p q) ∧ Below w.heap.size w w' := by
  obtain ⟨pa, la, pc, rfl⟩ := ha.form
  obtain ⟨qa, lb, qc, rfl⟩ := hb.form
  have M0 := (((Mem.nil w).push (.cell 25 (.slice pa la pc)) (cs := #[.slice pa la pc]) ⟨rfl, rfl⟩).push (.cell 25 (.slice qa lb qc)) (cs := #[.slice qa lb qc]) ⟨rfl, rfl⟩).push (.cell 25 (.slice none 0 0)) (cs := #[.slice none 0 0]) ⟨rfl, rfl⟩
  simp only [World.size_alloc] at M0
  obtain ⟨W0, hW0⟩ : ∃ V, ((w.alloc (.cells #[.slice pa la pc] 25)).alloc (.cells #[.slice qa lb qc] 25)).alloc (.cells #[.slice none 0 0] 25) = V := ⟨_, rfl⟩
  have HW0 := hidD hW0
  have M1 : Hid (Mem w W0 [some (w.heap.size, .cell 25 (.slice pa la pc)), some (w.heap.size + 1, .cell 25 (.slice qa lb qc)), some (w.heap.size + 1 + 1, .cell 25 (.slice none 0 0))]) := hidD (by rw [← hW0]; exact M0)
  have H1 := hidD (ySplit_m M _ _ p q W0 (ha.below M1.out.2.2) (hb.below M1.out.2.2) hp hq tp tq mq hM)
  obtain ⟨bq, hbq⟩ : ∃ b, decide (q ≠ []) = b := ⟨_, rfl⟩
  rw [hbq, show (if q = [] then [] else quoQ p q) = ovQ p q from rfl] at H1
  have c0 := (M1.out.cell (i := 0) rfl).1.cell
  have c1 := (M1.out.cell (i := 1) rfl).1.cell
  have n1 := (M1.out.cell (i := 2) rfl).1
  have HQ9 := hidD M1.out.2.2
  clear M0 hW0 ha hb hp hq tp tq mq hM hbq M1
  go_enter Tryz.func46, Tryz.ntmps46
  go_upto_region 1 with fail
  rw [HW0.out]
  clear HW0
  go_upto_region 2 with (go_at_call 22; refine H1.out.mono ?_; clear H1; rintro e w4 ⟨u4, v4, rfl, hu4, hv4, hb4⟩; obtain ⟨a4, l4, c4, rfl⟩ := hu4.form; obtain ⟨a6, l6, c6, rfl⟩ := hv4.form)
  have hA1 : Below w4.heap.size w4 ((w4.alloc (.cells #[.slice a4 l4 c4] 25)).alloc (.cells #[.slice a6 l6 c6] 25)) := ((Below.refl _ w4).alloc (Nat.le_refl _) _).alloc (by rw [World.size_alloc]; omega) _
  have nb := (Boxed.new w4 25 (.slice a4 l4 c4)).alloc (.cells #[.slice a6 l6 c6] 25)
  have e5 := nb.cell
  have n5 := boxed_below (boxed_below n1 hb4) hA1
  have x0 := n5.cell
  have x1 := n5.frozen
  have HU5 := hidD (boxPoly n5 (x := .slice a4 l4 c4) (hu4.below hA1))
  have HB5 := hidD (((HQ9.out.trans (hb4.mono HQ9.out.size)).trans (hA1.mono (Nat.le_trans HQ9.out.size hb4.size))).setCell (p := ⟨w.heap.size + 1 + 1, 0, none⟩) (by show w.heap.size ≤ w.heap.size + 1 + 1; omega) (.slice a4 l4 c4))
  clear c0 c1 hu4 hv4 hb4 nb n5 hA1
  go_wp2_with fail
  exact bodyPost_ret (v := .agg #[.slice a4 l4 c4]) (by simp [results, Tryz.results46, go_sem, x0]) rfl ⟨_, rfl, HU5.out, HB5.out⟩

/-- The sizes that Free needs. -/
structure FrOk (K : Nat) (p : List Rat) : Prop where
  ch : ChOk K p (slopeQ p)
  le : (p.length + 3) * (ChA K p (slopeQ p) + 1) * 2 ≤ 1000000
theorem FrOk.cd {K : Nat} {p : List Rat} (h : FrOk K p) : Cd (ChA K p (slopeQ p)) p := (show Cd K p from h.ch.cp).mono (by have := ChA_ge K p (slopeQ p); omega)
theorem FrOk.sl {K : Nat} {p : List Rat} (h : FrOk K p) (i : Nat) : Sq (slF p i) := by
  have h1 := (show Cd K (slopeQ p) from h.ch.cq).sqs h.ch.bd.2.1
  have h2 := h1.at i
  unfold slopeQ at h2
  rwa [cf_trim, cf_slopeR] at h2

set_option maxRecDepth 100000 in
set_option maxHeartbeats 8000000 in
theorem gFree_c (K : Nat) (v : Value) (p : List Rat) (w : World) (h : IsPoly w v p) (hok : FrOk K p) :
    Calls Tryz.prog 16 #[v] w fun e w' => ∃ u, e = .returned u ∧ IsPoly w' u (freQ p) ∧ Below w.heap.size w w' := by
  have hmx : Tryz.prog.follows .mixedOrders = true := by kernel_rfl
  obtain ⟨pa, la, pc, rfl⟩ := h.form
  have M0 := ((Mem.nil w).push (.cell 25 (.slice pa la pc)) (cs := #[.slice pa la pc]) ⟨rfl, rfl⟩).push (.poly []) (cs := #[.slice none 0 0]) (poly0 _)
  simp only [World.size_alloc] at M0
  obtain ⟨W0, hW0⟩ : ∃ V, (w.alloc (.cells #[.slice pa la pc] 25)).alloc (.cells #[.slice none 0 0] 25) = V := ⟨_, rfl⟩
  have HW0 := hidD hW0
  have HP := hidD (fun (V : World) (hB : Below w.heap.size w V) => h.below hB)
  have h9 := hok.le
  have h8 := hok.ch.bd
  have h7 : (p.length + 3) * (ChA K p (slopeQ p) + 1) = (p.length + 1) * (ChA K p (slopeQ p) + 1) + 2 * (ChA K p (slopeQ p) + 1) := by rw [← Nat.add_mul]
  have hgc := hok.ch.gcd
  have hgm := gcdQ_monic hok.ch.tp hok.ch.tq
  have HSL := hidD (fun (V : World) (hB : Below w.heap.size w V) => ySlope_c (.agg #[.slice pa la pc]) p V (h.below hB) (hok.cd.sqs h8.1) hok.sl)
  have HGC := hidD (fun (V : World) (hB : Below w.heap.size w V) (y : Value) (hy : IsPoly V y (slopeQ p)) => gGCD_c K (.agg #[.slice pa la pc]) y p (slopeQ p) V (h.below hB) hy hok.ch)
  have HOV := hidD (fun (V : World) (hB : Below w.heap.size w V) (y : Value) (hy : IsPoly V y (gcdQ p (slopeQ p))) => gover_c (ChA K p (slopeQ p)) (.agg #[.slice pa la pc]) y p (gcdQ p (slopeQ p)) V (h.below hB) hy hok.cd hgc hok.ch.tp (gcdQ_trim _ _) hgm (by omega))
  have HMO := hidD (fun (V : World) (y : Value) (hy : IsPoly V y (ovQ p (gcdQ p (slopeQ p)))) => gmonic_n ((p.length + 1) * (ChA K p (slopeQ p) + 1)) y (ovQ p (gcdQ p (slopeQ p))) V hy (ovQ_trim _ _) (hok.cd.ov hgc (gcdQ_trim _ _) hgm) (by omega))
  rw [show monQ (ovQ p (gcdQ p (slopeQ p))) = freQ p from rfl] at HMO
  have M1 : Hid (Mem w W0 [some (w.heap.size, .cell 25 (.slice pa la pc)), some (w.heap.size + 1, .poly ([]))]) := hidD (by rw [← hW0]; exact M0)
  clear M0 hW0 h hok h9 h8 h7 hgc hgm
  go_enter Tryz.func16, Tryz.ntmps16
  go_upto_region 1 with fail
  rw [HW0.out]
  clear HW0
  refine wp_region_tab hmx [[], [], [], [2], [1, 3, 3], [0, 4, 4], [5, 5], [6, 6, 0, 1, 2, 3, 4, 5, 6]] (by kernel_rfl) (by decide)
    (fun D act V => ∃ (t3x t4x t5x t6x t7x t8x t9x : Value) (y1 : Option (Nat × Dat)), act = { tmps := #[Value.agg #[Value.slice pa la pc], Value.pointer (some { block := w.heap.size, off := 0 }), Value.pointer (some { block := w.heap.size + 1, off := 0 }), t3x, t4x, t5x, t6x, t7x, t8x, t9x], defers := [] } ∧ Hid ((D 0 = true → t3x = .agg #[.slice pa la pc]) ∧ (D 1 = true → t4x = .agg #[.slice pa la pc]) ∧ (D 2 = true → t5x = .agg #[.slice pa la pc]) ∧ (D 3 = true → Has V t6x (.poly (slopeQ p))) ∧ (D 4 = true → Has V t7x (.poly (gcdQ p (slopeQ p)))) ∧ (D 5 = true → Has V t8x (.poly (ovQ p (gcdQ p (slopeQ p))))) ∧ (D 6 = true → Has V t9x (.poly (freQ p))) ∧ ((D 7 = false → y1 = some (w.heap.size + 1, .poly ([]))) ∧ (D 7 = true → y1 = some (w.heap.size + 1, .poly (freQ p))))) ∧ Hid (Mem w V [some (w.heap.size, .cell 25 (.slice pa la pc)), y1]))
    ⟨_, _, _, _, _, _, _, _, rfl, hidD ⟨by simp, by simp, by simp, by simp, by simp, by simp, by simp, ⟨fun _ => rfl, by simp⟩⟩, hidD (M1.out).drew⟩ ?step1 ?fin1
  case step1 =>
    rintro D act V i ds hcl hi hds hDi ⟨t3x, t4x, t5x, t6x, t7x, t8x, t9x, y1, rfl, GG, MM⟩
    have hi6 : i < 8 := (List.getElem?_eq_some_iff.1 hi).1
    obtain rfl | rfl | rfl | rfl | rfl | rfl | rfl | rfl : i = 0 ∨ i = 1 ∨ i = 2 ∨ i = 3 ∨ i = 4 ∨ i = 5 ∨ i = 6 ∨ i = 7 := by omega
    all_goals
      simp only [List.getElem?_cons_zero, List.getElem?_cons_succ, Option.some.injEq] at hi
      subst hi
    · have e0 := (MM.out.cell (i := 0) rfl).1.cell
      clear hds
      refine wpOp_go rfl rfl (fun K hK => ?_)
      go_simp
      exact hK _ _ ⟨_, _, _, _, _, _, _, _, rfl, hidD ⟨fun _ => rfl, GG.out.2.1, GG.out.2.2.1, GG.out.2.2.2.1, GG.out.2.2.2.2.1, GG.out.2.2.2.2.2.1, GG.out.2.2.2.2.2.2.1, GG.out.2.2.2.2.2.2.2⟩, hidD (MM.out)⟩
    · have e0 := (MM.out.cell (i := 0) rfl).1.cell
      clear hds
      refine wpOp_go rfl rfl (fun K hK => ?_)
      go_simp
      exact hK _ _ ⟨_, _, _, _, _, _, _, _, rfl, hidD ⟨GG.out.1, fun _ => rfl, GG.out.2.2.1, GG.out.2.2.2.1, GG.out.2.2.2.2.1, GG.out.2.2.2.2.2.1, GG.out.2.2.2.2.2.2.1, GG.out.2.2.2.2.2.2.2⟩, hidD (MM.out)⟩
    · have e0 := (MM.out.cell (i := 0) rfl).1.cell
      clear hds
      refine wpOp_go rfl rfl (fun K hK => ?_)
      go_simp
      exact hK _ _ ⟨_, _, _, _, _, _, _, _, rfl, hidD ⟨GG.out.1, GG.out.2.1, fun _ => rfl, GG.out.2.2.2.1, GG.out.2.2.2.2.1, GG.out.2.2.2.2.2.1, GG.out.2.2.2.2.2.2.1, GG.out.2.2.2.2.2.2.2⟩, hidD (MM.out)⟩
    · obtain rfl := (GG.out.2.2.1 (hds 2 (by simp)))
      have HC := hidD (HSL.out V MM.out.2.2)
      clear hds
      refine wpOp_go rfl rfl (fun K hK => ?_)
      go_simp
      go_wp2_with (go_at_call 24; refine HC.out.mono ?_; rintro e w5 ⟨v5, rfl, hv5, hb5⟩)
      exact ⟨_, _, _, _, _, _, _, _, rfl, hidD ⟨GG.out.1, GG.out.2.1, fun _ => rfl, fun _ => hv5, fun h => (GG.out.2.2.2.2.1 h).below hb5, fun h => (GG.out.2.2.2.2.2.1 h).below hb5, fun h => (GG.out.2.2.2.2.2.2.1 h).below hb5, GG.out.2.2.2.2.2.2.2⟩, hidD (MM.out.below hb5)⟩
    · obtain rfl := (GG.out.2.1 (hds 1 (by simp)))
      have h1 := (GG.out.2.2.2.1 (hds 3 (by simp)))
      have HC := hidD (HGC.out V MM.out.2.2 _ h1)
      clear hds h1
      refine wpOp_go rfl rfl (fun K hK => ?_)
      go_simp
      go_wp2_with (go_at_call 8; refine HC.out.mono ?_; rintro e w5 ⟨v5, rfl, hv5, hb5⟩)
      exact ⟨_, _, _, _, _, _, _, _, rfl, hidD ⟨GG.out.1, fun _ => rfl, GG.out.2.2.1, fun h => (GG.out.2.2.2.1 h).below hb5, fun _ => hv5, fun h => (GG.out.2.2.2.2.2.1 h).below hb5, fun h => (GG.out.2.2.2.2.2.2.1 h).below hb5, GG.out.2.2.2.2.2.2.2⟩, hidD (MM.out.below hb5)⟩
    · obtain rfl := (GG.out.1 (hds 0 (by simp)))
      have h1 := (GG.out.2.2.2.2.1 (hds 4 (by simp)))
      have HC := hidD (HOV.out V MM.out.2.2 _ h1)
      clear hds h1
      refine wpOp_go rfl rfl (fun K hK => ?_)
      go_simp
      go_wp2_with (go_at_call 46; refine HC.out.mono ?_; rintro e w5 ⟨v5, rfl, hv5, hb5⟩)
      exact ⟨_, _, _, _, _, _, _, _, rfl, hidD ⟨fun _ => rfl, GG.out.2.1, GG.out.2.2.1, fun h => (GG.out.2.2.2.1 h).below hb5, fun h => (GG.out.2.2.2.2.1 h).below hb5, fun _ => hv5, fun h => (GG.out.2.2.2.2.2.2.1 h).below hb5, GG.out.2.2.2.2.2.2.2⟩, hidD (MM.out.below hb5)⟩
    · have h0 := (GG.out.2.2.2.2.2.1 (hds 5 (by simp)))
      have HC := hidD (HMO.out V _ h0)
      clear hds h0
      refine wpOp_go rfl rfl (fun K hK => ?_)
      go_simp
      go_wp2_with (go_at_call 26; refine HC.out.mono ?_; rintro e w5 ⟨v5, rfl, hv5, hb5⟩)
      exact ⟨_, _, _, _, _, _, _, _, rfl, hidD ⟨GG.out.1, GG.out.2.1, GG.out.2.2.1, fun h => (GG.out.2.2.2.1 h).below hb5, fun h => (GG.out.2.2.2.2.1 h).below hb5, fun h => (GG.out.2.2.2.2.2.1 h).below hb5, fun _ => hv5, GG.out.2.2.2.2.2.2.2⟩, hidD (MM.out.below hb5)⟩
    · obtain rfl := GG.out.2.2.2.2.2.2.2.1 hDi
      have hv := (GG.out.2.2.2.2.2.2.1 (hds 6 (by simp)))
      obtain ⟨a1, l1, c1, rfl⟩ := IsPoly.form (show IsPoly V _ _ from hv)
      obtain ⟨a, l, c, n, r⟩ := MM.out.poly2 (i := 1) rfl
      have e0 := n.cell
      have f0 := n.frozen
      clear hds
      refine wpOp_go rfl rfl (fun K hK => ?_)
      go_simp
      exact hK _ _ ⟨_, _, _, _, _, _, _, _, rfl, hidD ⟨GG.out.1, GG.out.2.1, GG.out.2.2.1, fun h => (GG.out.2.2.2.1 h).set1 n rfl _, fun h => (GG.out.2.2.2.2.1 h).set1 n rfl _, fun h => (GG.out.2.2.2.2.2.1 h).set1 n rfl _, fun h => (GG.out.2.2.2.2.2.2.1 h).set1 n rfl _, ⟨fun h => by simp at h, fun _ => rfl⟩⟩, hidD (MM.out.putPoly (i := 1) rfl hv)⟩
  rintro D act V2 hDD ⟨t3x, t4x, t5x, t6x, t7x, t8x, t9x, y1, rfl, GG, MM⟩
  obtain rfl := GG.out.2.2.2.2.2.2.2.2 (hDD 7 (by decide))
  obtain rfl := GG.out.1 (hDD 0 (by decide))
  obtain rfl := GG.out.2.1 (hDD 1 (by decide))
  obtain rfl := GG.out.2.2.1 (hDD 2 (by decide))
  clear GG hDD M1
  have M2 : Hid (Mem w V2 [some (w.heap.size, .cell 25 (.slice pa la pc)), some (w.heap.size + 1, .poly (freQ p))]) := MM
  clear MM
  obtain ⟨a3, l3, c3, n3, r3⟩ := M2.out.poly2 (i := 1) rfl
  have e3a := n3.cell
  have HB5 := hidD M2.out.2.2
  go_wp2_with fail
  exact bodyPost_ret (v := .agg #[.slice a3 l3 c3]) (by simp [results, Tryz.results16, go_sem, e3a]) rfl ⟨_, rfl, r3, HB5.out⟩

set_option maxRecDepth 100000 in
set_option maxHeartbeats 8000000 in
theorem zFree_c (K : Nat) (v : Value) (p : List Rat) (w : World) (h : RowK false w v p) (hok : FrOk K p) :
    Calls Tryz.prog 17 #[v] w fun e w' => ∃ u, e = .returned u ∧ RowK false w' u (freQ p) ∧ Below w.heap.size w w' := by
  obtain ⟨a, la, ca, rfl⟩ := h.form
  obtain ⟨hla, hca, hcma, hlma, _⟩ := h.formsF
  by_cases h0 : p = []
  · have hl1 : (la : Int) = 0 := by rw [hla, h0]; rfl
    have HA := hidD (show RowK false w (.slice a la ca) (freQ p) by rw [h0] at h ⊢; exact h)
    clear h h0 hok
    go_enter Tryz.func17, Tryz.ntmps17
    go_wp2_with fail
    go_ret
    exact ⟨_, rfl, HA.out, Below.refl _ _⟩
  · have hl0 : ¬ (la : Int) = 0 := by have := List.length_pos_iff.2 h0; omega
    have h9 := hok.le
    have h8 := hok.ch.bd
    have h7 : (p.length + 3) * (ChA K p (slopeQ p) + 1) = (p.length + 1) * (ChA K p (slopeQ p) + 1) + 2 * (ChA K p (slopeQ p) + 1) := by rw [← Nat.add_mul]
    have hgc := hok.ch.gcd
    have hgm := gcdQ_monic hok.ch.tp hok.ch.tq
    have hg0 := gcdQ_ne hok.ch.tp hok.ch.tq (Or.inl h0)
    have hln := hok.ch.ln
    have hqo : ovQ p (gcdQ p (slopeQ p)) = quoQ p (gcdQ p (slopeQ p)) := if_neg hg0
    have HSL := hidD (xSlope_c _ p w h (hok.cd.sqs h8.1) (by omega))
    have HGC := hidD (fun (V : World) (hB : Below w.heap.size w V) (y : Value) (hy : RowK false V y (slopeQ p)) => zGCD_c K _ y p (slopeQ p) V (h.below hB) hy hok.ch)
    have HSP := hidD (fun (V : World) (hB : Below w.heap.size w V) (y : Value) (hy : RowK false V y (gcdQ p (slopeQ p))) => xSplit_n (ChA K p (slopeQ p)) _ y p (gcdQ p (slopeQ p)) V (h.below hB) hy hok.cd hgc hok.ch.tp (gcdQ_trim _ _) hg0 hgm (by omega) (by omega))
    have HMO := hidD (fun (V : World) (y : Value) (hy : RowK false V y (quoQ p (gcdQ p (slopeQ p)))) => zMonic_n ((p.length + 1) * (ChA K p (slopeQ p) + 1)) y (quoQ p (gcdQ p (slopeQ p))) V hy (quo_trim _ _) (by rw [← hqo]; exact hok.cd.ov hgc (gcdQ_trim _ _) hgm) (by omega) (by
      have h1 : (quoQ p (gcdQ p (slopeQ p))).length ≤ p.length := by
        unfold quoQ
        refine Nat.le_trans (trim_length_le _) ?_
        rw [(splitAt_length _ _ _ _ _).1]
        omega
      omega))
    rw [show monQ (quoQ p (gcdQ p (slopeQ p))) = freQ p by unfold freQ; rw [hqo]] at HMO
    clear h h0 hok h9 h8 h7 hgc hgm hg0 hln hqo hla hca hcma
    go_enter Tryz.func17, Tryz.ntmps17
    go_wp2_with (first
      | (go_at_call 47; refine HSL.out.mono ?_; clear HSL; rintro e w1 ⟨u1, rfl, hu1, hq⟩)
      | (go_at_call 13; refine (HGC.out _ hq _ hu1).mono ?_; clear HGC; rintro e w2 ⟨u2, rfl, hu2, hb2⟩; have hq := hq.trans (hb2.mono hq.size))
      | (go_at_call 41; refine (HSP.out _ hq _ hu2).mono ?_; clear HSP; rintro e w3 ⟨u3, v3, rfl, hu3, hv3, hb3⟩; have hq := hq.trans (hb3.mono hq.size))
      | (go_at_call 40; refine (HMO.out _ _ hu3).mono ?_; clear HMO; rintro e w4 ⟨u4, rfl, hu4, hb4⟩; have hq := hq.trans (hb4.mono hq.size)))
    go_ret
    exact ⟨_, rfl, hu4, hq⟩
end M3
end Go.Proofs.YteldjhhjnchdeaaGreatDoor
namespace Go.Proofs.YteldjhhjnchdeaaGreatDoor
open Go.RowKit Go.Shelf

/-! Rows of parts that are appended to. -/
theorem Tryz.infoPart : (Tryz.prog.info? 44).map (fun i => (i.zero, i.size, i.bytes)) = some (some (.agg #[.slice none 0 0, .int .i64 0]), 2, 32) := by kernel_rfl
theorem Tryz.infoRPart : (Tryz.prog.info? 46).map (fun i => (i.zero, i.size, i.bytes)) = some (some (.agg #[.slice none 0 0, .int .i64 0]), 2, 32) := by kernel_rfl
def tyP (r : Bool) : TypeId := match r with | true => 44 | false => 46
def tsP (r : Bool) : TypeId := match r with | true => 39 | false => 41
def zP : Array Value := #[.slice none 0 0, .int .i64 0]
theorem under_tsP (r : Bool) : Tryz.prog.underlying (tsP r) = some (.slice (tyP r)) := by
  cases r with
  | true => exact Tryz.underlying39
  | false => exact Tryz.underlying41
theorem info_tsP (r : Bool) : ∃ i, Tryz.prog.info? (tyP r) = some i ∧ i.zero = some (.agg zP) ∧ i.size = 2 ∧ i.bytes = 32 := by
  cases r with
  | true =>
    obtain ⟨i, h1, h2, h3, h4⟩ := info_parts Tryz.infoPart
    exact ⟨i, h1, h2, h3, h4⟩
  | false =>
    obtain ⟨i, h1, h2, h3, h4⟩ := info_parts Tryz.infoRPart
    exact ⟨i, h1, h2, h3, h4⟩
/-- No block turns but those of one type. -/
def FarP (r : Bool) (W W' : World) : Prop := ∀ B, B < W.heap.size → (∀ cs m, W.heap[B]? ≠ some (.cells cs (tyP r) m)) → W'.heap[B]? = W.heap[B]?
theorem FarP.at {r : Bool} {W W' : World} (h : FarP r W W') {B : Nat} {cs : Array Value} {t : TypeId} {m : Nat × Nat} (hb : W.heap[B]? = some (.cells cs t m)) (ht : t ≠ tyP r) : W'.heap[B]? = W.heap[B]? :=
  h B (Array.getElem?_eq_some_iff.1 hb).1 fun cs' m' e => by
    rw [hb] at e
    simp only [Option.some.injEq, Obj.cells.injEq] at e
    exact ht e.2.1
theorem tyI_tyP (k : IntKind) (r : Bool) : tyI k ≠ tyP r := by cases r <;> cases k <;> decide
theorem tyK_tyP (k : Bool) (r : Bool) : tyK k ≠ tyP r := by cases r <;> cases k <;> decide
theorem FarP.row {r : Bool} {W W' : World} (h : FarP r W W') {k : IntKind} {v : Value} {ds : List Nat} (hr : Row k W v ds) : Row k W' v ds := by
  obtain ⟨a, c, e, g1, g2, g3, g4⟩ := hr
  refine ⟨a, c, e, g1, g2, g3, ?_⟩
  rcases g4 with g4 | ⟨b, off, ea, hlt, hc⟩
  · exact Or.inl g4
  · obtain ⟨cs, m, hb⟩ := id hlt
    have h1 := h.at hb (tyI_tyP k r)
    refine Or.inr ⟨b, off, ea, hlt.of h1, fun j hj => ?_⟩
    rw [← hc j hj]
    simp only [World.cell?, h1]
theorem FarP.rowK {r : Bool} {W W' : World} (h : FarP r W W') {k : Bool} {v : Value} {qs : List Rat} (hr : RowK k W v qs) : RowK k W' v qs := by
  obtain ⟨a, cap, e, h1, h2, h3, h4⟩ := hr
  refine ⟨a, cap, e, h1, h2, h3, ?_⟩
  rcases h4 with h4 | ⟨b, ea, cs, hb, hc⟩
  · exact Or.inl h4
  · refine Or.inr ⟨b, ea, cs, (h.at hb (tyK_tyP k r)).trans hb, fun j hj => ?_⟩
    obtain ⟨x, y, z, u, e0, e1, e2, e3, h5⟩ := hc j hj
    exact ⟨x, y, z, u, e0, e1, e2, e3, h5.keep (fun _ _ _ g => h.row g)⟩
/-- The cells of so many parts. -/
def PtsR (r : Bool) (W : World) (cs : List Value) (L : List (List Rat × Nat)) : Prop :=
  cs.length = L.length * 2 ∧ ∀ j p t, L[j]? = some (p, t) → ∃ x, cs[j * 2]? = some x ∧ cs[j * 2 + 1]? = some (.int .i64 (t : Int)) ∧ RowK r W x p
theorem PtsR.keep {r : Bool} {W W' : World} {cs : List Value} {L : List (List Rat × Nat)} (h : PtsR r W cs L) (hk : ∀ v qs, RowK r W v qs → RowK r W' v qs) : PtsR r W' cs L := by
  refine ⟨h.1, fun j p t e => ?_⟩
  obtain ⟨x, h1, h2, h3⟩ := h.2 j p t e
  exact ⟨x, h1, h2, hk _ _ h3⟩
theorem PtsR.below {r : Bool} {W W' : World} {cs : List Value} {L : List (List Rat × Nat)} (h : PtsR r W cs L) (hb : Below W.heap.size W W') : PtsR r W' cs L := h.keep fun _ _ g => g.below hb
theorem PtsR.snoc {r : Bool} {W : World} {cs : List Value} {L : List (List Rat × Nat)} (h : PtsR r W cs L) {x : Value} {p : List Rat} {t : Nat} (hx : RowK r W x p) : PtsR r W (cs ++ [x, .int .i64 (t : Int)]) (L ++ [(p, t)]) := by
  refine ⟨by simp [h.1]; omega, fun j p' t' e => ?_⟩
  by_cases hj : j < L.length
  · rw [List.getElem?_append_left hj] at e
    obtain ⟨y, h1, h2, h3⟩ := h.2 j p' t' e
    exact ⟨y, by rw [List.getElem?_append_left (by have := h.1; omega)]; exact h1, by rw [List.getElem?_append_left (by have := h.1; omega)]; exact h2, h3⟩
  · rw [List.getElem?_append_right (by omega)] at e
    obtain ⟨d, hd⟩ : ∃ d, j - L.length = d := ⟨_, rfl⟩
    rw [hd] at e
    cases d with
    | succ d => simp at e
    | zero =>
      simp at e
      obtain ⟨rfl, rfl⟩ := e
      have hjj : j = L.length := by omega
      subst hjj
      refine ⟨x, ?_, ?_, hx⟩
      · rw [List.getElem?_append_right (by have := h.1; omega), h.1, Nat.sub_self]; rfl
      · rw [List.getElem?_append_right (by have := h.1; omega), h.1, show L.length * 2 + 1 - L.length * 2 = 1 by omega]; rfl
def OutP (r : Bool) (base : Nat) (W : World) (v : Value) (L : List (List Rat × Nat)) : Prop :=
  (v = .slice none 0 0 ∧ L = []) ∨ ∃ g cap cur, v = .slice (some ⟨g, 0, none⟩) L.length cap ∧ base ≤ g ∧ W.heap[g]? = some (.cells cur (tyP r) (0, 0)) ∧ L.length ≤ cap ∧ cap ≤ maxLen ∧ cur.size = cap * 2 ∧ PtsR r W (cur.toList.take (L.length * 2)) L
theorem OutP.nil (r : Bool) (base : Nat) (W : World) : OutP r base W (.slice none 0 0) [] := Or.inl ⟨rfl, rfl⟩
theorem OutP.below {r : Bool} {base : Nat} {W W' : World} {v : Value} {L : List (List Rat × Nat)} (h : OutP r base W v L) (hb : Below W.heap.size W W') : OutP r base W' v L := by
  rcases h with h | ⟨g, cap, cur, h1, h2, h3, h4, h5, h6, h7⟩
  · exact Or.inl h
  · exact Or.inr ⟨g, cap, cur, h1, h2, (hb.block g (Array.getElem?_eq_some_iff.1 h3).1).trans h3, h4, h5, h6, h7.below hb⟩
theorem OutP.form {r : Bool} {base : Nat} {W : World} {v : Value} {L : List (List Rat × Nat)} (h : OutP r base W v L) : ∃ a c, v = .slice a L.length c ∧ L.length ≤ c ∧ c ≤ maxLen := by
  rcases h with ⟨rfl, rfl⟩ | ⟨g, cap, cur, rfl, _, _, h4, h5, _⟩
  · exact ⟨none, 0, rfl, by simp, by unfold maxLen; omega⟩
  · exact ⟨_, cap, rfl, h4, h5⟩
/-- A store into a block of another type. -/
theorem OutP.set {r : Bool} {base : Nat} {W : World} {v : Value} {L : List (List Rat × Nat)} (h : OutP r base W v L) {B : Nat} {a : Option Addr} {l c : Nat} (b : Boxed W B 25 (.slice a l c)) {u : Value} (hk : ∀ v qs, RowK r W v qs → RowK r (W.setCell ⟨B, 0, none⟩ u) v qs) : OutP r base (W.setCell ⟨B, 0, none⟩ u) v L := by
  rcases h with h | ⟨g, cap, cur, h1, h2, h3, h4, h5, h6, h7⟩
  · exact Or.inl h
  · have hne : g ≠ B := fun e => by
      subst e
      have hb : W.heap[g]? = some (.cells #[.slice a l c] 25 (0, 0)) := b
      rw [hb] at h3
      simp only [Option.some.injEq, Obj.cells.injEq] at h3
      have := h3.2.1
      revert this
      cases r <;> decide
    exact Or.inr ⟨g, cap, cur, h1, h2, (Below.heap_setCell W ⟨B, 0, none⟩ u g hne).trans h3, h4, h5, h6, h7.keep hk⟩

/-- One more is appended. -/
theorem outp_append (r : Bool) (base : Nat) (W : World) (v : Value) (L : List (List Rat × Nat)) (h : OutP r base W v L) {a : Option Addr} {l c : Nat} {p : List Rat} {t : Nat} (hx : RowK r W (.slice a l c) p) (hl : L.length + 1 ≤ 1099511627776) (hbase : base ≤ W.heap.size) :
    ∃ v' w', (Builtin.append_ #[tsP r, tsP r] (tsP r) #[v, .slice (some ⟨W.heap.size, 0, none⟩) 1 1]).run Tryz.prog (W.alloc (.cells #[.slice a l c, .int .i64 (t : Int)] (tyP r))) = .ok v' w' ∧ OutP r base w' v' (L ++ [(p, t)]) ∧ FarP r W w' ∧ (∀ n w0, n ≤ base → Below n w0 W → Below n w0 w') ∧ W.heap.size ≤ w'.heap.size := by
  obtain ⟨i, hi, hz, hsz, hby⟩ := info_tsP r
  have ht := under_tsP r
  have hal : Below W.heap.size W (W.alloc (.cells #[.slice a l c, .int .i64 (t : Int)] (tyP r))) := (Below.refl _ W).alloc (Nat.le_refl _) _
  obtain ⟨W1, hW1⟩ : ∃ W1, W.alloc (.cells #[.slice a l c, .int .i64 (t : Int)] (tyP r)) = W1 := ⟨_, rfl⟩
  have hnew : W1.heap[W.heap.size]? = some (.cells #[.slice a l c, .int .i64 (t : Int)] (tyP r) (0, 0)) := by rw [← hW1]; exact World.alloc_heap_new W _
  rw [hW1] at hal ⊢
  have hx1 := hx.below hal
  have hnews : ∀ j c', [Value.slice a l c, .int .i64 (t : Int)][j]? = some c' → W1.cell? ((⟨W.heap.size, 0, none⟩ : Addr).add j) = some c' := fun j c' hc => by
    rw [addr_plain, Nat.zero_add]
    exact cell_of hnew (by simpa using hc)
  have hone : ∀ c' ∈ [Value.slice a l c, .int .i64 (t : Int)], c'.oneCell' = true := fun c' hc => by
    simp at hc
    rcases hc with rfl | rfl <;> rfl
  have hz1 : (Value.agg zP).cells = zP := rfl
  have hzs : zP.size = 2 := rfl
  have grown : ∀ (cs : List Value) (old : Nat) (m : Nat), m = L.length + 1 → PtsR r W1 (cs ++ [.slice a l c, .int .i64 (t : Int)]) (L ++ [(p, t)]) → cs.length = L.length * 2 →
      OutP r base (W1.drew.alloc (.cells (cs.toArray ++ [Value.slice a l c, .int .i64 (t : Int)].toArray ++ Builtin.zeroCells zP (grownCap W1 m old (tyP r) - m)) (tyP r))) (.slice (some ⟨W1.heap.size, 0, none⟩) m (grownCap W1 m old (tyP r))) (L ++ [(p, t)]) := by
    intro cs old m hm hc hlc
    subst hm
    have hge := grownCap_ge W1 (L.length + 1) old (tyP r)
    have hle := grownCap_le_maxLen W1 (L.length + 1) old (tyP r) (by unfold maxLen; omega)
    have hbd : Below W1.heap.size W1 (W1.drew.alloc (.cells (cs.toArray ++ [Value.slice a l c, .int .i64 (t : Int)].toArray ++ Builtin.zeroCells zP (grownCap W1 (L.length + 1) old (tyP r) - (L.length + 1))) (tyP r))) := ((Below.refl _ W1).drew).alloc (Nat.le_refl _) _
    refine Or.inr ⟨W1.heap.size, _, _, by rw [List.length_append]; rfl, Nat.le_trans hbase hal.size, World.alloc_heap_new W1.drew _, by rw [List.length_append]; exact hge, hle, ?_, ?_⟩
    · simp only [Array.size_append, List.size_toArray, size_zeroCells, hzs, hlc, List.length_cons, List.length_nil]
      omega
    · have e : (cs.toArray ++ [Value.slice a l c, .int .i64 (t : Int)].toArray ++ Builtin.zeroCells zP (grownCap W1 (L.length + 1) old (tyP r) - (L.length + 1))).toList.take ((L ++ [(p, t)]).length * 2) = cs ++ [.slice a l c, .int .i64 (t : Int)] := by
        simp only [Array.toList_append]
        have hll : (L ++ [(p, t)]).length * 2 = (cs ++ [Value.slice a l c, .int .i64 (t : Int)]).length := by simp; omega
        rw [hll]
        exact List.take_left
      rw [e]
      exact hc.below hbd
  have fin : ∀ o, FarP r W (W1.drew.alloc o) ∧ (∀ n w0, n ≤ base → Below n w0 W → Below n w0 (W1.drew.alloc o)) ∧ W.heap.size ≤ (W1.drew.alloc o).heap.size := fun o => by
    have hb2 : Below W.heap.size W (W1.drew.alloc o) := (hal.drew).alloc (by exact hal.size) _
    exact ⟨fun B hB _ => hb2.block B hB, fun n w0 hn hb => hb.trans (hb2.mono (Nat.le_trans hn hbase)), hb2.size⟩
  rcases h with ⟨rfl, rfl⟩ | ⟨g, cap, cur, rfl, h2, h3, h4, h5, h6, h7⟩
  · have hr := run_append_nil (P := Tryz.prog) W1 (tsP r) (tsP r) (tyP r) i _ ht hi hz ⟨W.heap.size, 0, none⟩ 1 1 [.slice a l c, .int .i64 (t : Int)] (by rw [hsz]; rfl) hnews (by omega) (by omega) (by rw [hby]; omega)
    rw [hz1] at hr
    refine ⟨_, _, hr, ?_, fin _⟩
    have := grown [] 0 1 rfl (by rw [List.nil_append]; exact PtsR.snoc (cs := []) (L := []) ⟨rfl, fun j p t e => by simp at e⟩ hx1) rfl
    simpa using this
  · have h3' : W1.heap[g]? = some (.cells cur (tyP r) (0, 0)) := (hal.block g (Array.getElem?_eq_some_iff.1 h3).1).trans h3
    have hlc : (cur.toList.take (L.length * 2)).length = L.length * 2 := by rw [List.length_take]; have h0 : cur.toList.length = cur.size := Array.length_toList; omega
    have hsn := (h7.below hal).snoc (t := t) hx1
    by_cases hroom : L.length + 1 ≤ cap
    · have hr := run_append_room (P := Tryz.prog) W1 (tsP r) (tsP r) (tyP r) i ht hi g L.length cap cur h3' ⟨W.heap.size, 0, none⟩ 1 1 [.slice a l c, .int .i64 (t : Int)] (by rw [hsz]; rfl) hnews hone hroom (by rw [hsz]; simp; omega)
      rw [hsz] at hr
      obtain ⟨cs2, hcs2⟩ : ∃ cs2, (cur.toList.take (L.length * 2) ++ [Value.slice a l c, .int .i64 (t : Int)] ++ cur.toList.drop (L.length * 2 + [Value.slice a l c, .int .i64 (t : Int)].length)).toArray = cs2 := ⟨_, rfl⟩
      rw [hcs2] at hr
      have hgo := setRow_heap W1 g cur cs2 (tyP r) (0, 0) h3'
      have hfar1 : FarP r W1 (W1.setRow g cs2) := fun B hB hn => setRow_other W1 g B cs2 fun e => hn cur (0, 0) (by rw [e]; exact h3')
      have hsz1 : W1.heap.size ≤ (W1.setRow g cs2).heap.size := (below_setRow (B := 0) (Below.refl _ W1) (Nat.zero_le _) cs2).size
      refine ⟨_, _, hr, ?_, fun B hB hn => ?_, fun n w0 hn hb => below_setRow (hb.trans (hal.mono (Nat.le_trans hn hbase))) (Nat.le_trans hn h2) cs2, Nat.le_trans hal.size hsz1⟩
      · refine Or.inr ⟨g, cap, cs2, by rw [List.length_append]; rfl, h2, hgo, by rw [List.length_append]; exact hroom, h5, ?_, ?_⟩
        · rw [← hcs2]
          simp only [List.size_toArray, List.length_append, List.length_drop, hlc, List.length_cons, List.length_nil]
          have h0 : cur.toList.length = cur.size := Array.length_toList
          omega
        · have e : cs2.toList.take ((L ++ [(p, t)]).length * 2) = cur.toList.take (L.length * 2) ++ [.slice a l c, .int .i64 (t : Int)] := by
            rw [← hcs2]
            have hll : (L ++ [(p, t)]).length * 2 = (cur.toList.take (L.length * 2) ++ [Value.slice a l c, .int .i64 (t : Int)]).length := by simp [hlc]; omega
            rw [hll]
            exact List.take_left
          rw [e]
          exact hsn.keep fun _ _ g => hfar1.rowK g
      · have hne : B ≠ g := fun e => hn cur (0, 0) (by rw [e]; exact h3)
        exact (setRow_other W1 g B cs2 hne).trans (hal.block B hB)
    · have holds : ∀ j c', (cur.toList.take (L.length * 2))[j]? = some c' → W1.cell? ((⟨g, 0, none⟩ : Addr).add j) = some c' := fun j c' hc => by
        rw [addr_plain, Nat.zero_add]
        rw [List.getElem?_take] at hc
        split at hc
        · rw [Array.getElem?_toList] at hc
          exact cell_of h3' hc
        · cases hc
      have hr := run_append_grow (P := Tryz.prog) W1 (tsP r) (tsP r) (tyP r) i _ ht hi hz ⟨g, 0, none⟩ L.length cap (cur.toList.take (L.length * 2)) (by rw [hsz]; exact hlc) holds ⟨W.heap.size, 0, none⟩ 1 1 [.slice a l c, .int .i64 (t : Int)] (by rw [hsz]; rfl) hnews (by omega) (by omega) (by rw [hby]; exact growslice_fits (by omega) (by omega))
      rw [hz1] at hr
      exact ⟨_, _, hr, grown _ cap _ rfl hsn hlc, fin _⟩
namespace M3
/-- Boxes stand where a row of parts is appended to. -/
theorem Mem.farP {w W W' : World} {bs : List (Option (Nat × Dat))} {r : Bool} (M : Mem w W bs) (hf : FarP r W W') (hb : Below w.heap.size w W') (ht : ∀ (i : Nat) B d, bs[i]? = some (some (B, d)) → d.ty ≠ tyP r) : Mem w W' bs := by
  refine ⟨fun i B d h => ?_, M.2.1, hb⟩
  obtain ⟨⟨cs, h1, h2⟩, hw⟩ := M.1 i B d h
  exact ⟨⟨cs, (hf.at h1 (ht i B d h)).trans h1, h2.keep (fun _ _ _ g => hf.row g) (Or.inr fun _ _ g => hf.rowK g)⟩, hw⟩
end M3
end Go.Proofs.YteldjhhjnchdeaaGreatDoor
