import Derived.Test.YtcahejkcdcjjgaaGreatDoorK44
import Derived.Test.YtcahejkcdcjjgaaGreatDoorK43
import Derived.Test.YtcahejkcdcjjgaaGreatDoorK09
namespace Go.Proofs.YtcahejkcdcjjgaaGreatDoor.M3
open Go.RowKit Go.Shelf

attribute [local go_sem] Oper.semAt_some

def FwI (w V : World) (B5 B6 BX : Nat) (rs ql : Value) (R : List Rat) : Prop :=
  Boxed V (w.heap.size + 1 + 1) 25 (.slice none 0 0) ∧ Boxed V (w.heap.size + 1 + 1 + 1) 25 (.slice none 0 0) ∧ Boxed V B5 23 rs ∧ Boxed V B6 23 ql ∧ Boxed V BX 23 ql ∧ RowK true V rs R ∧ Below w.heap.size w V
theorem FwI.below {w V V' : World} {B5 B6 BX : Nat} {rs ql : Value} {R : List Rat} (h : FwI w V B5 B6 BX rs ql R) (hb : Below V.heap.size V V') : FwI w V' B5 B6 BX rs ql R :=
  ⟨boxed_below h.1 hb, boxed_below h.2.1 hb, boxed_below h.2.2.1 hb, boxed_below h.2.2.2.1 hb, boxed_below h.2.2.2.2.1 hb, h.2.2.2.2.2.1.below hb, h.2.2.2.2.2.2.trans (hb.mono h.2.2.2.2.2.2.size)⟩
theorem boxed_own {V V' : World} {row : Option Nat} (hg : V.grownBy V' row) (hr : ∀ r, row = some r → ∃ o : Obj, V.heap[r]? = some o ∧ o.isCells = false) {B : Nat} {t : TypeId} {v : Value} (h : Boxed V B t v) : Boxed V' B t v := block_own hg hr (show Bx V B t #[v] from h)
theorem FwI.own {w V V' : World} {B5 B6 BX : Nat} {rs ql : Value} {R : List Rat} {row : Option Nat} (h : FwI w V B5 B6 BX rs ql R) (hg : V.grownBy V' row) (hr : ∀ x, row = some x → w.heap.size ≤ x ∧ ∃ o : Obj, V.heap[x]? = some o ∧ o.isCells = false) : FwI w V' B5 B6 BX rs ql R := by
  have hr2 : ∀ r, row = some r → ∃ o : Obj, V.heap[r]? = some o ∧ o.isCells = false := fun r e => (hr r e).2
  exact ⟨boxed_own hg hr2 h.1, boxed_own hg hr2 h.2.1, boxed_own hg hr2 h.2.2.1, boxed_own hg hr2 h.2.2.2.1, boxed_own hg hr2 h.2.2.2.2.1, rowK_own hg hr2 h.2.2.2.2.2.1, h.2.2.2.2.2.2.grown hg h.2.2.2.2.2.2.size (fun k e => (hr k e).1)⟩
theorem row_zero (V : World) (a : Option Addr) : RowK true V (.slice a 0 0) [] := ⟨a, 0, rfl, Nat.le_refl _, by omega, by simp, Or.inl rfl⟩

set_option maxRecDepth 100000 in
set_option maxHeartbeats 8000000 in
theorem ySplit_nil (va : Value) (ps : List Rat) (vb : Value) (w : World) (ha : IsPoly w va ps) (hb : IsPoly w vb []) :
    Calls Tryz.prog 29 #[va, vb] w fun e w' => e = .returned (.tuple #[.agg #[.slice none 0 0], .agg #[.slice none 0 0], .bool false]) ∧ Below w.heap.size w w' := by
  obtain ⟨pa, la, pc, rfl⟩ := ha.form
  obtain ⟨qa, lb, qc, rfl⟩ := hb.form
  have M0 : Mem w _ _ := ((((Mem.nil w).push (.cell 25 (.slice pa la pc)) (cs := #[.slice pa la pc]) ⟨rfl, rfl⟩).push (.cell 25 (.slice qa lb qc)) (cs := #[.slice qa lb qc]) ⟨rfl, rfl⟩).push (.cell 25 (.slice none 0 0)) (cs := #[.slice none 0 0]) ⟨rfl, rfl⟩).push (.cell 25 (.slice none 0 0)) (cs := #[.slice none 0 0]) ⟨rfl, rfl⟩
  simp only [World.size_alloc] at M0
  obtain ⟨V0, hV0⟩ : ∃ V, (((w.alloc (.cells #[.slice pa la pc] 25)).alloc (.cells #[.slice qa lb qc] 25)).alloc (.cells #[.slice none 0 0] 25)).alloc (.cells #[.slice none 0 0] 25) = V := ⟨_, rfl⟩
  have M1 : Mem w V0 [some (w.heap.size, .cell 25 (.slice pa la pc)), some (w.heap.size + 1, .cell 25 (.slice qa lb qc)), some (w.heap.size + 1 + 1, .cell 25 (.slice none 0 0)), some (w.heap.size + 1 + 1 + 1, .cell 25 (.slice none 0 0))] := by rw [← hV0]; exact M0
  have HDG := hidD (show Calls Tryz.prog 15 #[.agg #[.slice qa lb qc]] V0 fun e w' => e = .returned (.int .i64 (-1)) ∧ Below V0.heap.size V0 w' from yDegree_c (.agg #[.slice qa lb qc]) [] V0 (hb.below M1.2.2))
  have HM1 := hidD M1
  have HV0 := hidD hV0
  clear ha hb M0 M1 hV0
  go_enter Tryz.func29, Tryz.ntmps29
  go_upto_region 1 with fail
  rw [HV0.out]
  have c1 := (HM1.out.cell (i := 1) rfl).1.cell
  go_wp2_with (go_at_call 15; refine HDG.out.mono ?_; clear HDG; rintro e w1 ⟨rfl, hb1⟩; have hA1 : Below w1.heap.size w1 (w1.alloc (.cells #[.int .i64 (-1)] 3)) := (Below.refl _ w1).alloc (Nat.le_refl _) _; have hM2 := (HM1.out.below hb1).below hA1; have e2 := (hM2.cell (i := 2) rfl).1.cell; have f2 := (hM2.cell (i := 2) rfl).1.frozen; have e3 := (hM2.cell (i := 3) rfl).1.cell; have f3 := (hM2.cell (i := 3) rfl).1.frozen; have HB := hidD hM2.2.2; clear hA1 hM2 hb1)
  refine bodyPost_ret (v := .tuple #[.agg #[.slice none 0 0], .agg #[.slice none 0 0], .bool false]) (by simp [results, Tryz.results29, go_sem, e2, e3]) rfl ⟨rfl, ?_⟩
  exact ((HB.out.setCell (p := ⟨w.heap.size + 1 + 1, 0, none⟩) (by show w.heap.size ≤ w.heap.size + 1 + 1; omega) _).setCell (p := ⟨w.heap.size + 1 + 1 + 1, 0, none⟩) (by show w.heap.size ≤ w.heap.size + 1 + 1 + 1; omega) _)

set_option maxRecDepth 100000 in
set_option maxHeartbeats 16000000 in
theorem ySplit_few (pa qa : Option Addr) (la pc lb qc n : Nat) (ps qs : List Rat) (w : World) (ha : RowK true w (.slice pa la pc) ps) (hb : RowK true w (.slice qa lb qc) qs) (hs : Sqs ps) (htp : trimQ ps = ps) (hn : lb = n + 1) (hm : la ≤ n) :
    Calls Tryz.prog 29 #[.agg #[.slice pa la pc], .agg #[.slice qa lb qc]] w fun e w' => ∃ u v, e = .returned (.tuple #[u, v, .bool true]) ∧ IsPoly w' u [] ∧ IsPoly w' v ps ∧ Below w.heap.size w w' := by
  have hmx : Tryz.prog.follows .mixedOrders = true := by kernel_rfl
  obtain ⟨hla, hca, hcma, hlma, _⟩ := ha.forms
  obtain ⟨hlb, hcb, hcmb, hlmb, _⟩ := hb.forms
  have M0 : Mem w _ _ := ((((Mem.nil w).push (.cell 25 (.slice pa la pc)) (cs := #[.slice pa la pc]) ⟨rfl, rfl⟩).push (.cell 25 (.slice qa lb qc)) (cs := #[.slice qa lb qc]) ⟨rfl, rfl⟩).push (.cell 25 (.slice none 0 0)) (cs := #[.slice none 0 0]) ⟨rfl, rfl⟩).push (.cell 25 (.slice none 0 0)) (cs := #[.slice none 0 0]) ⟨rfl, rfl⟩
  simp only [World.size_alloc] at M0
  obtain ⟨V0, hV0⟩ : ∃ V, (((w.alloc (.cells #[.slice pa la pc] 25)).alloc (.cells #[.slice qa lb qc] 25)).alloc (.cells #[.slice none 0 0] 25)).alloc (.cells #[.slice none 0 0] 25) = V := ⟨_, rfl⟩
  have M1 : Mem w V0 [some (w.heap.size, .cell 25 (.slice pa la pc)), some (w.heap.size + 1, .cell 25 (.slice qa lb qc)), some (w.heap.size + 1 + 1, .cell 25 (.slice none 0 0)), some (w.heap.size + 1 + 1 + 1, .cell 25 (.slice none 0 0))] := by rw [← hV0]; exact M0
  have HM1 := hidD M1
  have HDG := hidD (show Calls Tryz.prog 15 #[.agg #[.slice qa lb qc]] V0 fun e w' => e = .returned (.int .i64 (n : Int)) ∧ Below V0.heap.size V0 w' by
    have h := yDegree_c (.agg #[.slice qa lb qc]) qs V0 ⟨_, rfl, hb.below M1.2.2⟩
    rwa [show ((qs.length : Int) - 1) = (n : Int) by omega] at h)
  have HCL := hidD (fun (V : World) (h : Below w.heap.size w V) => oclone2_c (.slice pa la pc) ps V (ha.below h))
  have hmk : ∀ W : World, (Instr.makeSlice 23 (.int .i64 0) (.int .i64 0)).run Tryz.prog W = .ok (.slice (some ⟨W.heap.size, 0, none⟩) 0 0) (W.alloc (.cells (zeroQ 0) 38)) := fun W => make_rats 0 (by omega) W
  obtain ⟨x, hx⟩ : ∃ x : Int, (la : Int) - (n : Int) = x := ⟨_, rfl⟩
  have hwm : IntKind.i64.wrap x = x := by rw [IntKind.wrap_i64]; omega
  have hmax : max (0 : Int) x = 0 := by omega
  have hnn : ¬ (n : Int) < 0 := by omega
  have HSP := hidD hs
  have HTP := hidD htp
  have HLA := hidD hla
  have HV0 := hidD hV0
  clear ha hb hla hlb hca hcma hcb hcmb hs htp hn hm M0 M1 hV0
  have c1 := (HM1.out.cell (i := 1) rfl).1.cell
  refine (callsIn_wide (n := 3)).1 ?_
  refine callsIn_of_wp_marks Tryz.func29 rfl trivial ?_ rfl
  simp only [Tryz.ntmps29, List.size_toArray, List.length_cons, List.length_nil, Nat.reduceAdd, Nat.reduceSub, Array.replicate_succ, Array.replicate_zero, List.push_toArray, List.append_toArray, List.nil_append, List.cons_append]
  gi_wp2_with fail
  rw [HV0.out]
  refine ⟨trivial, ?_⟩
  refine ((callsIn_wide (n := _)).2 HDG.out).mono ?_
  rintro e w1 ⟨rfl, hb1⟩
  have hA1 : Below w1.heap.size w1 (w1.alloc (.cells #[.int .i64 (n : Int)] 3)) := (Below.refl _ w1).alloc (Nat.le_refl _) _
  have hM2 := (HM1.out.below hb1).below hA1
  have h4 := Boxed.new w1 3 (.int .i64 (n : Int))
  have c0 := (hM2.cell (i := 0) rfl).1.cell
  have HCL1 := hidD (HCL.out _ hM2.2.2)
  have HM2 := hidD hM2
  have H4 := hidD h4
  clear hA1 hM2 h4 hb1 HDG c1 HV0 HM1 HCL
  gi_wp2_with fail
  obtain ⟨V1, hV1⟩ : ∃ V, w1.alloc (.cells #[.int .i64 (n : Int)] 3) = V := ⟨_, rfl⟩
  obtain ⟨B4, hB4⟩ : ∃ B, w1.heap.size = B := ⟨_, rfl⟩
  rw [hV1] at HCL1 HM2 H4 c0
  rw [hB4] at H4
  rw [hV1, hB4]
  clear hV1 hB4
  refine ⟨trivial, ?_⟩
  refine ((callsIn_wide (n := _)).2 HCL1.out).mono ?_
  rintro e w2 ⟨u2, rfl, hu2, _, hb2, _⟩
  obtain ⟨ra, rc, e9, _⟩ := id hu2
  rw [← HLA.out] at e9
  subst e9
  have hM3 := HM2.out.below hb2
  have h4 : Boxed w2 B4 3 (.int .i64 (n : Int)) := (hb2.block B4 H4.out.lt).trans H4.out
  have hA2 : Below w2.heap.size w2 (w2.alloc (.cells #[.slice ra la rc] 23)) := (Below.refl _ w2).alloc (Nat.le_refl _) _
  have hM4 := hM3.push (.cell 23 (.slice ra la rc)) (cs := #[.slice ra la rc]) ⟨rfl, rfl⟩
  have h5 : Boxed (w2.alloc (.cells #[.slice ra la rc] 23)) B4 3 (.int .i64 (n : Int)) := (hA2.block B4 h4.lt).trans h4
  have c4 := h5.cell
  have HM4 := hidD hM4
  have HU2 := hidD (hu2.below hA2)
  clear hu2 hb2 hM3 h4 hA2 hM4 h5 HM2 H4 HCL1 c0
  gi_wp2_with fail
  refine ⟨trivial, ?_⟩
  refine (obwd_in Fence.wide _ trivial rfl _ _ _ _).mono ?_
  rintro e w3 ⟨rfl, rfl⟩
  have hM5 := ((HM4.out.push (.rats (List.replicate 0 0)) (has_zeros _ 0)).push (.cell 23 (.slice (some ⟨w2.heap.size + 1, 0, none⟩) 0 0)) (cs := #[.slice (some ⟨w2.heap.size + 1, 0, none⟩) 0 0]) ⟨rfl, rfl⟩).push (.cell 23 (.slice (some ⟨w2.heap.size + 1, 0, none⟩) 0 0)) (cs := #[.slice (some ⟨w2.heap.size + 1, 0, none⟩) 0 0]) ⟨rfl, rfl⟩
  simp only [World.size_alloc] at hM5
  have hAA : Below (w2.alloc (.cells #[.slice ra la rc] 23)).heap.size (w2.alloc (.cells #[.slice ra la rc] 23)) ((((w2.alloc (.cells #[.slice ra la rc] 23)).alloc (.cells (zeroQ 0) 38)).alloc (.cells #[.slice (some ⟨w2.heap.size + 1, 0, none⟩) 0 0] 23)).alloc (.cells #[.slice (some ⟨w2.heap.size + 1, 0, none⟩) 0 0] 23)) :=
    (((Below.refl _ _).alloc (Nat.le_refl _) _).alloc (by simp only [World.size_alloc]; omega) _).alloc (by simp only [World.size_alloc]; omega) _
  have hF : FwI w ((((w2.alloc (.cells #[.slice ra la rc] 23)).alloc (.cells (zeroQ 0) 38)).alloc (.cells #[.slice (some ⟨w2.heap.size + 1, 0, none⟩) 0 0] 23)).alloc (.cells #[.slice (some ⟨w2.heap.size + 1, 0, none⟩) 0 0] 23)) w2.heap.size (w2.heap.size + 1 + 1) (w2.heap.size + 1 + 1 + 1) (.slice ra la rc) (.slice (some ⟨w2.heap.size + 1, 0, none⟩) 0 0) ps :=
    ⟨(hM5.cell (i := 2) rfl).1, (hM5.cell (i := 3) rfl).1, (hM5.cell (i := 4) rfl).1, (hM5.cell (i := 6) rfl).1, (hM5.cell (i := 7) rfl).1, HU2.out.below hAA, hM5.2.2⟩
  obtain ⟨W3, hW3⟩ : ∃ W, (((w2.alloc (.cells #[.slice ra la rc] 23)).alloc (.cells (zeroQ 0) 38)).alloc (.cells #[.slice (some ⟨w2.heap.size + 1, 0, none⟩) 0 0] 23)).alloc (.cells #[.slice (some ⟨w2.heap.size + 1, 0, none⟩) 0 0] 23) = W := ⟨_, rfl⟩
  rw [hW3] at hF
  rw [hW3]
  simp only [World.size_alloc]
  obtain ⟨B5, hB5⟩ : ∃ B, w2.heap.size = B := ⟨_, rfl⟩
  rw [hB5] at hF
  rw [hB5]
  have HF := hidD hF
  clear hM5 hAA hF hW3 hB5 HM4 HU2 c4
  gi_wp2_with fail
  have HBW := hidD (show w.heap.size ≤ W3.heap.size from HF.out.2.2.2.2.2.2.size)
  refine wpIn_rangeN rfl (by omega) (gf := 94) (lb := #[.pointer (some ⟨B5 + 1 + 1 + 1, 0, none⟩)]) rfl trivial (enters_of Tryz.func94 (by kernel_rfl) rfl)
    (obwd1_seq Fence.wide _ trivial rfl (by omega) (B5 + 1 + 1 + 1) (some ⟨B5 + 1, 0, none⟩) 0 0 (fun _ => .bool false) (fun _ => .slice none 0 0) (fun _ => .bool false) (fun _ => .slice none 0 0) (by omega)) (fun _ => rfl)
    (fun _ W => FwI w W B5 (B5 + 1 + 1) (B5 + 1 + 1 + 1) (.slice ra la rc) (.slice (some ⟨B5 + 1, 0, none⟩) 0 0) ps) (fun _ _ _ => False)
    (fun k W W' row h hg hr => h.own hg (fun r e => ⟨Nat.le_trans HBW.out (hr r e).1, (hr r e).2⟩))
    (fun c s W W' row h => h.elim) HF.out ?rd
    (fun k => { tmps := #[Value.agg #[Value.slice pa la pc], Value.agg #[Value.slice qa lb qc], Value.pointer (some { block := w.heap.size, off := 0 }), Value.pointer (some { block := w.heap.size + 1, off := 0 }), Value.pointer (some { block := w.heap.size + 1 + 1, off := 0 }), Value.pointer (some { block := w.heap.size + 1 + 1 + 1, off := 0 }), Value.bool false, Value.pointer (some { block := B4, off := 0 }), Value.pointer (some { block := B5, off := 0 }), Value.pointer (some { block := B5 + 1 + 1, off := 0 }), .int .i64 (((0 : Nat) : Int) - 1 - k), undef, undef, undef, undef, Value.agg #[Value.slice qa lb qc], Value.int IntKind.i64 ↑n, Value.int IntKind.i64 ↑n, Value.bool (decide ((n : Int) < 0)), undef, undef, Value.pointer (some { block := w.heap.size, off := 0 }), Value.slice pa la pc, Value.slice ra la rc, Value.slice ra la rc, Value.int IntKind.i64 ↑la, Value.int IntKind.i64 ↑n, Value.int IntKind.i64 x, Value.int IntKind.i64 0, Value.slice (some { block := B5 + 1, off := 0 }) 0 0, Value.slice (some { block := B5 + 1, off := 0 }) 0 0, Value.func (Fn.func 94) #[] #[Value.pointer (some { block := B5 + 1 + 1 + 1, off := 0 })], .int .i64 (((0 : Nat) : Int) - 1 - k), Value.agg #[.bool false, .slice none 0 0, .bool false, .slice none 0 0], undef, undef, undef, undef, undef, undef, undef, undef, undef, undef, undef, undef, undef, undef, undef, undef, undef, undef, undef, undef, undef, undef, undef, undef, undef, undef, undef, undef, undef, undef, undef, undef, undef, undef, undef, undef, undef, undef, undef, undef, undef, undef, undef, undef, undef, undef, undef], defers := [] }) ?assign ?body ?done ?stop
  case stop => intro D c k W _ _ h; exact h.elim
  case rd =>
    intro k W h
    exact ⟨h.2.2.2.2.1.cell, fun hk => by omega⟩
  case assign =>
    intro l k W K hK
    unfold bwqArgs
    gi_wp2
    exact hK
  case body => intro l k W hS hk; omega
  case done =>
    intro DC W hD hS hK
    have ST0 : DnS w W.drew DC B5 (B5 + 1 + 1) (.slice ra la rc) (.slice (some ⟨B5 + 1, 0, none⟩) 0 0) ps [] :=
      DnS.below ⟨hS.1, hS.2.1, hS.2.2.1, hS.2.2.2.1, hS.2.2.2.2.2.1, row_zero _ _, hS.2.2.2.2.2.2, hK⟩ ((Below.refl _ W).drew)
    have ST1 : Dn4 false w W.drew DC undef := fun e => by cases e
    have HB3 := hidD (show w.heap.size ≤ DC by have := HBW.out; omega)
    have HSE := hidD (show Sqs [] from Sqs.of fun i => Sq.of (k := 1) (by rw [cf_nil]; exact SmQ.zero 1 (by omega)) (by omega))
    clear hS hK HF
    gi_wp2_with fail
    refine wpIn_region_tab hmx [[], [0], [], [2, 1], [1, 3, 0, 1], [3, 4, 0, 1, 2, 3, 4], [5, 0, 1, 2, 3, 4, 5]] (by kernel_rfl) (by decide)
      (fun D act V => ∃ (t77x t78x t79x t80x t6x : Value), act = { tmps := #[Value.agg #[Value.slice pa la pc], Value.agg #[Value.slice qa lb qc], Value.pointer (some { block := w.heap.size, off := 0 }), Value.pointer (some { block := w.heap.size + 1, off := 0 }), Value.pointer (some { block := w.heap.size + 1 + 1, off := 0 }), Value.pointer (some { block := w.heap.size + 1 + 1 + 1, off := 0 }), t6x, Value.pointer (some { block := B4, off := 0 }), Value.pointer (some { block := B5, off := 0 }), Value.pointer (some { block := B5 + 1 + 1, off := 0 }), undef, undef, undef, undef, undef, Value.agg #[Value.slice qa lb qc], Value.int IntKind.i64 ↑n, Value.int IntKind.i64 ↑n, Value.bool (decide ((n : Int) < 0)), undef, undef, Value.pointer (some { block := w.heap.size, off := 0 }), Value.slice pa la pc, Value.slice ra la rc, Value.slice ra la rc, Value.int IntKind.i64 ↑la, Value.int IntKind.i64 ↑n, Value.int IntKind.i64 x, Value.int IntKind.i64 0, Value.slice (some { block := B5 + 1, off := 0 }) 0 0, Value.slice (some { block := B5 + 1, off := 0 }) 0 0, Value.func (Fn.func 94) #[] #[Value.pointer (some { block := B5 + 1 + 1 + 1, off := 0 })], undef, undef, undef, undef, undef, undef, undef, undef, undef, undef, undef, undef, undef, undef, undef, undef, undef, undef, undef, undef, undef, undef, undef, undef, undef, undef, undef, undef, undef, undef, undef, undef, undef, undef, undef, undef, undef, undef, undef, undef, undef, undef, undef, undef, undef, t77x, t78x, t79x, t80x], defers := { target := .collected DC, args := #[] } :: [] } ∧ Hid ((D 0 = true → t77x = .slice (some ⟨B5 + 1, 0, none⟩) 0 0) ∧ (D 1 = true → D 5 = false → IsPoly V t78x (trimQ [])) ∧ (D 2 = true → t79x = .slice ra la rc) ∧ (D 3 = true → D 5 = false → IsPoly V t80x (trimQ ps)) ∧ (D 6 = true → t6x = .bool true)) ∧ Hid ((D 4 = false → DnS w V DC B5 (B5 + 1 + 1) (.slice ra la rc) (.slice (some ⟨B5 + 1, 0, none⟩) 0 0) ps []) ∧ (D 4 = true → Tr0 V)) ∧ Hid ((D 5 = false → Dn4 (D 4) w V DC t78x) ∧ (D 5 = true → Dn5 w V DC t78x t80x (trimQ []) (trimQ ps))))
      ⟨_, _, _, _, _, rfl, hidD ⟨by simp, by simp, by simp, by simp, by simp⟩, hidD ⟨fun _ => ST0, by simp⟩, hidD ⟨fun _ => ST1, by simp⟩⟩ ?step1 ?fin1
    case step1 =>
      rintro D act V i ds hcl hi hds hDi ⟨t77x, t78x, t79x, t80x, t6x, rfl, GG, SS0, SS1⟩
      have hi6 : i < 7 := (List.getElem?_eq_some_iff.1 hi).1
      obtain rfl | rfl | rfl | rfl | rfl | rfl | rfl : i = 0 ∨ i = 1 ∨ i = 2 ∨ i = 3 ∨ i = 4 ∨ i = 5 ∨ i = 6 := by omega
      all_goals
        simp only [List.getElem?_cons_zero, List.getElem?_cons_succ, Option.some.injEq] at hi
        subst hi
      · have hf0 : D 4 = false := by
          cases h : D 4 with
          | false => rfl
          | true => rw [(hcl 4 _ rfl h 0 (by simp))] at hDi; cases hDi
        have hS0 := SS0.out.1 hf0
        have hf1 : D 5 = false := by
          cases h : D 5 with
          | false => rfl
          | true => rw [(hcl 5 _ rfl h 0 (by simp))] at hDi; cases hDi
        have hS1 := SS1.out.1 hf1
        have e6 := hS0.2.2.2.1.cell
        clear hds
        refine wpOpIn_step rfl (fun K hK => ?_)
        go_simp
        exact hK _ _ ⟨_, _, _, _, _, rfl, hidD ⟨fun _ => rfl, fun h h2 => (GG.out.2.1 h (by simpa using h2)), GG.out.2.2.1, fun h h2 => (GG.out.2.2.2.1 h (by simpa using h2)), GG.out.2.2.2.2⟩, hidD ⟨fun h => (SS0.out.1 (by simpa using h)), fun h => (SS0.out.2 (by simpa using h))⟩, hidD ⟨fun h => (SS1.out.1 (by simpa using h)), fun h => (SS1.out.2 (by simpa using h))⟩⟩
      · have hf0 : D 4 = false := by
          cases h : D 4 with
          | false => rfl
          | true => rw [(hcl 4 _ rfl h 1 (by simp))] at hDi; cases hDi
        have hS0 := SS0.out.1 hf0
        have hf1 : D 5 = false := by
          cases h : D 5 with
          | false => rfl
          | true => rw [(hcl 5 _ rfl h 1 (by simp))] at hDi; cases hDi
        have hS1 := SS1.out.1 hf1
        obtain rfl := GG.out.1 (hds 0 (by simp))
        clear hds
        have HC := hidD (fun (n9 : Nat) => (callsIn_wide (n := n9)).2 (ymade_c _ [] V hS0.2.2.2.2.2.1 HSE.out))
        refine wpOpIn_step rfl (fun K hK => ?_)
        go_simp
        gi_wp2_with (refine ⟨trivial, ?_⟩; gi_at_call 65; refine (HC.out _).mono ?_; rintro e w5 ⟨v5, rfl, hv5, _, hb5⟩)
        exact ⟨_, _, _, _, _, rfl, hidD ⟨fun _ => rfl, fun _ _ => hv5, GG.out.2.2.1, fun h h2 => (GG.out.2.2.2.1 h (by simpa using h2)).below hb5, GG.out.2.2.2.2⟩, hidD ⟨fun h => (SS0.out.1 (by simpa using h)).below hb5, fun h => (SS0.out.2 (by simpa using h)).below hb5⟩, hidD ⟨fun _ => (fun e => by simp [hf0] at e), fun h => by simp [hf1] at h⟩⟩
      · have hf0 : D 4 = false := by
          cases h : D 4 with
          | false => rfl
          | true => rw [(hcl 3 _ rfl (hcl 4 _ rfl h 3 (by simp)) 2 (by simp))] at hDi; cases hDi
        have hS0 := SS0.out.1 hf0
        have hf1 : D 5 = false := by
          cases h : D 5 with
          | false => rfl
          | true => rw [(hcl 5 _ rfl h 2 (by simp))] at hDi; cases hDi
        have hS1 := SS1.out.1 hf1
        have e5 := hS0.2.2.1.cell
        clear hds
        refine wpOpIn_step rfl (fun K hK => ?_)
        go_simp
        exact hK _ _ ⟨_, _, _, _, _, rfl, hidD ⟨GG.out.1, fun h h2 => (GG.out.2.1 h (by simpa using h2)), fun _ => rfl, fun h h2 => (GG.out.2.2.2.1 h (by simpa using h2)), GG.out.2.2.2.2⟩, hidD ⟨fun h => (SS0.out.1 (by simpa using h)), fun h => (SS0.out.2 (by simpa using h))⟩, hidD ⟨fun h => (SS1.out.1 (by simpa using h)), fun h => (SS1.out.2 (by simpa using h))⟩⟩
      · have hf0 : D 4 = false := by
          cases h : D 4 with
          | false => rfl
          | true => rw [(hcl 4 _ rfl h 3 (by simp))] at hDi; cases hDi
        have hS0 := SS0.out.1 hf0
        have hf1 : D 5 = false := by
          cases h : D 5 with
          | false => rfl
          | true => rw [(hcl 5 _ rfl h 3 (by simp))] at hDi; cases hDi
        have hS1 := SS1.out.1 hf1
        obtain rfl := GG.out.2.2.1 (hds 2 (by simp))
        clear hds
        have HC := hidD (fun (n9 : Nat) => (callsIn_wide (n := n9)).2 (ymade_c _ ps V hS0.2.2.2.2.1 HSP.out))
        refine wpOpIn_step rfl (fun K hK => ?_)
        go_simp
        gi_wp2_with (refine ⟨trivial, ?_⟩; gi_at_call 65; refine (HC.out _).mono ?_; rintro e w5 ⟨v5, rfl, hv5, _, hb5⟩)
        exact ⟨_, _, _, _, _, rfl, hidD ⟨GG.out.1, fun h h2 => (GG.out.2.1 h (by simpa using h2)).below hb5, fun _ => rfl, fun _ _ => hv5, GG.out.2.2.2.2⟩, hidD ⟨fun h => (SS0.out.1 (by simpa using h)).below hb5, fun h => (SS0.out.2 (by simpa using h)).below hb5⟩, hidD ⟨fun _ => (fun e => by simp [hf0] at e), fun h => by simp [hf1] at h⟩⟩
      · have hS0 := SS0.out.1 hDi
        have hf1 : D 5 = false := by
          cases h : D 5 with
          | false => rfl
          | true => rw [(hcl 5 _ rfl h 4 (by simp))] at hDi; cases hDi
        have hS1 := SS1.out.1 hf1
        have h0 := GG.out.2.1 (hds 1 (by simp)) hf1
        obtain ⟨a9, l9, c9, rfl⟩ := IsPoly.form h0
        have hbx := hS0.1
        have e0 := hbx.cell
        have f0 := hbx.frozen
        have hne : w.heap.size + 1 + 1 + 1 ≠ w.heap.size + 1 + 1 := by omega
        clear hds
        refine wpOpIn_step rfl (fun K hK => ?_)
        go_simp
        exact hK _ _ ⟨_, _, _, _, _, rfl, hidD ⟨GG.out.1, fun h h2 => (GG.out.2.1 h (by simpa using h2)).setP hbx _, GG.out.2.2.1, fun h h2 => (GG.out.2.2.2.1 h (by simpa using h2)).setP hbx _, GG.out.2.2.2.2⟩, hidD ⟨fun h => by simp at h, fun _ => trivial⟩, hidD ⟨fun _ => (fun _ => ⟨_, rfl, hbx.set _, (Below.heap_setCell V ⟨w.heap.size + 1 + 1, 0, none⟩ _ _ hne).trans hS0.2.1, hS0.2.2.2.2.2.2.1.setCell (p := ⟨w.heap.size + 1 + 1, 0, none⟩) (by show w.heap.size ≤ w.heap.size + 1 + 1; omega) _, (KeepsOthers.setCell V ⟨w.heap.size + 1 + 1, 0, none⟩ _).same DC _ hS0.2.2.2.2.2.2.2 rfl⟩), fun h => by simp [hf1] at h⟩⟩
      · have hS1 := SS1.out.1 hDi
        have h0 := GG.out.2.1 (hds 1 (by simp)) hDi
        have h1 := GG.out.2.2.2.1 (hds 3 (by simp)) hDi
        have hd4 := hds 4 (by simp)
        obtain ⟨v2, rfl, hb2, hb3, hbw, hbd⟩ := hS1 (hds 4 (by simp))
        obtain ⟨a9, l9, c9, rfl⟩ := IsPoly.form h1
        have e0 := hb3.cell
        have f0 := hb3.frozen
        have hne : w.heap.size + 1 + 1 ≠ w.heap.size + 1 + 1 + 1 := by omega
        clear hds
        refine wpOpIn_step rfl (fun K hK => ?_)
        go_simp
        exact hK _ _ ⟨_, _, _, _, _, rfl, hidD ⟨GG.out.1, fun _ h => by simp at h, GG.out.2.2.1, fun _ h => by simp at h, GG.out.2.2.2.2⟩, hidD ⟨fun h => by simp [hd4] at h, fun _ => trivial⟩, hidD ⟨fun h => by simp at h, fun _ => ⟨_, _, rfl, rfl, (Below.heap_setCell V ⟨w.heap.size + 1 + 1 + 1, 0, none⟩ _ _ hne).trans hb2, hb3.set _, h0.setP hb3 _, h1.setP hb3 _, hbw.setCell (p := ⟨w.heap.size + 1 + 1 + 1, 0, none⟩) (by show w.heap.size ≤ w.heap.size + 1 + 1 + 1; omega) _, (KeepsOthers.setCell V ⟨w.heap.size + 1 + 1 + 1, 0, none⟩ _).same DC _ hbd rfl⟩⟩⟩
      · clear hds
        refine wpOpIn_step rfl (fun K hK => ?_)
        go_simp
        exact hK _ _ ⟨_, _, _, _, _, rfl, hidD ⟨GG.out.1, fun h h2 => (GG.out.2.1 h (by simpa using h2)), GG.out.2.2.1, fun h h2 => (GG.out.2.2.2.1 h (by simpa using h2)), fun _ => rfl⟩, hidD ⟨fun h => (SS0.out.1 (by simpa using h)), fun h => (SS0.out.2 (by simpa using h))⟩, hidD ⟨fun h => (SS1.out.1 (by simpa using h)), fun h => (SS1.out.2 (by simpa using h))⟩⟩
    case fin1 =>
      rintro E act V hDD ⟨t77x, t78x, t79x, t80x, t6x, rfl, GG, SS0, SS1⟩
      obtain ⟨v, v', rfl, rfl, g2, g3, hi2, hi3, hbw, hbd⟩ := SS1.out.2 (hDD 5 (by decide))
      obtain rfl := GG.out.2.2.2.2 (hDD 6 (by decide))
      clear GG SS0 SS1 hDD
      gi_wp2
      refine ⟨by simp, .inl ⟨_, _, rfl, run_takeDeferred hbd, ?_⟩⟩
      have hg := grownBy_putObj' V DC (.deferred none)
      have hgr : ∀ r, some DC = some r → ∃ o : Obj, V.heap[r]? = some o ∧ o.isCells = false := fun r e => by cases e; exact ⟨_, hbd, rfl⟩
      have q2 : Boxed _ (w.heap.size + 1 + 1) 25 v := block_own hg hgr (show Bx V (w.heap.size + 1 + 1) 25 #[v] from g2)
      have q3 : Boxed _ (w.heap.size + 1 + 1 + 1) 25 v' := block_own hg hgr (show Bx V (w.heap.size + 1 + 1 + 1) 25 #[v'] from g3)
      have x2 := q2.cell
      have x3 := q3.cell
      refine ⟨.tuple #[.agg #[v], .agg #[v'], .bool true], by simp [results, Tryz.results29, go_sem, x2, x3], _, _, rfl, ?_, ?_, ?_⟩
      · obtain ⟨u, e, h⟩ := hi2
        exact ⟨u, e, rowK_own hg hgr h⟩
      · rw [HTP.out] at hi3
        obtain ⟨u, e, h⟩ := hi3
        exact ⟨u, e, rowK_own hg hgr h⟩
      · exact hbw.trans (belowK_b (w := w) (Nat.le_refl _) _ DC _ _ HB3.out hbd rfl rfl)

theorem ySplit_c (A : Nat) (va vb : Value) (ps qs : List Rat) (w : World) (ha : IsPoly w va ps) (hb : IsPoly w vb qs) (hA : 1 ≤ A) (hp : ∀ i, SmQ A (cf ps i)) (hq : ∀ i, SmQ A (cf qs i)) (htp : trimQ ps = ps) (htq : trimQ qs = qs) (hL : 2 ^ ps.length * (3 * A + 1) ≤ 1000000) :
    Calls Tryz.prog 29 #[va, vb] w fun e w' => ∃ u v, e = .returned (.tuple #[u, v, .bool (decide (qs ≠ []))]) ∧ IsPoly w' u (if qs = [] then [] else quoQ ps qs) ∧ IsPoly w' v (if qs = [] then [] else remQ ps qs) ∧ Below w.heap.size w w' := by
  by_cases h0 : qs = []
  · subst h0
    refine (ySplit_nil va ps vb w ha hb).mono ?_
    rintro e w' ⟨rfl, h⟩
    exact ⟨_, _, rfl, ⟨_, rfl, RowK.nil _ _⟩, ⟨_, rfl, RowK.nil _ _⟩, h⟩
  · have hd : decide (qs ≠ []) = true := decide_eq_true h0
    rw [hd]
    simp only [if_neg h0]
    have hql : 0 < qs.length := List.length_pos_iff.2 h0
    obtain ⟨pa, la, pc, rfl⟩ := ha.form
    obtain ⟨qa, lb, qc, rfl⟩ := hb.form
    have h1 := ha.row
    have h2 := hb.row
    obtain ⟨hla, _⟩ := h1.forms
    obtain ⟨hlb, _⟩ := h2.forms
    by_cases hm : la ≤ lb - 1
    · have e0 : ps.length - (qs.length - 1) = 0 := by omega
      have e1 : quoQ ps qs = [] := by unfold quoQ; rw [e0]; rfl
      have e2 : remQ ps qs = ps := by unfold remQ; rw [e0]; exact htp
      rw [e1, e2]
      have hs : Sqs ps := Sqs.of fun i => Sq.of (hp i) (by
        have h3 : 1 * (3 * A + 1) ≤ 2 ^ ps.length * (3 * A + 1) := Nat.mul_le_mul_right _ (Nat.one_le_two_pow)
        omega)
      exact ySplit_few pa qa la pc lb qc (lb - 1) ps qs w h1 h2 hs htp (by omega) hm
    · exact ySplit_w A pa qa la pc lb qc (lb - 1) (la - (lb - 1)) ps qs w h1 h2 hA hp hq htq h0 hL (by omega) (by omega) (by omega)
end Go.Proofs.YtcahejkcdcjjgaaGreatDoor.M3
namespace Go.Proofs.YtcahejkcdcjjgaaGreatDoor
open Go.RowKit Go.Shelf

attribute [local go_sem] Oper.semAt_some

/-- A slice's length. -/
def lenOf : Value → Nat | .slice _ l _ => l | _ => 0
/-- A quotient and a rest, as rows. -/
def XsB (w V : World) (qv rv : Value) (Q R : List Rat) : Prop := RowK false V qv Q ∧ RowK false V rv R ∧ Below w.heap.size w V
theorem XsB.below {w V V' : World} {qv rv : Value} {Q R : List Rat} (h : XsB w V qv rv Q R) (hb : Below V.heap.size V V') : XsB w V' qv rv Q R := ⟨h.1.below hb, h.2.1.below hb, h.2.2.trans (hb.mono h.2.2.size)⟩

def XsS (w wr V : World) (qv rv : Value) (Q R : List Rat) : Prop := XsB w V qv rv Q R ∧ Below wr.heap.size wr V
theorem XsS.below {w wr V V' : World} {qv rv : Value} {Q R : List Rat} (h : XsS w wr V qv rv Q R) (hb : Below V.heap.size V V') : XsS w wr V' qv rv Q R := ⟨h.1.below hb, Below.then h.2 hb⟩

set_option maxRecDepth 100000 in
set_option maxHeartbeats 8000000 in
theorem xSplit_c (A : Nat) (va vb : Value) (ps qs : List Rat) (w : World) (ha : RowK false w va ps) (hb : RowK false w vb qs) (hA : 1 ≤ A) (hp : ∀ i, SmQ A (cf ps i)) (hq : ∀ i, SmQ A (cf qs i)) (htp : trimQ ps = ps) (htq : trimQ qs = qs) (hq0 : qs ≠ []) (hL : 2 ^ ps.length * (3 * A + 1) ≤ 1000000) :
    Calls Tryz.prog 33 #[va, vb] w fun e w' => ∃ u v, e = .returned (.tuple #[u, v]) ∧ RowK false w' u (quoQ ps qs) ∧ RowK false w' v (remQ ps qs) ∧ Below w.heap.size w w' := by
  have hmx : Tryz.prog.follows .mixedOrders = true := by kernel_rfl
  obtain ⟨a, la, ca, rfl⟩ := ha.form
  obtain ⟨b, lb, cb, rfl⟩ := hb.form
  obtain ⟨hla, hca, hcma, hlma, _⟩ := ha.formsF
  obtain ⟨hlb, hcb, hcmb, hlmb, s', t', aa', bb', ll', cc', kk', dd', hc'⟩ := hb.formsF
  have hql : 0 < qs.length := List.length_pos_iff.2 hq0
  have hpl : ps.length ≤ 20 := by
    by_cases h : ps.length ≤ 20
    · exact h
    · exfalso
      have h1 : 2 ^ 20 ≤ 2 ^ ps.length := Nat.pow_le_pow_right (by omega) (by omega)
      have h2 : 2 ^ ps.length * 1 ≤ 2 ^ ps.length * (3 * A + 1) := Nat.mul_le_mul_left _ (by omega)
      omega
  have HT0 := hidD (xTrim_c _ ps w ha)
  rw [htp] at HT0
  have HA := hidD ha
  have HB := hidD hc'
  have HBR := hidD hb
  have HQ := hidD hq
  have HTQ := hidD htq
  have HQ0 := hidD hq0
  have HLB := hidD hlb
  have HL := hidD hL
  have HLD := hidD (trim_last htq hq0)
  have HQS := hidD (show Sqs qs from Sqs.of fun i => Sq.of (hq i) (by
    have h1 : 1 * (3 * A + 1) ≤ 2 ^ ps.length * (3 * A + 1) := Nat.mul_le_mul_right _ (Nat.one_le_two_pow)
    omega))
  have HST := hidD (DivAt.start (qs := qs) hA htp hp)
  obtain ⟨lp, hlp⟩ : ∃ l, ps.length = l := ⟨_, rfl⟩
  rw [hlp] at HST HL
  have hlb1 : 1 ≤ lb := by omega
  have hlb2 : lb ≤ 1099511627776 := hlmb
  have hlp2 : lp ≤ 20 := by omega
  clear ha hb hA hp hq htp htq hq0 hL hla hlb hca hcma hcb hcmb hlma hlmb hc' hql hpl hlp
  go_enter Tryz.func33, Tryz.ntmps33
  go_wp2_with (go_at_call 23; refine HT0.out.mono ?_; clear HT0; rintro e w0 ⟨u0, rfl, hu0, hb0⟩; obtain ⟨a0, l0, c0, rfl⟩ := hu0.form)
  go_loopw [6, 7, 8] (fun qv rv _ wr => ∃ (k lr : Nat) (Q R : List Rat), (∃ ra rc, rv = .slice ra lr rc) ∧ (∃ qa ql qc, qv = .slice qa ql qc) ∧ lr ≤ 20 ∧ Hid (lr = R.length) ∧ Hid (XsB w wr qv rv Q R) ∧ Hid (DivAt A lp ps qs R Q k)) (fun _ rv _ _ => lenOf rv)
  case atStart => exact ⟨0, _, [], ps, ⟨_, _, rfl⟩, ⟨_, _, _, rfl⟩, by obtain ⟨_, _, e, _⟩ := id hu0; cases e; have := HST.out.2.2.1; omega, hidD (by obtain ⟨_, _, e, _⟩ := id hu0; cases e; rfl), hidD ⟨RowK.nil _ _, hu0, hb0⟩, HST⟩
  case round =>
    clear hu0 hb0 HST
    obtain ⟨k, lr, Q, R, ⟨ra, rc, rfl⟩, ⟨qa, ql, qc, rfl⟩, hlr, HLR, HX, HD⟩ := hrel
    by_cases hge : lb ≤ lr
    · have hge2 : (lb : Int) ≤ (lr : Int) := by omega
      obtain ⟨n, hn⟩ : ∃ n : Nat, lr - lb = n := ⟨_, rfl⟩
      obtain ⟨m, hm⟩ : ∃ m : Nat, lr - 1 = m := ⟨_, rfl⟩
      obtain ⟨jq, hjq⟩ : ∃ j : Nat, lb - 1 = j := ⟨_, rfl⟩
      have hn1 : (lr : Int) - (lb : Int) = (n : Int) := by omega
      have hm1 : (lr : Int) - 1 = (m : Int) := by omega
      have hj1 : (lb : Int) - 1 = (jq : Int) := by omega
      have hn2 : IntKind.i64.wrap (n : Int) = (n : Int) := by rw [IntKind.wrap_i64]; omega
      have hm2 : IntKind.i64.wrap (m : Int) = (m : Int) := by rw [IntKind.wrap_i64]; omega
      have hj2 : IntKind.i64.wrap (jq : Int) = (jq : Int) := by rw [IntKind.wrap_i64]; omega
      have hml : (m : Int) < (lr : Int) := by omega
      have hjl : (jq : Int) < (lb : Int) := by omega
      have HNN := hidD (show n = R.length - qs.length ∧ m = R.length - 1 ∧ jq = qs.length - 1 ∧ qs.length ≤ R.length by have := HLR.out; have := HLB.out; omega)
      have HMN := hidD (show n < 1099511627775 ∧ n + 1 ≤ 21 by omega)
      obtain ⟨hx1, hx2, hx3, hx4, s, t, aa, bb, ll, cc, kk, dd, hcR⟩ := HX.out.2.1.formsF
      clear hx1 hx2 hx3 hx4
      obtain ⟨hi1, b1, rfl, hb1, c10, c11, c12, c13⟩ := hcR m (by omega)
      obtain ⟨hi2, b2, rfl, hb2, c20, c21, c22, c23⟩ := HB.out jq (by omega)
      have HCL1 := hidD (show ∀ V, Below wr.heap.size wr V → (V.cell? ⟨b1, m * 4, none⟩ = some (.slice (aa m) (ll m) (cc m)) ∧ V.cell? ⟨b1, m * 4 + 1, none⟩ = some (.bool (s m)) ∧ V.cell? ⟨b1, m * 4 + 2, none⟩ = some (.slice (bb m) (kk m) (dd m)) ∧ V.cell? ⟨b1, m * 4 + 3, none⟩ = some (.bool (t m))) ∧ IsRef V (.agg #[.slice (aa m) (ll m) (cc m), .bool (s m), .slice (bb m) (kk m) (dd m), .bool (t m)]) (cf R m) from fun V hB => by
        exact ⟨⟨(hB.cell (p := ⟨b1, _, none⟩) hb1).trans c10, (hB.cell (p := ⟨b1, _, none⟩) hb1).trans c11, (hB.cell (p := ⟨b1, _, none⟩) hb1).trans c12, (hB.cell (p := ⟨b1, _, none⟩) hb1).trans c13⟩, hi1.below hB⟩)
      have HCL2 := hidD (show ∀ V, Below w.heap.size w V → (V.cell? ⟨b2, jq * 4, none⟩ = some (.slice (aa' jq) (ll' jq) (cc' jq)) ∧ V.cell? ⟨b2, jq * 4 + 1, none⟩ = some (.bool (s' jq)) ∧ V.cell? ⟨b2, jq * 4 + 2, none⟩ = some (.slice (bb' jq) (kk' jq) (dd' jq)) ∧ V.cell? ⟨b2, jq * 4 + 3, none⟩ = some (.bool (t' jq))) ∧ IsRef V (.agg #[.slice (aa' jq) (ll' jq) (cc' jq), .bool (s' jq), .slice (bb' jq) (kk' jq) (dd' jq), .bool (t' jq)]) (cf qs jq) from fun V hB => by
        exact ⟨⟨(hB.cell (p := ⟨b2, _, none⟩) hb2).trans c20, (hB.cell (p := ⟨b2, _, none⟩) hb2).trans c21, (hB.cell (p := ⟨b2, _, none⟩) hb2).trans c22, (hB.cell (p := ⟨b2, _, none⟩) hb2).trans c23⟩, hi2.below hB⟩)
      obtain ⟨sR, sQ, z, hz, hzR⟩ := HD.out.sizes HL.out
      obtain ⟨x, hx⟩ : ∃ x, cf R m / cf qs jq = x := ⟨_, rfl⟩
      have HAX := hidD (show x = cf R (R.length - 1) / cf qs (qs.length - 1) by rw [← hx, ← HNN.out.2.1, ← HNN.out.2.2.1])
      have HQN := hidD (show cf qs jq ≠ 0 by rw [HNN.out.2.2.1]; exact HLD.out)
      have hxs : SmQ (z + A) x := by rw [← hx]; exact (hzR m).div2 (HQ.out jq) HQN.out
      have HSX := hidD (show Sq x from Sq.of hxs (by omega))
      have HPX := hidD (show ∀ j, Sq (x * cf qs j) from fun j => Sq.of (hxs.mul2 (HQ.out j)) (by omega))
      have HSR := hidD sR
      have HSQ := hidD sQ
      have HX1 := hidD hx
      have HDN := hidD (HD.out.next HQ.out HTQ.out HQ0.out HNN.out.2.2.2 HNN.out.1 HAX.out)
      have HSH := hidD (sub_shorter HTQ.out HQ0.out HNN.out.2.2.2 HNN.out.1 HAX.out)
      have HMS := hidD (show Sqs (trimQ (upR n [x])) from Sqs.of fun i => by
        rw [mono_cf]
        split
        · exact HSX.out
        · exact Sq.of (SmQ.zero 1 (by omega)) (by omega))
      have HTS := hidD (show Sqs (mulQ (trimQ (upR n [x])) qs) from Sqs.of fun i => by
        rw [mono_mul]
        split
        · exact HPX.out _
        · exact Sq.of (SmQ.zero 1 (by omega)) (by omega))
      have HOK := hidD (show M3.TimesOk (trimQ (upR n [x])) qs from mono_ok (n := n) (fun i hi => by rw [mono_cf, if_neg hi]) (fun j => by rw [mono_cf, if_pos rfl]; exact HPX.out j))
      have HLM := hidD (mono_len n x)
      have HLT := hidD (show (mulQ (trimQ (upR n [x])) qs).length < 1099511627776 by
        have h1 : (mulQ (trimQ (upR n [x])) qs).length ≤ R.length := trim_len (mulQ_trim _ _) (fun i hi => by
          rw [mono_mul]
          split
          · rw [cf_ge (p := qs) (by have := HNN.out; omega), Rat.mul_zero]
          · rfl)
        have := HLR.out
        omega)
      have HLQ := hidD (show Q.length < 1099511627776 ∧ R.length < 1099511627776 by have := HD.out.2.2.2.1; have := HLR.out; omega)
      clear hi1 hb1 c10 c11 c12 c13 hi2 hb2 c20 c21 c22 c23 hcR hz hzR sR sQ hx hxs hn hm hjq
      go_wp2_with fail
      have ST0 : XsS w wr wr.drew (.slice qa ql qc) (.slice (some ⟨b1, 0, none⟩) lr rc) Q R := ⟨HX.out.below ((Below.refl _ wr).drew), (Below.refl _ wr).drew⟩
      refine wp_region_tab hmx [[], [0], [], [2], [1, 3], [], [], [6], [7], [5, 8], [9], [], [], [12], [13], [11, 14], [15], [10, 16], [4, 17, 17], [18, 18, 0, 1, 2, 3, 4, 5, 6, 7, 8, 9, 10, 11, 12, 13, 14, 15, 16, 17, 18]] (by kernel_rfl) (by decide)
        (fun D act V => ∃ (t16x t17x t18x t19x t20x t21x t22x t23x t24x t25x t26x t27x t28x t29x t30x t31x t32x t33x t34x t8x : Value), act = { tmps := #[Value.slice a la ca, Value.slice (some { block := b2, off := 0 }) lb cb, undef, undef, Value.slice none 0 0, Value.slice none 0 0, Value.slice qa ql qc, Value.slice (some { block := b1, off := 0 }) lr rc, t8x, Value.slice a la ca, Value.slice a0 l0 c0, Value.slice (some { block := b1, off := 0 }) lr rc, Value.int IntKind.i64 ↑lr, Value.slice (some { block := b2, off := 0 }) lb cb, Value.int IntKind.i64 ↑lb, Value.bool true, t16x, t17x, t18x, t19x, t20x, t21x, t22x, t23x, t24x, t25x, t26x, t27x, t28x, t29x, t30x, t31x, t32x, t33x, t34x, u35, u36, u37, u38, u39, u40, u41, u42, undef, undef], defers := [] } ∧ Hid ((D 0 = true → t16x = .slice (some ⟨b1, 0, none⟩) lr rc) ∧ (D 1 = true → t17x = .int .i64 (lr : Int)) ∧ (D 2 = true → t18x = .slice (some ⟨b2, 0, none⟩) lb cb) ∧ (D 3 = true → t19x = .int .i64 (lb : Int)) ∧ (D 4 = true → t20x = .int .i64 (n : Int)) ∧ (D 5 = true → t21x = .slice (some ⟨b1, 0, none⟩) lr rc) ∧ (D 6 = true → t22x = .slice (some ⟨b1, 0, none⟩) lr rc) ∧ (D 7 = true → t23x = .int .i64 (lr : Int)) ∧ (D 8 = true → t24x = .int .i64 (m : Int)) ∧ (D 9 = true → t25x = .pointer (some ⟨b1, m * 4, none⟩)) ∧ (D 10 = true → IsRef V t26x (cf R m)) ∧ (D 11 = true → t27x = .slice (some ⟨b2, 0, none⟩) lb cb) ∧ (D 12 = true → t28x = .slice (some ⟨b2, 0, none⟩) lb cb) ∧ (D 13 = true → t29x = .int .i64 (lb : Int)) ∧ (D 14 = true → t30x = .int .i64 (jq : Int)) ∧ (D 15 = true → t31x = .pointer (some ⟨b2, jq * 4, none⟩)) ∧ (D 16 = true → IsRef V t32x (cf qs jq)) ∧ (D 17 = true → IsRef V t33x x) ∧ (D 18 = true → RowK false V t34x (trimQ (upR n [x]))) ∧ (D 19 = true → RowK false V t8x (trimQ (upR n [x])))) ∧ Hid (XsS w wr V (.slice qa ql qc) (.slice (some ⟨b1, 0, none⟩) lr rc) Q R))
        ⟨_, _, _, _, _, _, _, _, _, _, _, _, _, _, _, _, _, _, _, _, rfl, hidD ⟨by simp, by simp, by simp, by simp, by simp, by simp, by simp, by simp, by simp, by simp, by simp, by simp, by simp, by simp, by simp, by simp, by simp, by simp, by simp, by simp⟩, hidD ST0⟩ ?step1 ?fin1
      case step1 =>
        rintro D act V i ds hcl hi hds hDi ⟨t16x, t17x, t18x, t19x, t20x, t21x, t22x, t23x, t24x, t25x, t26x, t27x, t28x, t29x, t30x, t31x, t32x, t33x, t34x, t8x, rfl, GG, SS0⟩
        have hi6 : i < 20 := (List.getElem?_eq_some_iff.1 hi).1
        obtain rfl | rfl | rfl | rfl | rfl | rfl | rfl | rfl | rfl | rfl | rfl | rfl | rfl | rfl | rfl | rfl | rfl | rfl | rfl | rfl : i = 0 ∨ i = 1 ∨ i = 2 ∨ i = 3 ∨ i = 4 ∨ i = 5 ∨ i = 6 ∨ i = 7 ∨ i = 8 ∨ i = 9 ∨ i = 10 ∨ i = 11 ∨ i = 12 ∨ i = 13 ∨ i = 14 ∨ i = 15 ∨ i = 16 ∨ i = 17 ∨ i = 18 ∨ i = 19 := by omega
        all_goals
          simp only [List.getElem?_cons_zero, List.getElem?_cons_succ, Option.some.injEq] at hi
          subst hi
        · have hS0 := SS0.out
          clear hds
          refine wpOp_go rfl rfl (fun K hK => ?_)
          go_simp
          exact hK _ _ ⟨_, _, _, _, _, _, _, _, _, _, _, _, _, _, _, _, _, _, _, _, rfl, hidD ⟨fun _ => rfl, GG.out.2.1, GG.out.2.2.1, GG.out.2.2.2.1, GG.out.2.2.2.2.1, GG.out.2.2.2.2.2.1, GG.out.2.2.2.2.2.2.1, GG.out.2.2.2.2.2.2.2.1, GG.out.2.2.2.2.2.2.2.2.1, GG.out.2.2.2.2.2.2.2.2.2.1, GG.out.2.2.2.2.2.2.2.2.2.2.1, GG.out.2.2.2.2.2.2.2.2.2.2.2.1, GG.out.2.2.2.2.2.2.2.2.2.2.2.2.1, GG.out.2.2.2.2.2.2.2.2.2.2.2.2.2.1, GG.out.2.2.2.2.2.2.2.2.2.2.2.2.2.2.1, GG.out.2.2.2.2.2.2.2.2.2.2.2.2.2.2.2.1, GG.out.2.2.2.2.2.2.2.2.2.2.2.2.2.2.2.2.1, GG.out.2.2.2.2.2.2.2.2.2.2.2.2.2.2.2.2.2.1, GG.out.2.2.2.2.2.2.2.2.2.2.2.2.2.2.2.2.2.2.1, GG.out.2.2.2.2.2.2.2.2.2.2.2.2.2.2.2.2.2.2.2⟩, hidD (SS0.out)⟩
        · have hS0 := SS0.out
          obtain rfl := GG.out.1 (hds 0 (by simp))
          clear hds
          refine wpOp_go rfl rfl (fun K hK => ?_)
          go_simp
          exact hK _ _ ⟨_, _, _, _, _, _, _, _, _, _, _, _, _, _, _, _, _, _, _, _, rfl, hidD ⟨fun _ => rfl, fun _ => rfl, GG.out.2.2.1, GG.out.2.2.2.1, GG.out.2.2.2.2.1, GG.out.2.2.2.2.2.1, GG.out.2.2.2.2.2.2.1, GG.out.2.2.2.2.2.2.2.1, GG.out.2.2.2.2.2.2.2.2.1, GG.out.2.2.2.2.2.2.2.2.2.1, GG.out.2.2.2.2.2.2.2.2.2.2.1, GG.out.2.2.2.2.2.2.2.2.2.2.2.1, GG.out.2.2.2.2.2.2.2.2.2.2.2.2.1, GG.out.2.2.2.2.2.2.2.2.2.2.2.2.2.1, GG.out.2.2.2.2.2.2.2.2.2.2.2.2.2.2.1, GG.out.2.2.2.2.2.2.2.2.2.2.2.2.2.2.2.1, GG.out.2.2.2.2.2.2.2.2.2.2.2.2.2.2.2.2.1, GG.out.2.2.2.2.2.2.2.2.2.2.2.2.2.2.2.2.2.1, GG.out.2.2.2.2.2.2.2.2.2.2.2.2.2.2.2.2.2.2.1, GG.out.2.2.2.2.2.2.2.2.2.2.2.2.2.2.2.2.2.2.2⟩, hidD (SS0.out)⟩
        · have hS0 := SS0.out
          clear hds
          refine wpOp_go rfl rfl (fun K hK => ?_)
          go_simp
          exact hK _ _ ⟨_, _, _, _, _, _, _, _, _, _, _, _, _, _, _, _, _, _, _, _, rfl, hidD ⟨GG.out.1, GG.out.2.1, fun _ => rfl, GG.out.2.2.2.1, GG.out.2.2.2.2.1, GG.out.2.2.2.2.2.1, GG.out.2.2.2.2.2.2.1, GG.out.2.2.2.2.2.2.2.1, GG.out.2.2.2.2.2.2.2.2.1, GG.out.2.2.2.2.2.2.2.2.2.1, GG.out.2.2.2.2.2.2.2.2.2.2.1, GG.out.2.2.2.2.2.2.2.2.2.2.2.1, GG.out.2.2.2.2.2.2.2.2.2.2.2.2.1, GG.out.2.2.2.2.2.2.2.2.2.2.2.2.2.1, GG.out.2.2.2.2.2.2.2.2.2.2.2.2.2.2.1, GG.out.2.2.2.2.2.2.2.2.2.2.2.2.2.2.2.1, GG.out.2.2.2.2.2.2.2.2.2.2.2.2.2.2.2.2.1, GG.out.2.2.2.2.2.2.2.2.2.2.2.2.2.2.2.2.2.1, GG.out.2.2.2.2.2.2.2.2.2.2.2.2.2.2.2.2.2.2.1, GG.out.2.2.2.2.2.2.2.2.2.2.2.2.2.2.2.2.2.2.2⟩, hidD (SS0.out)⟩
        · have hS0 := SS0.out
          obtain rfl := GG.out.2.2.1 (hds 2 (by simp))
          clear hds
          refine wpOp_go rfl rfl (fun K hK => ?_)
          go_simp
          exact hK _ _ ⟨_, _, _, _, _, _, _, _, _, _, _, _, _, _, _, _, _, _, _, _, rfl, hidD ⟨GG.out.1, GG.out.2.1, fun _ => rfl, fun _ => rfl, GG.out.2.2.2.2.1, GG.out.2.2.2.2.2.1, GG.out.2.2.2.2.2.2.1, GG.out.2.2.2.2.2.2.2.1, GG.out.2.2.2.2.2.2.2.2.1, GG.out.2.2.2.2.2.2.2.2.2.1, GG.out.2.2.2.2.2.2.2.2.2.2.1, GG.out.2.2.2.2.2.2.2.2.2.2.2.1, GG.out.2.2.2.2.2.2.2.2.2.2.2.2.1, GG.out.2.2.2.2.2.2.2.2.2.2.2.2.2.1, GG.out.2.2.2.2.2.2.2.2.2.2.2.2.2.2.1, GG.out.2.2.2.2.2.2.2.2.2.2.2.2.2.2.2.1, GG.out.2.2.2.2.2.2.2.2.2.2.2.2.2.2.2.2.1, GG.out.2.2.2.2.2.2.2.2.2.2.2.2.2.2.2.2.2.1, GG.out.2.2.2.2.2.2.2.2.2.2.2.2.2.2.2.2.2.2.1, GG.out.2.2.2.2.2.2.2.2.2.2.2.2.2.2.2.2.2.2.2⟩, hidD (SS0.out)⟩
        · have hS0 := SS0.out
          obtain rfl := GG.out.2.1 (hds 1 (by simp))
          obtain rfl := GG.out.2.2.2.1 (hds 3 (by simp))
          clear hds
          refine wpOp_go rfl rfl (fun K hK => ?_)
          go_simp
          exact hK _ _ ⟨_, _, _, _, _, _, _, _, _, _, _, _, _, _, _, _, _, _, _, _, rfl, hidD ⟨GG.out.1, fun _ => rfl, GG.out.2.2.1, fun _ => rfl, fun _ => rfl, GG.out.2.2.2.2.2.1, GG.out.2.2.2.2.2.2.1, GG.out.2.2.2.2.2.2.2.1, GG.out.2.2.2.2.2.2.2.2.1, GG.out.2.2.2.2.2.2.2.2.2.1, GG.out.2.2.2.2.2.2.2.2.2.2.1, GG.out.2.2.2.2.2.2.2.2.2.2.2.1, GG.out.2.2.2.2.2.2.2.2.2.2.2.2.1, GG.out.2.2.2.2.2.2.2.2.2.2.2.2.2.1, GG.out.2.2.2.2.2.2.2.2.2.2.2.2.2.2.1, GG.out.2.2.2.2.2.2.2.2.2.2.2.2.2.2.2.1, GG.out.2.2.2.2.2.2.2.2.2.2.2.2.2.2.2.2.1, GG.out.2.2.2.2.2.2.2.2.2.2.2.2.2.2.2.2.2.1, GG.out.2.2.2.2.2.2.2.2.2.2.2.2.2.2.2.2.2.2.1, GG.out.2.2.2.2.2.2.2.2.2.2.2.2.2.2.2.2.2.2.2⟩, hidD (SS0.out)⟩
        · have hS0 := SS0.out
          clear hds
          refine wpOp_go rfl rfl (fun K hK => ?_)
          go_simp
          exact hK _ _ ⟨_, _, _, _, _, _, _, _, _, _, _, _, _, _, _, _, _, _, _, _, rfl, hidD ⟨GG.out.1, GG.out.2.1, GG.out.2.2.1, GG.out.2.2.2.1, GG.out.2.2.2.2.1, fun _ => rfl, GG.out.2.2.2.2.2.2.1, GG.out.2.2.2.2.2.2.2.1, GG.out.2.2.2.2.2.2.2.2.1, GG.out.2.2.2.2.2.2.2.2.2.1, GG.out.2.2.2.2.2.2.2.2.2.2.1, GG.out.2.2.2.2.2.2.2.2.2.2.2.1, GG.out.2.2.2.2.2.2.2.2.2.2.2.2.1, GG.out.2.2.2.2.2.2.2.2.2.2.2.2.2.1, GG.out.2.2.2.2.2.2.2.2.2.2.2.2.2.2.1, GG.out.2.2.2.2.2.2.2.2.2.2.2.2.2.2.2.1, GG.out.2.2.2.2.2.2.2.2.2.2.2.2.2.2.2.2.1, GG.out.2.2.2.2.2.2.2.2.2.2.2.2.2.2.2.2.2.1, GG.out.2.2.2.2.2.2.2.2.2.2.2.2.2.2.2.2.2.2.1, GG.out.2.2.2.2.2.2.2.2.2.2.2.2.2.2.2.2.2.2.2⟩, hidD (SS0.out)⟩
        · have hS0 := SS0.out
          clear hds
          refine wpOp_go rfl rfl (fun K hK => ?_)
          go_simp
          exact hK _ _ ⟨_, _, _, _, _, _, _, _, _, _, _, _, _, _, _, _, _, _, _, _, rfl, hidD ⟨GG.out.1, GG.out.2.1, GG.out.2.2.1, GG.out.2.2.2.1, GG.out.2.2.2.2.1, GG.out.2.2.2.2.2.1, fun _ => rfl, GG.out.2.2.2.2.2.2.2.1, GG.out.2.2.2.2.2.2.2.2.1, GG.out.2.2.2.2.2.2.2.2.2.1, GG.out.2.2.2.2.2.2.2.2.2.2.1, GG.out.2.2.2.2.2.2.2.2.2.2.2.1, GG.out.2.2.2.2.2.2.2.2.2.2.2.2.1, GG.out.2.2.2.2.2.2.2.2.2.2.2.2.2.1, GG.out.2.2.2.2.2.2.2.2.2.2.2.2.2.2.1, GG.out.2.2.2.2.2.2.2.2.2.2.2.2.2.2.2.1, GG.out.2.2.2.2.2.2.2.2.2.2.2.2.2.2.2.2.1, GG.out.2.2.2.2.2.2.2.2.2.2.2.2.2.2.2.2.2.1, GG.out.2.2.2.2.2.2.2.2.2.2.2.2.2.2.2.2.2.2.1, GG.out.2.2.2.2.2.2.2.2.2.2.2.2.2.2.2.2.2.2.2⟩, hidD (SS0.out)⟩
        · have hS0 := SS0.out
          obtain rfl := GG.out.2.2.2.2.2.2.1 (hds 6 (by simp))
          clear hds
          refine wpOp_go rfl rfl (fun K hK => ?_)
          go_simp
          exact hK _ _ ⟨_, _, _, _, _, _, _, _, _, _, _, _, _, _, _, _, _, _, _, _, rfl, hidD ⟨GG.out.1, GG.out.2.1, GG.out.2.2.1, GG.out.2.2.2.1, GG.out.2.2.2.2.1, GG.out.2.2.2.2.2.1, fun _ => rfl, fun _ => rfl, GG.out.2.2.2.2.2.2.2.2.1, GG.out.2.2.2.2.2.2.2.2.2.1, GG.out.2.2.2.2.2.2.2.2.2.2.1, GG.out.2.2.2.2.2.2.2.2.2.2.2.1, GG.out.2.2.2.2.2.2.2.2.2.2.2.2.1, GG.out.2.2.2.2.2.2.2.2.2.2.2.2.2.1, GG.out.2.2.2.2.2.2.2.2.2.2.2.2.2.2.1, GG.out.2.2.2.2.2.2.2.2.2.2.2.2.2.2.2.1, GG.out.2.2.2.2.2.2.2.2.2.2.2.2.2.2.2.2.1, GG.out.2.2.2.2.2.2.2.2.2.2.2.2.2.2.2.2.2.1, GG.out.2.2.2.2.2.2.2.2.2.2.2.2.2.2.2.2.2.2.1, GG.out.2.2.2.2.2.2.2.2.2.2.2.2.2.2.2.2.2.2.2⟩, hidD (SS0.out)⟩
        · have hS0 := SS0.out
          obtain rfl := GG.out.2.2.2.2.2.2.2.1 (hds 7 (by simp))
          clear hds
          refine wpOp_go rfl rfl (fun K hK => ?_)
          go_simp
          exact hK _ _ ⟨_, _, _, _, _, _, _, _, _, _, _, _, _, _, _, _, _, _, _, _, rfl, hidD ⟨GG.out.1, GG.out.2.1, GG.out.2.2.1, GG.out.2.2.2.1, GG.out.2.2.2.2.1, GG.out.2.2.2.2.2.1, GG.out.2.2.2.2.2.2.1, fun _ => rfl, fun _ => rfl, GG.out.2.2.2.2.2.2.2.2.2.1, GG.out.2.2.2.2.2.2.2.2.2.2.1, GG.out.2.2.2.2.2.2.2.2.2.2.2.1, GG.out.2.2.2.2.2.2.2.2.2.2.2.2.1, GG.out.2.2.2.2.2.2.2.2.2.2.2.2.2.1, GG.out.2.2.2.2.2.2.2.2.2.2.2.2.2.2.1, GG.out.2.2.2.2.2.2.2.2.2.2.2.2.2.2.2.1, GG.out.2.2.2.2.2.2.2.2.2.2.2.2.2.2.2.2.1, GG.out.2.2.2.2.2.2.2.2.2.2.2.2.2.2.2.2.2.1, GG.out.2.2.2.2.2.2.2.2.2.2.2.2.2.2.2.2.2.2.1, GG.out.2.2.2.2.2.2.2.2.2.2.2.2.2.2.2.2.2.2.2⟩, hidD (SS0.out)⟩
        · have hS0 := SS0.out
          obtain rfl := GG.out.2.2.2.2.2.1 (hds 5 (by simp))
          obtain rfl := GG.out.2.2.2.2.2.2.2.2.1 (hds 8 (by simp))
          clear hds
          refine wpOp_go rfl rfl (fun K hK => ?_)
          go_simp
          exact hK _ _ ⟨_, _, _, _, _, _, _, _, _, _, _, _, _, _, _, _, _, _, _, _, rfl, hidD ⟨GG.out.1, GG.out.2.1, GG.out.2.2.1, GG.out.2.2.2.1, GG.out.2.2.2.2.1, fun _ => rfl, GG.out.2.2.2.2.2.2.1, GG.out.2.2.2.2.2.2.2.1, fun _ => rfl, fun _ => rfl, GG.out.2.2.2.2.2.2.2.2.2.2.1, GG.out.2.2.2.2.2.2.2.2.2.2.2.1, GG.out.2.2.2.2.2.2.2.2.2.2.2.2.1, GG.out.2.2.2.2.2.2.2.2.2.2.2.2.2.1, GG.out.2.2.2.2.2.2.2.2.2.2.2.2.2.2.1, GG.out.2.2.2.2.2.2.2.2.2.2.2.2.2.2.2.1, GG.out.2.2.2.2.2.2.2.2.2.2.2.2.2.2.2.2.1, GG.out.2.2.2.2.2.2.2.2.2.2.2.2.2.2.2.2.2.1, GG.out.2.2.2.2.2.2.2.2.2.2.2.2.2.2.2.2.2.2.1, GG.out.2.2.2.2.2.2.2.2.2.2.2.2.2.2.2.2.2.2.2⟩, hidD (SS0.out)⟩
        · have hS0 := SS0.out
          obtain rfl := GG.out.2.2.2.2.2.2.2.2.2.1 (hds 9 (by simp))
          obtain ⟨⟨e0, e1, e2, e3⟩, hr⟩ := HCL1.out V hS0.2
          clear hds
          refine wpOp_go rfl rfl (fun K hK => ?_)
          go_simp
          exact hK _ _ ⟨_, _, _, _, _, _, _, _, _, _, _, _, _, _, _, _, _, _, _, _, rfl, hidD ⟨GG.out.1, GG.out.2.1, GG.out.2.2.1, GG.out.2.2.2.1, GG.out.2.2.2.2.1, GG.out.2.2.2.2.2.1, GG.out.2.2.2.2.2.2.1, GG.out.2.2.2.2.2.2.2.1, GG.out.2.2.2.2.2.2.2.2.1, fun _ => rfl, fun _ => hr, GG.out.2.2.2.2.2.2.2.2.2.2.2.1, GG.out.2.2.2.2.2.2.2.2.2.2.2.2.1, GG.out.2.2.2.2.2.2.2.2.2.2.2.2.2.1, GG.out.2.2.2.2.2.2.2.2.2.2.2.2.2.2.1, GG.out.2.2.2.2.2.2.2.2.2.2.2.2.2.2.2.1, GG.out.2.2.2.2.2.2.2.2.2.2.2.2.2.2.2.2.1, GG.out.2.2.2.2.2.2.2.2.2.2.2.2.2.2.2.2.2.1, GG.out.2.2.2.2.2.2.2.2.2.2.2.2.2.2.2.2.2.2.1, GG.out.2.2.2.2.2.2.2.2.2.2.2.2.2.2.2.2.2.2.2⟩, hidD (SS0.out)⟩
        · have hS0 := SS0.out
          clear hds
          refine wpOp_go rfl rfl (fun K hK => ?_)
          go_simp
          exact hK _ _ ⟨_, _, _, _, _, _, _, _, _, _, _, _, _, _, _, _, _, _, _, _, rfl, hidD ⟨GG.out.1, GG.out.2.1, GG.out.2.2.1, GG.out.2.2.2.1, GG.out.2.2.2.2.1, GG.out.2.2.2.2.2.1, GG.out.2.2.2.2.2.2.1, GG.out.2.2.2.2.2.2.2.1, GG.out.2.2.2.2.2.2.2.2.1, GG.out.2.2.2.2.2.2.2.2.2.1, GG.out.2.2.2.2.2.2.2.2.2.2.1, fun _ => rfl, GG.out.2.2.2.2.2.2.2.2.2.2.2.2.1, GG.out.2.2.2.2.2.2.2.2.2.2.2.2.2.1, GG.out.2.2.2.2.2.2.2.2.2.2.2.2.2.2.1, GG.out.2.2.2.2.2.2.2.2.2.2.2.2.2.2.2.1, GG.out.2.2.2.2.2.2.2.2.2.2.2.2.2.2.2.2.1, GG.out.2.2.2.2.2.2.2.2.2.2.2.2.2.2.2.2.2.1, GG.out.2.2.2.2.2.2.2.2.2.2.2.2.2.2.2.2.2.2.1, GG.out.2.2.2.2.2.2.2.2.2.2.2.2.2.2.2.2.2.2.2⟩, hidD (SS0.out)⟩
        · have hS0 := SS0.out
          clear hds
          refine wpOp_go rfl rfl (fun K hK => ?_)
          go_simp
          exact hK _ _ ⟨_, _, _, _, _, _, _, _, _, _, _, _, _, _, _, _, _, _, _, _, rfl, hidD ⟨GG.out.1, GG.out.2.1, GG.out.2.2.1, GG.out.2.2.2.1, GG.out.2.2.2.2.1, GG.out.2.2.2.2.2.1, GG.out.2.2.2.2.2.2.1, GG.out.2.2.2.2.2.2.2.1, GG.out.2.2.2.2.2.2.2.2.1, GG.out.2.2.2.2.2.2.2.2.2.1, GG.out.2.2.2.2.2.2.2.2.2.2.1, GG.out.2.2.2.2.2.2.2.2.2.2.2.1, fun _ => rfl, GG.out.2.2.2.2.2.2.2.2.2.2.2.2.2.1, GG.out.2.2.2.2.2.2.2.2.2.2.2.2.2.2.1, GG.out.2.2.2.2.2.2.2.2.2.2.2.2.2.2.2.1, GG.out.2.2.2.2.2.2.2.2.2.2.2.2.2.2.2.2.1, GG.out.2.2.2.2.2.2.2.2.2.2.2.2.2.2.2.2.2.1, GG.out.2.2.2.2.2.2.2.2.2.2.2.2.2.2.2.2.2.2.1, GG.out.2.2.2.2.2.2.2.2.2.2.2.2.2.2.2.2.2.2.2⟩, hidD (SS0.out)⟩
        · have hS0 := SS0.out
          obtain rfl := GG.out.2.2.2.2.2.2.2.2.2.2.2.2.1 (hds 12 (by simp))
          clear hds
          refine wpOp_go rfl rfl (fun K hK => ?_)
          go_simp
          exact hK _ _ ⟨_, _, _, _, _, _, _, _, _, _, _, _, _, _, _, _, _, _, _, _, rfl, hidD ⟨GG.out.1, GG.out.2.1, GG.out.2.2.1, GG.out.2.2.2.1, GG.out.2.2.2.2.1, GG.out.2.2.2.2.2.1, GG.out.2.2.2.2.2.2.1, GG.out.2.2.2.2.2.2.2.1, GG.out.2.2.2.2.2.2.2.2.1, GG.out.2.2.2.2.2.2.2.2.2.1, GG.out.2.2.2.2.2.2.2.2.2.2.1, GG.out.2.2.2.2.2.2.2.2.2.2.2.1, fun _ => rfl, fun _ => rfl, GG.out.2.2.2.2.2.2.2.2.2.2.2.2.2.2.1, GG.out.2.2.2.2.2.2.2.2.2.2.2.2.2.2.2.1, GG.out.2.2.2.2.2.2.2.2.2.2.2.2.2.2.2.2.1, GG.out.2.2.2.2.2.2.2.2.2.2.2.2.2.2.2.2.2.1, GG.out.2.2.2.2.2.2.2.2.2.2.2.2.2.2.2.2.2.2.1, GG.out.2.2.2.2.2.2.2.2.2.2.2.2.2.2.2.2.2.2.2⟩, hidD (SS0.out)⟩
        · have hS0 := SS0.out
          obtain rfl := GG.out.2.2.2.2.2.2.2.2.2.2.2.2.2.1 (hds 13 (by simp))
          clear hds
          refine wpOp_go rfl rfl (fun K hK => ?_)
          go_simp
          exact hK _ _ ⟨_, _, _, _, _, _, _, _, _, _, _, _, _, _, _, _, _, _, _, _, rfl, hidD ⟨GG.out.1, GG.out.2.1, GG.out.2.2.1, GG.out.2.2.2.1, GG.out.2.2.2.2.1, GG.out.2.2.2.2.2.1, GG.out.2.2.2.2.2.2.1, GG.out.2.2.2.2.2.2.2.1, GG.out.2.2.2.2.2.2.2.2.1, GG.out.2.2.2.2.2.2.2.2.2.1, GG.out.2.2.2.2.2.2.2.2.2.2.1, GG.out.2.2.2.2.2.2.2.2.2.2.2.1, GG.out.2.2.2.2.2.2.2.2.2.2.2.2.1, fun _ => rfl, fun _ => rfl, GG.out.2.2.2.2.2.2.2.2.2.2.2.2.2.2.2.1, GG.out.2.2.2.2.2.2.2.2.2.2.2.2.2.2.2.2.1, GG.out.2.2.2.2.2.2.2.2.2.2.2.2.2.2.2.2.2.1, GG.out.2.2.2.2.2.2.2.2.2.2.2.2.2.2.2.2.2.2.1, GG.out.2.2.2.2.2.2.2.2.2.2.2.2.2.2.2.2.2.2.2⟩, hidD (SS0.out)⟩
        · have hS0 := SS0.out
          obtain rfl := GG.out.2.2.2.2.2.2.2.2.2.2.2.1 (hds 11 (by simp))
          obtain rfl := GG.out.2.2.2.2.2.2.2.2.2.2.2.2.2.2.1 (hds 14 (by simp))
          clear hds
          refine wpOp_go rfl rfl (fun K hK => ?_)
          go_simp
          exact hK _ _ ⟨_, _, _, _, _, _, _, _, _, _, _, _, _, _, _, _, _, _, _, _, rfl, hidD ⟨GG.out.1, GG.out.2.1, GG.out.2.2.1, GG.out.2.2.2.1, GG.out.2.2.2.2.1, GG.out.2.2.2.2.2.1, GG.out.2.2.2.2.2.2.1, GG.out.2.2.2.2.2.2.2.1, GG.out.2.2.2.2.2.2.2.2.1, GG.out.2.2.2.2.2.2.2.2.2.1, GG.out.2.2.2.2.2.2.2.2.2.2.1, fun _ => rfl, GG.out.2.2.2.2.2.2.2.2.2.2.2.2.1, GG.out.2.2.2.2.2.2.2.2.2.2.2.2.2.1, fun _ => rfl, fun _ => rfl, GG.out.2.2.2.2.2.2.2.2.2.2.2.2.2.2.2.2.1, GG.out.2.2.2.2.2.2.2.2.2.2.2.2.2.2.2.2.2.1, GG.out.2.2.2.2.2.2.2.2.2.2.2.2.2.2.2.2.2.2.1, GG.out.2.2.2.2.2.2.2.2.2.2.2.2.2.2.2.2.2.2.2⟩, hidD (SS0.out)⟩
        · have hS0 := SS0.out
          obtain rfl := GG.out.2.2.2.2.2.2.2.2.2.2.2.2.2.2.2.1 (hds 15 (by simp))
          obtain ⟨⟨e0, e1, e2, e3⟩, hr⟩ := HCL2.out V hS0.1.2.2
          clear hds
          refine wpOp_go rfl rfl (fun K hK => ?_)
          go_simp
          exact hK _ _ ⟨_, _, _, _, _, _, _, _, _, _, _, _, _, _, _, _, _, _, _, _, rfl, hidD ⟨GG.out.1, GG.out.2.1, GG.out.2.2.1, GG.out.2.2.2.1, GG.out.2.2.2.2.1, GG.out.2.2.2.2.2.1, GG.out.2.2.2.2.2.2.1, GG.out.2.2.2.2.2.2.2.1, GG.out.2.2.2.2.2.2.2.2.1, GG.out.2.2.2.2.2.2.2.2.2.1, GG.out.2.2.2.2.2.2.2.2.2.2.1, GG.out.2.2.2.2.2.2.2.2.2.2.2.1, GG.out.2.2.2.2.2.2.2.2.2.2.2.2.1, GG.out.2.2.2.2.2.2.2.2.2.2.2.2.2.1, GG.out.2.2.2.2.2.2.2.2.2.2.2.2.2.2.1, fun _ => rfl, fun _ => hr, GG.out.2.2.2.2.2.2.2.2.2.2.2.2.2.2.2.2.2.1, GG.out.2.2.2.2.2.2.2.2.2.2.2.2.2.2.2.2.2.2.1, GG.out.2.2.2.2.2.2.2.2.2.2.2.2.2.2.2.2.2.2.2⟩, hidD (SS0.out)⟩
        · have hS0 := SS0.out
          have h0 := GG.out.2.2.2.2.2.2.2.2.2.2.1 (hds 10 (by simp))
          have h1 := GG.out.2.2.2.2.2.2.2.2.2.2.2.2.2.2.2.2.1 (hds 16 (by simp))
          clear hds
          have HC := hidD (sover_c _ _ (cf R m) (cf qs jq) V h0 h1 (HSR.out.at m) (HQS.out.at jq) HQN.out)
          rw [HX1.out] at HC
          clear h0 h1
          refine wpOp_go rfl rfl (fun K hK => ?_)
          go_simp
          go_wp2_with (go_at_call 75; refine HC.out.mono ?_; rintro e w5 ⟨v5, rfl, hv5, hb5⟩)
          exact ⟨_, _, _, _, _, _, _, _, _, _, _, _, _, _, _, _, _, _, _, _, rfl, hidD ⟨GG.out.1, GG.out.2.1, GG.out.2.2.1, GG.out.2.2.2.1, GG.out.2.2.2.2.1, GG.out.2.2.2.2.2.1, GG.out.2.2.2.2.2.2.1, GG.out.2.2.2.2.2.2.2.1, GG.out.2.2.2.2.2.2.2.2.1, GG.out.2.2.2.2.2.2.2.2.2.1, fun h => (GG.out.2.2.2.2.2.2.2.2.2.2.1 h).below hb5, GG.out.2.2.2.2.2.2.2.2.2.2.2.1, GG.out.2.2.2.2.2.2.2.2.2.2.2.2.1, GG.out.2.2.2.2.2.2.2.2.2.2.2.2.2.1, GG.out.2.2.2.2.2.2.2.2.2.2.2.2.2.2.1, GG.out.2.2.2.2.2.2.2.2.2.2.2.2.2.2.2.1, fun h => (GG.out.2.2.2.2.2.2.2.2.2.2.2.2.2.2.2.2.1 h).below hb5, fun _ => hv5, fun h => (GG.out.2.2.2.2.2.2.2.2.2.2.2.2.2.2.2.2.2.2.1 h).below hb5, fun h => (GG.out.2.2.2.2.2.2.2.2.2.2.2.2.2.2.2.2.2.2.2 h).below hb5⟩, hidD (SS0.out.below hb5)⟩
        · have hS0 := SS0.out
          have h0 := GG.out.2.2.2.2.2.2.2.2.2.2.2.2.2.2.2.2.2.1 (hds 17 (by simp))
          obtain rfl := GG.out.2.2.2.2.1 (hds 4 (by simp))
          clear hds
          have HC := hidD (xPower_c _ n x V h0 HMN.out.1)
          clear h0
          refine wpOp_go rfl rfl (fun K hK => ?_)
          go_simp
          go_wp2_with (go_at_call 74; refine HC.out.mono ?_; rintro e w5 ⟨v5, rfl, hv5, hb5⟩)
          exact ⟨_, _, _, _, _, _, _, _, _, _, _, _, _, _, _, _, _, _, _, _, rfl, hidD ⟨GG.out.1, GG.out.2.1, GG.out.2.2.1, GG.out.2.2.2.1, fun _ => rfl, GG.out.2.2.2.2.2.1, GG.out.2.2.2.2.2.2.1, GG.out.2.2.2.2.2.2.2.1, GG.out.2.2.2.2.2.2.2.2.1, GG.out.2.2.2.2.2.2.2.2.2.1, fun h => (GG.out.2.2.2.2.2.2.2.2.2.2.1 h).below hb5, GG.out.2.2.2.2.2.2.2.2.2.2.2.1, GG.out.2.2.2.2.2.2.2.2.2.2.2.2.1, GG.out.2.2.2.2.2.2.2.2.2.2.2.2.2.1, GG.out.2.2.2.2.2.2.2.2.2.2.2.2.2.2.1, GG.out.2.2.2.2.2.2.2.2.2.2.2.2.2.2.2.1, fun h => (GG.out.2.2.2.2.2.2.2.2.2.2.2.2.2.2.2.2.1 h).below hb5, fun h => (GG.out.2.2.2.2.2.2.2.2.2.2.2.2.2.2.2.2.2.1 h).below hb5, fun _ => hv5, fun h => (GG.out.2.2.2.2.2.2.2.2.2.2.2.2.2.2.2.2.2.2.2 h).below hb5⟩, hidD (SS0.out.below hb5)⟩
        · have hS0 := SS0.out
          have h0 := GG.out.2.2.2.2.2.2.2.2.2.2.2.2.2.2.2.2.2.2.1 (hds 18 (by simp))
          clear hds
          refine wpOp_go rfl rfl (fun K hK => ?_)
          go_simp
          exact hK _ _ ⟨_, _, _, _, _, _, _, _, _, _, _, _, _, _, _, _, _, _, _, _, rfl, hidD ⟨GG.out.1, GG.out.2.1, GG.out.2.2.1, GG.out.2.2.2.1, GG.out.2.2.2.2.1, GG.out.2.2.2.2.2.1, GG.out.2.2.2.2.2.2.1, GG.out.2.2.2.2.2.2.2.1, GG.out.2.2.2.2.2.2.2.2.1, GG.out.2.2.2.2.2.2.2.2.2.1, GG.out.2.2.2.2.2.2.2.2.2.2.1, GG.out.2.2.2.2.2.2.2.2.2.2.2.1, GG.out.2.2.2.2.2.2.2.2.2.2.2.2.1, GG.out.2.2.2.2.2.2.2.2.2.2.2.2.2.1, GG.out.2.2.2.2.2.2.2.2.2.2.2.2.2.2.1, GG.out.2.2.2.2.2.2.2.2.2.2.2.2.2.2.2.1, GG.out.2.2.2.2.2.2.2.2.2.2.2.2.2.2.2.2.1, GG.out.2.2.2.2.2.2.2.2.2.2.2.2.2.2.2.2.2.1, GG.out.2.2.2.2.2.2.2.2.2.2.2.2.2.2.2.2.2.2.1, fun _ => h0⟩, hidD (SS0.out)⟩
      case fin1 =>
        rintro D act V hDD ⟨t16x, t17x, t18x, t19x, t20x, t21x, t22x, t23x, t24x, t25x, t26x, t27x, t28x, t29x, t30x, t31x, t32x, t33x, t34x, t8x, rfl, GG, SS0⟩
        have hM := GG.out.2.2.2.2.2.2.2.2.2.2.2.2.2.2.2.2.2.2.2 (hDD 19 (by decide))
        have HV := hidD SS0.out.1
        clear GG SS0 hDD
        obtain ⟨a9, l9, c9, rfl⟩ := hM.form
        have HM := hidD hM
        clear hM
        have H1 := hidD (xSum_c _ _ Q (trimQ (upR n [x])) V HV.out.1 HM.out HSQ.out HMS.out ⟨HLQ.out.1, by have := HLM.out; have := HMN.out; omega⟩)
        have H2 := hidD (fun (U : World) (h : Below V.heap.size V U) => xTimes_c _ _ (trimQ (upR n [x])) qs U (HM.out.below h) (HBR.out.below (HV.out.2.2.trans (h.mono HV.out.2.2.size))) HMS.out HQS.out HOK.out (by have := HLM.out; have := HMN.out; have := HLB.out; omega))
        have H3 := hidD (fun (U : World) (h : Below V.heap.size V U) (v : Value) (hv : RowK false U v (mulQ (trimQ (upR n [x])) qs)) => xLess_c _ v R _ U (HV.out.2.1.below h) hv HSR.out HTS.out ⟨HLQ.out.2, HLT.out⟩)
        go_wp2_with (first
          | (go_at_call 30; refine H1.out.mono ?_; clear H1; rintro e w1 ⟨u1, rfl, hu1, hq1⟩; obtain ⟨a1, l1, c1, rfl⟩ := hu1.form; have HU1 := hidD hu1; clear hu1)
          | (go_at_call 32; refine (H2.out _ hq1).mono ?_; clear H2; rintro e w2 ⟨u2, rfl, hu2, hb2⟩; have hq2 := Below.then hq1 hb2; have HU2 := hidD (HU1.out.below hb2); clear hb2)
          | (go_at_call 31; refine (H3.out _ hq2 _ hu2).mono ?_; clear H3; rintro e w3 ⟨u3, rfl, hu3, hb3⟩; obtain ⟨a3, c3, rfl, _⟩ := id hu3; have HU3 := hidD hu3; have HQ3 := hidD (Below.then hq2 hb3); have HU4 := hidD (HU2.out.below hb3); clear hu2 hu3 hb3 hq1 hq2))
        go_roundw
        case rel => exact ⟨k + 1, _, _, _, ⟨_, _, rfl⟩, ⟨_, _, _, rfl⟩, by have := HSH.out; have := HLR.out; omega, hidD rfl, hidD ⟨HU4.out, HU3.out, HV.out.2.2.trans (HQ3.out.mono HV.out.2.2.size)⟩, HDN⟩
        case measure =>
          show (subQ R _).length < lr
          have := HSH.out
          have := HLR.out
          omega
    · have hge2 : ¬ (lb : Int) ≤ (lr : Int) := by omega
      have HDD := hidD (HD.out.done HTQ.out HQ0.out (by have := HLR.out; have := HLB.out; omega))
      go_wp2_with fail
      exact bodyPost_ret (v := .tuple #[.slice qa ql qc, .slice ra lr rc]) (by simp [results, Tryz.results33, go_sem]) rfl ⟨_, _, rfl, by rw [← HDD.out.1]; exact HX.out.1, by rw [← HDD.out.2]; exact HX.out.2.1, HX.out.2.2⟩
end Go.Proofs.YtcahejkcdcjjgaaGreatDoor
namespace Go.Proofs.YtcahejkcdcjjgaaGreatDoor
open Go.RowKit Go.Shelf

attribute [local go_sem] Oper.semAt_some

set_option maxRecDepth 100000 in
set_option maxHeartbeats 2000000 in
theorem jRead_c (s : ByteArray) (hs : s.size ≤ 140737488351232) (w : World) :
    Calls Tryz.prog 24 #[.string s] w fun e w' => ∃ u, e = .returned u ∧ RowK false w' u (parseP (wlst s)).1 ∧ Below w.heap.size w w' := by
  have HD := hidD (fun (V : World) => xParse_c s hs V)
  clear hs
  go_enter Tryz.func24, Tryz.ntmps24
  go_wp2_with (go_at_call 10; refine (HD.out _).mono ?_; clear HD; rintro e w2 ⟨u, e2, p2, rfl, ⟨rfl, rfl, hu, _, _⟩, hb⟩; obtain ⟨a2, l2, c2, rfl⟩ := hu.form)
  go_ret
  exact ⟨_, rfl, hu, hb⟩

set_option maxRecDepth 100000 in
set_option maxHeartbeats 2000000 in
theorem jGiven_c (s : ByteArray) (w : World) :
    Calls Tryz.prog 25 #[.string s] w fun e w' => ∃ u, e = .returned u ∧ IsPoly w' u (parseP (wlst s)).1 ∧ Below w.heap.size w w' := by
  have HD := hidD (fun (V : World) => yParse_c s V)
  have b0 := Boxed.new w 25 (.slice none 0 0)
  have hA0 : Below w.heap.size w (w.alloc (.cells #[.slice none 0 0] 25)) := (Below.refl _ w).alloc (Nat.le_refl _) _
  obtain ⟨V0, hV0⟩ : ∃ V, w.alloc (.cells #[.slice none 0 0] 25) = V := ⟨_, rfl⟩
  obtain ⟨B0, hB0⟩ : ∃ B, w.heap.size = B := ⟨_, rfl⟩
  rw [hV0] at b0 hA0
  rw [hB0] at b0
  have H0 := hidD b0
  have HA0 := hidD hA0
  have HV0 := hidD hV0
  have HB0 := hidD hB0
  clear b0 hA0 hV0 hB0
  go_enter Tryz.func25, Tryz.ntmps25
  go_upto_region 1 with fail
  rw [HV0.out, HB0.out]
  go_upto_region 2 with (go_at_call 9; refine (HD.out _).mono ?_; clear HD; rintro e w1 ⟨u, e1, p1, rfl, ⟨rfl, rfl, hu⟩, hb⟩; obtain ⟨a1, l1, c1, rfl⟩ := hu.form)
  have hA : Below w1.heap.size w1 (w1.alloc (.cells #[.slice a1 l1 c1] 25)) := (Below.refl _ w1).alloc (Nat.le_refl _) _
  have n1 := Boxed.new w1 25 (.slice a1 l1 c1)
  have n0 := (H0.out.bel hb).bel hA
  have r1 := hu.row.below hA
  have hB := (HA0.out.trans (hb.mono HA0.out.size)).trans (hA.mono (HA0.out.trans (hb.mono HA0.out.size)).size)
  obtain ⟨V1, hV1⟩ : ∃ V, w1.alloc (.cells #[.slice a1 l1 c1] 25) = V := ⟨_, rfl⟩
  obtain ⟨B1, hB1⟩ : ∃ B, w1.heap.size = B := ⟨_, rfl⟩
  rw [hV1, hB1] at n1
  rw [hV1] at n0 r1 hB
  rw [hV1, hB1]
  have x1 := n1.cell
  have x0 := n0.cell
  have f0 := n0.frozen
  have HR := hidD (boxP n0 (.slice a1 l1 c1) r1)
  have HBB := hidD (hB.setCell (p := ⟨B0, 0, none⟩) (by rw [HB0.out]; exact Nat.le_refl _) (.slice a1 l1 c1))
  clear hA n1 n0 r1 hB hV1 hB1 hu hb
  go_wp2_with fail
  exact bodyPost_ret (v := .agg #[.slice a1 l1 c1]) (by simp [results, Tryz.results25, go_sem, x0]) rfl ⟨_, rfl, ⟨_, rfl, HR.out⟩, HBB.out⟩

theorem subQ_length (p q : List Rat) : (subQ p q).length ≤ max p.length q.length := trim_len (subQ_trim _ _) fun i hi => by rw [cf_subQ, cf_ge (by omega), cf_ge (by omega), Rat.sub_self]
theorem mulQ_length (p q : List Rat) : (mulQ p q).length ≤ p.length + q.length := trim_len (mulQ_trim _ _) fun i hi => by unfold mulQ; rw [cf_trim, cf_mulR, conv_far p q hi]
theorem split_small {A : Nat} {ps qs : List Rat} (hA : 1 ≤ A) (hp : ∀ i, SmQ A (cf ps i)) (hq : ∀ i, SmQ A (cf qs i)) (htq : trimQ qs = qs) (hq0 : qs ≠ []) (hL : 2 ^ ps.length * (3 * A + 1) ≤ 1000000) : Sqs (quoQ ps qs) ∧ Sqs (remQ ps qs) ∧ (quoQ ps qs).length ≤ ps.length ∧ (remQ ps qs).length ≤ ps.length := by
  have hql : 0 < qs.length := List.length_pos_iff.2 hq0
  obtain ⟨z, h1, h2, h3⟩ := M3.splitAt_sm (n := qs.length - 1) (m := ps.length - (qs.length - 1)) hA hp hq (trim_last htq hq0) (ps.length - (qs.length - 1))
  have h4 : 2 ^ (ps.length - (qs.length - 1)) * (3 * A + 1) ≤ 2 ^ ps.length * (3 * A + 1) := Nat.mul_le_mul_right _ (Nat.pow_le_pow_right (by omega) (by omega))
  have hl := splitAt_length ps qs (qs.length - 1) (ps.length - (qs.length - 1)) (ps.length - (qs.length - 1))
  refine ⟨Sqs.of fun i => ?_, Sqs.of fun i => ?_, ?_, ?_⟩
  · unfold quoQ; rw [cf_trim]; exact Sq.of (h3 i) (by omega)
  · unfold remQ; rw [cf_trim]; exact Sq.of (h2 i) (by omega)
  · unfold quoQ; exact Nat.le_trans (trim_length_le _) (by rw [hl.1]; omega)
  · unfold remQ; exact Nat.le_trans (trim_length_le _) (by rw [hl.2]; exact Nat.le_refl _)

set_option maxRecDepth 100000 in
set_option maxHeartbeats 16000000 in
theorem polyWorks_c (s t : ByteArray) (hs : s.size ≤ 140737488351232) (ht : t.size ≤ 140737488351232) (w : World) (htab : Pow10 w) :
    Calls Tryz.prog 5 #[.string s, .string t] w fun r w' => r = .returned (.bool true) ∧ Below w.heap.size w w' := by
  have HT := hidD htab
  have hsm := parseP_small (wlst s)
  have htr := parseP_trim (wlst s)
  have hsm2 := parseP_small (wlst t)
  have htr2 := parseP_trim (wlst t)
  have HR1 := hidD (fun (V : World) => jRead_c s hs V)
  have HR2 := hidD (fun (V : World) => jRead_c t ht V)
  have HG1 := hidD (fun (V : World) => jGiven_c s V)
  have HG2 := hidD (fun (V : World) => jGiven_c t V)
  obtain ⟨ps, hps⟩ : ∃ ps, (parseP (wlst s)).1 = ps := ⟨_, rfl⟩
  obtain ⟨qs, hqs⟩ : ∃ qs, (parseP (wlst t)).1 = qs := ⟨_, rfl⟩
  rw [hps] at HR1 HG1 hsm htr
  rw [hqs] at HR2 HG2 hsm2 htr2
  have hP : Sqs ps := Sqs.of fun i => Sq.of (hsm.2 i) (by omega)
  have hQ : Sqs qs := Sqs.of fun i => Sq.of (hsm2.2 i) (by omega)
  have hA : Sqs (addQ ps qs) := Sqs.of fun i => by rw [cf_addQ]; exact Sq.of ((hsm.2 i).add2 (hsm2.2 i)) (by omega)
  have hB : Sqs (subQ ps qs) := Sqs.of fun i => by rw [cf_subQ]; exact Sq.of ((hsm.2 i).sub2 (hsm2.2 i)) (by omega)
  have hl1 : ps.length * 1203 ≤ 9 * 1203 := Nat.mul_le_mul_right _ hsm.1
  have hC : Sqs (mulQ ps qs) := Sqs.of fun i => Sq.of (mulQ_sm hsm.2 hsm2.2 i) (by omega)
  have hTO : M3.TimesOk ps qs := timesOk_of hsm.2 hsm2.2 (by rw [Nat.add_mul]; omega)
  have hLL : 2 ^ ps.length * (3 * 601 + 1) ≤ 1000000 := by
    have h1 : 2 ^ ps.length ≤ 2 ^ 9 := Nat.pow_le_pow_right (by omega) hsm.1
    have h2 : 2 ^ ps.length * (3 * 601 + 1) ≤ 2 ^ 9 * (3 * 601 + 1) := Nat.mul_le_mul_right _ h1
    exact Nat.le_trans h2 (by decide)
  have lA := addQ_length ps qs
  have lB := subQ_length ps qs
  have lC := mulQ_length ps qs
  have HP := hidD hP
  have HQ := hidD hQ
  have HA := hidD hA
  have HB := hidD hB
  have HC := hidD hC
  have HTO := hidD hTO
  have HTP := hidD (fun m => polyT_ok hP (by omega) m)
  have HTQ := hidD (fun m => polyT_ok hQ (by omega) m)
  have HTA := hidD (fun m => polyT_ok hA (by omega) m)
  have HTB := hidD (fun m => polyT_ok hB (by omega) m)
  have HTC := hidD (fun m => polyT_ok hC (by omega) m)
  have HSP := hidD (fun (V : World) (va vb : Value) (ha : IsPoly V va ps) (hb : IsPoly V vb qs) => M3.ySplit_c 601 va vb ps qs V ha hb (by omega) hsm.2 hsm2.2 htr htr2 hLL)
  have HSX := hidD (fun (V : World) (va vb : Value) (ha : RowK false V va ps) (hb : RowK false V vb qs) (h0 : qs ≠ []) => xSplit_c 601 va vb ps qs V ha hb (by omega) hsm.2 hsm2.2 htr htr2 h0 hLL)
  have HSS := hidD (fun (h0 : qs ≠ []) => split_small (by omega : 1 ≤ 601) hsm.2 hsm2.2 htr2 h0 hLL)
  have HSO := hidD (fun (h0 : qs ≠ []) => split_ok ps qs htr2 h0)
  have HLN := hidD (show ps.length ≤ 9 ∧ qs.length ≤ 9 from ⟨hsm.1, hsm2.1⟩)
  have HRP := hidD htr
  have HRQ := hidD htr2
  obtain ⟨TP, hTP⟩ : ∃ S : ByteArray, ⟨(textP ps).toArray⟩ = S := ⟨_, rfl⟩
  obtain ⟨TQ, hTQ⟩ : ∃ S : ByteArray, ⟨(textP qs).toArray⟩ = S := ⟨_, rfl⟩
  obtain ⟨TA, hTA⟩ : ∃ S : ByteArray, ⟨(textP (addQ ps qs)).toArray⟩ = S := ⟨_, rfl⟩
  obtain ⟨TB, hTB⟩ : ∃ S : ByteArray, ⟨(textP (subQ ps qs)).toArray⟩ = S := ⟨_, rfl⟩
  obtain ⟨TC, hTC⟩ : ∃ S : ByteArray, ⟨(textP (mulQ ps qs)).toArray⟩ = S := ⟨_, rfl⟩
  have XTP := hidD hTP
  have XTQ := hidD hTQ
  have XTA := hidD hTA
  have XTB := hidD hTB
  have XTC := hidD hTC
  have M := hidD (Below.refl w.heap.size w)
  clear htab hps hqs hsm htr hsm2 htr2 hP hQ hA hB hC hTO hLL lA lB lC hTP hTQ hTA hTB hTC hs ht hl1
  obtain ⟨lq, hlq⟩ : ∃ l, qs.length = l := ⟨_, rfl⟩
  have HLQ := hidD hlq
  by_cases h0 : qs = []
  · have hlq2 : lq = 0 := by rw [← hlq, h0]; rfl
    subst hlq2
    have HSP2 := hidD (fun (V : World) (va vb : Value) (ha : IsPoly V va ps) (hb : IsPoly V vb qs) => (show Calls Tryz.prog 29 #[va, vb] V fun e w' => ∃ u v, e = .returned (.tuple #[u, v, .bool false]) ∧ IsPoly w' u [] ∧ IsPoly w' v [] ∧ Below V.heap.size V w' by
      have h := HSP.out V va vb ha hb
      rw [show decide (qs ≠ []) = false from decide_eq_false (fun h => h h0)] at h
      simp only [if_pos h0] at h
      exact h))
    clear hlq HSP
    go_enter Tryz.func5, Tryz.ntmps5
    go_upto_region 2 with (go_at_call 24; refine (HR1.out _).mono ?_; clear HR1; rintro e w1 ⟨u, rfl, hu, hb⟩; obtain ⟨ax, lx, cx, rfl⟩ := hu.form)
    replace M := hidD (M.out.trans (hb.mono M.out.size))
    have rX := hu
    clear hu hb
    go_upto_region 3 with (go_at_call 24; refine (HR2.out _).mono ?_; clear HR2; rintro e w2 ⟨u, rfl, hu, hb⟩; obtain ⟨ay, cy, ee, _⟩ := id hu; rw [HLQ.out] at ee; subst ee)
    replace rX := rX.below hb
    replace M := hidD (M.out.trans (hb.mono M.out.size))
    clear hb
    have rY := hu
    clear hu
    go_upto_region 4 with (go_at_call 25; refine (HG1.out _).mono ?_; clear HG1; rintro e w3 ⟨u, rfl, hu, hb⟩; obtain ⟨a3, l3, c3, rfl⟩ := hu.form)
    replace rX := rX.below hb
    replace rY := rY.below hb
    replace M := hidD (M.out.trans (hb.mono M.out.size))
    clear hb
    have hA : Below w3.heap.size w3 (w3.alloc (.cells #[.slice a3 l3 c3] 25)) := (Below.refl _ w3).alloc (Nat.le_refl _) _
    have nP := Boxed.new w3 25 (.slice a3 l3 c3)
    have rP := hu.row.below hA
    replace rX := rX.below hA
    replace rY := rY.below hA
    replace M := hidD (M.out.trans (hA.mono M.out.size))
    clear hA
    obtain ⟨VP, hV⟩ : ∃ V, w3.alloc (.cells #[.slice a3 l3 c3] 25) = V := ⟨_, rfl⟩
    obtain ⟨BP, hB⟩ : ∃ B, w3.heap.size = B := ⟨_, rfl⟩
    rw [hV] at rX rY rP M
    rw [hV, hB] at nP
    rw [hV]
    rw [hB]
    clear hV hB
    clear hu
    go_upto_region 5 with (go_at_call 25; refine (HG2.out _).mono ?_; clear HG2; rintro e w4 ⟨u, rfl, hu, hb⟩; obtain ⟨a4, l4, c4, rfl⟩ := hu.form)
    replace rX := rX.below hb
    replace rY := rY.below hb
    replace nP := nP.bel hb
    replace rP := rP.below hb
    replace M := hidD (M.out.trans (hb.mono M.out.size))
    clear hb
    have hA : Below w4.heap.size w4 (w4.alloc (.cells #[.slice a4 l4 c4] 25)) := (Below.refl _ w4).alloc (Nat.le_refl _) _
    have nQ := Boxed.new w4 25 (.slice a4 l4 c4)
    have rQ := hu.row.below hA
    replace rX := rX.below hA
    replace rY := rY.below hA
    replace nP := nP.bel hA
    replace rP := rP.below hA
    replace M := hidD (M.out.trans (hA.mono M.out.size))
    clear hA
    obtain ⟨VQ, hV⟩ : ∃ V, w4.alloc (.cells #[.slice a4 l4 c4] 25) = V := ⟨_, rfl⟩
    obtain ⟨BQ, hB⟩ : ∃ B, w4.heap.size = B := ⟨_, rfl⟩
    rw [hV] at rX rY nP rP rQ M
    rw [hV, hB] at nQ
    rw [hV]
    rw [hB]
    clear hV hB
    clear hu
    have H1 := hidD (fun (V : World) (h : Below VQ.heap.size VQ V) => yPlus_c _ _ ps qs V (rP.below h).isPoly (rQ.below h).isPoly HP.out HQ.out HA.out)
    have hq : Below VQ.heap.size VQ VQ := Below.refl _ _
    have eP := (nP.bel hq).cell
    have eQ := (nQ.bel hq).cell
    go_upto_region 6 with (go_at_call 26; refine (H1.out _ hq).mono ?_; clear H1; rintro e w5 ⟨u, rfl, hu, _, hb⟩; obtain ⟨a5, l5, c5, rfl⟩ := hu.form)
    replace hb := Below.then hq hb
    clear hq eP eQ
    replace rX := rX.below hb
    replace rY := rY.below hb
    replace nP := nP.bel hb
    replace rP := rP.below hb
    replace nQ := nQ.bel hb
    replace rQ := rQ.below hb
    replace M := hidD (M.out.trans (hb.mono M.out.size))
    clear hb
    have hA : Below w5.heap.size w5 (w5.alloc (.cells #[.slice a5 l5 c5] 25)) := (Below.refl _ w5).alloc (Nat.le_refl _) _
    have nA := Boxed.new w5 25 (.slice a5 l5 c5)
    have rA := hu.row.below hA
    replace rX := rX.below hA
    replace rY := rY.below hA
    replace nP := nP.bel hA
    replace rP := rP.below hA
    replace nQ := nQ.bel hA
    replace rQ := rQ.below hA
    replace M := hidD (M.out.trans (hA.mono M.out.size))
    clear hA
    obtain ⟨VA, hV⟩ : ∃ V, w5.alloc (.cells #[.slice a5 l5 c5] 25) = V := ⟨_, rfl⟩
    obtain ⟨BA, hB⟩ : ∃ B, w5.heap.size = B := ⟨_, rfl⟩
    rw [hV] at rX rY nP rP nQ rQ rA M
    rw [hV, hB] at nA
    rw [hV]
    rw [hB]
    clear hV hB
    clear hu
    have H1 := hidD (fun (V : World) (h : Below VA.heap.size VA V) => yMinus_c _ _ ps qs V (rP.below h).isPoly (rQ.below h).isPoly HP.out HQ.out HB.out)
    have hq : Below VA.heap.size VA VA := Below.refl _ _
    have eP := (nP.bel hq).cell
    have eQ := (nQ.bel hq).cell
    go_upto_region 7 with (go_at_call 27; refine (H1.out _ hq).mono ?_; clear H1; rintro e w6 ⟨u, rfl, hu, _, hb⟩; obtain ⟨a6, l6, c6, rfl⟩ := hu.form)
    replace hb := Below.then hq hb
    clear hq eP eQ
    replace rX := rX.below hb
    replace rY := rY.below hb
    replace nP := nP.bel hb
    replace rP := rP.below hb
    replace nQ := nQ.bel hb
    replace rQ := rQ.below hb
    replace nA := nA.bel hb
    replace rA := rA.below hb
    replace M := hidD (M.out.trans (hb.mono M.out.size))
    clear hb
    have hA : Below w6.heap.size w6 (w6.alloc (.cells #[.slice a6 l6 c6] 25)) := (Below.refl _ w6).alloc (Nat.le_refl _) _
    have nB := Boxed.new w6 25 (.slice a6 l6 c6)
    have rB := hu.row.below hA
    replace rX := rX.below hA
    replace rY := rY.below hA
    replace nP := nP.bel hA
    replace rP := rP.below hA
    replace nQ := nQ.bel hA
    replace rQ := rQ.below hA
    replace nA := nA.bel hA
    replace rA := rA.below hA
    replace M := hidD (M.out.trans (hA.mono M.out.size))
    clear hA
    obtain ⟨VB, hV⟩ : ∃ V, w6.alloc (.cells #[.slice a6 l6 c6] 25) = V := ⟨_, rfl⟩
    obtain ⟨BB, hB⟩ : ∃ B, w6.heap.size = B := ⟨_, rfl⟩
    rw [hV] at rX rY nP rP nQ rQ nA rA rB M
    rw [hV, hB] at nB
    rw [hV]
    rw [hB]
    clear hV hB
    clear hu
    have H1 := hidD (fun (V : World) (h : Below VB.heap.size VB V) => M3.yTimes_c _ _ ps qs V (rP.below h).isPoly (rQ.below h).isPoly HP.out HQ.out HTO.out (by have := HLN.out; omega))
    have hq : Below VB.heap.size VB VB := Below.refl _ _
    have eP := (nP.bel hq).cell
    have eQ := (nQ.bel hq).cell
    go_upto_region 8 with (go_at_call 28; refine (H1.out _ hq).mono ?_; clear H1; rintro e w7 ⟨u, rfl, hu, _, hb⟩; obtain ⟨a7, l7, c7, rfl⟩ := hu.form)
    replace hb := Below.then hq hb
    clear hq eP eQ
    replace rX := rX.below hb
    replace rY := rY.below hb
    replace nP := nP.bel hb
    replace rP := rP.below hb
    replace nQ := nQ.bel hb
    replace rQ := rQ.below hb
    replace nA := nA.bel hb
    replace rA := rA.below hb
    replace nB := nB.bel hb
    replace rB := rB.below hb
    replace M := hidD (M.out.trans (hb.mono M.out.size))
    clear hb
    have hA : Below w7.heap.size w7 (w7.alloc (.cells #[.slice a7 l7 c7] 25)) := (Below.refl _ w7).alloc (Nat.le_refl _) _
    have nC := Boxed.new w7 25 (.slice a7 l7 c7)
    have rC := hu.row.below hA
    replace rX := rX.below hA
    replace rY := rY.below hA
    replace nP := nP.bel hA
    replace rP := rP.below hA
    replace nQ := nQ.bel hA
    replace rQ := rQ.below hA
    replace nA := nA.bel hA
    replace rA := rA.below hA
    replace nB := nB.bel hA
    replace rB := rB.below hA
    replace M := hidD (M.out.trans (hA.mono M.out.size))
    clear hA
    obtain ⟨VC, hV⟩ : ∃ V, w7.alloc (.cells #[.slice a7 l7 c7] 25) = V := ⟨_, rfl⟩
    obtain ⟨BC, hB⟩ : ∃ B, w7.heap.size = B := ⟨_, rfl⟩
    rw [hV] at rX rY nP rP nQ rQ nA rA nB rB rC M
    rw [hV, hB] at nC
    rw [hV]
    rw [hB]
    clear hV hB
    clear hu
    have H1 := hidD (fun (V : World) (h : Below VC.heap.size VC V) => HSP2.out V _ _ (rP.below h).isPoly (rQ.below h).isPoly)
    have hq : Below VC.heap.size VC VC := Below.refl _ _
    have eP := (nP.bel hq).cell
    have eQ := (nQ.bel hq).cell
    go_upto_region 9 with (go_at_call 29; refine (H1.out _ hq).mono ?_; clear H1; rintro e w8 ⟨u, v, rfl, hu, hv, hb⟩; obtain ⟨a8, l8, c8, rfl⟩ := hu.form; obtain ⟨a9, l9, c9, rfl⟩ := hv.form)
    replace hb := Below.then hq hb
    clear hq eP eQ
    replace rX := rX.below hb
    replace rY := rY.below hb
    replace nP := nP.bel hb
    replace rP := rP.below hb
    replace nQ := nQ.bel hb
    replace rQ := rQ.below hb
    replace nA := nA.bel hb
    replace rA := rA.below hb
    replace nB := nB.bel hb
    replace rB := rB.below hb
    replace nC := nC.bel hb
    replace rC := rC.below hb
    replace M := hidD (M.out.trans (hb.mono M.out.size))
    clear hb
    have hA : Below w8.heap.size w8 ((w8.alloc (.cells #[.slice a8 l8 c8] 25)).alloc (.cells #[.slice a9 l9 c9] 25)) := ((Below.refl _ w8).alloc (Nat.le_refl _) _).alloc (by rw [World.size_alloc]; omega) _
    have nD := (Boxed.new w8 25 (.slice a8 l8 c8)).alloc (.cells #[.slice a9 l9 c9] 25)
    have nR := Boxed.new (w8.alloc (.cells #[.slice a8 l8 c8] 25)) 25 (.slice a9 l9 c9)
    rw [World.size_alloc] at nR
    have rD := hu.row.below hA
    have rR := hv.row.below hA
    replace rX := rX.below hA
    replace rY := rY.below hA
    replace nP := nP.bel hA
    replace rP := rP.below hA
    replace nQ := nQ.bel hA
    replace rQ := rQ.below hA
    replace nA := nA.bel hA
    replace rA := rA.below hA
    replace nB := nB.bel hA
    replace rB := rB.below hA
    replace nC := nC.bel hA
    replace rC := rC.below hA
    replace M := hidD (M.out.trans (hA.mono M.out.size))
    clear hA
    obtain ⟨VS, hV⟩ : ∃ V, (w8.alloc (.cells #[.slice a8 l8 c8] 25)).alloc (.cells #[.slice a9 l9 c9] 25) = V := ⟨_, rfl⟩
    obtain ⟨BD, hB⟩ : ∃ B, w8.heap.size = B := ⟨_, rfl⟩
    rw [hV] at rX rY nP rP nQ rQ nA rA nB rB nC rC rD rR M
    rw [hV, hB] at nD nR
    rw [hV]
    rw [hB]
    clear hV hB hu hv
    have HTB9 := hidD (fun (V : World) (h : Below VS.heap.size VS V) => tab_below HT.out (M.out.trans (h.mono M.out.size)))
    have H1 := hidD (fun (V : World) (h : Below VS.heap.size VS V) => yText_c _ (addQ ps qs) V (rA.below h).isPoly HA.out HTA.out (tab_below HT.out (M.out.trans (h.mono M.out.size))))
    rw [XTA.out] at H1
    have H2 := hidD (fun (V : World) (h : Below VS.heap.size VS V) => xSum_c _ _ ps qs V (rX.below h) (rY.below h) HP.out HQ.out (by have := HLN.out; omega))
    have H3 := hidD (fun (V : World) (h : Below VS.heap.size VS V) (v : Value) (hv : RowK false V v (addQ ps qs)) => xText_c v (addQ ps qs) V hv HA.out HTA.out (addQ_trim _ _) (HTB9.out V h))
    rw [XTA.out] at H3
    have H4 := hidD (fun (V : World) (h : Below VS.heap.size VS V) => yText_c _ (subQ ps qs) V (rB.below h).isPoly HB.out HTB.out (tab_below HT.out (M.out.trans (h.mono M.out.size))))
    rw [XTB.out] at H4
    have H5 := hidD (fun (V : World) (h : Below VS.heap.size VS V) => xLess_c _ _ ps qs V (rX.below h) (rY.below h) HP.out HQ.out (by have := HLN.out; omega))
    have H6 := hidD (fun (V : World) (h : Below VS.heap.size VS V) (v : Value) (hv : RowK false V v (subQ ps qs)) => xText_c v (subQ ps qs) V hv HB.out HTB.out (subQ_trim _ _) (HTB9.out V h))
    rw [XTB.out] at H6
    have H7 := hidD (fun (V : World) (h : Below VS.heap.size VS V) => yText_c _ (mulQ ps qs) V (rC.below h).isPoly HC.out HTC.out (tab_below HT.out (M.out.trans (h.mono M.out.size))))
    rw [XTC.out] at H7
    have H8 := hidD (fun (V : World) (h : Below VS.heap.size VS V) => xTimes_c _ _ ps qs V (rX.below h) (rY.below h) HP.out HQ.out HTO.out (by have := HLN.out; omega))
    have H9 := hidD (fun (V : World) (h : Below VS.heap.size VS V) (v : Value) (hv : RowK false V v (mulQ ps qs)) => xText_c v (mulQ ps qs) V hv HC.out HTC.out (mulQ_trim _ _) (HTB9.out V h))
    rw [XTC.out] at H9
    have hq : Below VS.heap.size VS VS := Below.refl _ _
    have eA := (nA.bel hq).cell
    have eB := (nB.bel hq).cell
    have eC := (nC.bel hq).cell
    have eD := (nD.bel hq).cell
    have eR := (nR.bel hq).cell
    have eP := (nP.bel hq).cell
    have eQ := (nQ.bel hq).cell
    have H11 := hidD (fun (V : World) (h : Below VS.heap.size VS V) => yText_c _ [] V (rD.below h).isPoly (Sqs.of fun i => Sq.of (k := 1) (by rw [cf_nil]; exact SmQ.zero 1 (by omega)) (by omega)) (fun m => by simp [polyT]) (tab_below HT.out (M.out.trans (h.mono M.out.size))))
    rw [textP_nil] at H11
    have H13 := hidD (fun (V : World) (h : Below VS.heap.size VS V) => yText_c _ [] V (rR.below h).isPoly (Sqs.of fun i => Sq.of (k := 1) (by rw [cf_nil]; exact SmQ.zero 1 (by omega)) (by omega)) (fun m => by simp [polyT]) (tab_below HT.out (M.out.trans (h.mono M.out.size))))
    rw [textP_nil] at H13
    have H15 := hidD (fun (V : World) (h : Below VS.heap.size VS V) => yText_c _ ps V (rP.below h).isPoly HP.out HTP.out (tab_below HT.out (M.out.trans (h.mono M.out.size))))
    rw [XTP.out] at H15
    have H16 := hidD (fun (V : World) (h : Below VS.heap.size VS V) => xText_c _ ps V (rX.below h) HP.out HTP.out HRP.out (tab_below HT.out (M.out.trans (h.mono M.out.size))))
    rw [XTP.out] at H16
    have H17 := hidD (fun (V : World) (h : Below VS.heap.size VS V) => yText_c _ qs V (rQ.below h).isPoly HQ.out HTQ.out (tab_below HT.out (M.out.trans (h.mono M.out.size))))
    rw [XTQ.out] at H17
    have H18 := hidD (fun (V : World) (h : Below VS.heap.size VS V) => xText_c _ qs V (rY.below h) HQ.out HTQ.out HRQ.out (tab_below HT.out (M.out.trans (h.mono M.out.size))))
    rw [XTQ.out] at H18
    have H19 := hidD (fun (V : World) (h : Below VS.heap.size VS V) => jalive_c V (tab_below HT.out (M.out.trans (h.mono M.out.size))))
    go_wp2_with (first
      | (go_at_call 13; refine (H1.out _ hq).mono ?_; clear H1; rintro e x1 ⟨rfl, hb⟩; replace hq := Below.then hq hb; clear hb eA eB eC eD eR eP eQ; have eA := (nA.bel hq).cell; have eB := (nB.bel hq).cell; have eC := (nC.bel hq).cell; have eD := (nD.bel hq).cell; have eR := (nR.bel hq).cell; have eP := (nP.bel hq).cell; have eQ := (nQ.bel hq).cell)
      | (go_at_call 30; refine (H2.out _ hq).mono ?_; clear H2; rintro e x2 ⟨v2, rfl, gv, hb⟩; replace hq := Below.then hq hb; clear hb eA eB eC eD eR eP eQ; have eA := (nA.bel hq).cell; have eB := (nB.bel hq).cell; have eC := (nC.bel hq).cell; have eD := (nD.bel hq).cell; have eR := (nR.bel hq).cell; have eP := (nP.bel hq).cell; have eQ := (nQ.bel hq).cell)
      | (go_at_call 14; refine (H3.out _ hq _ gv).mono ?_; clear H3; rintro e x3 ⟨rfl, hb⟩; replace hq := Below.then hq hb; clear hb gv eA eB eC eD eR eP eQ; have eA := (nA.bel hq).cell; have eB := (nB.bel hq).cell; have eC := (nC.bel hq).cell; have eD := (nD.bel hq).cell; have eR := (nR.bel hq).cell; have eP := (nP.bel hq).cell; have eQ := (nQ.bel hq).cell)
      | (go_at_call 13; refine (H4.out _ hq).mono ?_; clear H4; rintro e x4 ⟨rfl, hb⟩; replace hq := Below.then hq hb; clear hb eA eB eC eD eR eP eQ; have eA := (nA.bel hq).cell; have eB := (nB.bel hq).cell; have eC := (nC.bel hq).cell; have eD := (nD.bel hq).cell; have eR := (nR.bel hq).cell; have eP := (nP.bel hq).cell; have eQ := (nQ.bel hq).cell)
      | (go_at_call 31; refine (H5.out _ hq).mono ?_; clear H5; rintro e x5 ⟨v5, rfl, gv, hb⟩; replace hq := Below.then hq hb; clear hb eA eB eC eD eR eP eQ; have eA := (nA.bel hq).cell; have eB := (nB.bel hq).cell; have eC := (nC.bel hq).cell; have eD := (nD.bel hq).cell; have eR := (nR.bel hq).cell; have eP := (nP.bel hq).cell; have eQ := (nQ.bel hq).cell)
      | (go_at_call 14; refine (H6.out _ hq _ gv).mono ?_; clear H6; rintro e x6 ⟨rfl, hb⟩; replace hq := Below.then hq hb; clear hb gv eA eB eC eD eR eP eQ; have eA := (nA.bel hq).cell; have eB := (nB.bel hq).cell; have eC := (nC.bel hq).cell; have eD := (nD.bel hq).cell; have eR := (nR.bel hq).cell; have eP := (nP.bel hq).cell; have eQ := (nQ.bel hq).cell)
      | (go_at_call 13; refine (H7.out _ hq).mono ?_; clear H7; rintro e x7 ⟨rfl, hb⟩; replace hq := Below.then hq hb; clear hb eA eB eC eD eR eP eQ; have eA := (nA.bel hq).cell; have eB := (nB.bel hq).cell; have eC := (nC.bel hq).cell; have eD := (nD.bel hq).cell; have eR := (nR.bel hq).cell; have eP := (nP.bel hq).cell; have eQ := (nQ.bel hq).cell)
      | (go_at_call 32; refine (H8.out _ hq).mono ?_; clear H8; rintro e x8 ⟨v8, rfl, gv, hb⟩; replace hq := Below.then hq hb; clear hb eA eB eC eD eR eP eQ; have eA := (nA.bel hq).cell; have eB := (nB.bel hq).cell; have eC := (nC.bel hq).cell; have eD := (nD.bel hq).cell; have eR := (nR.bel hq).cell; have eP := (nP.bel hq).cell; have eQ := (nQ.bel hq).cell)
      | (go_at_call 14; refine (H9.out _ hq _ gv).mono ?_; clear H9; rintro e x9 ⟨rfl, hb⟩; replace hq := Below.then hq hb; clear hb gv eA eB eC eD eR eP eQ; have eA := (nA.bel hq).cell; have eB := (nB.bel hq).cell; have eC := (nC.bel hq).cell; have eD := (nD.bel hq).cell; have eR := (nR.bel hq).cell; have eP := (nP.bel hq).cell; have eQ := (nQ.bel hq).cell)
      | (go_at_call 13; refine (H11.out _ hq).mono ?_; clear H11; rintro e x10 ⟨rfl, hb⟩; replace hq := Below.then hq hb; clear hb eA eB eC eD eR eP eQ; have eA := (nA.bel hq).cell; have eB := (nB.bel hq).cell; have eC := (nC.bel hq).cell; have eD := (nD.bel hq).cell; have eR := (nR.bel hq).cell; have eP := (nP.bel hq).cell; have eQ := (nQ.bel hq).cell)
      | (go_at_call 13; refine (H13.out _ hq).mono ?_; clear H13; rintro e x11 ⟨rfl, hb⟩; replace hq := Below.then hq hb; clear hb eA eB eC eD eR eP eQ; have eA := (nA.bel hq).cell; have eB := (nB.bel hq).cell; have eC := (nC.bel hq).cell; have eD := (nD.bel hq).cell; have eR := (nR.bel hq).cell; have eP := (nP.bel hq).cell; have eQ := (nQ.bel hq).cell)
      | (go_at_call 13; refine (H15.out _ hq).mono ?_; clear H15; rintro e x12 ⟨rfl, hb⟩; replace hq := Below.then hq hb; clear hb eA eB eC eD eR eP eQ; have eA := (nA.bel hq).cell; have eB := (nB.bel hq).cell; have eC := (nC.bel hq).cell; have eD := (nD.bel hq).cell; have eR := (nR.bel hq).cell; have eP := (nP.bel hq).cell; have eQ := (nQ.bel hq).cell)
      | (go_at_call 14; refine (H16.out _ hq).mono ?_; clear H16; rintro e x13 ⟨rfl, hb⟩; replace hq := Below.then hq hb; clear hb eA eB eC eD eR eP eQ; have eA := (nA.bel hq).cell; have eB := (nB.bel hq).cell; have eC := (nC.bel hq).cell; have eD := (nD.bel hq).cell; have eR := (nR.bel hq).cell; have eP := (nP.bel hq).cell; have eQ := (nQ.bel hq).cell)
      | (go_at_call 13; refine (H17.out _ hq).mono ?_; clear H17; rintro e x14 ⟨rfl, hb⟩; replace hq := Below.then hq hb; clear hb eA eB eC eD eR eP eQ; have eA := (nA.bel hq).cell; have eB := (nB.bel hq).cell; have eC := (nC.bel hq).cell; have eD := (nD.bel hq).cell; have eR := (nR.bel hq).cell; have eP := (nP.bel hq).cell; have eQ := (nQ.bel hq).cell)
      | (go_at_call 14; refine (H18.out _ hq).mono ?_; clear H18; rintro e x15 ⟨rfl, hb⟩; replace hq := Below.then hq hb; clear hb eA eB eC eD eR eP eQ; have eA := (nA.bel hq).cell; have eB := (nB.bel hq).cell; have eC := (nC.bel hq).cell; have eD := (nD.bel hq).cell; have eR := (nR.bel hq).cell; have eP := (nP.bel hq).cell; have eQ := (nQ.bel hq).cell)
      | (go_at_call 19; refine (H19.out _ hq).mono ?_; clear H19; rintro e x16 ⟨rfl, hb⟩; replace hq := Below.then hq hb; clear hb eA eB eC eD eR eP eQ; have eA := (nA.bel hq).cell; have eB := (nB.bel hq).cell; have eC := (nC.bel hq).cell; have eD := (nD.bel hq).cell; have eR := (nR.bel hq).cell; have eP := (nP.bel hq).cell; have eQ := (nQ.bel hq).cell))
    go_ret
    exact ⟨rfl, M.out.trans (hq.mono M.out.size)⟩
  have hlq2 : (0 : Int) < (lq : Int) := by have := List.length_pos_iff.2 h0; omega
  have hlq3 : 0 < lq := by omega
  have HSP2 := hidD (fun (V : World) (va vb : Value) (ha : IsPoly V va ps) (hb : IsPoly V vb qs) => (show Calls Tryz.prog 29 #[va, vb] V fun e w' => ∃ u v, e = .returned (.tuple #[u, v, .bool true]) ∧ IsPoly w' u (quoQ ps qs) ∧ IsPoly w' v (remQ ps qs) ∧ Below V.heap.size V w' by
    have h := HSP.out V va vb ha hb
    rw [show decide (qs ≠ []) = true from decide_eq_true h0] at h
    simp only [if_neg h0] at h
    exact h))
  clear hlq HSP
  go_enter Tryz.func5, Tryz.ntmps5
  go_upto_region 2 with (go_at_call 24; refine (HR1.out _).mono ?_; clear HR1; rintro e w1 ⟨u, rfl, hu, hb⟩; obtain ⟨ax, lx, cx, rfl⟩ := hu.form)
  replace M := hidD (M.out.trans (hb.mono M.out.size))
  have rX := hu
  clear hu hb
  go_upto_region 3 with (go_at_call 24; refine (HR2.out _).mono ?_; clear HR2; rintro e w2 ⟨u, rfl, hu, hb⟩; obtain ⟨ay, cy, ee, _⟩ := id hu; rw [HLQ.out] at ee; subst ee)
  replace rX := rX.below hb
  replace M := hidD (M.out.trans (hb.mono M.out.size))
  clear hb
  have rY := hu
  clear hu
  go_upto_region 4 with (go_at_call 25; refine (HG1.out _).mono ?_; clear HG1; rintro e w3 ⟨u, rfl, hu, hb⟩; obtain ⟨a3, l3, c3, rfl⟩ := hu.form)
  replace rX := rX.below hb
  replace rY := rY.below hb
  replace M := hidD (M.out.trans (hb.mono M.out.size))
  clear hb
  have hA : Below w3.heap.size w3 (w3.alloc (.cells #[.slice a3 l3 c3] 25)) := (Below.refl _ w3).alloc (Nat.le_refl _) _
  have nP := Boxed.new w3 25 (.slice a3 l3 c3)
  have rP := hu.row.below hA
  replace rX := rX.below hA
  replace rY := rY.below hA
  replace M := hidD (M.out.trans (hA.mono M.out.size))
  clear hA
  obtain ⟨VP, hV⟩ : ∃ V, w3.alloc (.cells #[.slice a3 l3 c3] 25) = V := ⟨_, rfl⟩
  obtain ⟨BP, hB⟩ : ∃ B, w3.heap.size = B := ⟨_, rfl⟩
  rw [hV] at rX rY rP M
  rw [hV, hB] at nP
  rw [hV]
  rw [hB]
  clear hV hB
  clear hu
  go_upto_region 5 with (go_at_call 25; refine (HG2.out _).mono ?_; clear HG2; rintro e w4 ⟨u, rfl, hu, hb⟩; obtain ⟨a4, l4, c4, rfl⟩ := hu.form)
  replace rX := rX.below hb
  replace rY := rY.below hb
  replace nP := nP.bel hb
  replace rP := rP.below hb
  replace M := hidD (M.out.trans (hb.mono M.out.size))
  clear hb
  have hA : Below w4.heap.size w4 (w4.alloc (.cells #[.slice a4 l4 c4] 25)) := (Below.refl _ w4).alloc (Nat.le_refl _) _
  have nQ := Boxed.new w4 25 (.slice a4 l4 c4)
  have rQ := hu.row.below hA
  replace rX := rX.below hA
  replace rY := rY.below hA
  replace nP := nP.bel hA
  replace rP := rP.below hA
  replace M := hidD (M.out.trans (hA.mono M.out.size))
  clear hA
  obtain ⟨VQ, hV⟩ : ∃ V, w4.alloc (.cells #[.slice a4 l4 c4] 25) = V := ⟨_, rfl⟩
  obtain ⟨BQ, hB⟩ : ∃ B, w4.heap.size = B := ⟨_, rfl⟩
  rw [hV] at rX rY nP rP rQ M
  rw [hV, hB] at nQ
  rw [hV]
  rw [hB]
  clear hV hB
  clear hu
  have H1 := hidD (fun (V : World) (h : Below VQ.heap.size VQ V) => yPlus_c _ _ ps qs V (rP.below h).isPoly (rQ.below h).isPoly HP.out HQ.out HA.out)
  have hq : Below VQ.heap.size VQ VQ := Below.refl _ _
  have eP := (nP.bel hq).cell
  have eQ := (nQ.bel hq).cell
  go_upto_region 6 with (go_at_call 26; refine (H1.out _ hq).mono ?_; clear H1; rintro e w5 ⟨u, rfl, hu, _, hb⟩; obtain ⟨a5, l5, c5, rfl⟩ := hu.form)
  replace hb := Below.then hq hb
  clear hq eP eQ
  replace rX := rX.below hb
  replace rY := rY.below hb
  replace nP := nP.bel hb
  replace rP := rP.below hb
  replace nQ := nQ.bel hb
  replace rQ := rQ.below hb
  replace M := hidD (M.out.trans (hb.mono M.out.size))
  clear hb
  have hA : Below w5.heap.size w5 (w5.alloc (.cells #[.slice a5 l5 c5] 25)) := (Below.refl _ w5).alloc (Nat.le_refl _) _
  have nA := Boxed.new w5 25 (.slice a5 l5 c5)
  have rA := hu.row.below hA
  replace rX := rX.below hA
  replace rY := rY.below hA
  replace nP := nP.bel hA
  replace rP := rP.below hA
  replace nQ := nQ.bel hA
  replace rQ := rQ.below hA
  replace M := hidD (M.out.trans (hA.mono M.out.size))
  clear hA
  obtain ⟨VA, hV⟩ : ∃ V, w5.alloc (.cells #[.slice a5 l5 c5] 25) = V := ⟨_, rfl⟩
  obtain ⟨BA, hB⟩ : ∃ B, w5.heap.size = B := ⟨_, rfl⟩
  rw [hV] at rX rY nP rP nQ rQ rA M
  rw [hV, hB] at nA
  rw [hV]
  rw [hB]
  clear hV hB
  clear hu
  have H1 := hidD (fun (V : World) (h : Below VA.heap.size VA V) => yMinus_c _ _ ps qs V (rP.below h).isPoly (rQ.below h).isPoly HP.out HQ.out HB.out)
  have hq : Below VA.heap.size VA VA := Below.refl _ _
  have eP := (nP.bel hq).cell
  have eQ := (nQ.bel hq).cell
  go_upto_region 7 with (go_at_call 27; refine (H1.out _ hq).mono ?_; clear H1; rintro e w6 ⟨u, rfl, hu, _, hb⟩; obtain ⟨a6, l6, c6, rfl⟩ := hu.form)
  replace hb := Below.then hq hb
  clear hq eP eQ
  replace rX := rX.below hb
  replace rY := rY.below hb
  replace nP := nP.bel hb
  replace rP := rP.below hb
  replace nQ := nQ.bel hb
  replace rQ := rQ.below hb
  replace nA := nA.bel hb
  replace rA := rA.below hb
  replace M := hidD (M.out.trans (hb.mono M.out.size))
  clear hb
  have hA : Below w6.heap.size w6 (w6.alloc (.cells #[.slice a6 l6 c6] 25)) := (Below.refl _ w6).alloc (Nat.le_refl _) _
  have nB := Boxed.new w6 25 (.slice a6 l6 c6)
  have rB := hu.row.below hA
  replace rX := rX.below hA
  replace rY := rY.below hA
  replace nP := nP.bel hA
  replace rP := rP.below hA
  replace nQ := nQ.bel hA
  replace rQ := rQ.below hA
  replace nA := nA.bel hA
  replace rA := rA.below hA
  replace M := hidD (M.out.trans (hA.mono M.out.size))
  clear hA
  obtain ⟨VB, hV⟩ : ∃ V, w6.alloc (.cells #[.slice a6 l6 c6] 25) = V := ⟨_, rfl⟩
  obtain ⟨BB, hB⟩ : ∃ B, w6.heap.size = B := ⟨_, rfl⟩
  rw [hV] at rX rY nP rP nQ rQ nA rA rB M
  rw [hV, hB] at nB
  rw [hV]
  rw [hB]
  clear hV hB
  clear hu
  have H1 := hidD (fun (V : World) (h : Below VB.heap.size VB V) => M3.yTimes_c _ _ ps qs V (rP.below h).isPoly (rQ.below h).isPoly HP.out HQ.out HTO.out (by have := HLN.out; omega))
  have hq : Below VB.heap.size VB VB := Below.refl _ _
  have eP := (nP.bel hq).cell
  have eQ := (nQ.bel hq).cell
  go_upto_region 8 with (go_at_call 28; refine (H1.out _ hq).mono ?_; clear H1; rintro e w7 ⟨u, rfl, hu, _, hb⟩; obtain ⟨a7, l7, c7, rfl⟩ := hu.form)
  replace hb := Below.then hq hb
  clear hq eP eQ
  replace rX := rX.below hb
  replace rY := rY.below hb
  replace nP := nP.bel hb
  replace rP := rP.below hb
  replace nQ := nQ.bel hb
  replace rQ := rQ.below hb
  replace nA := nA.bel hb
  replace rA := rA.below hb
  replace nB := nB.bel hb
  replace rB := rB.below hb
  replace M := hidD (M.out.trans (hb.mono M.out.size))
  clear hb
  have hA : Below w7.heap.size w7 (w7.alloc (.cells #[.slice a7 l7 c7] 25)) := (Below.refl _ w7).alloc (Nat.le_refl _) _
  have nC := Boxed.new w7 25 (.slice a7 l7 c7)
  have rC := hu.row.below hA
  replace rX := rX.below hA
  replace rY := rY.below hA
  replace nP := nP.bel hA
  replace rP := rP.below hA
  replace nQ := nQ.bel hA
  replace rQ := rQ.below hA
  replace nA := nA.bel hA
  replace rA := rA.below hA
  replace nB := nB.bel hA
  replace rB := rB.below hA
  replace M := hidD (M.out.trans (hA.mono M.out.size))
  clear hA
  obtain ⟨VC, hV⟩ : ∃ V, w7.alloc (.cells #[.slice a7 l7 c7] 25) = V := ⟨_, rfl⟩
  obtain ⟨BC, hB⟩ : ∃ B, w7.heap.size = B := ⟨_, rfl⟩
  rw [hV] at rX rY nP rP nQ rQ nA rA nB rB rC M
  rw [hV, hB] at nC
  rw [hV]
  rw [hB]
  clear hV hB
  clear hu
  have H1 := hidD (fun (V : World) (h : Below VC.heap.size VC V) => HSP2.out V _ _ (rP.below h).isPoly (rQ.below h).isPoly)
  have hq : Below VC.heap.size VC VC := Below.refl _ _
  have eP := (nP.bel hq).cell
  have eQ := (nQ.bel hq).cell
  go_upto_region 9 with (go_at_call 29; refine (H1.out _ hq).mono ?_; clear H1; rintro e w8 ⟨u, v, rfl, hu, hv, hb⟩; obtain ⟨a8, l8, c8, rfl⟩ := hu.form; obtain ⟨a9, l9, c9, rfl⟩ := hv.form)
  replace hb := Below.then hq hb
  clear hq eP eQ
  replace rX := rX.below hb
  replace rY := rY.below hb
  replace nP := nP.bel hb
  replace rP := rP.below hb
  replace nQ := nQ.bel hb
  replace rQ := rQ.below hb
  replace nA := nA.bel hb
  replace rA := rA.below hb
  replace nB := nB.bel hb
  replace rB := rB.below hb
  replace nC := nC.bel hb
  replace rC := rC.below hb
  replace M := hidD (M.out.trans (hb.mono M.out.size))
  clear hb
  have hA : Below w8.heap.size w8 ((w8.alloc (.cells #[.slice a8 l8 c8] 25)).alloc (.cells #[.slice a9 l9 c9] 25)) := ((Below.refl _ w8).alloc (Nat.le_refl _) _).alloc (by rw [World.size_alloc]; omega) _
  have nD := (Boxed.new w8 25 (.slice a8 l8 c8)).alloc (.cells #[.slice a9 l9 c9] 25)
  have nR := Boxed.new (w8.alloc (.cells #[.slice a8 l8 c8] 25)) 25 (.slice a9 l9 c9)
  rw [World.size_alloc] at nR
  have rD := hu.row.below hA
  have rR := hv.row.below hA
  replace rX := rX.below hA
  replace rY := rY.below hA
  replace nP := nP.bel hA
  replace rP := rP.below hA
  replace nQ := nQ.bel hA
  replace rQ := rQ.below hA
  replace nA := nA.bel hA
  replace rA := rA.below hA
  replace nB := nB.bel hA
  replace rB := rB.below hA
  replace nC := nC.bel hA
  replace rC := rC.below hA
  replace M := hidD (M.out.trans (hA.mono M.out.size))
  clear hA
  obtain ⟨VS, hV⟩ : ∃ V, (w8.alloc (.cells #[.slice a8 l8 c8] 25)).alloc (.cells #[.slice a9 l9 c9] 25) = V := ⟨_, rfl⟩
  obtain ⟨BD, hB⟩ : ∃ B, w8.heap.size = B := ⟨_, rfl⟩
  rw [hV] at rX rY nP rP nQ rQ nA rA nB rB nC rC rD rR M
  rw [hV, hB] at nD nR
  rw [hV]
  rw [hB]
  clear hV hB hu hv
  have HTB9 := hidD (fun (V : World) (h : Below VS.heap.size VS V) => tab_below HT.out (M.out.trans (h.mono M.out.size)))
  have H1 := hidD (fun (V : World) (h : Below VS.heap.size VS V) => yText_c _ (addQ ps qs) V (rA.below h).isPoly HA.out HTA.out (tab_below HT.out (M.out.trans (h.mono M.out.size))))
  rw [XTA.out] at H1
  have H2 := hidD (fun (V : World) (h : Below VS.heap.size VS V) => xSum_c _ _ ps qs V (rX.below h) (rY.below h) HP.out HQ.out (by have := HLN.out; omega))
  have H3 := hidD (fun (V : World) (h : Below VS.heap.size VS V) (v : Value) (hv : RowK false V v (addQ ps qs)) => xText_c v (addQ ps qs) V hv HA.out HTA.out (addQ_trim _ _) (HTB9.out V h))
  rw [XTA.out] at H3
  have H4 := hidD (fun (V : World) (h : Below VS.heap.size VS V) => yText_c _ (subQ ps qs) V (rB.below h).isPoly HB.out HTB.out (tab_below HT.out (M.out.trans (h.mono M.out.size))))
  rw [XTB.out] at H4
  have H5 := hidD (fun (V : World) (h : Below VS.heap.size VS V) => xLess_c _ _ ps qs V (rX.below h) (rY.below h) HP.out HQ.out (by have := HLN.out; omega))
  have H6 := hidD (fun (V : World) (h : Below VS.heap.size VS V) (v : Value) (hv : RowK false V v (subQ ps qs)) => xText_c v (subQ ps qs) V hv HB.out HTB.out (subQ_trim _ _) (HTB9.out V h))
  rw [XTB.out] at H6
  have H7 := hidD (fun (V : World) (h : Below VS.heap.size VS V) => yText_c _ (mulQ ps qs) V (rC.below h).isPoly HC.out HTC.out (tab_below HT.out (M.out.trans (h.mono M.out.size))))
  rw [XTC.out] at H7
  have H8 := hidD (fun (V : World) (h : Below VS.heap.size VS V) => xTimes_c _ _ ps qs V (rX.below h) (rY.below h) HP.out HQ.out HTO.out (by have := HLN.out; omega))
  have H9 := hidD (fun (V : World) (h : Below VS.heap.size VS V) (v : Value) (hv : RowK false V v (mulQ ps qs)) => xText_c v (mulQ ps qs) V hv HC.out HTC.out (mulQ_trim _ _) (HTB9.out V h))
  rw [XTC.out] at H9
  have hq : Below VS.heap.size VS VS := Below.refl _ _
  have eA := (nA.bel hq).cell
  have eB := (nB.bel hq).cell
  have eC := (nC.bel hq).cell
  have eD := (nD.bel hq).cell
  have eR := (nR.bel hq).cell
  have eP := (nP.bel hq).cell
  have eQ := (nQ.bel hq).cell
  have HQU := hidD (HSS.out h0)
  have HQV := hidD (HSO.out h0)
  obtain ⟨TD, hTD⟩ : ∃ S : ByteArray, ⟨(textP (quoQ ps qs)).toArray⟩ = S := ⟨_, rfl⟩
  obtain ⟨TR, hTR⟩ : ∃ S : ByteArray, ⟨(textP (remQ ps qs)).toArray⟩ = S := ⟨_, rfl⟩
  have HTD := hidD (fun m => polyT_ok HQU.out.1 (by have := HQU.out; have := HLN.out; omega) m)
  have HTR := hidD (fun m => polyT_ok HQU.out.2.1 (by have := HQU.out; have := HLN.out; omega) m)
  have H10 := hidD (fun (V : World) (h : Below VS.heap.size VS V) => HSX.out V _ _ (rX.below h) (rY.below h) h0)
  have H11 := hidD (fun (V : World) (h : Below VS.heap.size VS V) => yText_c _ (quoQ ps qs) V (rD.below h).isPoly HQU.out.1 HTD.out (tab_below HT.out (M.out.trans (h.mono M.out.size))))
  rw [hTD] at H11
  have H12 := hidD (fun (V : World) (h : Below VS.heap.size VS V) (v : Value) (hv : RowK false V v (quoQ ps qs)) => xText_c v (quoQ ps qs) V hv HQU.out.1 HTD.out HQV.out.2.2.1 (HTB9.out V h))
  rw [hTD] at H12
  have H13 := hidD (fun (V : World) (h : Below VS.heap.size VS V) => yText_c _ (remQ ps qs) V (rR.below h).isPoly HQU.out.2.1 HTR.out (tab_below HT.out (M.out.trans (h.mono M.out.size))))
  rw [hTR] at H13
  have H14 := hidD (fun (V : World) (h : Below VS.heap.size VS V) (v : Value) (hv : RowK false V v (remQ ps qs)) => xText_c v (remQ ps qs) V hv HQU.out.2.1 HTR.out HQV.out.2.2.2 (HTB9.out V h))
  rw [hTR] at H14
  clear hTD hTR
  have H15 := hidD (fun (V : World) (h : Below VS.heap.size VS V) => yText_c _ ps V (rP.below h).isPoly HP.out HTP.out (tab_below HT.out (M.out.trans (h.mono M.out.size))))
  rw [XTP.out] at H15
  have H16 := hidD (fun (V : World) (h : Below VS.heap.size VS V) => xText_c _ ps V (rX.below h) HP.out HTP.out HRP.out (tab_below HT.out (M.out.trans (h.mono M.out.size))))
  rw [XTP.out] at H16
  have H17 := hidD (fun (V : World) (h : Below VS.heap.size VS V) => yText_c _ qs V (rQ.below h).isPoly HQ.out HTQ.out (tab_below HT.out (M.out.trans (h.mono M.out.size))))
  rw [XTQ.out] at H17
  have H18 := hidD (fun (V : World) (h : Below VS.heap.size VS V) => xText_c _ qs V (rY.below h) HQ.out HTQ.out HRQ.out (tab_below HT.out (M.out.trans (h.mono M.out.size))))
  rw [XTQ.out] at H18
  have H19 := hidD (fun (V : World) (h : Below VS.heap.size VS V) => jalive_c V (tab_below HT.out (M.out.trans (h.mono M.out.size))))
  go_wp2_with (first
    | (go_at_call 13; refine (H1.out _ hq).mono ?_; clear H1; rintro e x1 ⟨rfl, hb⟩; replace hq := Below.then hq hb; clear hb eA eB eC eD eR eP eQ; have eA := (nA.bel hq).cell; have eB := (nB.bel hq).cell; have eC := (nC.bel hq).cell; have eD := (nD.bel hq).cell; have eR := (nR.bel hq).cell; have eP := (nP.bel hq).cell; have eQ := (nQ.bel hq).cell)
    | (go_at_call 30; refine (H2.out _ hq).mono ?_; clear H2; rintro e x2 ⟨v2, rfl, gv, hb⟩; replace hq := Below.then hq hb; clear hb eA eB eC eD eR eP eQ; have eA := (nA.bel hq).cell; have eB := (nB.bel hq).cell; have eC := (nC.bel hq).cell; have eD := (nD.bel hq).cell; have eR := (nR.bel hq).cell; have eP := (nP.bel hq).cell; have eQ := (nQ.bel hq).cell)
    | (go_at_call 14; refine (H3.out _ hq _ gv).mono ?_; clear H3; rintro e x3 ⟨rfl, hb⟩; replace hq := Below.then hq hb; clear hb gv eA eB eC eD eR eP eQ; have eA := (nA.bel hq).cell; have eB := (nB.bel hq).cell; have eC := (nC.bel hq).cell; have eD := (nD.bel hq).cell; have eR := (nR.bel hq).cell; have eP := (nP.bel hq).cell; have eQ := (nQ.bel hq).cell)
    | (go_at_call 13; refine (H4.out _ hq).mono ?_; clear H4; rintro e x4 ⟨rfl, hb⟩; replace hq := Below.then hq hb; clear hb eA eB eC eD eR eP eQ; have eA := (nA.bel hq).cell; have eB := (nB.bel hq).cell; have eC := (nC.bel hq).cell; have eD := (nD.bel hq).cell; have eR := (nR.bel hq).cell; have eP := (nP.bel hq).cell; have eQ := (nQ.bel hq).cell)
    | (go_at_call 31; refine (H5.out _ hq).mono ?_; clear H5; rintro e x5 ⟨v5, rfl, gv, hb⟩; replace hq := Below.then hq hb; clear hb eA eB eC eD eR eP eQ; have eA := (nA.bel hq).cell; have eB := (nB.bel hq).cell; have eC := (nC.bel hq).cell; have eD := (nD.bel hq).cell; have eR := (nR.bel hq).cell; have eP := (nP.bel hq).cell; have eQ := (nQ.bel hq).cell)
    | (go_at_call 14; refine (H6.out _ hq _ gv).mono ?_; clear H6; rintro e x6 ⟨rfl, hb⟩; replace hq := Below.then hq hb; clear hb gv eA eB eC eD eR eP eQ; have eA := (nA.bel hq).cell; have eB := (nB.bel hq).cell; have eC := (nC.bel hq).cell; have eD := (nD.bel hq).cell; have eR := (nR.bel hq).cell; have eP := (nP.bel hq).cell; have eQ := (nQ.bel hq).cell)
    | (go_at_call 13; refine (H7.out _ hq).mono ?_; clear H7; rintro e x7 ⟨rfl, hb⟩; replace hq := Below.then hq hb; clear hb eA eB eC eD eR eP eQ; have eA := (nA.bel hq).cell; have eB := (nB.bel hq).cell; have eC := (nC.bel hq).cell; have eD := (nD.bel hq).cell; have eR := (nR.bel hq).cell; have eP := (nP.bel hq).cell; have eQ := (nQ.bel hq).cell)
    | (go_at_call 32; refine (H8.out _ hq).mono ?_; clear H8; rintro e x8 ⟨v8, rfl, gv, hb⟩; replace hq := Below.then hq hb; clear hb eA eB eC eD eR eP eQ; have eA := (nA.bel hq).cell; have eB := (nB.bel hq).cell; have eC := (nC.bel hq).cell; have eD := (nD.bel hq).cell; have eR := (nR.bel hq).cell; have eP := (nP.bel hq).cell; have eQ := (nQ.bel hq).cell)
    | (go_at_call 14; refine (H9.out _ hq _ gv).mono ?_; clear H9; rintro e x9 ⟨rfl, hb⟩; replace hq := Below.then hq hb; clear hb gv eA eB eC eD eR eP eQ; have eA := (nA.bel hq).cell; have eB := (nB.bel hq).cell; have eC := (nC.bel hq).cell; have eD := (nD.bel hq).cell; have eR := (nR.bel hq).cell; have eP := (nP.bel hq).cell; have eQ := (nQ.bel hq).cell)
    | (go_at_call 33; refine (H10.out _ hq).mono ?_; clear H10; rintro e x10 ⟨v10, u10, rfl, gu, gv, hb⟩; replace hq := Below.then hq hb; clear hb eA eB eC eD eR eP eQ; have eA := (nA.bel hq).cell; have eB := (nB.bel hq).cell; have eC := (nC.bel hq).cell; have eD := (nD.bel hq).cell; have eR := (nR.bel hq).cell; have eP := (nP.bel hq).cell; have eQ := (nQ.bel hq).cell)
    | (go_at_call 13; refine (H11.out _ hq).mono ?_; clear H11; rintro e x11 ⟨rfl, hb⟩; replace gu := gu.below hb; replace gv := gv.below hb; replace hq := Below.then hq hb; clear hb eA eB eC eD eR eP eQ; have eA := (nA.bel hq).cell; have eB := (nB.bel hq).cell; have eC := (nC.bel hq).cell; have eD := (nD.bel hq).cell; have eR := (nR.bel hq).cell; have eP := (nP.bel hq).cell; have eQ := (nQ.bel hq).cell)
    | (go_at_call 14; refine (H12.out _ hq _ gu).mono ?_; clear H12; rintro e x12 ⟨rfl, hb⟩; replace gv := gv.below hb; clear gu; replace hq := Below.then hq hb; clear hb eA eB eC eD eR eP eQ; have eA := (nA.bel hq).cell; have eB := (nB.bel hq).cell; have eC := (nC.bel hq).cell; have eD := (nD.bel hq).cell; have eR := (nR.bel hq).cell; have eP := (nP.bel hq).cell; have eQ := (nQ.bel hq).cell)
    | (go_at_call 13; refine (H13.out _ hq).mono ?_; clear H13; rintro e x13 ⟨rfl, hb⟩; replace gv := gv.below hb; replace hq := Below.then hq hb; clear hb eA eB eC eD eR eP eQ; have eA := (nA.bel hq).cell; have eB := (nB.bel hq).cell; have eC := (nC.bel hq).cell; have eD := (nD.bel hq).cell; have eR := (nR.bel hq).cell; have eP := (nP.bel hq).cell; have eQ := (nQ.bel hq).cell)
    | (go_at_call 14; refine (H14.out _ hq _ gv).mono ?_; clear H14; rintro e x14 ⟨rfl, hb⟩; clear gv; replace hq := Below.then hq hb; clear hb eA eB eC eD eR eP eQ; have eA := (nA.bel hq).cell; have eB := (nB.bel hq).cell; have eC := (nC.bel hq).cell; have eD := (nD.bel hq).cell; have eR := (nR.bel hq).cell; have eP := (nP.bel hq).cell; have eQ := (nQ.bel hq).cell)
    | (go_at_call 13; refine (H15.out _ hq).mono ?_; clear H15; rintro e x15 ⟨rfl, hb⟩; replace hq := Below.then hq hb; clear hb eA eB eC eD eR eP eQ; have eA := (nA.bel hq).cell; have eB := (nB.bel hq).cell; have eC := (nC.bel hq).cell; have eD := (nD.bel hq).cell; have eR := (nR.bel hq).cell; have eP := (nP.bel hq).cell; have eQ := (nQ.bel hq).cell)
    | (go_at_call 14; refine (H16.out _ hq).mono ?_; clear H16; rintro e x16 ⟨rfl, hb⟩; replace hq := Below.then hq hb; clear hb eA eB eC eD eR eP eQ; have eA := (nA.bel hq).cell; have eB := (nB.bel hq).cell; have eC := (nC.bel hq).cell; have eD := (nD.bel hq).cell; have eR := (nR.bel hq).cell; have eP := (nP.bel hq).cell; have eQ := (nQ.bel hq).cell)
    | (go_at_call 13; refine (H17.out _ hq).mono ?_; clear H17; rintro e x17 ⟨rfl, hb⟩; replace hq := Below.then hq hb; clear hb eA eB eC eD eR eP eQ; have eA := (nA.bel hq).cell; have eB := (nB.bel hq).cell; have eC := (nC.bel hq).cell; have eD := (nD.bel hq).cell; have eR := (nR.bel hq).cell; have eP := (nP.bel hq).cell; have eQ := (nQ.bel hq).cell)
    | (go_at_call 14; refine (H18.out _ hq).mono ?_; clear H18; rintro e x18 ⟨rfl, hb⟩; replace hq := Below.then hq hb; clear hb eA eB eC eD eR eP eQ; have eA := (nA.bel hq).cell; have eB := (nB.bel hq).cell; have eC := (nC.bel hq).cell; have eD := (nD.bel hq).cell; have eR := (nR.bel hq).cell; have eP := (nP.bel hq).cell; have eQ := (nQ.bel hq).cell)
    | (go_at_call 19; refine (H19.out _ hq).mono ?_; clear H19; rintro e x19 ⟨rfl, hb⟩; replace hq := Below.then hq hb; clear hb eA eB eC eD eR eP eQ; have eA := (nA.bel hq).cell; have eB := (nB.bel hq).cell; have eC := (nC.bel hq).cell; have eD := (nD.bel hq).cell; have eR := (nR.bel hq).cell; have eP := (nP.bel hq).cell; have eQ := (nQ.bel hq).cell))
  go_ret
  exact ⟨rfl, M.out.trans (hq.mono M.out.size)⟩
end Go.Proofs.YtcahejkcdcjjgaaGreatDoor
