import Derived.Test.YteldjhhjnchdeaaGreatDoorK42
import Derived.Test.YteldjhhjnchdeaaGreatDoorK35
import Derived.Test.YteldjhhjnchdeaaGreatDoorK41
namespace Go.Proofs.YteldjhhjnchdeaaGreatDoor.M3
open Go.RowKit Go.Shelf

attribute [local go_sem] Oper.semAt_some

def FwI (w V : World) (B5 B6 BX : Nat) (rs ql : Value) (R : List Rat) : Prop :=
  Boxed V (w.heap.size + 1 + 1) 25 (.slice none 0 0) ∧ Boxed V (w.heap.size + 1 + 1 + 1) 25 (.slice none 0 0) ∧ Boxed V B5 23 rs ∧ Boxed V B6 23 ql ∧ Boxed V BX 23 ql ∧ RowK true V rs R ∧ Below w.heap.size w V
theorem FwI.below {w V V' : World} {B5 B6 BX : Nat} {rs ql : Value} {R : List Rat} (h : FwI w V B5 B6 BX rs ql R) (hb : Below V.heap.size V V') : FwI w V' B5 B6 BX rs ql R :=
  ⟨boxed_below h.1 hb, boxed_below h.2.1 hb, boxed_below h.2.2.1 hb, boxed_below h.2.2.2.1 hb, boxed_below h.2.2.2.2.1 hb, h.2.2.2.2.2.1.below hb, h.2.2.2.2.2.2.trans (hb.mono h.2.2.2.2.2.2.size)⟩
theorem boxed_own {V V' : World} {row : Option Nat} (hg : V.grownBy V' row) (hr : ∀ r, row = some r → ∃ o : Obj, V.heap[r]? = some o ∧ o.isCells = false) {B : Nat} {t : TypeId} {v : Value} (h : Boxed V B t v) : Boxed V' B t v := block_own hg hr (show Bx V B t #[v] from h)
theorem FwI.own {w V V' : World} {B5 B6 BX : Nat} {rs ql : Value} {R : List Rat} {row : Option Nat} (h : FwI w V B5 B6 BX rs ql R) (hg : V.grownBy V' row) (hr : ∀ x, row = some x → w.heap.size ≤ x ∧ ∃ o : Obj, V.heap[x]? = some o ∧ o.isCells = false) : FwI w V' B5 B6 BX rs ql R := by
  have hr2 : ∀ r, row = some r → ∃ o : Obj, V.heap[r]? = some o ∧ o.isCells = false := fun r e => (hr r e).2
  exact ⟨boxed_own hg hr2 h.1, boxed_own hg hr2 h.2.1, boxed_own hg hr2 h.2.2.1, boxed_own hg hr2 h.2.2.2.1, boxed_own hg hr2 h.2.2.2.2.1, rowK_own hg hr2 h.2.2.2.2.2.1, h.2.2.2.2.2.2.grown hg h.2.2.2.2.2.2.size (fun k e => (hr k e).1)⟩
theorem row_zero (V : World) (a : Option Addr) : RowK true V (.slice a 0 0) [] := ⟨a, 0, rfl, Nat.le_refl _, by omega, by simp, Or.inl rfl⟩

set_option maxRecDepth 100000 in
set_option maxHeartbeats 8000000 in
theorem ySplit_nil (va : Value) (ps : List Rat) (vb : Value) (w : World) (ha : IsPoly w va ps) (hb : IsPoly w vb []) :
    Calls Tryz.prog 22 #[va, vb] w fun e w' => e = .returned (.tuple #[.agg #[.slice none 0 0], .agg #[.slice none 0 0], .bool false]) ∧ Below w.heap.size w w' := by
  obtain ⟨pa, la, pc, rfl⟩ := ha.form
  obtain ⟨qa, lb, qc, rfl⟩ := hb.form
  have M0 : Mem w _ _ := ((((Mem.nil w).push (.cell 25 (.slice pa la pc)) (cs := #[.slice pa la pc]) ⟨rfl, rfl⟩).push (.cell 25 (.slice qa lb qc)) (cs := #[.slice qa lb qc]) ⟨rfl, rfl⟩).push (.cell 25 (.slice none 0 0)) (cs := #[.slice none 0 0]) ⟨rfl, rfl⟩).push (.cell 25 (.slice none 0 0)) (cs := #[.slice none 0 0]) ⟨rfl, rfl⟩
  simp only [World.size_alloc] at M0
  obtain ⟨V0, hV0⟩ : ∃ V, (((w.alloc (.cells #[.slice pa la pc] 25)).alloc (.cells #[.slice qa lb qc] 25)).alloc (.cells #[.slice none 0 0] 25)).alloc (.cells #[.slice none 0 0] 25) = V := ⟨_, rfl⟩
  have M1 : Mem w V0 [some (w.heap.size, .cell 25 (.slice pa la pc)), some (w.heap.size + 1, .cell 25 (.slice qa lb qc)), some (w.heap.size + 1 + 1, .cell 25 (.slice none 0 0)), some (w.heap.size + 1 + 1 + 1, .cell 25 (.slice none 0 0))] := by rw [← hV0]; exact M0
  have HDG := hidD (show Calls Tryz.prog 20 #[.agg #[.slice qa lb qc]] V0 fun e w' => e = .returned (.int .i64 (-1)) ∧ Below V0.heap.size V0 w' from yDegree_c (.agg #[.slice qa lb qc]) [] V0 (hb.below M1.2.2))
  have HM1 := hidD M1
  have HV0 := hidD hV0
  clear ha hb M0 M1 hV0
  go_enter Tryz.func22, Tryz.ntmps22
  go_upto_region 1 with fail
  rw [HV0.out]
  have c1 := (HM1.out.cell (i := 1) rfl).1.cell
  go_wp2_with (go_at_call 20; refine HDG.out.mono ?_; clear HDG; rintro e w1 ⟨rfl, hb1⟩; have hA1 : Below w1.heap.size w1 (w1.alloc (.cells #[.int .i64 (-1)] 3)) := (Below.refl _ w1).alloc (Nat.le_refl _) _; have hM2 := (HM1.out.below hb1).below hA1; have e2 := (hM2.cell (i := 2) rfl).1.cell; have f2 := (hM2.cell (i := 2) rfl).1.frozen; have e3 := (hM2.cell (i := 3) rfl).1.cell; have f3 := (hM2.cell (i := 3) rfl).1.frozen; have HB := hidD hM2.2.2; clear hA1 hM2 hb1)
  refine bodyPost_ret (v := .tuple #[.agg #[.slice none 0 0], .agg #[.slice none 0 0], .bool false]) (by simp [results, Tryz.results22, go_sem, e2, e3]) rfl ⟨rfl, ?_⟩
  exact ((HB.out.setCell (p := ⟨w.heap.size + 1 + 1, 0, none⟩) (by show w.heap.size ≤ w.heap.size + 1 + 1; omega) _).setCell (p := ⟨w.heap.size + 1 + 1 + 1, 0, none⟩) (by show w.heap.size ≤ w.heap.size + 1 + 1 + 1; omega) _)

set_option maxRecDepth 100000 in
set_option maxHeartbeats 16000000 in
theorem ySplit_few (pa qa : Option Addr) (la pc lb qc n : Nat) (ps qs : List Rat) (w : World) (ha : RowK true w (.slice pa la pc) ps) (hb : RowK true w (.slice qa lb qc) qs) (hs : Sqs ps) (htp : trimQ ps = ps) (hn : lb = n + 1) (hm : la ≤ n) :
    Calls Tryz.prog 22 #[.agg #[.slice pa la pc], .agg #[.slice qa lb qc]] w fun e w' => ∃ u v, e = .returned (.tuple #[u, v, .bool true]) ∧ IsPoly w' u [] ∧ IsPoly w' v ps ∧ Below w.heap.size w w' := by
  have hmx : Tryz.prog.follows .mixedOrders = true := by kernel_rfl
  obtain ⟨hla, hca, hcma, hlma, _⟩ := ha.forms
  obtain ⟨hlb, hcb, hcmb, hlmb, _⟩ := hb.forms
  have M0 : Mem w _ _ := ((((Mem.nil w).push (.cell 25 (.slice pa la pc)) (cs := #[.slice pa la pc]) ⟨rfl, rfl⟩).push (.cell 25 (.slice qa lb qc)) (cs := #[.slice qa lb qc]) ⟨rfl, rfl⟩).push (.cell 25 (.slice none 0 0)) (cs := #[.slice none 0 0]) ⟨rfl, rfl⟩).push (.cell 25 (.slice none 0 0)) (cs := #[.slice none 0 0]) ⟨rfl, rfl⟩
  simp only [World.size_alloc] at M0
  obtain ⟨V0, hV0⟩ : ∃ V, (((w.alloc (.cells #[.slice pa la pc] 25)).alloc (.cells #[.slice qa lb qc] 25)).alloc (.cells #[.slice none 0 0] 25)).alloc (.cells #[.slice none 0 0] 25) = V := ⟨_, rfl⟩
  have M1 : Mem w V0 [some (w.heap.size, .cell 25 (.slice pa la pc)), some (w.heap.size + 1, .cell 25 (.slice qa lb qc)), some (w.heap.size + 1 + 1, .cell 25 (.slice none 0 0)), some (w.heap.size + 1 + 1 + 1, .cell 25 (.slice none 0 0))] := by rw [← hV0]; exact M0
  have HM1 := hidD M1
  have HDG := hidD (show Calls Tryz.prog 20 #[.agg #[.slice qa lb qc]] V0 fun e w' => e = .returned (.int .i64 (n : Int)) ∧ Below V0.heap.size V0 w' by
    have h := yDegree_c (.agg #[.slice qa lb qc]) qs V0 ⟨_, rfl, hb.below M1.2.2⟩
    rwa [show ((qs.length : Int) - 1) = (n : Int) by omega] at h)
  have HCL := hidD (fun (V : World) (h : Below w.heap.size w V) => oclone2_c (.slice pa la pc) ps V (ha.below h))
  have hmk : ∀ W : World, (Instr.makeSlice 23 (.int .i64 0) (.int .i64 0)).run Tryz.prog W = .ok (.slice (some ⟨W.heap.size, 0, none⟩) 0 0) (W.alloc (.cells (zeroQ 0) 65)) := fun W => make_rats 0 (by omega) W
  obtain ⟨x, hx⟩ : ∃ x : Int, (la : Int) - (n : Int) = x := ⟨_, rfl⟩
  have hwm : IntKind.i64.wrap x = x := by rw [IntKind.wrap_i64]; omega
  have hmax : max (0 : Int) x = 0 := by omega
  have hnn : ¬ (n : Int) < 0 := by omega
  have HSP := hidD hs
  have HTP := hidD htp
  have HLA := hidD hla
  have HV0 := hidD hV0
  clear ha hb hla hlb hca hcma hcb hcmb hs htp hn hm M0 M1 hV0
  have c1 := (HM1.out.cell (i := 1) rfl).1.cell
  refine (callsIn_wide (n := 3)).1 ?_
  refine callsIn_of_wp_marks Tryz.func22 rfl trivial ?_ rfl
  simp only [Tryz.ntmps22, List.size_toArray, List.length_cons, List.length_nil, Nat.reduceAdd, Nat.reduceSub, Array.replicate_succ, Array.replicate_zero, List.push_toArray, List.append_toArray, List.nil_append, List.cons_append]
  gi_wp2_with fail
  rw [HV0.out]
  refine ⟨trivial, ?_⟩
  refine ((callsIn_wide (n := _)).2 HDG.out).mono ?_
  rintro e w1 ⟨rfl, hb1⟩
  have hA1 : Below w1.heap.size w1 (w1.alloc (.cells #[.int .i64 (n : Int)] 3)) := (Below.refl _ w1).alloc (Nat.le_refl _) _
  have hM2 := (HM1.out.below hb1).below hA1
  have h4 := Boxed.new w1 3 (.int .i64 (n : Int))
  have c0 := (hM2.cell (i := 0) rfl).1.cell
  have HCL1 := hidD (HCL.out _ hM2.2.2)
  have HM2 := hidD hM2
  have H4 := hidD h4
  clear hA1 hM2 h4 hb1 HDG c1 HV0 HM1 HCL
  gi_wp2_with fail
  obtain ⟨V1, hV1⟩ : ∃ V, w1.alloc (.cells #[.int .i64 (n : Int)] 3) = V := ⟨_, rfl⟩
  obtain ⟨B4, hB4⟩ : ∃ B, w1.heap.size = B := ⟨_, rfl⟩
  rw [hV1] at HCL1 HM2 H4 c0
  rw [hB4] at H4
  rw [hV1, hB4]
  clear hV1 hB4
  refine ⟨trivial, ?_⟩
  refine ((callsIn_wide (n := _)).2 HCL1.out).mono ?_
  rintro e w2 ⟨u2, rfl, hu2, _, hb2, _⟩
  obtain ⟨ra, rc, e9, _⟩ := id hu2
  rw [← HLA.out] at e9
  subst e9
  have hM3 := HM2.out.below hb2
  have h4 : Boxed w2 B4 3 (.int .i64 (n : Int)) := (hb2.block B4 H4.out.lt).trans H4.out
  have hA2 : Below w2.heap.size w2 (w2.alloc (.cells #[.slice ra la rc] 23)) := (Below.refl _ w2).alloc (Nat.le_refl _) _
  have hM4 := hM3.push (.cell 23 (.slice ra la rc)) (cs := #[.slice ra la rc]) ⟨rfl, rfl⟩
  have h5 : Boxed (w2.alloc (.cells #[.slice ra la rc] 23)) B4 3 (.int .i64 (n : Int)) := (hA2.block B4 h4.lt).trans h4
  have c4 := h5.cell
  have HM4 := hidD hM4
  have HU2 := hidD (hu2.below hA2)
  clear hu2 hb2 hM3 h4 hA2 hM4 h5 HM2 H4 HCL1 c0
  gi_wp2_with fail
  refine ⟨trivial, ?_⟩
  refine (obwd_in Fence.wide _ trivial rfl _ _ _ _).mono ?_
  rintro e w3 ⟨rfl, rfl⟩
  have hM5 := ((HM4.out.push (.rats (List.replicate 0 0)) (has_zeros _ 0)).push (.cell 23 (.slice (some ⟨w2.heap.size + 1, 0, none⟩) 0 0)) (cs := #[.slice (some ⟨w2.heap.size + 1, 0, none⟩) 0 0]) ⟨rfl, rfl⟩).push (.cell 23 (.slice (some ⟨w2.heap.size + 1, 0, none⟩) 0 0)) (cs := #[.slice (some ⟨w2.heap.size + 1, 0, none⟩) 0 0]) ⟨rfl, rfl⟩
  simp only [World.size_alloc] at hM5
  have hAA : Below (w2.alloc (.cells #[.slice ra la rc] 23)).heap.size (w2.alloc (.cells #[.slice ra la rc] 23)) ((((w2.alloc (.cells #[.slice ra la rc] 23)).alloc (.cells (zeroQ 0) 65)).alloc (.cells #[.slice (some ⟨w2.heap.size + 1, 0, none⟩) 0 0] 23)).alloc (.cells #[.slice (some ⟨w2.heap.size + 1, 0, none⟩) 0 0] 23)) :=
    (((Below.refl _ _).alloc (Nat.le_refl _) _).alloc (by simp only [World.size_alloc]; omega) _).alloc (by simp only [World.size_alloc]; omega) _
  have hF : FwI w ((((w2.alloc (.cells #[.slice ra la rc] 23)).alloc (.cells (zeroQ 0) 65)).alloc (.cells #[.slice (some ⟨w2.heap.size + 1, 0, none⟩) 0 0] 23)).alloc (.cells #[.slice (some ⟨w2.heap.size + 1, 0, none⟩) 0 0] 23)) w2.heap.size (w2.heap.size + 1 + 1) (w2.heap.size + 1 + 1 + 1) (.slice ra la rc) (.slice (some ⟨w2.heap.size + 1, 0, none⟩) 0 0) ps :=
    ⟨(hM5.cell (i := 2) rfl).1, (hM5.cell (i := 3) rfl).1, (hM5.cell (i := 4) rfl).1, (hM5.cell (i := 6) rfl).1, (hM5.cell (i := 7) rfl).1, HU2.out.below hAA, hM5.2.2⟩
  obtain ⟨W3, hW3⟩ : ∃ W, (((w2.alloc (.cells #[.slice ra la rc] 23)).alloc (.cells (zeroQ 0) 65)).alloc (.cells #[.slice (some ⟨w2.heap.size + 1, 0, none⟩) 0 0] 23)).alloc (.cells #[.slice (some ⟨w2.heap.size + 1, 0, none⟩) 0 0] 23) = W := ⟨_, rfl⟩
  rw [hW3] at hF
  rw [hW3]
  simp only [World.size_alloc]
  obtain ⟨B5, hB5⟩ : ∃ B, w2.heap.size = B := ⟨_, rfl⟩
  rw [hB5] at hF
  rw [hB5]
  have HF := hidD hF
  clear hM5 hAA hF hW3 hB5 HM4 HU2 c4
  gi_wp2_with fail
  have HBW := hidD (show w.heap.size ≤ W3.heap.size from HF.out.2.2.2.2.2.2.size)
  refine wpIn_rangeN rfl (by omega) (gf := 67) (lb := #[.pointer (some ⟨B5 + 1 + 1 + 1, 0, none⟩)]) rfl trivial (enters_of Tryz.func67 (by kernel_rfl) rfl)
    (obwd1_seq Fence.wide _ trivial rfl (by omega) (B5 + 1 + 1 + 1) (some ⟨B5 + 1, 0, none⟩) 0 0 (fun _ => .bool false) (fun _ => .slice none 0 0) (fun _ => .bool false) (fun _ => .slice none 0 0) (by omega)) (fun _ => rfl)
    (fun _ W => FwI w W B5 (B5 + 1 + 1) (B5 + 1 + 1 + 1) (.slice ra la rc) (.slice (some ⟨B5 + 1, 0, none⟩) 0 0) ps) (fun _ _ _ => False)
    (fun k W W' row h hg hr => h.own hg (fun r e => ⟨Nat.le_trans HBW.out (hr r e).1, (hr r e).2⟩))
    (fun c s W W' row h => h.elim) HF.out ?rd
    (fun k => { tmps := #[Value.agg #[Value.slice pa la pc], Value.agg #[Value.slice qa lb qc], Value.pointer (some { block := w.heap.size, off := 0 }), Value.pointer (some { block := w.heap.size + 1, off := 0 }), Value.pointer (some { block := w.heap.size + 1 + 1, off := 0 }), Value.pointer (some { block := w.heap.size + 1 + 1 + 1, off := 0 }), Value.bool false, Value.pointer (some { block := B4, off := 0 }), Value.pointer (some { block := B5, off := 0 }), Value.pointer (some { block := B5 + 1 + 1, off := 0 }), .int .i64 (((0 : Nat) : Int) - 1 - k), undef, undef, undef, undef, Value.agg #[Value.slice qa lb qc], Value.int IntKind.i64 ↑n, Value.int IntKind.i64 ↑n, Value.bool (decide ((n : Int) < 0)), undef, undef, Value.pointer (some { block := w.heap.size, off := 0 }), Value.slice pa la pc, Value.slice ra la rc, Value.slice ra la rc, Value.int IntKind.i64 ↑la, Value.int IntKind.i64 ↑n, Value.int IntKind.i64 x, Value.int IntKind.i64 0, Value.slice (some { block := B5 + 1, off := 0 }) 0 0, Value.slice (some { block := B5 + 1, off := 0 }) 0 0, Value.func (Fn.func 67) #[] #[Value.pointer (some { block := B5 + 1 + 1 + 1, off := 0 })], .int .i64 (((0 : Nat) : Int) - 1 - k), Value.agg #[.bool false, .slice none 0 0, .bool false, .slice none 0 0], undef, undef, undef, undef, undef, undef, undef, undef, undef, undef, undef, undef, undef, undef, undef, undef, undef, undef, undef, undef, undef, undef, undef, undef, undef, undef, undef, undef, undef, undef, undef, undef, undef, undef, undef, undef, undef, undef, undef, undef, undef, undef, undef, undef, undef, undef, undef], defers := [] }) ?assign ?body ?done ?stop
  case stop => intro D c k W _ _ h; exact h.elim
  case rd =>
    intro k W h
    exact ⟨h.2.2.2.2.1.cell, fun hk => by omega⟩
  case assign =>
    intro l k W K hK
    unfold bwqArgs
    gi_wp2
    exact hK
  case body => intro l k W hS hk; omega
  case done =>
    intro DC W hD hS hK
    have ST0 : DnS w W.drew DC B5 (B5 + 1 + 1) (.slice ra la rc) (.slice (some ⟨B5 + 1, 0, none⟩) 0 0) ps [] :=
      DnS.below ⟨hS.1, hS.2.1, hS.2.2.1, hS.2.2.2.1, hS.2.2.2.2.2.1, row_zero _ _, hS.2.2.2.2.2.2, hK⟩ ((Below.refl _ W).drew)
    have ST1 : Dn4 false w W.drew DC undef := fun e => by cases e
    have HB3 := hidD (show w.heap.size ≤ DC by have := HBW.out; omega)
    have HSE := hidD (show Sqs [] from Sqs.of fun i => Sq.of (k := 1) (by rw [cf_nil]; exact SmQ.zero 1 (by omega)) (by omega))
    clear hS hK HF
    gi_wp2_with fail
    refine wpIn_region_tab hmx [[], [0], [], [2, 1], [1, 3, 0, 1], [3, 4, 0, 1, 2, 3, 4], [5, 0, 1, 2, 3, 4, 5]] (by kernel_rfl) (by decide)
      (fun D act V => ∃ (t77x t78x t79x t80x t6x : Value), act = { tmps := #[Value.agg #[Value.slice pa la pc], Value.agg #[Value.slice qa lb qc], Value.pointer (some { block := w.heap.size, off := 0 }), Value.pointer (some { block := w.heap.size + 1, off := 0 }), Value.pointer (some { block := w.heap.size + 1 + 1, off := 0 }), Value.pointer (some { block := w.heap.size + 1 + 1 + 1, off := 0 }), t6x, Value.pointer (some { block := B4, off := 0 }), Value.pointer (some { block := B5, off := 0 }), Value.pointer (some { block := B5 + 1 + 1, off := 0 }), undef, undef, undef, undef, undef, Value.agg #[Value.slice qa lb qc], Value.int IntKind.i64 ↑n, Value.int IntKind.i64 ↑n, Value.bool (decide ((n : Int) < 0)), undef, undef, Value.pointer (some { block := w.heap.size, off := 0 }), Value.slice pa la pc, Value.slice ra la rc, Value.slice ra la rc, Value.int IntKind.i64 ↑la, Value.int IntKind.i64 ↑n, Value.int IntKind.i64 x, Value.int IntKind.i64 0, Value.slice (some { block := B5 + 1, off := 0 }) 0 0, Value.slice (some { block := B5 + 1, off := 0 }) 0 0, Value.func (Fn.func 67) #[] #[Value.pointer (some { block := B5 + 1 + 1 + 1, off := 0 })], undef, undef, undef, undef, undef, undef, undef, undef, undef, undef, undef, undef, undef, undef, undef, undef, undef, undef, undef, undef, undef, undef, undef, undef, undef, undef, undef, undef, undef, undef, undef, undef, undef, undef, undef, undef, undef, undef, undef, undef, undef, undef, undef, undef, undef, t77x, t78x, t79x, t80x], defers := { target := .collected DC, args := #[] } :: [] } ∧ Hid ((D 0 = true → t77x = .slice (some ⟨B5 + 1, 0, none⟩) 0 0) ∧ (D 1 = true → D 5 = false → IsPoly V t78x (trimQ [])) ∧ (D 2 = true → t79x = .slice ra la rc) ∧ (D 3 = true → D 5 = false → IsPoly V t80x (trimQ ps)) ∧ (D 6 = true → t6x = .bool true)) ∧ Hid ((D 4 = false → DnS w V DC B5 (B5 + 1 + 1) (.slice ra la rc) (.slice (some ⟨B5 + 1, 0, none⟩) 0 0) ps []) ∧ (D 4 = true → Tr0 V)) ∧ Hid ((D 5 = false → Dn4 (D 4) w V DC t78x) ∧ (D 5 = true → Dn5 w V DC t78x t80x (trimQ []) (trimQ ps))))
      ⟨_, _, _, _, _, rfl, hidD ⟨by simp, by simp, by simp, by simp, by simp⟩, hidD ⟨fun _ => ST0, by simp⟩, hidD ⟨fun _ => ST1, by simp⟩⟩ ?step1 ?fin1
    case step1 =>
      rintro D act V i ds hcl hi hds hDi ⟨t77x, t78x, t79x, t80x, t6x, rfl, GG, SS0, SS1⟩
      have hi6 : i < 7 := (List.getElem?_eq_some_iff.1 hi).1
      obtain rfl | rfl | rfl | rfl | rfl | rfl | rfl : i = 0 ∨ i = 1 ∨ i = 2 ∨ i = 3 ∨ i = 4 ∨ i = 5 ∨ i = 6 := by omega
      all_goals
        simp only [List.getElem?_cons_zero, List.getElem?_cons_succ, Option.some.injEq] at hi
        subst hi
      · have hf0 : D 4 = false := by
          cases h : D 4 with
          | false => rfl
          | true => rw [(hcl 4 _ rfl h 0 (by simp))] at hDi; cases hDi
        have hS0 := SS0.out.1 hf0
        have hf1 : D 5 = false := by
          cases h : D 5 with
          | false => rfl
          | true => rw [(hcl 5 _ rfl h 0 (by simp))] at hDi; cases hDi
        have hS1 := SS1.out.1 hf1
        have e6 := hS0.2.2.2.1.cell
        clear hds
        refine wpOpIn_step rfl (fun K hK => ?_)
        go_simp
        exact hK _ _ ⟨_, _, _, _, _, rfl, hidD ⟨fun _ => rfl, fun h h2 => (GG.out.2.1 h (by simpa using h2)), GG.out.2.2.1, fun h h2 => (GG.out.2.2.2.1 h (by simpa using h2)), GG.out.2.2.2.2⟩, hidD ⟨fun h => (SS0.out.1 (by simpa using h)), fun h => (SS0.out.2 (by simpa using h))⟩, hidD ⟨fun h => (SS1.out.1 (by simpa using h)), fun h => (SS1.out.2 (by simpa using h))⟩⟩
      · have hf0 : D 4 = false := by
          cases h : D 4 with
          | false => rfl
          | true => rw [(hcl 4 _ rfl h 1 (by simp))] at hDi; cases hDi
        have hS0 := SS0.out.1 hf0
        have hf1 : D 5 = false := by
          cases h : D 5 with
          | false => rfl
          | true => rw [(hcl 5 _ rfl h 1 (by simp))] at hDi; cases hDi
        have hS1 := SS1.out.1 hf1
        obtain rfl := GG.out.1 (hds 0 (by simp))
        clear hds
        have HC := hidD (fun (n9 : Nat) => (callsIn_wide (n := n9)).2 (ymade_c _ [] V hS0.2.2.2.2.2.1 HSE.out))
        refine wpOpIn_step rfl (fun K hK => ?_)
        go_simp
        gi_wp2_with (refine ⟨trivial, ?_⟩; gi_at_call 27; refine (HC.out _).mono ?_; rintro e w5 ⟨v5, rfl, hv5, _, hb5⟩)
        exact ⟨_, _, _, _, _, rfl, hidD ⟨fun _ => rfl, fun _ _ => hv5, GG.out.2.2.1, fun h h2 => (GG.out.2.2.2.1 h (by simpa using h2)).below hb5, GG.out.2.2.2.2⟩, hidD ⟨fun h => (SS0.out.1 (by simpa using h)).below hb5, fun h => (SS0.out.2 (by simpa using h)).below hb5⟩, hidD ⟨fun _ => (fun e => by simp [hf0] at e), fun h => by simp [hf1] at h⟩⟩
      · have hf0 : D 4 = false := by
          cases h : D 4 with
          | false => rfl
          | true => rw [(hcl 3 _ rfl (hcl 4 _ rfl h 3 (by simp)) 2 (by simp))] at hDi; cases hDi
        have hS0 := SS0.out.1 hf0
        have hf1 : D 5 = false := by
          cases h : D 5 with
          | false => rfl
          | true => rw [(hcl 5 _ rfl h 2 (by simp))] at hDi; cases hDi
        have hS1 := SS1.out.1 hf1
        have e5 := hS0.2.2.1.cell
        clear hds
        refine wpOpIn_step rfl (fun K hK => ?_)
        go_simp
        exact hK _ _ ⟨_, _, _, _, _, rfl, hidD ⟨GG.out.1, fun h h2 => (GG.out.2.1 h (by simpa using h2)), fun _ => rfl, fun h h2 => (GG.out.2.2.2.1 h (by simpa using h2)), GG.out.2.2.2.2⟩, hidD ⟨fun h => (SS0.out.1 (by simpa using h)), fun h => (SS0.out.2 (by simpa using h))⟩, hidD ⟨fun h => (SS1.out.1 (by simpa using h)), fun h => (SS1.out.2 (by simpa using h))⟩⟩
      · have hf0 : D 4 = false := by
          cases h : D 4 with
          | false => rfl
          | true => rw [(hcl 4 _ rfl h 3 (by simp))] at hDi; cases hDi
        have hS0 := SS0.out.1 hf0
        have hf1 : D 5 = false := by
          cases h : D 5 with
          | false => rfl
          | true => rw [(hcl 5 _ rfl h 3 (by simp))] at hDi; cases hDi
        have hS1 := SS1.out.1 hf1
        obtain rfl := GG.out.2.2.1 (hds 2 (by simp))
        clear hds
        have HC := hidD (fun (n9 : Nat) => (callsIn_wide (n := n9)).2 (ymade_c _ ps V hS0.2.2.2.2.1 HSP.out))
        refine wpOpIn_step rfl (fun K hK => ?_)
        go_simp
        gi_wp2_with (refine ⟨trivial, ?_⟩; gi_at_call 27; refine (HC.out _).mono ?_; rintro e w5 ⟨v5, rfl, hv5, _, hb5⟩)
        exact ⟨_, _, _, _, _, rfl, hidD ⟨GG.out.1, fun h h2 => (GG.out.2.1 h (by simpa using h2)).below hb5, fun _ => rfl, fun _ _ => hv5, GG.out.2.2.2.2⟩, hidD ⟨fun h => (SS0.out.1 (by simpa using h)).below hb5, fun h => (SS0.out.2 (by simpa using h)).below hb5⟩, hidD ⟨fun _ => (fun e => by simp [hf0] at e), fun h => by simp [hf1] at h⟩⟩
      · have hS0 := SS0.out.1 hDi
        have hf1 : D 5 = false := by
          cases h : D 5 with
          | false => rfl
          | true => rw [(hcl 5 _ rfl h 4 (by simp))] at hDi; cases hDi
        have hS1 := SS1.out.1 hf1
        have h0 := GG.out.2.1 (hds 1 (by simp)) hf1
        obtain ⟨a9, l9, c9, rfl⟩ := IsPoly.form h0
        have hbx := hS0.1
        have e0 := hbx.cell
        have f0 := hbx.frozen
        have hne : w.heap.size + 1 + 1 + 1 ≠ w.heap.size + 1 + 1 := by omega
        clear hds
        refine wpOpIn_step rfl (fun K hK => ?_)
        go_simp
        exact hK _ _ ⟨_, _, _, _, _, rfl, hidD ⟨GG.out.1, fun h h2 => (GG.out.2.1 h (by simpa using h2)).setP hbx _, GG.out.2.2.1, fun h h2 => (GG.out.2.2.2.1 h (by simpa using h2)).setP hbx _, GG.out.2.2.2.2⟩, hidD ⟨fun h => by simp at h, fun _ => trivial⟩, hidD ⟨fun _ => (fun _ => ⟨_, rfl, hbx.set _, (Below.heap_setCell V ⟨w.heap.size + 1 + 1, 0, none⟩ _ _ hne).trans hS0.2.1, hS0.2.2.2.2.2.2.1.setCell (p := ⟨w.heap.size + 1 + 1, 0, none⟩) (by show w.heap.size ≤ w.heap.size + 1 + 1; omega) _, (KeepsOthers.setCell V ⟨w.heap.size + 1 + 1, 0, none⟩ _).same DC _ hS0.2.2.2.2.2.2.2 rfl⟩), fun h => by simp [hf1] at h⟩⟩
      · have hS1 := SS1.out.1 hDi
        have h0 := GG.out.2.1 (hds 1 (by simp)) hDi
        have h1 := GG.out.2.2.2.1 (hds 3 (by simp)) hDi
        have hd4 := hds 4 (by simp)
        obtain ⟨v2, rfl, hb2, hb3, hbw, hbd⟩ := hS1 (hds 4 (by simp))
        obtain ⟨a9, l9, c9, rfl⟩ := IsPoly.form h1
        have e0 := hb3.cell
        have f0 := hb3.frozen
        have hne : w.heap.size + 1 + 1 ≠ w.heap.size + 1 + 1 + 1 := by omega
        clear hds
        refine wpOpIn_step rfl (fun K hK => ?_)
        go_simp
        exact hK _ _ ⟨_, _, _, _, _, rfl, hidD ⟨GG.out.1, fun _ h => by simp at h, GG.out.2.2.1, fun _ h => by simp at h, GG.out.2.2.2.2⟩, hidD ⟨fun h => by simp [hd4] at h, fun _ => trivial⟩, hidD ⟨fun h => by simp at h, fun _ => ⟨_, _, rfl, rfl, (Below.heap_setCell V ⟨w.heap.size + 1 + 1 + 1, 0, none⟩ _ _ hne).trans hb2, hb3.set _, h0.setP hb3 _, h1.setP hb3 _, hbw.setCell (p := ⟨w.heap.size + 1 + 1 + 1, 0, none⟩) (by show w.heap.size ≤ w.heap.size + 1 + 1 + 1; omega) _, (KeepsOthers.setCell V ⟨w.heap.size + 1 + 1 + 1, 0, none⟩ _).same DC _ hbd rfl⟩⟩⟩
      · clear hds
        refine wpOpIn_step rfl (fun K hK => ?_)
        go_simp
        exact hK _ _ ⟨_, _, _, _, _, rfl, hidD ⟨GG.out.1, fun h h2 => (GG.out.2.1 h (by simpa using h2)), GG.out.2.2.1, fun h h2 => (GG.out.2.2.2.1 h (by simpa using h2)), fun _ => rfl⟩, hidD ⟨fun h => (SS0.out.1 (by simpa using h)), fun h => (SS0.out.2 (by simpa using h))⟩, hidD ⟨fun h => (SS1.out.1 (by simpa using h)), fun h => (SS1.out.2 (by simpa using h))⟩⟩
    case fin1 =>
      rintro E act V hDD ⟨t77x, t78x, t79x, t80x, t6x, rfl, GG, SS0, SS1⟩
      obtain ⟨v, v', rfl, rfl, g2, g3, hi2, hi3, hbw, hbd⟩ := SS1.out.2 (hDD 5 (by decide))
      obtain rfl := GG.out.2.2.2.2 (hDD 6 (by decide))
      clear GG SS0 SS1 hDD
      gi_wp2
      refine ⟨by simp, .inl ⟨_, _, rfl, run_takeDeferred hbd, ?_⟩⟩
      have hg := grownBy_putObj' V DC (.deferred none)
      have hgr : ∀ r, some DC = some r → ∃ o : Obj, V.heap[r]? = some o ∧ o.isCells = false := fun r e => by cases e; exact ⟨_, hbd, rfl⟩
      have q2 : Boxed _ (w.heap.size + 1 + 1) 25 v := block_own hg hgr (show Bx V (w.heap.size + 1 + 1) 25 #[v] from g2)
      have q3 : Boxed _ (w.heap.size + 1 + 1 + 1) 25 v' := block_own hg hgr (show Bx V (w.heap.size + 1 + 1 + 1) 25 #[v'] from g3)
      have x2 := q2.cell
      have x3 := q3.cell
      refine ⟨.tuple #[.agg #[v], .agg #[v'], .bool true], by simp [results, Tryz.results22, go_sem, x2, x3], _, _, rfl, ?_, ?_, ?_⟩
      · obtain ⟨u, e, h⟩ := hi2
        exact ⟨u, e, rowK_own hg hgr h⟩
      · rw [HTP.out] at hi3
        obtain ⟨u, e, h⟩ := hi3
        exact ⟨u, e, rowK_own hg hgr h⟩
      · exact hbw.trans (belowK_b (w := w) (Nat.le_refl _) _ DC _ _ HB3.out hbd rfl rfl)

theorem ySplit_g (A : Nat) (va vb : Value) (ps qs : List Rat) (w : World) (ha : IsPoly w va ps) (hb : IsPoly w vb qs) (hs : Sqs ps) (hq : ∀ i, SmQ A (cf qs i)) (htp : trimQ ps = ps) (htq : trimQ qs = qs)
    (hL : qs ≠ [] → ∀ k, k ≤ ps.length - (qs.length - 1) → ∃ z, z + (2 * A + 1) ≤ 1000000 ∧ (k < ps.length - (qs.length - 1) → 2 * z + 2 * (2 * A + 1) ≤ 1000000) ∧ (∀ i, SmQ z (cf (splitAt ps qs (qs.length - 1) (ps.length - (qs.length - 1)) k).2 i)) ∧ ∀ i, SmQ (z + A) (cf (splitAt ps qs (qs.length - 1) (ps.length - (qs.length - 1)) k).1 i)) :
    Calls Tryz.prog 22 #[va, vb] w fun e w' => ∃ u v, e = .returned (.tuple #[u, v, .bool (decide (qs ≠ []))]) ∧ IsPoly w' u (if qs = [] then [] else quoQ ps qs) ∧ IsPoly w' v (if qs = [] then [] else remQ ps qs) ∧ Below w.heap.size w w' := by
  by_cases h0 : qs = []
  · subst h0
    refine (ySplit_nil va ps vb w ha hb).mono ?_
    rintro e w' ⟨rfl, h⟩
    exact ⟨_, _, rfl, ⟨_, rfl, RowK.nil _ _⟩, ⟨_, rfl, RowK.nil _ _⟩, h⟩
  · have hd : decide (qs ≠ []) = true := decide_eq_true h0
    rw [hd]
    simp only [if_neg h0]
    have hql : 0 < qs.length := List.length_pos_iff.2 h0
    obtain ⟨pa, la, pc, rfl⟩ := ha.form
    obtain ⟨qa, lb, qc, rfl⟩ := hb.form
    have h1 := ha.row
    have h2 := hb.row
    obtain ⟨hla, _⟩ := h1.forms
    obtain ⟨hlb, _⟩ := h2.forms
    by_cases hm : la ≤ lb - 1
    · have e0 : ps.length - (qs.length - 1) = 0 := by omega
      have e1 : quoQ ps qs = [] := by unfold quoQ; rw [e0]; rfl
      have e2 : remQ ps qs = ps := by unfold remQ; rw [e0]; exact htp
      rw [e1, e2]
      exact ySplit_few pa qa la pc lb qc (lb - 1) ps qs w h1 h2 hs htp (by omega) hm
    · exact ySplit_w A pa qa la pc lb qc (lb - 1) (la - (lb - 1)) ps qs w h1 h2 hq htq h0 (fun k hk => by rw [show lb - 1 = qs.length - 1 by omega, show la - (qs.length - 1) = ps.length - (qs.length - 1) by omega]; exact hL h0 k (by omega)) (by omega) (by omega) (by omega)

theorem ySplit_c (A : Nat) (va vb : Value) (ps qs : List Rat) (w : World) (ha : IsPoly w va ps) (hb : IsPoly w vb qs) (hA : 1 ≤ A) (hp : ∀ i, SmQ A (cf ps i)) (hq : ∀ i, SmQ A (cf qs i)) (htp : trimQ ps = ps) (htq : trimQ qs = qs) (hL : 2 ^ ps.length * (3 * A + 1) ≤ 1000000) :
    Calls Tryz.prog 22 #[va, vb] w fun e w' => ∃ u v, e = .returned (.tuple #[u, v, .bool (decide (qs ≠ []))]) ∧ IsPoly w' u (if qs = [] then [] else quoQ ps qs) ∧ IsPoly w' v (if qs = [] then [] else remQ ps qs) ∧ Below w.heap.size w w' := by
  have h3 : 1 * (3 * A + 1) ≤ 2 ^ ps.length * (3 * A + 1) := Nat.mul_le_mul_right _ (Nat.one_le_two_pow)
  refine ySplit_g A va vb ps qs w ha hb (Sqs.of fun i => Sq.of (hp i) (by omega)) hq htp htq (fun h0 k hk => ?_)
  obtain ⟨z, h1, h2, h4⟩ := splitAt_sm (n := qs.length - 1) (m := ps.length - (qs.length - 1)) hA hp hq (trim_last htq h0) k
  have hk2 : k ≤ ps.length := by omega
  refine ⟨z, ?_, fun hlt => ?_, h2, h4⟩
  · have h5 : 2 ^ k * (3 * A + 1) ≤ 2 ^ ps.length * (3 * A + 1) := Nat.mul_le_mul_right _ (Nat.pow_le_pow_right (by omega) hk2)
    omega
  · have h5 : 2 ^ (k + 1) * (3 * A + 1) ≤ 2 ^ ps.length * (3 * A + 1) := Nat.mul_le_mul_right _ (Nat.pow_le_pow_right (by omega) (by omega))
    rw [Nat.pow_succ, Nat.mul_comm (2 ^ k) 2, Nat.mul_assoc] at h5
    omega
end Go.Proofs.YteldjhhjnchdeaaGreatDoor.M3
namespace Go.Proofs.YteldjhhjnchdeaaGreatDoor.M3
open Go.RowKit Go.Shelf

attribute [local go_sem] Oper.semAt_some

/-- A slope's row, its first i told. -/
def SlAt (ps : List Rat) (n i : Nat) (S : List Rat) : Prop := S.length = n ∧ ∀ j, cf S j = if j < i then slF ps j else 0
theorem SlAt.next {ps : List Rat} {n i : Nat} {S : List Rat} (h : SlAt ps n i S) (hi : i < n) : SlAt ps n (i + 1) (S.set i (slF ps i)) := by
  refine ⟨by rw [List.length_set]; exact h.1, fun j => ?_⟩
  rw [cf_set _ _ _ _ (by rw [h.1]; exact hi), h.2 j]
  by_cases e : j = i
  · rw [if_pos e, if_pos (by omega), e]
  · rw [if_neg e]
    by_cases e2 : j < i
    · rw [if_pos e2, if_pos (by omega)]
    · rw [if_neg e2, if_neg (by omega)]
theorem SlAt.done {ps : List Rat} {n : Nat} {S : List Rat} (h : SlAt ps n n S) (hn : n = ps.length - 1) : trimQ S = slopeQ ps := trim_ext fun j => by
  rw [h.2 j, cf_slopeR]
  split
  · rfl
  · rw [cf_ge (p := ps) (by omega), Rat.zero_mul]

set_option maxRecDepth 100000 in
set_option maxHeartbeats 8000000 in
theorem ySlope_c (v : Value) (ps : List Rat) (w : World) (h : IsPoly w v ps) (hps : Sqs ps) (hsl : ∀ i, Sq (slF ps i)) :
    Calls Tryz.prog 24 #[v] w fun e w' => ∃ u, e = .returned u ∧ IsPoly w' u (slopeQ ps) ∧ Below w.heap.size w w' := by
  have hmx : Tryz.prog.follows .mixedOrders = true := by kernel_rfl
  obtain ⟨pa, la, pc, rfl⟩ := h.form
  have ha := h.row
  obtain ⟨hla, hca, hcma, hlma, s, t, aa, bb, ll, cc, kk, dd, hcp⟩ := ha.forms
  have M0 : Mem w _ _ := ((Mem.nil w).push (.cell 25 (.slice pa la pc)) (cs := #[.slice pa la pc]) ⟨rfl, rfl⟩).push (.cell 25 (.slice none 0 0)) (cs := #[.slice none 0 0]) ⟨rfl, rfl⟩
  simp only [World.size_alloc] at M0
  obtain ⟨V0, hV0⟩ : ∃ V, (w.alloc (.cells #[.slice pa la pc] 25)).alloc (.cells #[.slice none 0 0] 25) = V := ⟨_, rfl⟩
  have M1 : Mem w V0 [some (w.heap.size, .cell 25 (.slice pa la pc)), some (w.heap.size + 1, .cell 25 (.slice none 0 0))] := by rw [← hV0]; exact M0
  have HM1 := hidD M1
  obtain ⟨d, hd⟩ : ∃ d : Int, (ps.length : Int) - 1 = d := ⟨_, rfl⟩
  have HDG := hidD (yDegree_c (.agg #[.slice pa la pc]) ps V0 (h.below M1.2.2))
  rw [hd] at HDG
  obtain ⟨n, hn⟩ : ∃ n : Nat, ps.length - 1 = n := ⟨_, rfl⟩
  have hmax : max (0 : Int) d = (n : Int) := by omega
  have hmk : ∀ W : World, (Instr.makeSlice 23 (.int .i64 (n : Int)) (.int .i64 (n : Int))).run Tryz.prog W = .ok (.slice (some ⟨W.heap.size, 0, none⟩) n n) (W.alloc (.cells (zeroQ n) 65)) := fun W => make_rats n (by omega) W
  have HP := hidD hcp
  have HPS := hidD hps
  have HSL := hidD hsl
  have HN := hidD (show n = ps.length - 1 ∧ la = ps.length from ⟨hn.symm, hla⟩)
  have hnle : n ≤ 1099511627776 := by omega
  have HV0 := hidD hV0
  clear h ha hcp hps hsl hla hca hcma hn hd M0 M1 hV0
  go_enter Tryz.func24, Tryz.ntmps24
  go_upto_region 1 with fail
  rw [HV0.out]
  have c0 := (HM1.out.cell (i := 0) rfl).1.cell
  go_upto_region 2 with (go_at_call 20; refine HDG.out.mono ?_; clear HDG; rintro e w1 ⟨rfl, hb1⟩)
  have hM2 : Mem w (w1.alloc (.cells (zeroQ n) 65)) [some (w.heap.size, .cell 25 (.slice pa la pc)), some (w.heap.size + 1, .cell 25 (.slice none 0 0)), some (w1.heap.size, .rats (List.replicate n 0))] := (HM1.out.below hb1).push (.rats (List.replicate n 0)) (has_zeros _ n)
  obtain ⟨V1, hV1⟩ : ∃ V, w1.alloc (.cells (zeroQ n) 65) = V := ⟨_, rfl⟩
  obtain ⟨gS, hgS⟩ : ∃ g, w1.heap.size = g := ⟨_, rfl⟩
  rw [hV1, hgS] at hM2
  rw [hV1, hgS]
  have HM2 := hidD hM2
  clear hM2 hV1 hgS hb1 c0 HM1 HV0 hmk hmax
  go_wp2
  go_loopw [11] (fun iv wr => ∃ (i : Nat) (S : List Rat), i ≤ n ∧ iv = .int .i64 (i : Int) ∧ Hid (SlAt ps n i S) ∧ Hid (Mem w wr [some (w.heap.size, .cell 25 (.slice pa la pc)), some (w.heap.size + 1, .cell 25 (.slice none 0 0)), some (gS, .rats S)])) (fun iv _ => n - (intOf iv).toNat)
  case atStart => exact ⟨0, _, Nat.zero_le _, rfl, hidD ⟨List.length_replicate, fun j => by rw [cf_replicate, if_neg (by omega)]⟩, HM2⟩
  case round =>
    obtain ⟨i, S, hi, rfl, HS, HM⟩ := hrel
    clear HM2
    by_cases hlt : i < n
    · have hlt2 : (i : Int) < (n : Int) := by omega
      obtain ⟨K, hK⟩ : ∃ K : Nat, i + 1 = K := ⟨_, rfl⟩
      have hK1 : (i : Int) + 1 = (K : Int) := by omega
      have hKw : IntKind.i64.wrap (K : Int) = (K : Int) := by rw [IntKind.wrap_i64]; omega
      have hKl : (K : Int) < (la : Int) := by have := HN.out; omega
      obtain ⟨hip, bp, rfl, hbp, p0, p1, p2, p3⟩ := HP.out K (by have := HN.out; omega)
      have HCL := hidD (show ∀ V, Below w.heap.size w V → (V.cell? ⟨bp, K * 4, none⟩ = some (.bool (s K)) ∧ V.cell? ⟨bp, K * 4 + 1, none⟩ = some (.slice (aa K) (ll K) (cc K)) ∧ V.cell? ⟨bp, K * 4 + 2, none⟩ = some (.bool (t K)) ∧ V.cell? ⟨bp, K * 4 + 3, none⟩ = some (.slice (bb K) (kk K) (dd K))) ∧ IsRat V (.agg #[.bool (s K), .slice (aa K) (ll K) (cc K), .bool (t K), .slice (bb K) (kk K) (dd K)]) (cf ps K) from fun V hB => by
        exact ⟨⟨(hB.cell (p := ⟨bp, _, none⟩) hbp).trans p0, (hB.cell (p := ⟨bp, _, none⟩) hbp).trans p1, (hB.cell (p := ⟨bp, _, none⟩) hbp).trans p2, (hB.cell (p := ⟨bp, _, none⟩) hbp).trans p3⟩, hip.below hB⟩)
      have HKK := hidD (show K ≤ 1099511627776 ∧ K = i + 1 by omega)
      have HFN := hidD (show cf ps K * ((K : Int) : Rat) = slF ps i by rw [HKK.out.2]; rfl)
      have HIL := hidD (show i < S.length by rw [HS.out.1]; exact hlt)
      clear hip hbp p0 p1 p2 p3 hK
      go_wp2_with fail
      have ST0 := HM.out.drew
      refine wp_region_tab hmx [[], [], [], [2], [], [4], [3, 5], [6], [], [8], [9], [7, 10, 10], [0, 1, 0, 1, 2, 3, 4, 5, 6, 7, 8, 9, 10, 11], [12, 11, 11, 0, 1, 2, 3, 4, 5, 6, 7, 8, 9, 10, 11]] (by kernel_rfl) (by decide)
        (fun D act V => ∃ (t14x t15x t16x t17x t18x t19x t20x t21x t22x t23x t24x t25x t26x : Value), act = { tmps := #[Value.agg #[Value.slice (some { block := bp, off := 0 }) la pc], Value.pointer (some { block := w.heap.size, off := 0 }), Value.pointer (some { block := w.heap.size + 1, off := 0 }), Value.slice (some { block := gS, off := 0 }) n n, Value.int IntKind.i64 ↑i, Value.agg #[Value.slice (some { block := bp, off := 0 }) la pc], Value.int IntKind.i64 d, Value.int IntKind.i64 ↑n, Value.slice (some { block := gS, off := 0 }) n n, Value.slice (some { block := gS, off := 0 }) n n, Value.int IntKind.i64 ↑n, Value.int IntKind.i64 ↑i, Value.bool true, Value.int IntKind.i64 ↑i, t14x, t15x, t16x, t17x, t18x, t19x, t20x, t21x, t22x, t23x, t24x, t25x, t26x, u27, undef, undef], defers := [] } ∧ Hid ((D 0 = true → t14x = .slice (some ⟨gS, 0, none⟩) n n) ∧ (D 1 = true → t15x = .int .i64 (i : Int)) ∧ (D 2 = true → t16x = .pointer (some ⟨w.heap.size, 0, none⟩)) ∧ (D 3 = true → t17x = .slice (some ⟨bp, 0, none⟩) la pc) ∧ (D 4 = true → t18x = .int .i64 (i : Int)) ∧ (D 5 = true → t19x = .int .i64 (K : Int)) ∧ (D 6 = true → t20x = .pointer (some ⟨bp, K * 4, none⟩)) ∧ (D 7 = true → D 13 = false → IsRat V t21x (cf ps K)) ∧ (D 8 = true → t22x = .int .i64 (i : Int)) ∧ (D 9 = true → t23x = .int .i64 (K : Int)) ∧ (D 10 = true → D 13 = false → IsRat V t24x ((K : Int) : Rat)) ∧ (D 11 = true → D 13 = false → IsRat V t25x (slF ps i)) ∧ (D 12 = true → t26x = .pointer (some ⟨gS, i * 4, none⟩))) ∧ Hid ((D 13 = false → Mem w V [some (w.heap.size, .cell 25 (.slice (some ⟨bp, 0, none⟩) la pc)), some (w.heap.size + 1, .cell 25 (.slice none 0 0)), some (gS, .rats (S))]) ∧ (D 13 = true → Mem w V [some (w.heap.size, .cell 25 (.slice (some ⟨bp, 0, none⟩) la pc)), some (w.heap.size + 1, .cell 25 (.slice none 0 0)), some (gS, .rats (S.set i (slF ps i)))])))
        ⟨_, _, _, _, _, _, _, _, _, _, _, _, _, rfl, hidD ⟨by simp, by simp, by simp, by simp, by simp, by simp, by simp, by simp, by simp, by simp, by simp, by simp, by simp⟩, hidD ⟨fun _ => ST0, by simp⟩⟩ ?step1 ?fin1
      case step1 =>
        rintro D act V i ds hcl hi hds hDi ⟨t14x, t15x, t16x, t17x, t18x, t19x, t20x, t21x, t22x, t23x, t24x, t25x, t26x, rfl, GG, SS0⟩
        have hi6 : i < 14 := (List.getElem?_eq_some_iff.1 hi).1
        obtain rfl | rfl | rfl | rfl | rfl | rfl | rfl | rfl | rfl | rfl | rfl | rfl | rfl | rfl : i = 0 ∨ i = 1 ∨ i = 2 ∨ i = 3 ∨ i = 4 ∨ i = 5 ∨ i = 6 ∨ i = 7 ∨ i = 8 ∨ i = 9 ∨ i = 10 ∨ i = 11 ∨ i = 12 ∨ i = 13 := by omega
        all_goals
          simp only [List.getElem?_cons_zero, List.getElem?_cons_succ, Option.some.injEq] at hi
          subst hi
        · have hf0 : D 13 = false := by
            cases h : D 13 with
            | false => rfl
            | true => rw [(hcl 13 _ rfl h 0 (by simp))] at hDi; cases hDi
          have hS0 := SS0.out.1 hf0
          clear hds
          refine wpOp_go rfl rfl (fun K hK => ?_)
          go_simp
          exact hK _ _ ⟨_, _, _, _, _, _, _, _, _, _, _, _, _, rfl, hidD ⟨fun _ => rfl, GG.out.2.1, GG.out.2.2.1, GG.out.2.2.2.1, GG.out.2.2.2.2.1, GG.out.2.2.2.2.2.1, GG.out.2.2.2.2.2.2.1, fun h h2 => (GG.out.2.2.2.2.2.2.2.1 h (by simpa using h2)), GG.out.2.2.2.2.2.2.2.2.1, GG.out.2.2.2.2.2.2.2.2.2.1, fun h h2 => (GG.out.2.2.2.2.2.2.2.2.2.2.1 h (by simpa using h2)), fun h h2 => (GG.out.2.2.2.2.2.2.2.2.2.2.2.1 h (by simpa using h2)), GG.out.2.2.2.2.2.2.2.2.2.2.2.2⟩, hidD ⟨fun h => (SS0.out.1 (by simpa using h)), fun h => (SS0.out.2 (by simpa using h))⟩⟩
        · have hf0 : D 13 = false := by
            cases h : D 13 with
            | false => rfl
            | true => rw [(hcl 13 _ rfl h 1 (by simp))] at hDi; cases hDi
          have hS0 := SS0.out.1 hf0
          clear hds
          refine wpOp_go rfl rfl (fun K hK => ?_)
          go_simp
          exact hK _ _ ⟨_, _, _, _, _, _, _, _, _, _, _, _, _, rfl, hidD ⟨GG.out.1, fun _ => rfl, GG.out.2.2.1, GG.out.2.2.2.1, GG.out.2.2.2.2.1, GG.out.2.2.2.2.2.1, GG.out.2.2.2.2.2.2.1, fun h h2 => (GG.out.2.2.2.2.2.2.2.1 h (by simpa using h2)), GG.out.2.2.2.2.2.2.2.2.1, GG.out.2.2.2.2.2.2.2.2.2.1, fun h h2 => (GG.out.2.2.2.2.2.2.2.2.2.2.1 h (by simpa using h2)), fun h h2 => (GG.out.2.2.2.2.2.2.2.2.2.2.2.1 h (by simpa using h2)), GG.out.2.2.2.2.2.2.2.2.2.2.2.2⟩, hidD ⟨fun h => (SS0.out.1 (by simpa using h)), fun h => (SS0.out.2 (by simpa using h))⟩⟩
        · have hf0 : D 13 = false := by
            cases h : D 13 with
            | false => rfl
            | true => rw [(hcl 13 _ rfl h 2 (by simp))] at hDi; cases hDi
          have hS0 := SS0.out.1 hf0
          clear hds
          refine wpOp_go rfl rfl (fun K hK => ?_)
          go_simp
          exact hK _ _ ⟨_, _, _, _, _, _, _, _, _, _, _, _, _, rfl, hidD ⟨GG.out.1, GG.out.2.1, fun _ => rfl, GG.out.2.2.2.1, GG.out.2.2.2.2.1, GG.out.2.2.2.2.2.1, GG.out.2.2.2.2.2.2.1, fun h h2 => (GG.out.2.2.2.2.2.2.2.1 h (by simpa using h2)), GG.out.2.2.2.2.2.2.2.2.1, GG.out.2.2.2.2.2.2.2.2.2.1, fun h h2 => (GG.out.2.2.2.2.2.2.2.2.2.2.1 h (by simpa using h2)), fun h h2 => (GG.out.2.2.2.2.2.2.2.2.2.2.2.1 h (by simpa using h2)), GG.out.2.2.2.2.2.2.2.2.2.2.2.2⟩, hidD ⟨fun h => (SS0.out.1 (by simpa using h)), fun h => (SS0.out.2 (by simpa using h))⟩⟩
        · have hf0 : D 13 = false := by
            cases h : D 13 with
            | false => rfl
            | true => rw [(hcl 13 _ rfl h 3 (by simp))] at hDi; cases hDi
          have hS0 := SS0.out.1 hf0
          obtain rfl := GG.out.2.2.1 (hds 2 (by simp))
          have e0 := (hS0.cell (i := 0) rfl).1.cell
          clear hds
          refine wpOp_go rfl rfl (fun K hK => ?_)
          go_simp
          exact hK _ _ ⟨_, _, _, _, _, _, _, _, _, _, _, _, _, rfl, hidD ⟨GG.out.1, GG.out.2.1, fun _ => rfl, fun _ => rfl, GG.out.2.2.2.2.1, GG.out.2.2.2.2.2.1, GG.out.2.2.2.2.2.2.1, fun h h2 => (GG.out.2.2.2.2.2.2.2.1 h (by simpa using h2)), GG.out.2.2.2.2.2.2.2.2.1, GG.out.2.2.2.2.2.2.2.2.2.1, fun h h2 => (GG.out.2.2.2.2.2.2.2.2.2.2.1 h (by simpa using h2)), fun h h2 => (GG.out.2.2.2.2.2.2.2.2.2.2.2.1 h (by simpa using h2)), GG.out.2.2.2.2.2.2.2.2.2.2.2.2⟩, hidD ⟨fun h => (SS0.out.1 (by simpa using h)), fun h => (SS0.out.2 (by simpa using h))⟩⟩
        · have hf0 : D 13 = false := by
            cases h : D 13 with
            | false => rfl
            | true => rw [(hcl 13 _ rfl h 4 (by simp))] at hDi; cases hDi
          have hS0 := SS0.out.1 hf0
          clear hds
          refine wpOp_go rfl rfl (fun K hK => ?_)
          go_simp
          exact hK _ _ ⟨_, _, _, _, _, _, _, _, _, _, _, _, _, rfl, hidD ⟨GG.out.1, GG.out.2.1, GG.out.2.2.1, GG.out.2.2.2.1, fun _ => rfl, GG.out.2.2.2.2.2.1, GG.out.2.2.2.2.2.2.1, fun h h2 => (GG.out.2.2.2.2.2.2.2.1 h (by simpa using h2)), GG.out.2.2.2.2.2.2.2.2.1, GG.out.2.2.2.2.2.2.2.2.2.1, fun h h2 => (GG.out.2.2.2.2.2.2.2.2.2.2.1 h (by simpa using h2)), fun h h2 => (GG.out.2.2.2.2.2.2.2.2.2.2.2.1 h (by simpa using h2)), GG.out.2.2.2.2.2.2.2.2.2.2.2.2⟩, hidD ⟨fun h => (SS0.out.1 (by simpa using h)), fun h => (SS0.out.2 (by simpa using h))⟩⟩
        · have hf0 : D 13 = false := by
            cases h : D 13 with
            | false => rfl
            | true => rw [(hcl 13 _ rfl h 5 (by simp))] at hDi; cases hDi
          have hS0 := SS0.out.1 hf0
          obtain rfl := GG.out.2.2.2.2.1 (hds 4 (by simp))
          clear hds
          refine wpOp_go rfl rfl (fun K hK => ?_)
          go_simp
          exact hK _ _ ⟨_, _, _, _, _, _, _, _, _, _, _, _, _, rfl, hidD ⟨GG.out.1, GG.out.2.1, GG.out.2.2.1, GG.out.2.2.2.1, fun _ => rfl, fun _ => rfl, GG.out.2.2.2.2.2.2.1, fun h h2 => (GG.out.2.2.2.2.2.2.2.1 h (by simpa using h2)), GG.out.2.2.2.2.2.2.2.2.1, GG.out.2.2.2.2.2.2.2.2.2.1, fun h h2 => (GG.out.2.2.2.2.2.2.2.2.2.2.1 h (by simpa using h2)), fun h h2 => (GG.out.2.2.2.2.2.2.2.2.2.2.2.1 h (by simpa using h2)), GG.out.2.2.2.2.2.2.2.2.2.2.2.2⟩, hidD ⟨fun h => (SS0.out.1 (by simpa using h)), fun h => (SS0.out.2 (by simpa using h))⟩⟩
        · have hf0 : D 13 = false := by
            cases h : D 13 with
            | false => rfl
            | true => rw [(hcl 13 _ rfl h 6 (by simp))] at hDi; cases hDi
          have hS0 := SS0.out.1 hf0
          obtain rfl := GG.out.2.2.2.1 (hds 3 (by simp))
          obtain rfl := GG.out.2.2.2.2.2.1 (hds 5 (by simp))
          clear hds
          refine wpOp_go rfl rfl (fun K hK => ?_)
          go_simp
          exact hK _ _ ⟨_, _, _, _, _, _, _, _, _, _, _, _, _, rfl, hidD ⟨GG.out.1, GG.out.2.1, GG.out.2.2.1, fun _ => rfl, GG.out.2.2.2.2.1, fun _ => rfl, fun _ => rfl, fun h h2 => (GG.out.2.2.2.2.2.2.2.1 h (by simpa using h2)), GG.out.2.2.2.2.2.2.2.2.1, GG.out.2.2.2.2.2.2.2.2.2.1, fun h h2 => (GG.out.2.2.2.2.2.2.2.2.2.2.1 h (by simpa using h2)), fun h h2 => (GG.out.2.2.2.2.2.2.2.2.2.2.2.1 h (by simpa using h2)), GG.out.2.2.2.2.2.2.2.2.2.2.2.2⟩, hidD ⟨fun h => (SS0.out.1 (by simpa using h)), fun h => (SS0.out.2 (by simpa using h))⟩⟩
        · have hf0 : D 13 = false := by
            cases h : D 13 with
            | false => rfl
            | true => rw [(hcl 13 _ rfl h 7 (by simp))] at hDi; cases hDi
          have hS0 := SS0.out.1 hf0
          obtain rfl := GG.out.2.2.2.2.2.2.1 (hds 6 (by simp))
          obtain ⟨⟨e0, e1, e2, e3⟩, hr⟩ := HCL.out V hS0.2.2
          clear hds
          refine wpOp_go rfl rfl (fun K hK => ?_)
          go_simp
          exact hK _ _ ⟨_, _, _, _, _, _, _, _, _, _, _, _, _, rfl, hidD ⟨GG.out.1, GG.out.2.1, GG.out.2.2.1, GG.out.2.2.2.1, GG.out.2.2.2.2.1, GG.out.2.2.2.2.2.1, fun _ => rfl, fun _ _ => hr, GG.out.2.2.2.2.2.2.2.2.1, GG.out.2.2.2.2.2.2.2.2.2.1, fun h h2 => (GG.out.2.2.2.2.2.2.2.2.2.2.1 h (by simpa using h2)), fun h h2 => (GG.out.2.2.2.2.2.2.2.2.2.2.2.1 h (by simpa using h2)), GG.out.2.2.2.2.2.2.2.2.2.2.2.2⟩, hidD ⟨fun h => (SS0.out.1 (by simpa using h)), fun h => (SS0.out.2 (by simpa using h))⟩⟩
        · have hf0 : D 13 = false := by
            cases h : D 13 with
            | false => rfl
            | true => rw [(hcl 13 _ rfl h 8 (by simp))] at hDi; cases hDi
          have hS0 := SS0.out.1 hf0
          clear hds
          refine wpOp_go rfl rfl (fun K hK => ?_)
          go_simp
          exact hK _ _ ⟨_, _, _, _, _, _, _, _, _, _, _, _, _, rfl, hidD ⟨GG.out.1, GG.out.2.1, GG.out.2.2.1, GG.out.2.2.2.1, GG.out.2.2.2.2.1, GG.out.2.2.2.2.2.1, GG.out.2.2.2.2.2.2.1, fun h h2 => (GG.out.2.2.2.2.2.2.2.1 h (by simpa using h2)), fun _ => rfl, GG.out.2.2.2.2.2.2.2.2.2.1, fun h h2 => (GG.out.2.2.2.2.2.2.2.2.2.2.1 h (by simpa using h2)), fun h h2 => (GG.out.2.2.2.2.2.2.2.2.2.2.2.1 h (by simpa using h2)), GG.out.2.2.2.2.2.2.2.2.2.2.2.2⟩, hidD ⟨fun h => (SS0.out.1 (by simpa using h)), fun h => (SS0.out.2 (by simpa using h))⟩⟩
        · have hf0 : D 13 = false := by
            cases h : D 13 with
            | false => rfl
            | true => rw [(hcl 13 _ rfl h 9 (by simp))] at hDi; cases hDi
          have hS0 := SS0.out.1 hf0
          obtain rfl := GG.out.2.2.2.2.2.2.2.2.1 (hds 8 (by simp))
          clear hds
          refine wpOp_go rfl rfl (fun K hK => ?_)
          go_simp
          exact hK _ _ ⟨_, _, _, _, _, _, _, _, _, _, _, _, _, rfl, hidD ⟨GG.out.1, GG.out.2.1, GG.out.2.2.1, GG.out.2.2.2.1, GG.out.2.2.2.2.1, GG.out.2.2.2.2.2.1, GG.out.2.2.2.2.2.2.1, fun h h2 => (GG.out.2.2.2.2.2.2.2.1 h (by simpa using h2)), fun _ => rfl, fun _ => rfl, fun h h2 => (GG.out.2.2.2.2.2.2.2.2.2.2.1 h (by simpa using h2)), fun h h2 => (GG.out.2.2.2.2.2.2.2.2.2.2.2.1 h (by simpa using h2)), GG.out.2.2.2.2.2.2.2.2.2.2.2.2⟩, hidD ⟨fun h => (SS0.out.1 (by simpa using h)), fun h => (SS0.out.2 (by simpa using h))⟩⟩
        · have hf0 : D 13 = false := by
            cases h : D 13 with
            | false => rfl
            | true => rw [(hcl 13 _ rfl h 10 (by simp))] at hDi; cases hDi
          have hS0 := SS0.out.1 hf0
          obtain rfl := GG.out.2.2.2.2.2.2.2.2.2.1 (hds 9 (by simp))
          clear hds
          have HC := hidD (ywholeRat_c (K : Int) (by omega) (by have := HKK.out; omega) V)
          refine wpOp_go rfl rfl (fun K hK => ?_)
          go_simp
          go_wp2_with (go_at_call 54; refine HC.out.mono ?_; rintro e w5 ⟨v5, rfl, hv5, hb5⟩)
          exact ⟨_, _, _, _, _, _, _, _, _, _, _, _, _, rfl, hidD ⟨GG.out.1, GG.out.2.1, GG.out.2.2.1, GG.out.2.2.2.1, GG.out.2.2.2.2.1, GG.out.2.2.2.2.2.1, GG.out.2.2.2.2.2.2.1, fun h h2 => (GG.out.2.2.2.2.2.2.2.1 h (by simpa using h2)).below hb5, GG.out.2.2.2.2.2.2.2.2.1, fun _ => rfl, fun _ _ => hv5, fun h h2 => (GG.out.2.2.2.2.2.2.2.2.2.2.2.1 h (by simpa using h2)).below hb5, GG.out.2.2.2.2.2.2.2.2.2.2.2.2⟩, hidD ⟨fun h => (SS0.out.1 (by simpa using h)).below hb5, fun h => (SS0.out.2 (by simpa using h)).below hb5⟩⟩
        · have hf0 : D 13 = false := by
            cases h : D 13 with
            | false => rfl
            | true => rw [(hcl 13 _ rfl h 11 (by simp))] at hDi; cases hDi
          have hS0 := SS0.out.1 hf0
          have h0 := GG.out.2.2.2.2.2.2.2.1 (hds 7 (by simp)) hf0
          have h1 := GG.out.2.2.2.2.2.2.2.2.2.2.1 (hds 10 (by simp)) hf0
          clear hds
          have HC := hidD (qtimes_c _ _ (cf ps K) ((K : Int) : Rat) V h0 h1 (HPS.out.at K) (cast_sq HKK.out.1))
          rw [HFN.out] at HC
          clear h0 h1
          refine wpOp_go rfl rfl (fun K hK => ?_)
          go_simp
          go_wp2_with (go_at_call 52; refine HC.out.mono ?_; rintro e w5 ⟨v5, rfl, hv5, hb5⟩)
          exact ⟨_, _, _, _, _, _, _, _, _, _, _, _, _, rfl, hidD ⟨GG.out.1, GG.out.2.1, GG.out.2.2.1, GG.out.2.2.2.1, GG.out.2.2.2.2.1, GG.out.2.2.2.2.2.1, GG.out.2.2.2.2.2.2.1, fun h h2 => (GG.out.2.2.2.2.2.2.2.1 h (by simpa using h2)).below hb5, GG.out.2.2.2.2.2.2.2.2.1, GG.out.2.2.2.2.2.2.2.2.2.1, fun h h2 => (GG.out.2.2.2.2.2.2.2.2.2.2.1 h (by simpa using h2)).below hb5, fun _ _ => hv5, GG.out.2.2.2.2.2.2.2.2.2.2.2.2⟩, hidD ⟨fun h => (SS0.out.1 (by simpa using h)).below hb5, fun h => (SS0.out.2 (by simpa using h)).below hb5⟩⟩
        · have hf0 : D 13 = false := by
            cases h : D 13 with
            | false => rfl
            | true => rw [(hcl 13 _ rfl h 12 (by simp))] at hDi; cases hDi
          have hS0 := SS0.out.1 hf0
          obtain rfl := GG.out.1 (hds 0 (by simp))
          obtain rfl := GG.out.2.1 (hds 1 (by simp))
          clear hds
          refine wpOp_go rfl rfl (fun K hK => ?_)
          go_simp
          exact hK _ _ ⟨_, _, _, _, _, _, _, _, _, _, _, _, _, rfl, hidD ⟨fun _ => rfl, fun _ => rfl, GG.out.2.2.1, GG.out.2.2.2.1, GG.out.2.2.2.2.1, GG.out.2.2.2.2.2.1, GG.out.2.2.2.2.2.2.1, fun h h2 => (GG.out.2.2.2.2.2.2.2.1 h (by simpa using h2)), GG.out.2.2.2.2.2.2.2.2.1, GG.out.2.2.2.2.2.2.2.2.2.1, fun h h2 => (GG.out.2.2.2.2.2.2.2.2.2.2.1 h (by simpa using h2)), fun h h2 => (GG.out.2.2.2.2.2.2.2.2.2.2.2.1 h (by simpa using h2)), fun _ => rfl⟩, hidD ⟨fun h => (SS0.out.1 (by simpa using h)), fun h => (SS0.out.2 (by simpa using h))⟩⟩
        · have hS0 := SS0.out.1 hDi
          have h0 := GG.out.2.2.2.2.2.2.2.2.2.2.2.1 (hds 11 (by simp)) hDi
          obtain rfl := GG.out.2.2.2.2.2.2.2.2.2.2.2.2 (hds 12 (by simp))
          have hE := hS0.rats (i := 2) rfl
          obtain ⟨xa, xb, xc, xd, e0, e1, e2, e3, _⟩ := hE.at HIL.out
          have f0 := hE.frozen (i * 4)
          have f1 := hE.frozen (i * 4 + 1)
          have f2 := hE.frozen (i * 4 + 2)
          have f3 := hE.frozen (i * 4 + 3)
          obtain ⟨s9, a9, l9, c9, t9, b9, k9, d9, rfl⟩ := IsRat.form h0
          clear hds
          refine wpOp_go rfl rfl (fun K hK => ?_)
          go_simp
          exact hK _ _ ⟨_, _, _, _, _, _, _, _, _, _, _, _, _, rfl, hidD ⟨GG.out.1, GG.out.2.1, GG.out.2.2.1, GG.out.2.2.2.1, GG.out.2.2.2.2.1, GG.out.2.2.2.2.2.1, GG.out.2.2.2.2.2.2.1, fun _ h => by simp at h, GG.out.2.2.2.2.2.2.2.2.1, GG.out.2.2.2.2.2.2.2.2.2.1, fun _ h => by simp at h, fun _ h => by simp at h, fun _ => rfl⟩, hidD ⟨fun h => by simp at h, fun _ => hS0.putRats (i := 2) rfl HIL.out h0⟩⟩
      case fin1 =>
        rintro D act V hDD ⟨t14x, t15x, t16x, t17x, t18x, t19x, t20x, t21x, t22x, t23x, t24x, t25x, t26x, rfl, GG, SS0⟩
        have HO := hidD (SS0.out.2 (hDD 13 (by decide)))
        clear GG SS0 hDD
        go_wp2_with fail
        go_roundw
        case rel => exact ⟨i + 1, _, by omega, by go_num, hidD (HS.out.next hlt), HO⟩
        case measure => simp [intOf]; omega
    · obtain rfl : i = n := by omega
      have hE := HM.out.rats (i := 2) rfl
      have hrow := hE.row (n := i) (cap := i) (by rw [HS.out.1]; exact Nat.le_refl _) (Nat.le_refl _) (by omega) hnle
      rw [List.take_of_length_le (by rw [HS.out.1]; exact Nat.le_refl _)] at hrow
      have HMD := hidD (ymade_c _ S wr hrow (Sqs.of fun j => by
        rw [HS.out.2 j]
        split
        · exact HSL.out j
        · exact sq0))
      rw [HS.out.done HN.out.1] at HMD
      clear hE hrow
      go_wp2_with (go_at_call 27; refine HMD.out.mono ?_; clear HMD; rintro e w5 ⟨u5, rfl, hu5, _, hb5⟩; obtain ⟨a7, l7, c7, rfl⟩ := hu5.form; have n5 := boxed_below (HM.out.cell (i := 1) rfl).1 hb5; have x0 := n5.cell; have x1 := n5.frozen; have HU5 := hidD (boxP n5 (.slice a7 l7 c7) hu5.row); have HB5 := hidD ((HM.out.2.2.trans (hb5.mono HM.out.2.2.size)).setCell (p := ⟨w.heap.size + 1, 0, none⟩) (by show w.heap.size ≤ w.heap.size + 1; omega) (.slice a7 l7 c7)); clear hu5 hb5 n5)
      exact bodyPost_ret (v := .agg #[.slice a7 l7 c7]) (by simp [results, Tryz.results24, go_sem, x0]) rfl ⟨_, rfl, ⟨_, rfl, HU5.out⟩, HB5.out⟩
end Go.Proofs.YteldjhhjnchdeaaGreatDoor.M3
namespace Go.Proofs.YteldjhhjnchdeaaGreatDoor
open Go.RowKit Go.Shelf

/-! Fractions over one denominator: how great moved polynomials are. -/
/-- c is a whole number of at most K words, over D. -/
def CD (D : Int) (K : Nat) (c : Rat) : Prop := ∃ n : Int, c = Rat.divInt n D ∧ Sm K n
section
variable {D E : Int} {K M : Nat} {c d : Rat}
theorem CD.mono (h : CD D K c) (hk : K ≤ M) : CD D M c := by
  obtain ⟨n, e, h⟩ := h
  exact ⟨n, e, h.mono hk⟩
theorem CD.smq (h : CD D K c) (hD : D ≠ 0) (hs : Sm K D) : SmQ K c := by
  obtain ⟨n, rfl, h⟩ := h
  exact SmQ.divInt hD h hs
theorem CD.zero (D : Int) (K : Nat) : CD D K 0 := ⟨0, by rw [Rat.zero_divInt], Sm.zero K⟩
theorem CD.add (h : CD D K c) (h2 : CD D M d) (hD : D ≠ 0) : CD D (max K M + 1) (c + d) := by
  obtain ⟨n, rfl, h⟩ := h
  obtain ⟨m, rfl, h2⟩ := h2
  refine ⟨n + m, ?_, ?_⟩
  · rw [Rat.divInt_add_divInt _ _ hD hD, ← Int.add_mul, Rat.divInt_mul_right hD]
  · exact (h.mono (Nat.le_max_left ..)).add (h2.mono (Nat.le_max_right ..))
theorem CD.mul (h : CD D K c) (h2 : CD E M d) : CD (D * E) (K + M) (c * d) := by
  obtain ⟨n, rfl, h⟩ := h
  obtain ⟨m, rfl, h2⟩ := h2
  exact ⟨n * m, by rw [Rat.divInt_mul_divInt], h.mul h2⟩
theorem CD.wide (h : CD D K c) (hE : Sm M E) (h0 : E ≠ 0) : CD (D * E) (K + M) c := by
  obtain ⟨n, rfl, h⟩ := h
  exact ⟨n * E, by rw [Rat.divInt_mul_right h0], h.mul hE⟩
theorem CD.of (h : SmQ K c) : CD (c.den : Int) K c := ⟨c.num, (Rat.num_divInt_den c).symm, h.1⟩
end
/-- Each coefficient is. -/
def CDL (D : Int) (K : Nat) (ps : List Rat) : Prop := ∀ i, CD D K (cf ps i)
/-- A list has a denominator in common. -/
theorem CDL.some {A : Nat} : ∀ {ps : List Rat}, (∀ i, SmQ A (cf ps i)) → ∃ D : Int, D ≠ 0 ∧ Sm (ps.length * A + 1) D ∧ CDL D (ps.length * A + 1) ps := by
  intro ps
  induction ps with
  | nil => intro _; exact ⟨1, by decide, Sm.one _ (by omega), fun i => by rw [cf_nil]; exact CD.zero _ _⟩
  | cons c t ih =>
    intro h
    obtain ⟨D, h1, h2, h3⟩ := ih (fun i => by have := h (i + 1); rwa [cf_succ] at this)
    have hc := h 0
    rw [cf_zero] at hc
    have hd : (c.den : Int) ≠ 0 := by have := c.den_nz; omega
    have e : (c :: t).length * A + 1 = t.length * A + 1 + A := by rw [List.length_cons, Nat.add_mul]; omega
    rw [e]
    refine ⟨D * c.den, Int.mul_ne_zero h1 hd, h2.mul hc.2, fun i => ?_⟩
    cases i with
    | zero =>
      rw [cf_zero]
      have := (CD.of hc).wide h2 h1
      rw [Int.mul_comm] at this
      exact this.mono (by omega)
    | succ i => rw [cf_succ]; exact (h3 i).wide hc.2 hd
theorem mulAt_cd {D : Int} {K : Nat} {ps qs : List Rat} (hD : D ≠ 0) (h : ∀ i j, CD D K (cf ps i * cf qs j)) (n : Nat) : ∀ (i k : Nat), CD D (K + min i ps.length) (cf (mulAt ps qs n i) k) := by
  intro i
  induction i with
  | zero => intro k; rw [mulAt, cf_replicate]; exact CD.zero _ _
  | succ i ih =>
    intro k
    rw [mulAt]
    rcases cf_addAt_or (mulAt ps qs n i) i (cf ps i) qs qs.length k with e | e
    · rw [e]; exact (ih k).mono (by omega)
    · rw [e]
      by_cases hi : i < ps.length
      · exact ((ih k).add (h i (k - i)) hD).mono (by omega)
      · rw [cf_ge (p := ps) (by omega), Rat.zero_mul, Rat.add_zero]; exact (ih k).mono (by omega)
theorem timesOk_cd {D : Int} {K : Nat} {ps qs : List Rat} (hD : D ≠ 0) (hs : Sm 1000000 D) (h : ∀ i j, CD D K (cf ps i * cf qs j)) (hk : K + ps.length + 1 ≤ 1000000) : M3.TimesOk ps qs := by
  have hq : ∀ c, CD D (K + ps.length + 1) c → Sq c := fun c hc => Sq.of ((hc.mono hk).smq hD hs) (Nat.le_refl _)
  refine ⟨fun i j => hq _ ((h i j).mono (by omega)), fun n i j k => ?_⟩
  have h1 := mulAt_cd hD h n i k
  rcases cf_addAt_or (mulAt ps qs n i) i (cf ps i) qs j k with e | e
  · rw [e]; exact hq _ (h1.mono (by omega))
  · rw [e]; exact hq _ ((h1.add (h i (k - i)) hD).mono (by omega))
theorem mulQ_cd {D : Int} {K : Nat} {ps qs : List Rat} (hD : D ≠ 0) (h : ∀ i j, CD D K (cf ps i * cf qs j)) : CDL D (K + ps.length) (mulQ ps qs) := fun k => by
  unfold mulQ
  rw [cf_trim, cf_mulR]
  have h1 := mulAt_cd hD h (ps.length + qs.length) ps.length k
  rwa [cf_mulAt _ _ _ _ _ (Or.inr (by omega)), Nat.min_self] at h1
theorem line_cf (a : Rat) (j : Nat) : cf (lineQ a) j = a ∨ cf (lineQ a) j = 1 ∨ cf (lineQ a) j = 0 := by
  rcases j with _ | _ | j
  · exact Or.inl rfl
  · exact Or.inr (Or.inl rfl)
  · exact Or.inr (Or.inr (cf_ge (by simp [lineQ])))
theorem line_cd {A : Nat} {a : Rat} (h : SmQ A a) (j : Nat) : CD (a.den : Int) A (cf (lineQ a) j) := by
  have hd : (a.den : Int) ≠ 0 := by have := a.den_nz; omega
  rcases line_cf a j with e | e | e
  · rw [e]; exact CD.of h
  · rw [e]; exact ⟨a.den, by rw [Rat.divInt_self' hd], h.2⟩
  · rw [e]; exact CD.zero _ _
theorem mulQ_len (p q : List Rat) : (mulQ p q).length ≤ p.length + q.length := trim_len (mulQ_trim _ _) fun i hi => by unfold mulQ; rw [cf_trim, cf_mulR, conv_far p q hi]
theorem movQ_len (a : Rat) (l : List Rat) : (movQ a l).length ≤ 2 * l.length := by
  induction l with
  | nil => simp [movQ]
  | cons c t ih =>
    rw [movQ]
    have h1 := addQ_length (mulQ (movQ a t) (lineQ a)) (trimQ [c])
    have h2 := mulQ_len (movQ a t) (lineQ a)
    have h3 := trim_length_le [c]
    have h4 : (lineQ a).length = 2 := rfl
    have h5 : ([c] : List Rat).length = 1 := rfl
    rw [List.length_cons]
    omega
theorem Sm.powZ {A : Nat} {v : Int} (h : Sm A v) : ∀ n, Sm (n * A + 1) (v ^ n) := by
  intro n
  induction n with
  | zero => rw [Int.pow_zero]; exact Sm.one _ (by omega)
  | succ n ih => rw [Int.pow_succ, Nat.add_mul, show n * A + 1 * A + 1 = n * A + 1 + A by omega]; exact ih.mul h
/-- A moved polynomial, over one denominator. -/
theorem mov_cd {D : Int} {K A L : Nat} {a : Rat} (hD : D ≠ 0) (ha : SmQ A a) : ∀ l : List Rat, l.length ≤ L → CDL D K l → CDL (D * (a.den : Int) ^ l.length) (K + l.length * (A + 2 * L + 3)) (movQ a l) := by
  have hd : (a.den : Int) ≠ 0 := by have := a.den_nz; omega
  intro l
  induction l with
  | nil => intro _ _ i; rw [movQ, cf_nil]; exact CD.zero _ _
  | cons c t ih =>
    intro hl h
    rw [List.length_cons] at hl
    have ih := ih (by omega) (fun i => by have := h (i + 1); rwa [cf_succ] at this)
    have hc := h 0
    rw [cf_zero] at hc
    have hlen := movQ_len a t
    have hv : (a.den : Int) ^ t.length ≠ 0 := Int.pow_ne_zero hd
    have h1 : ∀ i j, CD (D * (a.den : Int) ^ t.length * a.den) (K + t.length * (A + 2 * L + 3) + A) (cf (movQ a t) i * cf (lineQ a) j) := fun i j => (ih i).mul (line_cd ha j)
    have h2 := mulQ_cd (Int.mul_ne_zero (Int.mul_ne_zero hD hv) hd) h1
    have e : D * (a.den : Int) ^ t.length * a.den = D * (a.den : Int) ^ (c :: t).length := by rw [List.length_cons, Int.pow_succ, Int.mul_assoc]
    rw [e] at h2
    have hE : D * (a.den : Int) ^ (c :: t).length ≠ 0 := Int.mul_ne_zero hD (Int.pow_ne_zero hd)
    have h3 : CD (D * (a.den : Int) ^ (c :: t).length) (K + ((c :: t).length * A + 1)) c := hc.wide (ha.2.powZ _) (Int.pow_ne_zero hd)
    intro i
    rw [movQ, cf_addQ, cf_trim]
    have h4 : CD (D * (a.den : Int) ^ (c :: t).length) (K + ((c :: t).length * A + 1)) (cf [c] i) := by
      rcases i with _ | i
      · exact h3
      · rw [cf_ge (by simp)]; exact CD.zero _ _
    refine ((h2 i).add h4 hE).mono ?_
    rw [List.length_cons, Nat.add_mul, Nat.add_mul, Nat.mul_add t.length, Nat.mul_add t.length]
    omega
/-- The sizes that moving needs. -/
def MvOk (a : Rat) (ps : List Rat) : Prop := ∀ k, Sqs (movQ a (ps.drop k)) ∧ M3.TimesOk (movQ a (ps.drop k)) (lineQ a) ∧ Sqs (mulQ (movQ a (ps.drop k)) (lineQ a))
theorem mvOk_of {D : Int} {K A L : Nat} {a : Rat} {ps : List Rat} (hD : D ≠ 0) (hsD : Sm K D) (hp : CDL D K ps) (ha : SmQ A a) (hl : ps.length ≤ L) (hb : K + (L + 1) * (A + 2 * L + 3) + 2 * L + 2 ≤ 1000000) : MvOk a ps := fun k => by
  have hd : (a.den : Int) ≠ 0 := by have := a.den_nz; omega
  obtain ⟨l, hll⟩ : ∃ l, ps.drop k = l := ⟨_, rfl⟩
  have hlen : l.length ≤ L := by rw [← hll, List.length_drop]; omega
  have hcl : CDL D K l := fun i => by
    have e : cf l i = cf ps (k + i) := by rw [← hll]; simp [cf]
    rw [e]; exact hp _
  rw [hll]
  have h1 := mov_cd hD ha l hlen hcl
  have hv : (a.den : Int) ^ l.length ≠ 0 := Int.pow_ne_zero hd
  have hE : D * (a.den : Int) ^ l.length ≠ 0 := Int.mul_ne_zero hD hv
  have hm : l.length * (A + 2 * L + 3) ≤ L * (A + 2 * L + 3) := Nat.mul_le_mul_right _ hlen
  have hm2 : l.length * A ≤ L * A := Nat.mul_le_mul_right _ hlen
  have hm3 : L * A ≤ L * (A + 2 * L + 3) := Nat.mul_le_mul_left _ (by omega)
  rw [Nat.add_mul] at hb
  have hsE : Sm (K + (l.length * A + 1)) (D * (a.den : Int) ^ l.length) := hsD.mul (ha.2.powZ _)
  have hsE2 : Sm 1000000 (D * (a.den : Int) ^ l.length * a.den) := (hsE.mul ha.2).mono (by omega)
  have hE2 : D * (a.den : Int) ^ l.length * a.den ≠ 0 := Int.mul_ne_zero hE hd
  have h2 : ∀ i j, CD (D * (a.den : Int) ^ l.length * a.den) (K + l.length * (A + 2 * L + 3) + A) (cf (movQ a l) i * cf (lineQ a) j) := fun i j => (h1 i).mul (line_cd ha j)
  have hlm := movQ_len a l
  refine ⟨Sqs.of fun i => Sq.of (((h1 i).mono (by omega : _ ≤ 1000000)).smq hE (hsE.mono (by omega))) (Nat.le_refl _), timesOk_cd hE2 hsE2 h2 (by omega), Sqs.of fun i => ?_⟩
  exact Sq.of (((mulQ_cd hE2 h2 i).mono (by omega : _ ≤ 1000000)).smq hE2 hsE2) (Nat.le_refl _)
end Go.Proofs.YteldjhhjnchdeaaGreatDoor
namespace Go.Proofs.YteldjhhjnchdeaaGreatDoor
open Go.RowKit Go.Shelf

theorem cd_neg {D : Int} {K : Nat} {c : Rat} (h : CD D K c) : CD D K (-c) := by
  obtain ⟨n, rfl, h⟩ := h
  exact ⟨-n, by rw [← Rat.neg_divInt], by unfold Sm at h ⊢; rwa [Int.natAbs_neg]⟩
/-- Long division, over one denominator. -/
theorem splitAt_cd {D E l : Int} {K A : Nat} {ps qs : List Rat} {n m : Nat} (hD : D ≠ 0) (hp : CDL D K ps) (hE : E ≠ 0) (hsE : Sm A E) (hq : CDL E A qs) (hl0 : l ≠ 0) (hl : Sm A l) (hlead : cf qs n = Rat.divInt l E) (h0 : cf qs n ≠ 0) :
    ∀ k, CDL (D * l ^ k) (K + k * (A + 1)) (splitAt ps qs n m k).2 ∧ CDL (D * l ^ k) (K + k * (A + 1)) (splitAt ps qs n m k).1 := by
  intro k
  induction k with
  | zero =>
    rw [Int.pow_zero, Int.mul_one]
    exact ⟨fun i => (hp i).mono (by omega), fun i => by rw [splitAt, cf_replicate]; exact CD.zero _ _⟩
  | succ k ih =>
    obtain ⟨h1, h2⟩ := ih
    have hDk : D * l ^ k ≠ 0 := Int.mul_ne_zero hD (Int.pow_ne_zero hl0)
    have e : D * l ^ (k + 1) = D * l ^ k * l := by rw [Int.pow_succ, Int.mul_assoc]
    rw [e]
    have hDl : D * l ^ k * l ≠ 0 := Int.mul_ne_zero hDk hl0
    obtain ⟨R, hR⟩ : ∃ R, (splitAt ps qs n m k).2 = R := ⟨_, rfl⟩
    obtain ⟨Q, hQ⟩ : ∃ Q, (splitAt ps qs n m k).1 = Q := ⟨_, rfl⟩
    rw [hR] at h1
    rw [hQ] at h2
    obtain ⟨r, er, hr⟩ := h1 (m - (k + 1) + n)
    obtain ⟨c, hc⟩ : ∃ c, cf R (m - (k + 1) + n) / cf qs n = c := ⟨_, rfl⟩
    have ec : c = Rat.divInt (r * E) (D * l ^ k * l) := by
      rw [← hc]
      have e2 : cf R (m - (k + 1) + n) = Rat.divInt (r * E) (D * l ^ k * l) * cf qs n := by
        rw [hlead, Rat.divInt_mul_divInt, er, show r * E * l = r * (E * l) from Int.mul_assoc _ _ _, show D * l ^ k * l * E = D * l ^ k * (E * l) by rw [Int.mul_assoc (D * l ^ k), Int.mul_comm l E], Rat.divInt_mul_right (Int.mul_ne_zero hE hl0)]
      rw [e2, Rat.mul_div_cancel h0]
    have hcd : CD (D * l ^ k * l) (K + (k + 1) * (A + 1)) c := ⟨r * E, ec, (hr.mul hsE).mono (by rw [Nat.add_mul]; omega)⟩
    have hcq : ∀ j, CD (D * l ^ k * l) (K + k * (A + 1) + A) (c * cf qs j) := fun j => by
      obtain ⟨x, ex, hx⟩ := hq j
      refine ⟨r * x, ?_, hr.mul hx⟩
      rw [ec, ex, Rat.divInt_mul_divInt, show r * E * x = r * x * E by rw [Int.mul_assoc, Int.mul_comm E x, Int.mul_assoc], Rat.divInt_mul_right hE]
    rw [splitAt, hR, hQ]
    simp only [hc]
    refine ⟨fun i => ?_, fun i => ?_⟩
    · rcases cf_addAt_or R (m - (k + 1)) (-c) qs qs.length i with e3 | e3
      · rw [e3]; exact ((h1 i).wide hl hl0).mono (by rw [Nat.add_mul]; omega)
      · rw [e3, Rat.neg_mul]
        exact (((h1 i).wide hl hl0).add (cd_neg (hcq _)) hDl).mono (by rw [Nat.add_mul]; omega)
    · rcases M3.cf_set_or Q (m - (k + 1)) c i with e3 | e3
      · rw [e3]; exact hcd
      · rw [e3]; exact ((h2 i).wide hl hl0).mono (by rw [Nat.add_mul]; omega)
/-- The sizes that putting together again needs. -/
theorem back_ok {A : Nat} {ps qs : List Rat} (hp : ∀ i, SmQ A (cf ps i)) (hq : ∀ i, SmQ A (cf qs i)) (htq : trimQ qs = qs) (hq0 : qs ≠ []) (hlp : ps.length ≤ 9) (hlq : qs.length ≤ 9) (hA : A ≤ 1000) : M3.TimesOk (quoQ ps qs) qs ∧ Sqs (mulQ (quoQ ps qs) qs) := by
  obtain ⟨D, d1, d2, d3⟩ := CDL.some hp
  obtain ⟨E, e1, e2, e3⟩ := CDL.some hq
  have b1 : ps.length * A ≤ 9 * A := Nat.mul_le_mul_right _ hlp
  have b2 : qs.length * A ≤ 9 * A := Nat.mul_le_mul_right _ hlq
  have d4 : Sm 9001 D := d2.mono (by omega)
  have d5 : CDL D 9001 ps := fun i => (d3 i).mono (by omega)
  have e4 : Sm 9001 E := e2.mono (by omega)
  have e5 : CDL E 9001 qs := fun i => (e3 i).mono (by omega)
  have hql : 0 < qs.length := List.length_pos_iff.2 hq0
  obtain ⟨l, hl1, hl2⟩ := e5 (qs.length - 1)
  have hl0 : l ≠ 0 := by
    intro e
    have := trim_last htq hq0
    rw [hl1, e, Rat.zero_divInt] at this
    exact this rfl
  obtain ⟨m, hm⟩ : ∃ m, ps.length - (qs.length - 1) = m := ⟨_, rfl⟩
  have hm9 : m ≤ 9 := by omega
  have h1 := (splitAt_cd (n := qs.length - 1) (m := m) d1 d5 e1 e4 e5 hl0 hl2 hl1 (trim_last htq hq0) m).2
  have hDm : D * l ^ m ≠ 0 := Int.mul_ne_zero d1 (Int.pow_ne_zero hl0)
  have hmm : m * (9001 + 1) ≤ 9 * (9001 + 1) := Nat.mul_le_mul_right _ hm9
  have hm2 : m * 9001 ≤ 9 * 9001 := Nat.mul_le_mul_right _ hm9
  have hq1 : CDL (D * l ^ m) 90019 (quoQ ps qs) := fun i => by
    unfold quoQ
    rw [cf_trim, hm]
    exact (h1 i).mono (by omega)
  have hsD : Sm 90012 (D * l ^ m) := (d4.mul (hl2.powZ m)).mono (by omega)
  have h2 : ∀ i j, CD (D * l ^ m * E) (90019 + 9001) (cf (quoQ ps qs) i * cf qs j) := fun i j => (hq1 i).mul (e5 j)
  have hE2 : D * l ^ m * E ≠ 0 := Int.mul_ne_zero hDm e1
  have hsE2 : Sm 1000000 (D * l ^ m * E) := (hsD.mul e4).mono (by omega)
  have hlq2 : (quoQ ps qs).length ≤ 9 := by
    unfold quoQ
    refine Nat.le_trans (trim_length_le _) ?_
    rw [hm, (splitAt_length ps qs (qs.length - 1) m m).1]
    exact hm9
  exact ⟨timesOk_cd hE2 hsE2 h2 (by omega), Sqs.of fun i => Sq.of (((mulQ_cd hE2 h2 i).mono (by omega : _ ≤ 1000000)).smq hE2 hsE2) (Nat.le_refl _)⟩
/-- What moving back needs. -/
theorem mov_two {A X : Nat} {a : Rat} {ps : List Rat} (hp : ∀ i, SmQ A (cf ps i)) (ha : SmQ X a) (htp : trimQ ps = ps) (hl : ps.length ≤ 9) (hA : A ≤ 1000) (hX : X ≤ 4001) : MvOk a ps ∧ MvOk (-a) (movQ a ps) ∧ ∀ i, SmQ 100000 (cf (movQ a ps) i) := by
  obtain ⟨D, d1, d2, d3⟩ := CDL.some hp
  have b1 : ps.length * A ≤ 9 * A := Nat.mul_le_mul_right _ hl
  have d4 : Sm 9001 D := d2.mono (by omega)
  have d5 : CDL D 9001 ps := fun i => (d3 i).mono (by omega)
  have hd : (a.den : Int) ≠ 0 := by have := a.den_nz; omega
  have h1 := mov_cd (L := 9) d1 ha ps hl d5
  have b2 : ps.length * (X + 2 * 9 + 3) ≤ 9 * (X + 2 * 9 + 3) := Nat.mul_le_mul_right _ hl
  have b3 : ps.length * X ≤ 9 * X := Nat.mul_le_mul_right _ hl
  have hE : D * (a.den : Int) ^ ps.length ≠ 0 := Int.mul_ne_zero d1 (Int.pow_ne_zero hd)
  have hsE : Sm 50000 (D * (a.den : Int) ^ ps.length) := (d4.mul (ha.2.powZ ps.length)).mono (by omega)
  have h2 : CDL (D * (a.den : Int) ^ ps.length) 50000 (movQ a ps) := fun i => (h1 i).mono (by omega)
  refine ⟨mvOk_of d1 d4 d5 ha hl (by omega), mvOk_of hE hsE h2 ha.neg (by rw [movQ_length a ps htp]; exact hl) (by omega), fun i => ((h2 i).smq hE hsE).mono (by omega)⟩
end Go.Proofs.YteldjhhjnchdeaaGreatDoor
namespace Go.Proofs.YteldjhhjnchdeaaGreatDoor

/-- Of more than n things in n places two lie in one. -/
theorem php : ∀ (n : Nat) (f : Nat → Nat), (∀ i, i ≤ n → f i < n) → ∃ i j, i < j ∧ j ≤ n ∧ f i = f j := by
  intro n
  induction n with
  | zero => intro f h; exact absurd (h 0 (Nat.le_refl _)) (by omega)
  | succ n ih =>
    intro f h
    by_cases hx : ∃ i, i ≤ n ∧ f i = f (n + 1)
    · obtain ⟨i, h1, h2⟩ := hx
      exact ⟨i, n + 1, by omega, Nat.le_refl _, h2⟩
    · have hx' : ∀ i, i ≤ n → f i ≠ f (n + 1) := fun i hi e => hx ⟨i, hi, e⟩
      obtain ⟨i, j, h1, h2, h3⟩ := ih (fun i => if f i = n then f (n + 1) else f i) (fun i hi => by
        have h4 := h i (by omega)
        have h5 := h (n + 1) (Nat.le_refl _)
        have h6 := hx' i hi
        split <;> omega)
      refine ⟨i, j, h1, by omega, ?_⟩
      have h4 := hx' i (by omega)
      have h5 := hx' j h2
      split at h3 <;> split at h3 <;> omega

/-- Numbers by their digits. -/
def enc (b : Nat) : Nat → (Nat → Nat) → Nat
  | 0, _ => 0
  | M + 1, d => enc b M d + d M * b ^ M
theorem enc_lt {b : Nat} {M : Nat} {d : Nat → Nat} (h : ∀ k, k < M → d k < b) : enc b M d < b ^ M := by
  induction M with
  | zero => simp [enc]
  | succ M ih =>
    have h1 := ih (fun k hk => h k (by omega))
    have h2 := h M (by omega)
    have h3 : (d M + 1) * b ^ M ≤ b * b ^ M := Nat.mul_le_mul_right _ h2
    rw [enc, Nat.pow_succ, Nat.mul_comm (b ^ M) b]
    rw [Nat.add_mul, Nat.one_mul] at h3
    omega
theorem enc_inj {b : Nat} {M : Nat} {d d' : Nat → Nat} (h : ∀ k, k < M → d k < b) (h' : ∀ k, k < M → d' k < b) (e : enc b M d = enc b M d') : ∀ k, k < M → d k = d' k := by
  induction M with
  | zero => intro k hk; omega
  | succ M ih =>
    have l1 := enc_lt (fun k hk => h k (by omega) : ∀ k, k < M → d k < b)
    have l2 := enc_lt (fun k hk => h' k (by omega) : ∀ k, k < M → d' k < b)
    have hp : 0 < b ^ M := by omega
    rw [enc, enc] at e
    have e1 : d M = d' M := by
      have f1 : (enc b M d + d M * b ^ M) / b ^ M = d M := by rw [Nat.add_mul_div_right _ _ hp, Nat.div_eq_of_lt l1]; omega
      have f2 : (enc b M d' + d' M * b ^ M) / b ^ M = d' M := by rw [Nat.add_mul_div_right _ _ hp, Nat.div_eq_of_lt l2]; omega
      rw [← f1, ← f2, e]
    intro k hk
    by_cases hk2 : k = M
    · rw [hk2]; exact e1
    · exact ih (fun k hk => h k (by omega)) (fun k hk => h' k (by omega)) (by rw [e1] at e; omega) k (by omega)
def dgt (b x j : Nat) : Nat := x / b ^ j % b
theorem dgt_lt {b : Nat} (hb : 0 < b) (x j : Nat) : dgt b x j < b := Nat.mod_lt _ hb
theorem enc_dgt (b x : Nat) : ∀ N, enc b N (dgt b x) = x % b ^ N := by
  intro N
  induction N with
  | zero => simp [enc, Nat.mod_one]
  | succ N ih => rw [enc, ih, Nat.mod_pow_succ, Nat.mul_comm (dgt b x N)]; rfl

/-- Sums of whole numbers. -/
def sumZ : Nat → (Nat → Int) → Int
  | 0, _ => 0
  | n + 1, f => sumZ n f + f n
theorem sumZ_congr {n : Nat} {f g : Nat → Int} (h : ∀ k, k < n → f k = g k) : sumZ n f = sumZ n g := by
  induction n with
  | zero => rfl
  | succ n ih => rw [sumZ, sumZ, ih (fun k hk => h k (by omega)), h n (by omega)]
theorem sumZ_sub (n : Nat) (f g : Nat → Int) : sumZ n (fun k => f k - g k) = sumZ n f - sumZ n g := by
  induction n with
  | zero => rfl
  | succ n ih => rw [sumZ, sumZ, sumZ, ih]; omega
theorem sumZ_le {n : Nat} {f : Nat → Int} {C : Nat} (h : ∀ k, k < n → (f k).natAbs ≤ C) : (sumZ n f).natAbs ≤ n * C := by
  induction n with
  | zero => simp [sumZ]
  | succ n ih =>
    have h1 := ih (fun k hk => h k (by omega))
    have h2 := h n (by omega)
    rw [sumZ, Nat.add_mul, Nat.one_mul]
    have := Int.natAbs_add_le (sumZ n f) (f n)
    omega

/-- SIEGEL: as many equations as unknowns, less one: a solution in small whole numbers. -/
theorem siegel (N A : Nat) (c : Nat → Nat → Int) (hc : ∀ k j, (c k j).natAbs ≤ A) :
    ∃ z : Nat → Int, (∃ j, j < N + 1 ∧ z j ≠ 0) ∧ (∀ j, (z j).natAbs ≤ (2 * (N + 1) * A + 1) ^ N) ∧ ∀ k, k < N → sumZ (N + 1) (fun j => c k j * z j) = 0 := by
  obtain ⟨B, hB⟩ : ∃ B, (2 * (N + 1) * A + 1) ^ N = B := ⟨_, rfl⟩
  have hB1 : 1 ≤ B := by rw [← hB]; exact Nat.pow_pos (by omega)
  obtain ⟨C, hC⟩ : ∃ C, (N + 1) * (A * B) = C := ⟨_, rfl⟩
  have hdB : ∀ x j, dgt (B + 1) x j ≤ B := fun x j => by have := dgt_lt (b := B + 1) (by omega) x j; omega
  have hL : ∀ x k, (sumZ (N + 1) (fun j => c k j * (dgt (B + 1) x j : Int))).natAbs ≤ C := fun x k => by
    rw [← hC]
    refine sumZ_le fun j _ => ?_
    rw [Int.natAbs_mul, Int.natAbs_natCast]
    exact Nat.mul_le_mul (hc k j) (hdB x j)
  obtain ⟨g, hg⟩ : ∃ g : Nat → Nat → Nat, ∀ x k, (g x k : Int) = sumZ (N + 1) (fun j => c k j * (dgt (B + 1) x j : Int)) + C ∧ g x k < 2 * C + 1 :=
    ⟨fun x k => (sumZ (N + 1) (fun j => c k j * (dgt (B + 1) x j : Int)) + C).toNat, fun x k => by have := hL x k; dsimp only; omega⟩
  have hcount : (2 * C + 1) ^ N < (B + 1) ^ (N + 1) := by
    have h1 : 2 * C + 1 ≤ (2 * (N + 1) * A + 1) * B := by
      have e1 : 2 * C = 2 * (N + 1) * A * B := by rw [← hC]; simp only [Nat.mul_assoc]
      rw [e1, Nat.add_mul, Nat.one_mul]
      exact Nat.add_le_add_left hB1 _
    have h2 : (2 * C + 1) ^ N ≤ B ^ (N + 1) := by
      refine Nat.le_trans (Nat.pow_le_pow_left h1 N) ?_
      rw [Nat.mul_pow, hB, Nat.pow_succ, Nat.mul_comm]
      exact Nat.le_refl _
    exact Nat.lt_of_le_of_lt h2 (Nat.pow_lt_pow_left (by omega) (by omega))
  obtain ⟨x, y, h1, h2, h3⟩ := php ((2 * C + 1) ^ N) (fun x => enc (2 * C + 1) N (g x)) (fun x _ => enc_lt fun k _ => (hg x k).2)
  have h4 := enc_inj (fun k _ => (hg x k).2) (fun k _ => (hg y k).2) h3
  refine ⟨fun j => (dgt (B + 1) x j : Int) - (dgt (B + 1) y j : Int), ?_, fun j => ?_, fun k hk => ?_⟩
  · by_cases hz : ∃ j, j < N + 1 ∧ (dgt (B + 1) x j : Int) - (dgt (B + 1) y j : Int) ≠ 0
    · exact hz
    · exfalso
      have h5 : ∀ j, j < N + 1 → dgt (B + 1) x j = dgt (B + 1) y j := fun j hj => by
        by_cases e : dgt (B + 1) x j = dgt (B + 1) y j
        · exact e
        · exact absurd ⟨j, hj, by omega⟩ hz
      have h6 : ∀ M, M ≤ N + 1 → enc (B + 1) M (dgt (B + 1) x) = enc (B + 1) M (dgt (B + 1) y) := fun M => by
        induction M with
        | zero => intro _; rfl
        | succ M ih => intro hM; rw [enc, enc, ih (by omega), h5 M (by omega)]
      have h7 := h6 (N + 1) (Nat.le_refl _)
      rw [enc_dgt, enc_dgt, Nat.mod_eq_of_lt (by omega), Nat.mod_eq_of_lt (by omega)] at h7
      omega
  · have := hdB x j
    have := hdB y j
    dsimp only
    omega
  · have h8 := h4 k hk
    have h9 := (hg x k).1
    have h10 := (hg y k).1
    rw [show (fun j => c k j * ((dgt (B + 1) x j : Int) - (dgt (B + 1) y j : Int))) = (fun j => c k j * (dgt (B + 1) x j : Int) - c k j * (dgt (B + 1) y j : Int)) from funext fun j => Int.mul_sub _ _ _, sumZ_sub]
    omega
end Go.Proofs.YteldjhhjnchdeaaGreatDoor
namespace Go.Proofs.YteldjhhjnchdeaaGreatDoor

theorem subQ_len2 (p q : List Rat) : (subQ p q).length ≤ max p.length q.length := trim_len (subQ_trim _ _) fun i hi => by rw [cf_subQ, cf_ge (by omega), cf_ge (by omega), Rat.sub_self]
/-- A polynomial, multiplied with a number. -/
def scQ (c : Rat) (p : List Rat) : List Rat := trimQ (scaleR c p)
theorem scQ_trim (c : Rat) (p : List Rat) : trimQ (scQ c p) = scQ c p := trim_trim _
theorem cf_scQ (c : Rat) (p : List Rat) (i : Nat) : cf (scQ c p) i = cf p i * c := by unfold scQ; rw [cf_trim, cf_scaleR]
theorem ev_scQ (c : Rat) (p : List Rat) (x : Rat) : ev (scQ c p) x = ev p x * c := by unfold scQ; rw [ev_trim, ev_scaleR]
theorem mul_ne {a b : Rat} (ha : a ≠ 0) (hb : b ≠ 0) : a * b ≠ 0 := fun h => by
  rcases Rat.mul_eq_zero.1 h with h | h
  · exact ha h
  · exact hb h
theorem len_ge {p : List Rat} {n : Nat} (h : cf p n ≠ 0) : n < p.length := by
  by_cases h1 : n < p.length
  · exact h1
  · exact absurd (cf_ge (by omega)) h
theorem scQ_length {c : Rat} (hc : c ≠ 0) {p : List Rat} (hp : trimQ p = p) : (scQ c p).length = p.length := by
  refine Nat.le_antisymm (trim_len (scQ_trim _ _) fun i hi => by rw [cf_scQ, cf_ge hi, Rat.zero_mul]) ?_
  by_cases h0 : p = []
  · rw [h0]; exact Nat.zero_le _
  · have h1 := trim_last hp h0
    have h2 : 0 < p.length := List.length_pos_iff.2 h0
    have h3 := len_ge (p := scQ c p) (n := p.length - 1) (by rw [cf_scQ]; exact mul_ne h1 hc)
    omega
theorem scQ_scQ (c d : Rat) (p : List Rat) : scQ c (scQ d p) = scQ (d * c) p := ev_eq (scQ_trim _ _) (scQ_trim _ _) fun x => by rw [ev_scQ, ev_scQ, ev_scQ]; grind
theorem scQ_one {p : List Rat} (hp : trimQ p = p) : scQ 1 p = p := ev_eq (scQ_trim _ _) hp fun x => by rw [ev_scQ]; grind
theorem scQ_nil (c : Rat) : scQ c [] = [] := rfl
theorem scQ_ne {c : Rat} (hc : c ≠ 0) {p : List Rat} (hp : trimQ p = p) (h0 : p ≠ []) : scQ c p ≠ [] := fun h => by
  have := scQ_length hc hp
  rw [h] at this
  exact h0 (List.length_eq_zero_iff.1 this.symm)
theorem mulQ_len_eq {p q : List Rat} (hp : trimQ p = p) (hq : trimQ q = q) (hp0 : p ≠ []) (hq0 : q ≠ []) : (mulQ p q).length = p.length + q.length - 1 := trim_mulR_length hp hq hp0 hq0
theorem nil_of_len {p : List Rat} (h : p.length = 0) : p = [] := List.length_eq_zero_iff.1 h

/-- Dividing numbers' multiples. -/
theorem rem_unique {p q u v : List Rat} (hq : trimQ q = q) (hq0 : q ≠ []) (hu : trimQ u = u) (hv : trimQ v = v) (lv : v.length < q.length) (h : ∀ x, ev p x = ev q x * ev u x + ev v x) : u = quoQ p q ∧ v = remQ p q := by
  obtain ⟨h1, h2, h3, h4⟩ := split_ok p q hq hq0
  exact split_unique hq hq0 hu h3 hv h4 lv h2 (fun x => by rw [← h x, h1 x])
theorem rem_scale {c d : Rat} (hd : d ≠ 0) (p q : List Rat) (hq : trimQ q = q) (hq0 : q ≠ []) : quoQ (scQ c p) (scQ d q) = scQ (c / d) (quoQ p q) ∧ remQ (scQ c p) (scQ d q) = scQ c (remQ p q) := by
  obtain ⟨h1, h2, h3, h4⟩ := split_ok p q hq hq0
  have h := rem_unique (p := scQ c p) (scQ_trim d q) (scQ_ne hd hq hq0) (scQ_trim (c / d) (quoQ p q)) (scQ_trim c (remQ p q)) (by
    rw [scQ_length hd hq]
    exact Nat.lt_of_le_of_lt (trim_len (scQ_trim _ _) fun i hi => by rw [cf_scQ, cf_ge hi, Rat.zero_mul]) h2) (fun x => by
    rw [ev_scQ, ev_scQ, ev_scQ, ev_scQ, h1 x]
    have : d * (c / d) = c := by rw [Rat.mul_comm]; exact Rat.div_mul_cancel hd
    grind)
  exact ⟨h.1.symm, h.2.symm⟩

/-- Euclid: (a, b) comes of (p, q). -/
inductive Eu : List Rat → List Rat → List Rat → List Rat → Prop
  | base (p q : List Rat) : Eu p q p q
  | step (p q : List Rat) (c : Rat) (a b : List Rat) : q ≠ [] → c ≠ 0 → Eu q (scQ c (remQ p q)) a b → Eu p q a b
theorem Eu.tail {p q a b : List Rat} (h : Eu p q a b) {c : Rat} (hb : b ≠ []) (hc : c ≠ 0) : Eu p q b (scQ c (remQ a b)) := by
  induction h with
  | base p q => exact .step p q c _ _ hb hc (.base _ _)
  | step p q d a b hq hd _ ih => exact .step p q d _ _ hq hd (ih hb)
theorem rem_trim (p q : List Rat) : trimQ (remQ p q) = remQ p q := trim_trim _
theorem quo_trim (p q : List Rat) : trimQ (quoQ p q) = quoQ p q := trim_trim _
theorem Eu.trims {p q a b : List Rat} (h : Eu p q a b) : trimQ p = p → trimQ q = q → trimQ a = a ∧ trimQ b = b := by
  induction h with
  | base p q => exact fun h1 h2 => ⟨h1, h2⟩
  | step p q d a b hq hd _ ih => exact fun h1 h2 => ih h2 (scQ_trim _ _)
theorem Eu.len {p q a b : List Rat} (h : Eu p q a b) : trimQ q = q → b.length ≤ q.length := by
  induction h with
  | base p q => exact fun _ => Nat.le_refl _
  | step p q d a b hq hd _ ih =>
    intro h2
    have h3 := ih (scQ_trim _ _)
    rw [scQ_length hd (rem_trim _ _)] at h3
    have := (split_ok p q h2 hq).2.1
    omega

/-- What is small enough in lengths and comes of p and q is what is left, by a number. -/
theorem eu_prop {p q a b : List Rat} (h : Eu p q a b) : trimQ p = p → trimQ q = q → b ≠ [] → ∀ u v T : List Rat, trimQ u = u → trimQ v = v → trimQ T = T → u.length + b.length ≤ q.length + 1 → v.length + b.length ≤ p.length + 1 → (u ≠ [] ∨ v ≠ []) → T.length < b.length →
    (∀ x, ev T x = ev u x * ev p x + ev v x * ev q x) → ∃ c : Rat, c ≠ 0 ∧ T = scQ c (remQ a b) := by
  induction h with
  | base p q =>
    intro hp hq hq0 u v T hu hv hT lu lv h0 lT hev
    have hlu : u.length ≤ 1 := by omega
    obtain ⟨h1, h2, h3, h4⟩ := split_ok p q hq hq0
    match u, hlu, h0 with
    | [], _, h0 =>
      have hv0 : v ≠ [] := by
        rcases h0 with h0 | h0
        · exact absurd rfl h0
        · exact h0
      have e : T = mulQ v q := ev_eq hT (mulQ_trim _ _) fun x => by rw [ev_mulQ, hev x]; simp [ev]; grind
      have h5 := mulQ_len_eq hv hq hv0 hq0
      have h6 : 0 < v.length := List.length_pos_iff.2 hv0
      rw [e] at lT
      omega
    | [c], _, _ =>
      have hc : c ≠ 0 := fun e => by
        have := trim_last hu (by simp)
        simp [cf_zero] at this
        exact this e
      refine ⟨c, hc, ?_⟩
      have hev2 : ∀ x, ev (scQ c p) x = ev q x * ev (scQ (-1) v) x + ev T x := fun x => by
        rw [ev_scQ, ev_scQ, hev x]
        simp [ev]
        grind
      have h7 := (rem_unique hq hq0 (scQ_trim _ _) hT lT hev2).2
      have h8 := (rem_scale (c := c) (d := 1) (by decide) p q hq hq0).2
      rw [scQ_one hq] at h8
      rw [h7, h8]
  | step p q d a b hq0 hd hE ih =>
    intro hp hq hb u v T hu hv hT lu lv h0 lT hev
    obtain ⟨h1, h2, h3, h4⟩ := split_ok p q hq hq0
    obtain ⟨r, hr⟩ : ∃ r, scQ d (remQ p q) = r := ⟨_, rfl⟩
    rw [hr] at hE ih
    have hrt : trimQ r = r := by rw [← hr]; exact scQ_trim _ _
    have hbr : b.length ≤ r.length := hE.len hrt
    have hb0 : 0 < b.length := List.length_pos_iff.2 hb
    have hrl : r.length < q.length := by rw [← hr, scQ_length hd (rem_trim _ _)]; exact h2
    have hr0 : r ≠ [] := fun e => by
      rw [e, List.length_nil] at hbr
      omega
    have hdd : d * (1 / d) = 1 := by rw [Rat.mul_comm]; exact Rat.div_mul_cancel hd
    have hd1 : (1 / d) ≠ 0 := fun e => by rw [e, Rat.mul_zero] at hdd; exact absurd hdd (by decide)
    have hpx : ∀ x, ev p x = ev q x * ev (quoQ p q) x + ev r x * (1 / d) := fun x => by rw [h1 x, ← hr, ev_scQ]; grind
    have hT2 : ∀ x, ev T x = ev (addQ (mulQ u (quoQ p q)) v) x * ev q x + ev (scQ (1 / d) u) x * ev r x := fun x => by
      rw [hev x, hpx x, ev_addQ, ev_mulQ, ev_scQ]; grind
    have lv' : (scQ (1 / d) u).length + b.length ≤ q.length + 1 := by rw [scQ_length hd1 hu]; exact lu
    refine ih hq hrt hb (addQ (mulQ u (quoQ p q)) v) (scQ (1 / d) u) T (addQ_trim _ _) (scQ_trim _ _) hT ?_ lv' ?_ lT hT2
    · by_cases hn : addQ (mulQ u (quoQ p q)) v = []
      · rw [hn]; simp; omega
      · have l1 := mulQ_len_eq (addQ_trim _ _) hq hn hq0
        have e : mulQ (addQ (mulQ u (quoQ p q)) v) q = subQ T (mulQ (scQ (1 / d) u) r) := ev_eq (mulQ_trim _ _) (subQ_trim _ _) fun x => by rw [ev_mulQ, ev_subQ, ev_mulQ, hT2 x]; grind
        have l2 := subQ_len2 T (mulQ (scQ (1 / d) u) r)
        have l3 := mulQ_len (scQ (1 / d) u) r
        rw [← e, l1] at l2
        have hql : 0 < q.length := List.length_pos_iff.2 hq0
        by_cases hu0 : u = []
        · have e0 : mulQ (scQ (1 / d) u) r = [] := by rw [hu0]; rfl
          rw [e0] at l2
          simp at l2
          omega
        · have l4 := mulQ_len_eq (scQ_trim _ _) hrt (scQ_ne hd1 hu hu0) hr0
          rw [scQ_length hd1 hu] at l4
          omega
    · by_cases hu0 : u = []
      · left
        have hv0 : v ≠ [] := by
          rcases h0 with h0 | h0
          · exact absurd hu0 h0
          · exact h0
        have e : addQ (mulQ u (quoQ p q)) v = v := ev_eq (addQ_trim _ _) hv fun x => by rw [ev_addQ, ev_mulQ, hu0]; simp [ev]; grind
        rw [e]; exact hv0
      · right; exact scQ_ne hd1 hu hu0
end Go.Proofs.YteldjhhjnchdeaaGreatDoor
namespace Go.Proofs.YteldjhhjnchdeaaGreatDoor

/-- Some multiple has small whole coefficients. -/
def Ln (K : Nat) (r : List Rat) : Prop := ∃ c : Rat, c ≠ 0 ∧ ∀ i, ∃ z : Int, Sm K z ∧ cf r i * c = (z : Rat)

theorem sumZ_append (s t : Nat) (f : Nat → Int) : sumZ (s + t) f = sumZ s f + sumZ t (fun j => f (s + j)) := by
  induction t with
  | zero => simp [sumZ]
  | succ t ih => rw [← Nat.add_assoc, sumZ, sumZ, ih]; omega
theorem sumN_cast {n : Nat} {f : Nat → Rat} {g : Nat → Int} (h : ∀ k, k < n → f k = (g k : Rat)) : sumN n f = ((sumZ n g : Int) : Rat) := by
  induction n with
  | zero => rfl
  | succ n ih => rw [sumN, sumZ, ih (fun k hk => h k (by omega)), h n (by omega), Rat.intCast_add]

/-- The coefficients of a product, as sums of so many. -/
theorem cf_mulQ_many (p q : List Rat) {n : Nat} (h : p.length ≤ n) (k : Nat) : cf (mulQ p q) k = sumN n (fun i => if i ≤ k then cf p i * cf q (k - i) else 0) := by
  unfold mulQ
  rw [cf_trim, cf_mulR, ← conv_more p q h]
  rfl

theorem Ln.sc {K : Nat} {r : List Rat} (h : Ln K r) {d : Rat} (hd : d ≠ 0) : Ln K (scQ d r) := by
  obtain ⟨c, hc, hz⟩ := h
  have e : d * (1 / d) = 1 := by rw [Rat.mul_comm]; exact Rat.div_mul_cancel hd
  refine ⟨(1 / d) * c, mul_ne (fun e0 => by rw [e0, Rat.mul_zero] at e; exact absurd e (by decide)) hc, fun i => ?_⟩
  obtain ⟨z, h1, h2⟩ := hz i
  exact ⟨z, h1, by rw [cf_scQ, ← h2]; grind⟩
theorem Ln.mono {K L : Nat} {r : List Rat} (h : Ln K r) (hk : K ≤ L) : Ln L r := by
  obtain ⟨c, hc, hz⟩ := h
  exact ⟨c, hc, fun i => by obtain ⟨z, h1, h2⟩ := hz i; exact ⟨z, h1.mono hk, h2⟩⟩

theorem bound_all {K N A B : Nat} (hA : A = B64 ^ K) (hN : N + 1 ≤ 1000000) (hB : B = (2 * (N + 1) * A + 1) ^ N) : (N + 1) * (A * B) < B64 ^ ((K + 1) * (N + 1)) := by
  have hA1 : 1 ≤ A := by rw [hA]; exact Nat.pow_pos B64_pos
  have h1 : 2 * (N + 1) * A + 1 ≤ B64 ^ (K + 1) := by
    have h2 : (2 * (N + 1) + 1) * A ≤ B64 * A := Nat.mul_le_mul_right _ (by unfold B64; omega)
    rw [Nat.pow_succ, ← hA, Nat.mul_comm A]
    rw [Nat.add_mul, Nat.one_mul] at h2
    exact Nat.le_trans (Nat.add_le_add_left hA1 _) h2
  have h3 : (2 * (N + 1) * A + 1) ^ (N + 1) ≤ B64 ^ ((K + 1) * (N + 1)) := by rw [Nat.pow_mul]; exact Nat.pow_le_pow_left h1 _
  refine Nat.lt_of_lt_of_le ?_ h3
  have hB1 : 1 ≤ B := by rw [hB]; exact Nat.pow_pos (by omega)
  rw [Nat.pow_succ, ← hB, ← Nat.mul_assoc, Nat.mul_comm B]
  refine (Nat.mul_lt_mul_right hB1).2 ?_
  have : (N + 1) * A ≤ 2 * (N + 1) * A := Nat.mul_le_mul_right _ (by omega)
  omega

theorem chain_ln0 {K : Nat} {p q a b : List Rat} (hp : trimQ p = p) (hq : trimQ q = q) (h1 : Ln K p) (h2 : Ln K q) (hl : p.length + q.length ≤ 1000000) (hle : q.length ≤ p.length) (h : Eu p q a b) (hb : b ≠ []) : Ln ((K + 1) * (p.length + q.length)) (remQ a b) := by
  obtain ⟨cp, hcp, hap⟩ := h1
  obtain ⟨cq, hcq, haq⟩ := h2
  obtain ⟨α, hα⟩ := Classical.axiomOfChoice hap
  obtain ⟨β, hβ⟩ := Classical.axiomOfChoice haq
  have hbl := h.len hq
  have hb0 : 0 < b.length := List.length_pos_iff.2 hb
  have hq0 : q ≠ [] := fun e => by
    have e1 : q.length = 0 := by rw [e]; rfl
    omega
  have hp0 : p ≠ [] := fun e => by
    have e1 : p.length = 0 := by rw [e]; rfl
    omega
  obtain ⟨s, hs⟩ : ∃ s, q.length + 1 - b.length = s := ⟨_, rfl⟩
  obtain ⟨t, ht⟩ : ∃ t, p.length + 1 - b.length = t := ⟨_, rfl⟩
  obtain ⟨N, hN⟩ : ∃ N, s + t - 1 = N := ⟨_, rfl⟩
  obtain ⟨A, hA⟩ : ∃ A, B64 ^ K = A := ⟨_, rfl⟩
  have hαA : ∀ i, (α i).natAbs ≤ A := fun i => by have := (hα i).1; unfold Sm at this; omega
  have hβA : ∀ i, (β i).natAbs ≤ A := fun i => by have := (hβ i).1; unfold Sm at this; omega
  have hst : s + t = N + 1 := by omega
  obtain ⟨z, ⟨j0, hj0, hz0⟩, hzB, hzE⟩ := siegel N A (fun k j => if j < s then (if j ≤ b.length - 1 + k then α (b.length - 1 + k - j) else 0) else (if j - s ≤ b.length - 1 + k then β (b.length - 1 + k - (j - s)) else 0)) (fun k j => by
    split
    · split
      · exact hαA _
      · simp
    · split
      · exact hβA _
      · simp)
  obtain ⟨B, hB⟩ : ∃ B, (2 * (N + 1) * A + 1) ^ N = B := ⟨_, rfl⟩
  rw [hB] at hzB
  obtain ⟨u, hu⟩ : ∃ u, trimQ ((List.range s).map fun j => (z j : Rat) * cp) = u := ⟨_, rfl⟩
  obtain ⟨v, hv⟩ : ∃ v, trimQ ((List.range t).map fun j => (z (s + j) : Rat) * cq) = v := ⟨_, rfl⟩
  have hut : trimQ u = u := by rw [← hu]; exact trim_trim _
  have hvt : trimQ v = v := by rw [← hv]; exact trim_trim _
  have hcu : ∀ j, cf u j = if j < s then (z j : Rat) * cp else 0 := fun j => by rw [← hu, cf_trim, cf_map_range]
  have hcv : ∀ j, cf v j = if j < t then (z (s + j) : Rat) * cq else 0 := fun j => by rw [← hv, cf_trim, cf_map_range]
  have hul : u.length ≤ s := trim_len hut fun i hi => by rw [hcu, if_neg (by omega)]
  have hvl : v.length ≤ t := trim_len hvt fun i hi => by rw [hcv, if_neg (by omega)]
  obtain ⟨Z, hZ⟩ : ∃ Z : Nat → Int, ∀ i, Z i = sumZ s (fun j => if j ≤ i then z j * α (i - j) else 0) + sumZ t (fun j => if j ≤ i then z (s + j) * β (i - j) else 0) := ⟨_, fun _ => rfl⟩
  have hT : ∀ i, cf (addQ (mulQ u p) (mulQ v q)) i = (Z i : Rat) := fun i => by
    rw [cf_addQ, cf_mulQ_many u p hul, cf_mulQ_many v q hvl, hZ, Rat.intCast_add]
    congr 1
    · refine sumN_cast fun j hj => ?_
      split
      · rw [hcu, if_pos hj, Rat.intCast_mul, ← (hα (i - j)).2]; grind
      · rfl
    · refine sumN_cast fun j hj => ?_
      split
      · rw [hcv, if_pos hj, Rat.intCast_mul, ← (hβ (i - j)).2]; grind
      · rfl
  have hZB : ∀ i, (Z i).natAbs ≤ (N + 1) * (A * B) := fun i => by
    have e1 : (sumZ s (fun j => if j ≤ i then z j * α (i - j) else 0)).natAbs ≤ s * (A * B) := sumZ_le fun j _ => by
      split
      · rw [Int.natAbs_mul, Nat.mul_comm]; exact Nat.mul_le_mul (hαA _) (hzB _)
      · simp
    have e2 : (sumZ t (fun j => if j ≤ i then z (s + j) * β (i - j) else 0)).natAbs ≤ t * (A * B) := sumZ_le fun j _ => by
      split
      · rw [Int.natAbs_mul, Nat.mul_comm]; exact Nat.mul_le_mul (hβA _) (hzB _)
      · simp
    have e3 := Int.natAbs_add_le (sumZ s (fun j => if j ≤ i then z j * α (i - j) else 0)) (sumZ t (fun j => if j ≤ i then z (s + j) * β (i - j) else 0))
    rw [← hZ i] at e3
    rw [← hst, Nat.add_mul]
    omega
  have hTl : (addQ (mulQ u p) (mulQ v q)).length < b.length := by
    have : (addQ (mulQ u p) (mulQ v q)).length ≤ b.length - 1 := trim_len (addQ_trim _ _) fun i hi => by
      by_cases hi2 : i < b.length - 1 + N
      · rw [hT]
        have e := hzE (i - (b.length - 1)) (by omega)
        rw [← hst, sumZ_append] at e
        have e1 : sumZ s (fun j => if j ≤ i then z j * α (i - j) else 0) = sumZ s (fun j => (if j < s then (if j ≤ b.length - 1 + (i - (b.length - 1)) then α (b.length - 1 + (i - (b.length - 1)) - j) else 0) else (if j - s ≤ b.length - 1 + (i - (b.length - 1)) then β (b.length - 1 + (i - (b.length - 1)) - (j - s)) else 0)) * z j) := sumZ_congr fun j hj => by
          rw [if_pos hj, show b.length - 1 + (i - (b.length - 1)) = i from by omega]
          split
          · exact Int.mul_comm _ _
          · simp
        have e2 : sumZ t (fun j => if j ≤ i then z (s + j) * β (i - j) else 0) = sumZ t (fun j => (if s + j < s then (if s + j ≤ b.length - 1 + (i - (b.length - 1)) then α (b.length - 1 + (i - (b.length - 1)) - (s + j)) else 0) else (if s + j - s ≤ b.length - 1 + (i - (b.length - 1)) then β (b.length - 1 + (i - (b.length - 1)) - (s + j - s)) else 0)) * z (s + j)) := sumZ_congr fun j hj => by
          rw [if_neg (show ¬ s + j < s by omega), show b.length - 1 + (i - (b.length - 1)) = i from by omega, show s + j - s = j from by omega]
          split
          · exact Int.mul_comm _ _
          · simp
        rw [hZ, e1, e2, e]
        rfl
      · refine cf_ge ?_
        have l1 := addQ_length (mulQ u p) (mulQ v q)
        by_cases hu0 : u = []
        · have e0 : mulQ u p = [] := by rw [hu0]; rfl
          by_cases hv0 : v = []
          · have e1 : mulQ v q = [] := by rw [hv0]; rfl
            rw [e0, e1]
            exact Nat.zero_le _
          · have l3 := mulQ_len_eq hvt hq hv0 hq0
            rw [e0, List.length_nil] at l1
            rw [e0]
            omega
        · have l2 := mulQ_len_eq hut hp hu0 hp0
          by_cases hv0 : v = []
          · have e1 : mulQ v q = [] := by rw [hv0]; rfl
            rw [e1, List.length_nil] at l1
            rw [e1]
            omega
          · have l3 := mulQ_len_eq hvt hq hv0 hq0
            omega
    omega
  have hne : u ≠ [] ∨ v ≠ [] := by
    by_cases hjs : j0 < s
    · left
      intro e
      have := hcu j0
      rw [e, cf_nil, if_pos hjs] at this
      exact mul_ne (by exact_mod_cast hz0) hcp this.symm
    · right
      intro e
      have := hcv (j0 - s)
      rw [e, cf_nil, if_pos (by omega), show s + (j0 - s) = j0 from by omega] at this
      exact mul_ne (by exact_mod_cast hz0) hcq this.symm
  obtain ⟨c, hc, hTc⟩ := eu_prop h hp hq hb u v _ hut hvt (addQ_trim _ _) (by omega) (by omega) hne hTl (fun x => by rw [ev_addQ, ev_mulQ, ev_mulQ])
  refine ⟨c, hc, fun i => ⟨Z i, ?_, by rw [← cf_scQ, ← hTc, hT]⟩⟩
  have hb1 := bound_all hA.symm (by omega) hB.symm
  have h5 : (K + 1) * (N + 1) ≤ (K + 1) * (p.length + q.length) := Nat.mul_le_mul_left _ (by omega)
  unfold Sm
  exact Nat.lt_of_le_of_lt (hZB i) (Nat.lt_of_lt_of_le hb1 (Nat.pow_le_pow_right B64_pos h5))

theorem rem_short {p q : List Rat} (hp : trimQ p = p) (hq : trimQ q = q) (h : p.length < q.length) : remQ p q = p :=
  ((rem_unique (p := p) hq (fun e => by rw [e] at h; simp at h) (u := []) (v := p) rfl hp h (fun x => by simp [ev]; grind)).2).symm

/-- ALL THAT EUCLID'S STEPS LEAVE is small, by a number. -/
theorem chain_ln {K : Nat} {p q a b : List Rat} (hp : trimQ p = p) (hq : trimQ q = q) (h1 : Ln K p) (h2 : Ln K q) (hl : p.length + q.length ≤ 1000000) (h : Eu p q a b) (hb : b ≠ []) : Ln ((K + 1) * (p.length + q.length)) (remQ a b) := by
  by_cases hle : q.length ≤ p.length
  · exact chain_ln0 hp hq h1 h2 hl hle h hb
  · have hs := rem_short hp hq (by omega)
    cases h with
    | base => rw [hs]; exact h1.mono (by
        have : (K + 1) * 1 ≤ (K + 1) * (p.length + q.length) := Nat.mul_le_mul_left _ (by omega)
        omega)
    | step _ _ c _ _ hq0 hc hE =>
      rw [hs] at hE
      have hl2 := scQ_length hc hp
      have h3 := chain_ln0 hq (scQ_trim c p) h2 (h1.sc hc) (by omega) (by omega) hE hb
      rwa [hl2, Nat.add_comm q.length] at h3
end Go.Proofs.YteldjhhjnchdeaaGreatDoor
namespace Go.Proofs.YteldjhhjnchdeaaGreatDoor

/-! The greatest common divisor of two polynomials, and parts without a divisor in common. -/
theorem inv_ne {c : Rat} (hc : c ≠ 0) : 1 / c ≠ 0 := fun e => by
  have h : (1 / c) * c = 1 := Rat.div_mul_cancel hc
  rw [e, Rat.zero_mul] at h
  exact absurd h (by decide)
/-- Divided by the highest coefficient. -/
def monQ (p : List Rat) : List Rat := scQ (1 / cf p (p.length - 1)) p
theorem monQ_nil : monQ [] = [] := rfl
theorem monQ_trim (p : List Rat) : trimQ (monQ p) = monQ p := scQ_trim _ _
theorem monQ_sc {c : Rat} (hc : c ≠ 0) {p : List Rat} (hp : trimQ p = p) : monQ (scQ c p) = monQ p := by
  by_cases h0 : p = []
  · subst h0; rfl
  · unfold monQ
    rw [scQ_length hc hp, cf_scQ, scQ_scQ]
    have hl := trim_last hp h0
    congr 1
    obtain ⟨l, e⟩ : ∃ l, cf p (p.length - 1) = l := ⟨_, rfl⟩
    rw [e] at hl ⊢
    have h1 : (1 / (l * c)) * (l * c) = 1 := Rat.div_mul_cancel (mul_ne hl hc)
    have h2 : (1 / l) * l = 1 := Rat.div_mul_cancel hl
    grind
theorem monQ_ne {p : List Rat} (hp : trimQ p = p) (h0 : p ≠ []) : monQ p ≠ [] := scQ_ne (inv_ne (trim_last hp h0)) hp h0
theorem monQ_length {p : List Rat} (hp : trimQ p = p) : (monQ p).length = p.length := by
  by_cases h0 : p = []
  · subst h0; rfl
  · exact scQ_length (inv_ne (trim_last hp h0)) hp
theorem monQ_lead {p : List Rat} (hp : trimQ p = p) (h0 : p ≠ []) : cf (monQ p) ((monQ p).length - 1) = 1 := by
  rw [monQ_length hp]
  unfold monQ
  rw [cf_scQ, Rat.mul_comm]
  exact Rat.div_mul_cancel (trim_last hp h0)
theorem monQ_mon {p : List Rat} (hp : trimQ p = p) : monQ (monQ p) = monQ p := by
  by_cases h0 : p = []
  · subst h0; rfl
  · exact monQ_sc (inv_ne (trim_last hp h0)) hp

def gcdF : Nat → List Rat → List Rat → List Rat
  | 0, p, _ => monQ p
  | n + 1, p, q => if q = [] then monQ p else gcdF n q (remQ p q)
def gcdQ (p q : List Rat) : List Rat := gcdF q.length p q
theorem gcdF_more : ∀ (n m : Nat) (p q : List Rat), trimQ q = q → q.length ≤ n → q.length ≤ m → gcdF n p q = gcdF m p q := by
  intro n
  induction n with
  | zero =>
    intro m p q _ h _
    have hq : q = [] := nil_of_len (by omega)
    subst hq
    cases m with
    | zero => rfl
    | succ m => simp [gcdF]
  | succ n ih =>
    intro m p q hq h h2
    by_cases h0 : q = []
    · subst h0
      cases m with
      | zero => simp [gcdF]
      | succ m => simp [gcdF]
    · have hl : 0 < q.length := List.length_pos_iff.2 h0
      cases m with
      | zero => omega
      | succ m =>
        have h3 := (split_ok p q hq h0).2.1
        simp only [gcdF, if_neg h0]
        exact ih m q (remQ p q) (rem_trim _ _) (by omega) (by omega)
theorem gcdQ_nil (p : List Rat) : gcdQ p [] = monQ p := rfl
theorem gcdQ_step {p q : List Rat} (hq : trimQ q = q) (h0 : q ≠ []) : gcdQ p q = gcdQ q (remQ p q) := by
  have h3 := (split_ok p q hq h0).2.1
  have hl : 0 < q.length := List.length_pos_iff.2 h0
  unfold gcdQ
  obtain ⟨n, hn⟩ : ∃ n, q.length = n + 1 := ⟨q.length - 1, by omega⟩
  rw [hn, gcdF, if_neg h0]
  exact gcdF_more _ _ _ _ (rem_trim _ _) (by omega) (Nat.le_refl _)
theorem gcdF_sc : ∀ (n : Nat) (c d : Rat) (p q : List Rat), c ≠ 0 → d ≠ 0 → trimQ p = p → trimQ q = q → gcdF n (scQ c p) (scQ d q) = gcdF n p q := by
  intro n
  induction n with
  | zero => intro c d p q hc _ hp _; exact monQ_sc hc hp
  | succ n ih =>
    intro c d p q hc hd hp hq
    by_cases h0 : q = []
    · subst h0
      simp only [gcdF, scQ_nil, if_pos]
      exact monQ_sc hc hp
    · simp only [gcdF, if_neg h0, if_neg (scQ_ne hd hq h0)]
      rw [(rem_scale hd p q hq h0).2]
      exact ih d c q (remQ p q) hd hc hq (rem_trim _ _)
theorem gcdQ_sc {c d : Rat} {p q : List Rat} (hc : c ≠ 0) (hd : d ≠ 0) (hp : trimQ p = p) (hq : trimQ q = q) : gcdQ (scQ c p) (scQ d q) = gcdQ p q := by
  unfold gcdQ
  rw [scQ_length hd hq]
  exact gcdF_sc _ _ _ _ _ hc hd hp hq
theorem Eu.gcd {p q a b : List Rat} (h : Eu p q a b) : trimQ p = p → trimQ q = q → gcdQ p q = gcdQ a b := by
  induction h with
  | base p q => exact fun _ _ => rfl
  | step p q c a b hq0 hc _ ih =>
    intro hp hq
    rw [← ih hq (scQ_trim _ _), gcdQ_step hq hq0]
    have h1 := gcdQ_sc (c := 1) (by decide) hc hq (rem_trim p q)
    rw [scQ_one hq] at h1
    exact h1.symm
theorem gcdQ_mon (p q : List Rat) (hp : trimQ p = p) (hq : trimQ q = q) : gcdQ (monQ p) (monQ q) = gcdQ p q := by
  by_cases h0 : p = []
  · subst h0
    by_cases h1 : q = []
    · subst h1; rfl
    · have := gcdQ_sc (c := 1) (p := []) (by decide) (inv_ne (trim_last hq h1)) rfl hq
      exact this
  · by_cases h1 : q = []
    · subst h1
      exact monQ_mon hp
    · exact gcdQ_sc (inv_ne (trim_last hp h0)) (inv_ne (trim_last hq h1)) hp hq
theorem gcdF_trim : ∀ (n : Nat) (p q : List Rat), trimQ (gcdF n p q) = gcdF n p q := by
  intro n
  induction n with
  | zero => intro p q; exact monQ_trim _
  | succ n ih =>
    intro p q
    rw [gcdF]
    split
    · exact monQ_trim _
    · exact ih _ _
theorem gcdQ_trim (p q : List Rat) : trimQ (gcdQ p q) = gcdQ p q := gcdF_trim _ _ _

/-! Whole coefficients with nothing in common. -/
theorem mul_den (c : Rat) : c * (c.den : Rat) = (c.num : Rat) := by
  have h0 : ((c.den : Int) : Rat) ≠ 0 := by exact_mod_cast c.den_nz
  have h1 := Rat.num_divInt_den c
  rw [Rat.divInt_eq_div] at h1
  have h2 : (c.num : Rat) / ((c.den : Int) : Rat) * ((c.den : Int) : Rat) = c.num := Rat.div_mul_cancel h0
  rw [h1, Rat.intCast_natCast] at h2
  exact h2
/-- What divides a product, and has nothing in common with the one. -/
theorem dvd_one {a b c : Int} (h : a ∣ b * c) (hg : Nat.gcd a.natAbs c.natAbs = 1) : a ∣ b := by
  have h1 := Int.natAbs_dvd_natAbs.2 h
  rw [Int.natAbs_mul] at h1
  exact Int.natAbs_dvd_natAbs.1 (Nat.Coprime.dvd_of_dvd_mul_right hg h1)
theorem den_dvd {c : Rat} {D n : Int} (h : c * (D : Rat) = (n : Rat)) : (c.den : Int) ∣ D ∧ c.num * D = n * c.den := by
  have h0 : (c.den : Rat) ≠ 0 := by exact_mod_cast c.den_nz
  have h1 : c * (c.den : Rat) = (c.num : Rat) := mul_den c
  have h2 : ((c.num * D : Int) : Rat) = ((n * (c.den : Int) : Int) : Rat) := by
    rw [Rat.intCast_mul, Rat.intCast_mul, ← h1, ← h]
    show c * (c.den : Rat) * (D : Rat) = c * (D : Rat) * ((c.den : Int) : Rat)
    rw [Rat.intCast_natCast]
    grind
  have h3 : c.num * D = n * c.den := Rat.intCast_inj.1 h2
  refine ⟨?_, h3⟩
  have h4 : (c.den : Int) ∣ D * c.num := ⟨n, by rw [Int.mul_comm D, h3, Int.mul_comm]⟩
  refine dvd_one h4 ?_
  show Nat.gcd (c.den : Int).natAbs c.num.natAbs = 1
  rw [Int.natAbs_natCast, Nat.gcd_comm]
  exact c.reduced

theorem prim_ok {p : List Rat} {L G : Int} (hL1 : ∀ i, ((cf p i).den : Int) ∣ L) (hL2 : ∀ u : Int, (∀ i, ((cf p i).den : Int) ∣ u) → L ∣ u) (hG1 : ∀ i, G ∣ (cf p i).num) (hG2 : ∀ v : Int, (∀ i, v ∣ (cf p i).num) → v ∣ G) (hG0 : G ≠ 0) {K : Nat} (h : Ln K p) :
    ∀ i, ∃ z : Int, Sm K z ∧ cf p i * ((L : Rat) / (G : Rat)) = (z : Rat) := by
  obtain ⟨c, hc, hz⟩ := h
  have hcn : c.num ≠ 0 := fun e => hc (Rat.num_eq_zero.1 e)
  have hcd : (c.den : Int) ≠ 0 := by have := c.den_nz; omega
  have hkey : ∀ i, ∃ z : Int, Sm K z ∧ (cf p i).num * c.num = z * ((cf p i).den * c.den) := fun i => by
    obtain ⟨z, h1, h2⟩ := hz i
    refine ⟨z, h1, ?_⟩
    have e1 : c * (c.den : Rat) = (c.num : Rat) := mul_den c
    have e2 : cf p i * ((cf p i).den : Rat) = ((cf p i).num : Rat) := mul_den _
    have e3 : (((cf p i).num * c.num : Int) : Rat) = ((z * (((cf p i).den : Int) * (c.den : Int)) : Int) : Rat) := by
      rw [Rat.intCast_mul, Rat.intCast_mul, Rat.intCast_mul, Rat.intCast_natCast, Rat.intCast_natCast, ← e1, ← e2, ← h2]
      grind
    exact Rat.intCast_inj.1 e3
  have hu : L ∣ c.num := hL2 _ fun i => by
    obtain ⟨z, _, e⟩ := hkey i
    have h4 : ((cf p i).den : Int) ∣ (cf p i).num * c.num := ⟨z * c.den, by rw [e, Int.mul_left_comm]⟩
    rw [Int.mul_comm] at h4
    refine dvd_one h4 ?_
    show Nat.gcd ((cf p i).den : Int).natAbs (cf p i).num.natAbs = 1
    rw [Int.natAbs_natCast, Nat.gcd_comm]
    exact (cf p i).reduced
  have hv : (c.den : Int) ∣ G := hG2 _ fun i => by
    obtain ⟨z, _, e⟩ := hkey i
    have h4 : (c.den : Int) ∣ (cf p i).num * c.num := ⟨z * (cf p i).den, by rw [e, ← Int.mul_assoc, Int.mul_comm]⟩
    refine dvd_one h4 ?_
    show Nat.gcd (c.den : Int).natAbs c.num.natAbs = 1
    rw [Int.natAbs_natCast, Nat.gcd_comm]
    exact c.reduced
  obtain ⟨u, hu⟩ := hu
  obtain ⟨v, hv⟩ := hv
  have hu0 : u ≠ 0 := fun e => hcn (by rw [hu, e, Int.mul_zero])
  have hv0 : v ≠ 0 := fun e => hG0 (by rw [hv, e, Int.mul_zero])
  intro i
  obtain ⟨e, he⟩ := hL1 i
  obtain ⟨m, hm⟩ := hG1 i
  obtain ⟨z, h1, h2⟩ := hkey i
  have hd : ((cf p i).den : Int) ≠ 0 := by have := (cf p i).den_nz; omega
  have hzz : z = m * e * (u * v) := by
    have h3 : z * (((cf p i).den : Int) * c.den) = m * e * (u * v) * (((cf p i).den : Int) * c.den) := by
      rw [← h2, hm, hu, hv, he]
      generalize ((cf p i).den : Int) = d
      generalize (c.den : Int) = f
      grind
    exact Int.eq_of_mul_eq_mul_right (Int.mul_ne_zero hd hcd) h3
  refine ⟨m * e, h1.le ?_, ?_⟩
  · rw [hzz, Int.natAbs_mul (m * e)]
    have : 0 < (u * v).natAbs := Int.natAbs_pos.2 (Int.mul_ne_zero hu0 hv0)
    exact Nat.le_mul_of_pos_right _ this
  · have hGr : (G : Rat) ≠ 0 := by exact_mod_cast hG0
    have e2 : cf p i * ((cf p i).den : Rat) = ((cf p i).num : Rat) := mul_den _
    rw [hm, Rat.intCast_mul] at e2
    have hLr : (L : Rat) = ((cf p i).den : Rat) * (e : Rat) := by rw [he, Rat.intCast_mul, Rat.intCast_natCast]
    have h5 : (L : Rat) / (G : Rat) * (G : Rat) = L := Rat.div_mul_cancel hGr
    have h6 : (cf p i * ((L : Rat) / (G : Rat)) - ((m * e : Int) : Rat)) * (G : Rat) = 0 := by
      rw [Rat.intCast_mul]
      generalize (L : Rat) / (G : Rat) = f at h5 ⊢
      rw [hLr] at h5
      generalize ((cf p i).den : Rat) = d at e2 h5
      grind
    rcases Rat.mul_eq_zero.1 h6 with h7 | h7
    · grind
    · exact absurd h7 hGr

/-- The least number that the denominators of the first n divide, and the greatest that divides the numerators. -/
def lcmA (p : List Rat) : Nat → Nat
  | 0 => 1
  | n + 1 => Nat.lcm (lcmA p n) (cf p n).den
def gcdA (p : List Rat) : Nat → Nat
  | 0 => 0
  | n + 1 => Nat.gcd (gcdA p n) (cf p n).num.natAbs
theorem lcmA_pos (p : List Rat) : ∀ n, 0 < lcmA p n := by
  intro n
  induction n with
  | zero => exact Nat.one_pos
  | succ n ih => exact Nat.lcm_pos ih (cf p n).den_pos
theorem lcmA_dvd (p : List Rat) : ∀ n i, i < n → (cf p i).den ∣ lcmA p n := by
  intro n
  induction n with
  | zero => intro i h; omega
  | succ n ih =>
    intro i h
    rw [lcmA]
    by_cases e : i = n
    · subst e; exact Nat.dvd_lcm_right _ _
    · exact Nat.dvd_trans (ih i (by omega)) (Nat.dvd_lcm_left _ _)
theorem dvd_lcmA (p : List Rat) (u : Nat) (h : ∀ i, (cf p i).den ∣ u) : ∀ n, lcmA p n ∣ u := by
  intro n
  induction n with
  | zero => exact Nat.one_dvd _
  | succ n ih => exact Nat.lcm_dvd ih (h n)
theorem gcdA_dvd (p : List Rat) : ∀ n i, i < n → gcdA p n ∣ (cf p i).num.natAbs := by
  intro n
  induction n with
  | zero => intro i h; omega
  | succ n ih =>
    intro i h
    rw [gcdA]
    by_cases e : i = n
    · subst e; exact Nat.gcd_dvd_right _ _
    · exact Nat.dvd_trans (Nat.gcd_dvd_left _ _) (ih i (by omega))
theorem dvd_gcdA (p : List Rat) (v : Nat) (h : ∀ i, v ∣ (cf p i).num.natAbs) : ∀ n, v ∣ gcdA p n := by
  intro n
  induction n with
  | zero => exact Nat.dvd_zero _
  | succ n ih => exact Nat.dvd_gcd ih (h n)
theorem cd_mul {D : Int} {K : Nat} {c : Rat} (hD : D ≠ 0) (h : CD D K c) : ∃ n : Int, Sm K n ∧ c * (D : Rat) = (n : Rat) := by
  obtain ⟨n, rfl, h⟩ := h
  refine ⟨n, h, ?_⟩
  have hDr : (D : Rat) ≠ 0 := by exact_mod_cast hD
  rw [Rat.divInt_eq_div]
  exact Rat.div_mul_cancel hDr
theorem mul_cd {D : Int} {K : Nat} {c : Rat} {n : Int} (hD : D ≠ 0) (hn : Sm K n) (h : c * (D : Rat) = (n : Rat)) : CD D K c := by
  refine ⟨n, ?_, hn⟩
  have hDr : (D : Rat) ≠ 0 := by exact_mod_cast hD
  rw [Rat.divInt_eq_div, ← h]
  exact (Rat.mul_div_cancel hDr).symm
theorem lcmA_sm {D : Int} {K : Nat} {p : List Rat} (hD : D ≠ 0) (hs : Sm K D) (h : CDL D K p) (n : Nat) : Sm K (lcmA p n : Int) := by
  refine hs.le ?_
  rw [Int.natAbs_natCast]
  refine Nat.le_of_dvd (Int.natAbs_pos.2 hD) (dvd_lcmA p _ (fun i => ?_) n)
  obtain ⟨z, _, e⟩ := cd_mul hD (h i)
  have := (den_dvd e).1
  exact Int.ofNat_dvd_left.1 this
theorem gcdA_sm {K : Nat} {p : List Rat} (h : ∀ i, Sm K (cf p i).num) : ∀ n, Sm K (gcdA p n : Int) := by
  intro n
  induction n with
  | zero => exact Sm.zero K
  | succ n ih => exact Sm.gcd ih (h n)
theorem CDL.ln {D : Int} {K : Nat} {p : List Rat} (hD : D ≠ 0) (h : CDL D K p) : Ln K p :=
  ⟨(D : Rat), by exact_mod_cast hD, fun i => cd_mul hD (h i)⟩
theorem gcdA_ne {p : List Rat} (hp : trimQ p = p) (h0 : p ≠ []) : gcdA p p.length ≠ 0 := fun e => by
  have hl : 0 < p.length := List.length_pos_iff.2 h0
  have h1 := gcdA_dvd p p.length (p.length - 1) (by omega)
  rw [e] at h1
  have h2 : (cf p (p.length - 1)).num.natAbs = 0 := Nat.zero_dvd.1 h1
  exact trim_last hp h0 (Rat.num_eq_zero.1 (Int.natAbs_eq_zero.1 h2))
/-- The part of p with whole coefficients that have nothing in common. -/
def lstQ (p : List Rat) : List Rat := scQ ((lcmA p p.length : Rat) / (gcdA p p.length : Rat)) p
theorem lst_pos {p : List Rat} (hp : trimQ p = p) (h0 : p ≠ []) : 0 < (lcmA p p.length : Rat) / (gcdA p p.length : Rat) := by
  have h1 : (0 : Rat) < (lcmA p p.length : Rat) := by exact_mod_cast lcmA_pos p _
  have h2 : (0 : Rat) < (gcdA p p.length : Rat) := by exact_mod_cast Nat.pos_of_ne_zero (gcdA_ne hp h0)
  rw [Rat.div_def]
  exact Rat.mul_pos h1 (Rat.inv_pos.2 h2)
theorem lst_ln {p : List Rat} (hp : trimQ p = p) (h0 : p ≠ []) {K : Nat} (h : Ln K p) : ∀ i, ∃ z : Int, Sm K z ∧ cf (lstQ p) i = (z : Rat) := by
  have hz : ∀ i, p.length ≤ i → cf p i = 0 := fun i hi => cf_ge hi
  have h1 := prim_ok (p := p) (L := (lcmA p p.length : Int)) (G := (gcdA p p.length : Int)) (fun i => by
    by_cases hi : i < p.length
    · exact Int.natCast_dvd_natCast.2 (lcmA_dvd p _ i hi)
    · rw [hz i (by omega)]; exact Int.one_dvd _) (fun u hu => by
    refine Int.ofNat_dvd_left.2 (dvd_lcmA p _ (fun i => Int.ofNat_dvd_left.1 (hu i)) _)) (fun i => by
    by_cases hi : i < p.length
    · exact Int.ofNat_dvd_left.2 (gcdA_dvd p _ i hi)
    · rw [hz i (by omega)]; exact Int.dvd_zero _) (fun v hv => by
    have : v.natAbs ∣ gcdA p p.length := dvd_gcdA p _ (fun i => Int.natAbs_dvd_natAbs.2 (hv i)) _
    exact Int.natAbs_dvd.1 (Int.natCast_dvd_natCast.2 this)) (by have := gcdA_ne hp h0; omega) h
  intro i
  obtain ⟨z, h2, h3⟩ := h1 i
  refine ⟨z, h2, ?_⟩
  unfold lstQ
  rw [cf_scQ]
  rw [Rat.intCast_natCast, Rat.intCast_natCast] at h3
  exact h3
end Go.Proofs.YteldjhhjnchdeaaGreatDoor
