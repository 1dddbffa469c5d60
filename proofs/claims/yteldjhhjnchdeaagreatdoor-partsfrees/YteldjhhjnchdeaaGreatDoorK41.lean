import Derived.Test.YteldjhhjnchdeaaGreatDoorK39
import Derived.Defers
import Derived.Recover
import Derived.Test.YteldjhhjnchdeaaGreatDoorK40
import Derived.Test.YteldjhhjnchdeaaGreatDoorK29
import Derived.Test.YteldjhhjnchdeaaGreatDoorK35
namespace Go.Proofs.YteldjhhjnchdeaaGreatDoor
open Go.RowKit Go.Shelf

set_option maxRecDepth 100000 in
set_option maxHeartbeats 4000000 in
theorem catch_idle (p q : Addr) (w : World) :
    CallsD Tryz.prog 93 #[.pointer (some p), .pointer (some q)] .returning w fun e u' w' => e = .returned (.tuple #[]) ∧ u' = .returning ∧ w' = w.alloc (.cells #[.int .i64 0, .int .i64 0] 97) := by
  have hta : ∀ w : World, (Instr.typeAssert Value.nilIface 20 97 true).run Tryz.prog w = .ok (.tuple #[.agg #[.int .i64 0, .int .i64 0], .bool false]) w := fun _ => by kernel_rfl
  refine callsD_of_wpS Tryz.func93 rfl fun c₀ cs hu => ?_
  apply wpS_seq
  apply wpS_region
  simp [wpOpsS, go_sem, recoverD, hu, Tryz.ntmps93, Exit.thenS, hta]
  apply wpS_seq
  apply wpS_region
  simp [wpOpsS, go_sem, Exit.thenS]
  refine wpS_cond (t := false) (by simp [Act.eval, Array.replicate]) ?_
  simp only [Bool.false_eq_true, if_false]
  refine wpS_of_wp (wp_skip ?_)
  cases c₀
  simp_all [bodyPostS, results, Tryz.results93]

set_option maxRecDepth 100000 in
set_option maxHeartbeats 4000000 in
theorem catch_fault (p q : Nat) (e0 p0 : Int) (w : World) (bp : Boxed w p 25 (.slice none 0 0)) (bq : Box2 w q 97 (.int .i64 0) (.int .i64 0)) (hne : p ≠ q) :
    CallsD Tryz.prog 93 #[.pointer (some ⟨p, 0, none⟩), .pointer (some ⟨q, 0, none⟩)] (.panicking [{ v := faultV e0 p0, recovered := false }]) w fun e u' w' => e = .returned (.tuple #[]) ∧ u' = .panicking [{ v := faultV e0 p0, recovered := true }] ∧ Boxed w' p 25 (.slice none 0 0) ∧ Box2 w' q 97 (.int .i64 e0) (.int .i64 p0) ∧ ∀ n w0, Below n w0 w → n ≤ w.heap.size → n ≤ p → n ≤ q → Below n w0 w' := by
  unfold faultV
  have hta : ∀ w : World, (Instr.typeAssert (.iface 97 (.agg #[.int .i64 e0, .int .i64 p0])) 20 97 true).run Tryz.prog w = .ok (.tuple #[.agg #[.int .i64 e0, .int .i64 p0], .bool true]) w := fun _ => by kernel_rfl
  refine callsD_of_wpS Tryz.func93 rfl fun c₀ cs hu => ?_
  apply wpS_seq
  apply wpS_region
  simp [wpOpsS, go_sem, recoverD, hu, Tryz.ntmps93, Exit.thenS, hta]
  apply wpS_seq
  apply wpS_region
  simp [wpOpsS, go_sem, Exit.thenS]
  refine wpS_cond (t := true) (by simp [Act.eval, Array.replicate]) ?_
  simp only [if_true]
  refine wpS_of_wp ?_
  simp [Array.replicate]
  have n0 := Box2.new w 97 (.int .i64 e0) (.int .i64 p0)
  have bp1 := bp.alloc (.cells #[.int .i64 e0, .int .i64 p0] 97)
  have bq1 := bq.alloc (.cells #[.int .i64 e0, .int .i64 p0] 97)
  have hpD : p ≠ w.heap.size := by have := bp.lt; omega
  have hqD : q ≠ w.heap.size := by have := bq.lt; omega
  have HB := hidD (fun (n : Nat) (w0 : World) (h : Below n w0 w) (hn : n ≤ w.heap.size) => h.alloc hn (.cells #[.int .i64 e0, .int .i64 p0] 97))
  obtain ⟨W, hW⟩ : ∃ W, w.alloc (.cells #[.int .i64 e0, .int .i64 p0] 97) = W := ⟨_, rfl⟩
  rw [hW] at n0 bp1 bq1 HB
  rw [hW]
  obtain ⟨D, hD⟩ : ∃ D, w.heap.size = D := ⟨_, rfl⟩
  rw [hD] at n0 hpD hqD HB
  rw [hD]
  clear hW bp bq hta hu
  have d0 := n0.c0
  have d1 := n0.c1
  have x0 := bp1.cell
  have x1 := bp1.frozen
  have y0 := bq1.c0
  have y1 := bq1.c1
  have z0 := bq1.f0
  have z1 := bq1.f1
  have HX := hidD bp1
  have HY := hidD bq1
  clear bp1 bq1 n0
  go_region
  have hX : Boxed (((W.setCell ⟨p, 0, none⟩ (.slice none 0 0)).setCell ⟨q, 0, none⟩ (.int .i64 e0)).setCell ⟨q, 1, none⟩ (.int .i64 p0)).drew p 25 (.slice none 0 0) :=
    (Below.heap_setCell _ ⟨q, 1, none⟩ (.int .i64 p0) p hne).trans ((Below.heap_setCell _ ⟨q, 0, none⟩ (.int .i64 e0) p hne).trans (HX.out.set (.slice none 0 0)))
  have hY : Box2 (((W.setCell ⟨p, 0, none⟩ (.slice none 0 0)).setCell ⟨q, 0, none⟩ (.int .i64 e0)).setCell ⟨q, 1, none⟩ (.int .i64 p0)).drew q 97 (.int .i64 e0) (.int .i64 p0) :=
    (((HY.out.far (p := ⟨p, 0, none⟩) (fun e => hne e.symm) _).set0 _).set1 _).drew
  have hZ : ∀ n w0, Below n w0 w → n ≤ D → n ≤ p → n ≤ q → Below n w0 (((W.setCell ⟨p, 0, none⟩ (.slice none 0 0)).setCell ⟨q, 0, none⟩ (.int .i64 e0)).setCell ⟨q, 1, none⟩ (.int .i64 p0)).drew :=
    fun n w0 h hn h1 h2 => ((((HB.out n w0 h hn).setCell (p := ⟨p, 0, none⟩) h1 _).setCell (p := ⟨q, 0, none⟩) h2 _).setCell (p := ⟨q, 1, none⟩) h2 _).drew
  generalize (((W.setCell ⟨p, 0, none⟩ (.slice none 0 0)).setCell ⟨q, 0, none⟩ (.int .i64 e0)).setCell ⟨q, 1, none⟩ (.int .i64 p0)).drew = V at hX hY hZ ⊢
  simp [bodyPostS, results, Tryz.results93]
  exact ⟨hX, hY, hZ⟩

set_option maxRecDepth 100000 in
set_option maxHeartbeats 4000000 in
theorem yread_bad (s : ByteArray) (e0 q0 : Int) (w : World) (hP : ∀ V R, RcB V R s 0 → Calls Tryz.prog 94 #[.pointer (some ⟨R, 0, none⟩)] V fun r w' => V.grownBy w' (some R) ∧ r = .panicked [{ v := faultV e0 q0, recovered := false }]) :
    Calls Tryz.prog 53 #[.string s] w fun r w' => r = .returned (.tuple #[.agg #[.slice none 0 0], .agg #[.int .i64 e0, .int .i64 q0]]) ∧ Below w.heap.size w w' := by
  have hmf : ∀ (fn : Fn) (first cap : Array Value) (w : World), (Instr.makeFunc fn first cap).run Tryz.prog w = .ok (.func fn first cap) w := fun _ _ _ _ => rfl
  have HP := hidD hP
  clear hP
  go_enter_defers Tryz.func53, Tryz.ntmps53
  go_upto_region 3 with fail
  have h0 := Boxed.new w 25 (.slice none 0 0)
  have h1 := Box2.new (w.alloc (.cells #[.slice none 0 0] 25)) 97 (.int .i64 0) (.int .i64 0)
  have h2 : RcB (((w.alloc (.cells #[.slice none 0 0] 25)).alloc (.cells #[.int .i64 0, .int .i64 0] 97)).alloc (.cells #[.string s, .int .i64 0] 130)) ((w.alloc (.cells #[.slice none 0 0] 25)).alloc (.cells #[.int .i64 0, .int .i64 0] 97)).heap.size s 0 := World.alloc_heap_new _ _
  rw [World.size_alloc, World.size_alloc] at h2
  rw [World.size_alloc] at h1
  replace h0 := (h0.alloc (.cells #[.int .i64 0, .int .i64 0] 97)).alloc (.cells #[.string s, .int .i64 0] 130)
  replace h1 := h1.alloc (.cells #[.string s, .int .i64 0] 130)
  have hb : Below w.heap.size w (((w.alloc (.cells #[.slice none 0 0] 25)).alloc (.cells #[.int .i64 0, .int .i64 0] 97)).alloc (.cells #[.string s, .int .i64 0] 130)) := (((Below.refl _ w).alloc (Nat.le_refl _) _).alloc (by rw [World.size_alloc]; omega) _).alloc (by rw [World.size_alloc, World.size_alloc]; omega) _
  have hz : (((w.alloc (.cells #[.slice none 0 0] 25)).alloc (.cells #[.int .i64 0, .int .i64 0] 97)).alloc (.cells #[.string s, .int .i64 0] 130)).heap.size = w.heap.size + 1 + 1 + 1 := by rw [World.size_alloc, World.size_alloc, World.size_alloc]
  obtain ⟨V, hV⟩ : ∃ V, ((w.alloc (.cells #[.slice none 0 0] 25)).alloc (.cells #[.int .i64 0, .int .i64 0] 97)).alloc (.cells #[.string s, .int .i64 0] 130) = V := ⟨_, rfl⟩
  rw [hV] at h0 h1 h2 hb hz
  rw [hV]
  have H0 := hidD h0
  have H1 := hidD h1
  have HB := hidD hb
  have HC := hidD (HP.out _ _ h2)
  clear h0 h1 h2 hb hV HP hz
  go_wp2_with (go_at_call 94; refine HC.out.mono ?_; rintro e w1 ⟨hg1, rfl⟩; have HG := hidD hg1; clear hg1)
  have hp1 : Boxed w1 w.heap.size 25 (.slice none 0 0) := H0.out.kept HG.out (fun e => by have := Option.some.inj e; omega)
  have hq1 : Box2 w1 (w.heap.size + 1) 97 (.int .i64 0) (.int .i64 0) := (HG.out.block _ H1.out.lt (fun e => by have := Option.some.inj e; omega)).trans H1.out
  have hB1 : Below w.heap.size w w1 := HB.out.grown HG.out HB.out.size (fun k e => by have := Option.some.inj e; omega)
  refine leaves_cons (f := 93) (args := #[.pointer (some ⟨w.heap.size, 0, none⟩), .pointer (some ⟨w.heap.size + 1, 0, none⟩)]) (by simp) (by simp [go_sem]) ?_
  refine (catch_fault w.heap.size (w.heap.size + 1) e0 q0 _ hp1 hq1 (by omega)).mono ?_
  rintro e u' w2 ⟨rfl, rfl, h3, h4, h5⟩
  have h6 := h5 _ _ hB1 hB1.size (Nat.le_refl _) (by omega)
  have x0 := h3.cell
  have y0 := h4.c0
  have y1 := h4.c1
  simp [Leaves, settle, results, Tryz.results53, go_sem, x0, y0, y1]
  exact h6

theorem row_other {W W' : World} {F : Nat} {cs : Array Value} {t : TypeId} {m : Nat × Nat} (hF : W.heap[F]? = some (.cells cs t m)) (ht : t = 97) (hg : W.grownBy W' (some F)) : ∀ k v ds, Row k W v ds → Row k W' v ds := by
  intro k v ds hr
  obtain ⟨a, cap, e, _⟩ := id hr
  subst e
  refine hr.grown hg (fun p ep hl => ?_)
  obtain ⟨b, off, ea, cs', m', hb⟩ := hr.typ hl
  rw [ea] at ep
  cases ep
  intro e
  subst e
  have := hb.symm.trans hF
  simp only [Option.some.injEq, Obj.cells.injEq] at this
  subst ht
  have h2 := this.2.1
  revert h2
  cases k <;> (show ¬ (_ = _); decide)
theorem rowK_other {W W' : World} {F : Nat} {cs : Array Value} {t : TypeId} {m : Nat × Nat} (hF : W.heap[F]? = some (.cells cs t m)) (ht : t = 97) (hg : W.grownBy W' (some F)) {r : Bool} {v : Value} {qs : List Rat} (h : RowK r W v qs) : RowK r W' v qs := by
  obtain ⟨a, cap, e, h1, h2, h3, h4⟩ := h
  refine ⟨a, cap, e, h1, h2, h3, ?_⟩
  rcases h4 with h4 | ⟨b, ea, h5⟩
  · exact Or.inl h4
  · refine Or.inr ⟨b, ea, h5.keep (hg.block b h5.lt (fun e => ?_)) (row_other hF ht hg)⟩
    obtain ⟨cs', g1, _⟩ := h5
    have e := Option.some.inj e
    subst e
    have := g1.symm.trans hF
    simp only [Option.some.injEq, Obj.cells.injEq] at this
    subst ht
    have h2 := this.2.1
    revert h2
    cases r <;> (show ¬ (_ = _); decide)

set_option maxRecDepth 100000 in
set_option maxHeartbeats 4000000 in
theorem yread_ok (s : ByteArray) (ps : List Rat) (w : World) (hP : ∀ V R, RcB V R s 0 → Calls Tryz.prog 94 #[.pointer (some ⟨R, 0, none⟩)] V fun r w' => V.grownBy w' (some R) ∧ ∃ u, r = .returned u ∧ IsPoly w' u ps) :
    Calls Tryz.prog 53 #[.string s] w fun r w' => ∃ u, r = .returned (.tuple #[u, .agg #[.int .i64 0, .int .i64 0]]) ∧ IsPoly w' u ps ∧ Below w.heap.size w w' := by
  have hmf : ∀ (fn : Fn) (first cap : Array Value) (w : World), (Instr.makeFunc fn first cap).run Tryz.prog w = .ok (.func fn first cap) w := fun _ _ _ _ => rfl
  have HP := hidD hP
  clear hP
  go_enter_defers Tryz.func53, Tryz.ntmps53
  go_upto_region 3 with fail
  have h0 := Boxed.new w 25 (.slice none 0 0)
  have h1 := Box2.new (w.alloc (.cells #[.slice none 0 0] 25)) 97 (.int .i64 0) (.int .i64 0)
  have h2 : RcB (((w.alloc (.cells #[.slice none 0 0] 25)).alloc (.cells #[.int .i64 0, .int .i64 0] 97)).alloc (.cells #[.string s, .int .i64 0] 130)) ((w.alloc (.cells #[.slice none 0 0] 25)).alloc (.cells #[.int .i64 0, .int .i64 0] 97)).heap.size s 0 := World.alloc_heap_new _ _
  rw [World.size_alloc, World.size_alloc] at h2
  rw [World.size_alloc] at h1
  replace h0 := (h0.alloc (.cells #[.int .i64 0, .int .i64 0] 97)).alloc (.cells #[.string s, .int .i64 0] 130)
  replace h1 := h1.alloc (.cells #[.string s, .int .i64 0] 130)
  have hb : Below w.heap.size w (((w.alloc (.cells #[.slice none 0 0] 25)).alloc (.cells #[.int .i64 0, .int .i64 0] 97)).alloc (.cells #[.string s, .int .i64 0] 130)) := (((Below.refl _ w).alloc (Nat.le_refl _) _).alloc (by rw [World.size_alloc]; omega) _).alloc (by rw [World.size_alloc, World.size_alloc]; omega) _
  have hz : (((w.alloc (.cells #[.slice none 0 0] 25)).alloc (.cells #[.int .i64 0, .int .i64 0] 97)).alloc (.cells #[.string s, .int .i64 0] 130)).heap.size = w.heap.size + 1 + 1 + 1 := by rw [World.size_alloc, World.size_alloc, World.size_alloc]
  obtain ⟨V, hV⟩ : ∃ V, ((w.alloc (.cells #[.slice none 0 0] 25)).alloc (.cells #[.int .i64 0, .int .i64 0] 97)).alloc (.cells #[.string s, .int .i64 0] 130) = V := ⟨_, rfl⟩
  rw [hV] at h0 h1 h2 hb hz
  rw [hV]
  have H0 := hidD h0
  have H1 := hidD h1
  have HB := hidD hb
  have HC := hidD (HP.out _ _ h2)
  clear h0 h1 h2 hb hV HP hz
  go_wp2_with (go_at_call 94; refine HC.out.mono ?_; rintro e w1 ⟨hg1, u1, rfl, hu1⟩; have HG := hidD hg1; obtain ⟨a9, l9, c9, rfl⟩ := hu1.form; have HU := hidD hu1.row; have hp1 : Boxed w1 w.heap.size 25 (.slice none 0 0) := H0.out.kept HG.out (fun e => by have := Option.some.inj e; omega); have hq1 : Box2 w1 (w.heap.size + 1) 97 (.int .i64 0) (.int .i64 0) := (HG.out.block _ H1.out.lt (fun e => by have := Option.some.inj e; omega)).trans H1.out; have x0 := hp1.cell; have x1 := hp1.frozen; have y0 := hq1.c0; have y1 := hq1.c1; have z0 := hq1.f0; have z1 := hq1.f1; have H2 := hidD hp1; have H3 := hidD hq1; clear hg1 hu1 hp1 hq1)
  have hne : w.heap.size + 1 ≠ w.heap.size := by omega
  have hB1 : Below w.heap.size w w1 := HB.out.grown HG.out HB.out.size (fun k e => by have := Option.some.inj e; omega)
  have a1 := H2.out.set (.slice a9 l9 c9)
  have a2 := boxP H2.out (.slice a9 l9 c9) HU.out
  have a3 := H3.out.far (p := ⟨w.heap.size, 0, none⟩) hne (.slice a9 l9 c9)
  have a4 := hB1.setCell (p := ⟨w.heap.size, 0, none⟩) (Nat.le_refl _) (.slice a9 l9 c9)
  generalize w1.setCell ⟨w.heap.size, 0, none⟩ (.slice a9 l9 c9) = W2 at a1 a2 a3 a4 ⊢
  have b1 := (Below.heap_setCell W2 ⟨w.heap.size + 1, 0, none⟩ (.int .i64 0) w.heap.size (fun e => hne e.symm)).trans a1
  have b2 := rowK_other a3 rfl (grown_set W2 (w.heap.size + 1) 0 (.int .i64 0)) a2
  have b3 := a3.set0 (.int .i64 0)
  have b4 := a4.setCell (p := ⟨w.heap.size + 1, 0, none⟩) (by show _ ≤ w.heap.size + 1; omega) (.int .i64 0)
  generalize W2.setCell ⟨w.heap.size + 1, 0, none⟩ (.int .i64 0) = W3 at b1 b2 b3 b4 ⊢
  have d1 := (Below.heap_setCell W3 ⟨w.heap.size + 1, 1, none⟩ (.int .i64 0) w.heap.size (fun e => hne e.symm)).trans b1
  have d2 := rowK_other b3 rfl (grown_set W3 (w.heap.size + 1) 1 (.int .i64 0)) b2
  have d3 := b3.set1 (.int .i64 0)
  have d4 := b4.setCell (p := ⟨w.heap.size + 1, 1, none⟩) (by show _ ≤ w.heap.size + 1; omega) (.int .i64 0)
  generalize W3.setCell ⟨w.heap.size + 1, 1, none⟩ (.int .i64 0) = W4 at d1 d2 d3 d4 ⊢
  refine leaves_cons (f := 93) (args := #[.pointer (some ⟨w.heap.size, 0, none⟩), .pointer (some ⟨w.heap.size + 1, 0, none⟩)]) (by simp) (by simp [go_sem]) ?_
  refine (catch_idle ⟨w.heap.size, 0, none⟩ ⟨w.heap.size + 1, 0, none⟩ _).mono ?_
  rintro e u' w2 ⟨rfl, rfl, rfl⟩
  have e1 : Boxed W4 w.heap.size 25 (.slice a9 l9 c9) := d1
  have f1 := (e1.alloc (.cells #[.int .i64 0, .int .i64 0] 97)).cell
  have f2 := (d3.alloc (.cells #[.int .i64 0, .int .i64 0] 97)).c0
  have f3 := (d3.alloc (.cells #[.int .i64 0, .int .i64 0] 97)).c1
  have f4 := d4.alloc d4.size (.cells #[.int .i64 0, .int .i64 0] 97)
  have f5 := d2.below ((Below.refl _ W4).alloc (Nat.le_refl _) (.cells #[.int .i64 0, .int .i64 0] 97))
  generalize W4.alloc (.cells #[.int .i64 0, .int .i64 0] 97) = W5 at f1 f2 f3 f4 f5 ⊢
  simp [Leaves, settle, results, Tryz.results53, go_sem, f1, f2, f3]
  exact ⟨⟨_, rfl, f5⟩, f4⟩
end Go.Proofs.YteldjhhjnchdeaaGreatDoor
namespace Go.Proofs.YteldjhhjnchdeaaGreatDoor
open Go.RowKit Go.Shelf

attribute [local go_sem] Oper.semAt_some

theorem sumS_sums {l : List UInt8} : ∀ (f : Nat) (b : Bool) (I m : Nat) (S S' : List Rat) (k : Nat), I ≤ l.length → m ≤ I → SumsAt S m → sumS l f b I S = .ok S' k → ∃ m', m' ≤ l.length ∧ SumsAt S' m' := by
  intro f
  induction f with
  | zero => intro b I m S S' k _ _ _ h; cases h
  | succ f ih =>
    intro b I m S S' k hI hm hS h
    cases ht : termS l I with
    | bad e p => rw [sumS_bad ht] at h; cases h
    | ok a k5 =>
      obtain ⟨c, n⟩ := a
      have h1 := termS_lt hI ht
      have h2 := hS.next (termS_frac hI ht) h1.2.2 b
      have h3 := skB_ge l k5
      have h4 := skB_le h1.2.1
      rw [sumS_ok ht] at h
      split at h
      · rename_i h5; have := isAt_lt h5; exact ih _ _ (m + 1) _ _ _ (by omega) (by omega) h2 h
      · split at h
        · rename_i h5; have := isAt_lt h5; exact ih _ _ (m + 1) _ _ _ (by omega) (by omega) h2 h
        · split at h
          · cases h; exact ⟨m + 1, by omega, h2⟩
          · cases h
theorem totS_sums {l : List UInt8} {S : List Rat} {k : Nat} (h : totS l = .ok S k) : ∃ m, m ≤ l.length ∧ SumsAt S m := by
  unfold totS at h
  have h4 := skB_le (l := l) (i := 0) (by omega)
  split at h
  · rename_i h5; have := isAt_lt h5; exact sumS_sums _ _ _ 0 _ _ _ (by omega) (by omega) SumsAt.start h
  · exact sumS_sums _ _ _ 0 _ _ _ h4 (by omega) SumsAt.start h
theorem parseP_small (l : List UInt8) : (parseP l).1.length ≤ 9 ∧ ∀ i, SmQ 601 (cf (parseP l).1 i) := by
  by_cases h : 300 < l.length
  · rw [show parseP l = ([], 1, 0) by unfold parseP; rw [if_pos h]]
    exact ⟨by simp, fun i => by rw [cf_nil]; exact SmQ.zero _ (by omega)⟩
  · rw [parseP_eq h]
    cases ht : totS l with
    | bad e p => exact ⟨by simp [finS], fun i => by rw [show (finS (Rd.bad (α := List Rat) e p)).1 = [] from rfl, cf_nil]; exact SmQ.zero _ (by omega)⟩
    | ok S k =>
      obtain ⟨m, hm, hs⟩ := totS_sums ht
      rw [show (finS (Rd.ok S k)).1 = trimQ S from rfl]
      exact ⟨Nat.le_trans (trim_length_le _) (by rw [hs.1]; exact Nat.le_refl _), fun i => by rw [cf_trim]; exact (hs.2 i).mono (by omega)⟩

/-- What the code's Parse hands back. -/
def ParC (l : List UInt8) (w' : World) (u : Value) (e p : Int) : Prop := e = ((parseP l).2.1 : Int) ∧ p = ((parseP l).2.2 : Int) ∧ IsPoly w' u (parseP l).1

theorem yread_c (s : ByteArray) (hs : s.size ≤ 300) (w : World) :
    Calls Tryz.prog 53 #[.string s] w fun r w' => ∃ u e p, r = .returned (.tuple #[u, .agg #[.int .i64 e, .int .i64 p]]) ∧ ParC (wlst s) w' u e p ∧ Below w.heap.size w w' := by
  have HP := parseP_eq (l := wlst s) (by rw [wlst_len]; omega)
  cases ht : totS (wlst s) with
  | bad e0 q0 =>
    rw [ht] at HP
    refine (yread_bad s e0 q0 w (fun V R hR => (dpoly_c R s V hR hs).mono (fun r w' h => ⟨h.1, h.2.1 _ _ ht⟩))).mono ?_
    rintro r w' ⟨rfl, hb⟩
    refine ⟨_, _, _, rfl, ?_, hb⟩
    rw [ParC, HP]
    exact ⟨rfl, rfl, _, rfl, RowK.nil _ _⟩
  | ok S k =>
    rw [ht] at HP
    refine (yread_ok s (trimQ S) w (fun V R hR => (dpoly_c R s V hR hs).mono (fun r w' h => ⟨h.1, by obtain ⟨u, h1, h2, _⟩ := h.2.2 _ _ ht; exact ⟨u, h1, h2⟩⟩))).mono ?_
    rintro r w' ⟨u, rfl, hu, hb⟩
    refine ⟨_, _, _, rfl, ?_, hb⟩
    rw [ParC, HP]
    exact ⟨rfl, rfl, hu⟩

set_option maxRecDepth 100000 in
set_option maxHeartbeats 4000000 in
theorem yParse_c (s : ByteArray) (w : World) :
    Calls Tryz.prog 23 #[.string s] w fun r w' => ∃ u e p, r = .returned (.tuple #[u, .int .i64 e, .int .i64 p]) ∧ ParC (wlst s) w' u e p ∧ Below w.heap.size w w' := by
  by_cases hlong : 300 < s.size
  · have hlong' : (300 : Int) < (s.size : Int) := by omega
    have HP := hidD (show parseP (wlst s) = ([], 1, 0) by unfold parseP; rw [if_pos (by rw [wlst_len]; exact hlong)])
    clear hlong
    go_enter Tryz.func23, Tryz.ntmps23
    go_wp2
    exact bodyPost_ret (v := .tuple #[.agg #[.slice none 0 0], .int .i64 1, .int .i64 0]) (by simp [results, Tryz.results23, go_sem]) rfl ⟨_, _, _, rfl, by rw [ParC, HP.out]; exact ⟨rfl, rfl, _, rfl, RowK.nil _ _⟩, (Below.refl _ w).alloc (Nat.le_refl _) _⟩
  · have hlong' : ¬ (300 : Int) < (s.size : Int) := by omega
    have HR := hidD (fun (V : World) => yread_c s (by omega) V)
    clear hlong
    go_enter Tryz.func23, Tryz.ntmps23
    go_upto_region 4 with (go_at_call 53; refine (HR.out _).mono ?_; clear HR; rintro e w1 ⟨u1, e1, p1, rfl, hu1, hb1⟩; obtain ⟨a9, l9, c9, rfl⟩ := hu1.2.2.form; have HU := hidD hu1; have HB := hidD hb1; clear hu1 hb1)
    have hw0 : w.heap.size < w1.heap.size := by have := HB.out.size; rw [World.size_alloc] at this; omega
    have q0 : Boxed w1 w.heap.size 25 (.slice none 0 0) := (HB.out.block _ (by rw [World.size_alloc]; omega)).trans (Boxed.new w 25 (.slice none 0 0))
    have hb0 : Below w.heap.size w w1 := ((Below.refl _ w).alloc (Nat.le_refl _) _).trans (HB.out.mono (by rw [World.size_alloc]; omega))
    have h0 := Boxed.new w1 25 (.slice a9 l9 c9)
    have h1 := Box2.new (w1.alloc (.cells #[.slice a9 l9 c9] 25)) 97 (.int .i64 e1) (.int .i64 p1)
    rw [World.size_alloc] at h1
    replace h0 := h0.alloc (.cells #[.int .i64 e1, .int .i64 p1] 97)
    have hA : Below w1.heap.size w1 ((w1.alloc (.cells #[.slice a9 l9 c9] 25)).alloc (.cells #[.int .i64 e1, .int .i64 p1] 97)) := ((Below.refl _ w1).alloc (Nat.le_refl _) _).alloc (by rw [World.size_alloc]; omega) _
    have q1 := (hA.block _ q0.lt).trans q0
    have hb1 := hb0.trans (hA.mono hb0.size)
    have hu1 := HU.out.2.2.row.below hA
    have HUE := hidD (⟨HU.out.1, HU.out.2.1⟩ : e1 = _ ∧ p1 = _)
    have hne1 : w.heap.size ≠ w1.heap.size := by omega
    have hne2 : w.heap.size ≠ w1.heap.size + 1 := by omega
    generalize (w1.alloc (.cells #[.slice a9 l9 c9] 25)).alloc (.cells #[.int .i64 e1, .int .i64 p1] 97) = W2 at h0 h1 hA q1 hb1 hu1 ⊢
    clear hA q0 hb0 HB HU hw0
    obtain ⟨Q, hQ⟩ : ∃ Q, w.heap.size = Q := ⟨_, rfl⟩
    obtain ⟨B, hB⟩ : ∃ B, w1.heap.size = B := ⟨_, rfl⟩
    rw [hB] at h0 h1 hne1 hne2
    rw [hQ] at q1 hne1 hne2
    rw [hB, hQ]
    have q2 : Boxed W2 Q 25 (.slice none 0 0) := q1
    have x0 := h0.cell
    have y0 := h1.c0
    have y1 := h1.c1
    have z0 := q2.cell
    have z1 := q2.frozen
    have HQ2 := hidD q2
    have HQQ := hidD hQ
    have HB1 := hidD hb1
    have HU1 := hidD hu1
    clear h0 h1 q1 q2 hQ hB hb1 hu1
    go_region
    go_wp2_with fail
    have r0 := z0
    refine bodyPost_ret (v := .tuple #[.agg #[.slice a9 l9 c9], .int .i64 e1, .int .i64 p1]) (by simp [results, Tryz.results23, go_sem, r0]) rfl ⟨_, _, _, rfl, ⟨HUE.out.1, HUE.out.2, _, rfl, ?_⟩, ?_⟩
    · exact (boxP HQ2.out (.slice a9 l9 c9) HU1.out).below ((Below.refl _ _).drew)
    · exact (HB1.out.setCell (p := ⟨Q, 0, none⟩) (by rw [HQQ.out]; exact Nat.le_refl _) _).drew
end Go.Proofs.YteldjhhjnchdeaaGreatDoor
namespace Go.Proofs.YteldjhhjnchdeaaGreatDoor
open Go.RowKit Go.Shelf

/-! How long texts are, and how great what products need. -/
theorem textQ_len {k : Nat} {q : Rat} (h : SmQ k q) : (textQ q).length ≤ 40 * k + 5 := by
  have h1 := decZ_len q.num
  have h2 := decZ_len (q.den : Int)
  have h3 := h.1.words
  have h4 := h.2.words
  unfold textQ
  split
  · omega
  · rw [List.length_append, List.length_cons]; omega
theorem SmQ.abs {k : Nat} {q : Rat} (h : SmQ k q) : SmQ k (absQ q) := by
  have := absQ_num q
  unfold SmQ Sm at h ⊢
  rw [this.1, this.2]
  exact ⟨by have := h.1; omega, h.2⟩
theorem termL_len {k : Nat} {c : Rat} (h : SmQ k c) {i : Nat} (hi : i < B64) (f : Bool) : (termL c i f).length ≤ 40 * k + 40 := by
  have h1 := textQ_len h.abs
  have h2 := decN_len i
  have h3 : (limbs B64 i).length ≤ 1 := limbs_length_le two_le_B64 (by rw [Nat.pow_one]; exact hi)
  have h4 : (signL c f).length ≤ 1 := by
    unfold signL
    split
    · simp
    · split <;> simp
  have h5 : (coefL c i).length ≤ 40 * k + 5 := by
    unfold coefL
    split
    · simp
    · exact h1
  have h6 : (powL i).length ≤ 23 := by
    unfold powL
    split
    · simp
    · split
      · simp
      · rw [List.length_cons, List.length_cons]; omega
  unfold termL
  rw [List.length_append, List.length_append]
  omega
theorem polyT_len {k : Nat} {ps : List Rat} (h : ∀ i, SmQ k (cf ps i)) (hl : ps.length ≤ B64) : ∀ (d m : Nat), ps.length - m = d → (polyT (ps.drop m) m).length ≤ d * (40 * k + 40) := by
  intro d
  induction d with
  | zero =>
    intro m hm
    rw [List.drop_of_length_le (by omega)]
    simp [polyT]
  | succ d ih =>
    intro m hm
    have ih := ih (m + 1) (by omega)
    rw [polyT_drop ps (by omega : m < ps.length)]
    have h1 := termL_len (h m) (by omega : m < B64) (polyT (ps.drop (m + 1)) (m + 1)).isEmpty
    rw [Nat.add_mul]
    split
    · omega
    · rw [List.length_append]; omega
theorem polyT_ok {ps : List Rat} (h : Sqs ps) (hl : ps.length ≤ 3000000) (m : Nat) : (polyT (ps.drop m) m).length ≤ 140737488355328 := by
  have h1 := polyT_len (fun i => (h.at i).sm) (by unfold B64; omega) _ m rfl
  refine Nat.le_trans h1 (Nat.le_trans (Nat.mul_le_mul_right _ (Nat.sub_le _ _)) (Nat.le_trans (Nat.mul_le_mul_right _ hl) ?_))
  decide
theorem textP_len {k : Nat} {ps : List Rat} (h : ∀ i, SmQ k (cf ps i)) (hl : ps.length ≤ B64) : (textP ps).length ≤ ps.length * (40 * k + 40) + 1 := by
  have h1 := polyT_len h hl _ 0 rfl
  rw [List.drop_zero, Nat.sub_zero] at h1
  unfold textP
  split
  · simp
  · omega

theorem cf_addAt_ge (z : List Rat) (i : Nat) (a : Rat) (q : List Rat) : ∀ (j k : Nat), i + j ≤ k → cf (addAt z i a q j) k = cf z k := by
  intro j
  induction j with
  | zero => intro k _; rfl
  | succ j ih =>
    intro k hk
    rw [addAt]
    by_cases h : i + j < z.length
    · rw [cf_set _ _ _ _ (by rw [addAt_length]; exact h), if_neg (by omega), ih k (by omega)]
    · rw [List.set_eq_of_length_le (by rw [addAt_length]; omega), ih k (by omega)]
theorem cf_addAt_or (z : List Rat) (i : Nat) (a : Rat) (q : List Rat) : ∀ (j k : Nat), cf (addAt z i a q j) k = cf z k ∨ cf (addAt z i a q j) k = cf z k + a * cf q (k - i) := by
  intro j
  induction j with
  | zero => intro k; exact Or.inl rfl
  | succ j ih =>
    intro k
    rw [addAt]
    by_cases h : i + j < z.length
    · rw [cf_set _ _ _ _ (by rw [addAt_length]; exact h)]
      by_cases e : k = i + j
      · subst e
        rw [if_pos rfl, cf_addAt_ge z i a q j (i + j) (Nat.le_refl _)]
        exact Or.inr (by rw [Nat.add_sub_cancel_left])
      · rw [if_neg e]; exact ih k
    · rw [List.set_eq_of_length_le (by rw [addAt_length]; omega)]; exact ih k
theorem mulAt_sm {A : Nat} {ps qs : List Rat} (hp : ∀ i, SmQ A (cf ps i)) (hq : ∀ j, SmQ A (cf qs j)) (n : Nat) : ∀ (i k : Nat), SmQ (min i ps.length * (A + A + 1) + 1) (cf (mulAt ps qs n i) k) := by
  intro i
  induction i with
  | zero => intro k; rw [mulAt, cf_replicate]; exact SmQ.zero _ (by omega)
  | succ i ih =>
    intro k
    rw [mulAt]
    rcases cf_addAt_or (mulAt ps qs n i) i (cf ps i) qs qs.length k with e | e
    · rw [e]; exact (ih k).mono (by have : min i ps.length * (A + A + 1) ≤ min (i + 1) ps.length * (A + A + 1) := Nat.mul_le_mul_right _ (by omega); omega)
    · rw [e]
      by_cases hi : i < ps.length
      · rw [show min (i + 1) ps.length = min i ps.length + 1 from by omega, Nat.add_mul]
        exact ((ih k).add2 ((hp i).mul (hq (k - i)))).mono (by omega)
      · rw [cf_ge (p := ps) (by omega), Rat.zero_mul, Rat.add_zero, show min (i + 1) ps.length = min i ps.length from by omega]
        exact ih k
theorem timesOk_of {A : Nat} {ps qs : List Rat} (hp : ∀ i, SmQ A (cf ps i)) (hq : ∀ j, SmQ A (cf qs j)) (hL : (ps.length + 1) * (A + A + 1) + 1 ≤ 1000000) : M3.TimesOk ps qs := by
  have hle : A + A + 1 ≤ (ps.length + 1) * (A + A + 1) := Nat.le_mul_of_pos_left _ (by omega)
  refine ⟨fun i j => Sq.of ((hp i).mul (hq j)) (by omega), fun n i j k => ?_⟩
  have h1 := mulAt_sm hp hq n i k
  have h2 : min i ps.length * (A + A + 1) ≤ ps.length * (A + A + 1) := Nat.mul_le_mul_right _ (by omega)
  rw [Nat.add_mul] at hL
  rcases cf_addAt_or (mulAt ps qs n i) i (cf ps i) qs j k with e | e
  · rw [e]; exact Sq.of h1 (by omega)
  · rw [e]; exact Sq.of (h1.add2 ((hp i).mul (hq (k - i)))) (by omega)
theorem mulQ_sm {A : Nat} {ps qs : List Rat} (hp : ∀ i, SmQ A (cf ps i)) (hq : ∀ j, SmQ A (cf qs j)) (k : Nat) : SmQ (ps.length * (A + A + 1) + 1) (cf (mulQ ps qs) k) := by
  unfold mulQ
  rw [cf_trim, cf_mulR]
  have h := mulAt_sm hp hq (ps.length + qs.length) ps.length k
  rwa [cf_mulAt _ _ _ _ _ (Or.inr (by omega)), Nat.min_self] at h

/-! What the document's own example comes to. -/
def aliveL : List Rat := [Rat.divInt 1 2, 1]
def aliveS : List Rat := [Rat.divInt 1 4, 1, 1]
theorem alive_parse : parseP [120, 32, 43, 32, 49, 47, 50] = (aliveL, 0, 0) := by decide +kernel
theorem alive_times : mulQ aliveL aliveL = aliveS := by decide +kernel
end Go.Proofs.YteldjhhjnchdeaaGreatDoor
namespace Go.Proofs.YteldjhhjnchdeaaGreatDoor
open Go.RowKit Go.Shelf

/-! Long division of polynomials, step by step, and how great its numbers are. -/
theorem SmQ.mul2 {k m : Nat} {p q : Rat} (hp : SmQ k p) (hq : SmQ m q) : SmQ (k + m) (p * q) := by
  rw [← mul_eq]
  refine SmQ.divInt ?_ (hp.1.mul hq.1) (hp.2.mul hq.2)
  exact Int.mul_ne_zero (by have := p.den_nz; omega) (by have := q.den_nz; omega)
theorem SmQ.inv {m : Nat} {q : Rat} (hq : SmQ m q) (h0 : q ≠ 0) : SmQ m q⁻¹ := by
  rw [Rat.inv_def]
  exact SmQ.divInt (fun e => h0 (Rat.num_eq_zero.1 e)) hq.2 hq.1
theorem SmQ.div2 {k m : Nat} {p q : Rat} (hp : SmQ k p) (hq : SmQ m q) (h0 : q ≠ 0) : SmQ (k + m) (p / q) := by
  rw [Rat.div_def]
  exact hp.mul2 (hq.inv h0)
theorem SmQ.sub2 {k m : Nat} {p q : Rat} (hp : SmQ k p) (hq : SmQ m q) : SmQ (k + m + 1) (p - q) := by
  rw [Rat.sub_eq_add_neg]
  exact hp.add2 hq.neg
theorem trim_len {p : List Rat} {m : Nat} (hp : trimQ p = p) (h : ∀ i, m ≤ i → cf p i = 0) : p.length ≤ m := by
  by_cases hl : p.length ≤ m
  · exact hl
  · exfalso
    exact trim_last hp (by intro e; rw [e] at hl; simp at hl) (h _ (by omega))
theorem mono_cf (n : Nat) (a : Rat) (i : Nat) : cf (trimQ (upR n [a])) i = if i = n then a else 0 := by rw [cf_trim, cf_term]
theorem mono_len (n : Nat) (a : Rat) : (trimQ (upR n [a])).length ≤ n + 1 := len_term n a
theorem ev_mono (n : Nat) (a : Rat) (x : Rat) : ev (trimQ (upR n [a])) x = x ^ n * a := by
  rw [ev_trim, ev_upR]
  show x ^ n * (a + x * 0) = _
  grind
theorem mono_mul (n : Nat) (a : Rat) (q : List Rat) (i : Nat) : cf (mulQ (trimQ (upR n [a])) q) i = if n ≤ i then a * cf q (i - n) else 0 := by
  have e : mulQ (trimQ (upR n [a])) q = trimQ (scaleR a (upR n q)) := by
    rw [← mulQ_trim]
    refine ev_inj fun x => ?_
    rw [ev_mulQ, ev_mono, ev_scaleR, ev_upR]
    grind
  rw [e, cf_trim, cf_scaleR, cf_upR]
  split
  · exact Rat.mul_comm _ _
  · exact Rat.zero_mul _
theorem mono_at {M qs : List Rat} {n : Nat} (hM : ∀ i, i ≠ n → cf M i = 0) (N : Nat) : ∀ i k, cf (mulAt M qs N i) k = 0 ∨ cf (mulAt M qs N i) k = cf M n * cf qs (k - n) ∧ n < i := by
  intro i
  induction i with
  | zero => intro k; left; rw [mulAt, cf_replicate]
  | succ i ih =>
    intro k
    rw [mulAt]
    by_cases hi : i = n
    · subst hi
      have h0 : cf (mulAt M qs N i) k = 0 := by
        rcases ih k with h | ⟨_, h⟩
        · exact h
        · omega
      rcases cf_addAt_or (mulAt M qs N i) i (cf M i) qs qs.length k with e | e
      · left; rw [e, h0]
      · right; exact ⟨by rw [e, h0, Rat.zero_add], by omega⟩
    · have he : cf (addAt (mulAt M qs N i) i (cf M i) qs qs.length) k = cf (mulAt M qs N i) k := by
        rcases cf_addAt_or (mulAt M qs N i) i (cf M i) qs qs.length k with e | e
        · exact e
        · rw [e, hM i hi, Rat.zero_mul, Rat.add_zero]
      rw [he]
      rcases ih k with h | ⟨h, h2⟩
      · exact Or.inl h
      · exact Or.inr ⟨h, by omega⟩
theorem mono_ok {M qs : List Rat} {n : Nat} (hM : ∀ i, i ≠ n → cf M i = 0) (hs : ∀ j, Sq (cf M n * cf qs j)) : M3.TimesOk M qs := by
  have h0 : Sq 0 := Sq.of (k := 1) (SmQ.zero 1 (by omega)) (by omega)
  refine ⟨fun i j => ?_, fun N i j k => ?_⟩
  · by_cases hi : i = n
    · rw [hi]; exact hs j
    · rw [hM i hi, Rat.zero_mul]; exact h0
  · have h1 : Sq (cf (mulAt M qs N i) k) := by
      rcases mono_at hM N i k with h | ⟨h, _⟩
      · rw [h]; exact h0
      · rw [h]; exact hs _
    rcases cf_addAt_or (mulAt M qs N i) i (cf M i) qs j k with e | e
    · rw [e]; exact h1
    · by_cases hi : i = n
      · have h2 : cf (mulAt M qs N i) k = 0 := by
          rcases mono_at hM N i k with h | ⟨_, h⟩
          · exact h
          · omega
        rw [e, h2, hi, Rat.zero_add]; exact hs _
      · rw [e, hM i hi, Rat.zero_mul, Rat.add_zero]; exact h1

/-- What a division has come to behind k steps: the rest R, the quotient Q. -/
def DivAt (A la : Nat) (ps qs R Q : List Rat) (k : Nat) : Prop :=
  trimQ R = R ∧ trimQ Q = Q ∧ k + R.length ≤ la ∧ Q.length ≤ la ∧ (∀ x, ev ps x = ev qs x * ev Q x + ev R x) ∧ (∀ i, i + qs.length ≤ R.length → cf Q i = 0) ∧
    ∃ z, z + (2 * A + 1) ≤ 2 ^ k * (3 * A + 1) ∧ (∀ i, SmQ z (cf R i)) ∧ ∀ i, SmQ (z + A) (cf Q i)
theorem DivAt.start {A : Nat} {ps qs : List Rat} (hA : 1 ≤ A) (ht : trimQ ps = ps) (hp : ∀ i, SmQ A (cf ps i)) : DivAt A ps.length ps qs ps [] 0 := by
  refine ⟨ht, rfl, by omega, by simp, fun x => ?_, fun i _ => cf_nil i, A, by omega, hp, fun i => ?_⟩
  · show _ = ev qs x * 0 + _
    grind
  · rw [cf_nil]; exact SmQ.zero _ (by omega)
theorem DivAt.sizes {A la : Nat} {ps qs R Q : List Rat} {k : Nat} (h : DivAt A la ps qs R Q k) (hL : 2 ^ la * (3 * A + 1) ≤ 1000000) : Sqs R ∧ Sqs Q ∧ ∃ z, z + (2 * A + 1) ≤ 1000000 ∧ (∀ i, SmQ z (cf R i)) := by
  obtain ⟨_, _, h3, _, _, _, z, h7, h8, h9⟩ := h
  have h1 : 2 ^ k * (3 * A + 1) ≤ 2 ^ la * (3 * A + 1) := Nat.mul_le_mul_right _ (Nat.pow_le_pow_right (by omega) (by omega))
  exact ⟨Sqs.of fun i => Sq.of (h8 i) (by omega), Sqs.of fun i => Sq.of (h9 i) (by omega), z, by omega, h8⟩
theorem sub_shorter {qs R : List Rat} {n : Nat} {a : Rat} (htq : trimQ qs = qs) (hq0 : qs ≠ []) (hl : qs.length ≤ R.length) (hn : n = R.length - qs.length)
    (ha : a = cf R (R.length - 1) / cf qs (qs.length - 1)) : (subQ R (mulQ (trimQ (upR n [a])) qs)).length ≤ R.length - 1 := by
  have hql : 0 < qs.length := List.length_pos_iff.2 hq0
  have hlead := trim_last htq hq0
  refine trim_len (subQ_trim _ _) fun i hi => ?_
  rw [cf_subQ, mono_mul]
  by_cases e : i = R.length - 1
  · rw [if_pos (by omega), e, show R.length - 1 - n = qs.length - 1 from by omega, ha, Rat.div_mul_cancel hlead, Rat.sub_self]
  · rw [cf_ge (p := R) (by omega), if_pos (by omega), cf_ge (p := qs) (by omega), Rat.mul_zero, Rat.sub_self]
/-- One step. -/
theorem DivAt.next {A la : Nat} {ps qs R Q : List Rat} {k n : Nat} {a : Rat} (h : DivAt A la ps qs R Q k) (hq : ∀ i, SmQ A (cf qs i)) (htq : trimQ qs = qs) (hq0 : qs ≠ []) (hl : qs.length ≤ R.length) (hn : n = R.length - qs.length)
    (ha : a = cf R (R.length - 1) / cf qs (qs.length - 1)) : DivAt A la ps qs (subQ R (mulQ (trimQ (upR n [a])) qs)) (addQ Q (trimQ (upR n [a]))) (k + 1) := by
  obtain ⟨h1, h2, h3, h4, h5, h6, z, h7, h8, h9⟩ := h
  have hql : 0 < qs.length := List.length_pos_iff.2 hq0
  have hlead := trim_last htq hq0
  have hcR : ∀ i, cf (subQ R (mulQ (trimQ (upR n [a])) qs)) i = cf R i - (if n ≤ i then a * cf qs (i - n) else 0) := fun i => by rw [cf_subQ, mono_mul]
  have hcQ : ∀ i, cf (addQ Q (trimQ (upR n [a]))) i = if i = n then a else cf Q i := fun i => by
    rw [cf_addQ, mono_cf]
    split
    · rename_i e; rw [e, h6 n (by omega), Rat.zero_add]
    · exact Rat.add_zero _
  have hlen := sub_shorter htq hq0 hl hn ha
  have hsa : SmQ (z + A) a := by rw [ha]; exact (h8 _).div2 (hq _) hlead
  refine ⟨subQ_trim _ _, addQ_trim _ _, by omega, trim_len (addQ_trim _ _) (fun i hi => ?_), fun x => ?_, fun i hi => ?_, 2 * z + (2 * A + 1), ?_, fun i => ?_, fun i => ?_⟩
  · rw [hcQ, if_neg (by omega), cf_ge (by omega)]
  · rw [ev_addQ, ev_subQ, ev_mulQ, ev_mono, h5 x]
    grind
  · rw [hcQ, if_neg (by omega)]
    exact h6 i (by omega)
  · rw [Nat.pow_succ, Nat.mul_comm (2 ^ k) 2, Nat.mul_assoc]; omega
  · rw [hcR]
    split
    · exact ((h8 i).sub2 (hsa.mul2 (hq _))).mono (by omega)
    · rw [Rat.sub_eq_add_neg, Rat.neg_zero, Rat.add_zero]; exact (h8 i).mono (by omega)
  · rw [hcQ]
    split
    · exact hsa.mono (by omega)
    · exact (h9 i).mono (by omega)
/-- At the end. -/
theorem DivAt.done {A la : Nat} {ps qs R Q : List Rat} {k : Nat} (h : DivAt A la ps qs R Q k) (htq : trimQ qs = qs) (hq0 : qs ≠ []) (hl : R.length < qs.length) : Q = quoQ ps qs ∧ R = remQ ps qs := by
  obtain ⟨h1, h2, _, _, h5, _⟩ := h
  obtain ⟨g1, g2, g3, g4⟩ := split_ok ps qs htq hq0
  exact split_unique htq hq0 h2 g3 h1 g4 hl g2 (fun x => by rw [← h5 x, ← g1 x])
end Go.Proofs.YteldjhhjnchdeaaGreatDoor
