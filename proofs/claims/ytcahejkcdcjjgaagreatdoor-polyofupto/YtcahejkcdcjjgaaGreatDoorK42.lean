import Derived.Test.YtcahejkcdcjjgaaGreatDoorK39
import Derived.Defers
import Derived.Recover
import Derived.Test.YtcahejkcdcjjgaaGreatDoorK40
import Derived.Test.YtcahejkcdcjjgaaGreatDoorK29
import Derived.Test.YtcahejkcdcjjgaaGreatDoorK41
namespace Go.Proofs.YtcahejkcdcjjgaaGreatDoor
open Go.RowKit Go.Shelf

set_option maxRecDepth 100000 in
set_option maxHeartbeats 4000000 in
theorem catch_idle (p q : Addr) (w : World) :
    CallsD Tryz.prog 89 #[.pointer (some p), .pointer (some q)] .returning w fun e u' w' => e = .returned (.tuple #[]) ∧ u' = .returning ∧ w' = w.alloc (.cells #[.int .i64 0, .int .i64 0] 77) := by
  have hta : ∀ w : World, (Instr.typeAssert Value.nilIface 20 77 true).run Tryz.prog w = .ok (.tuple #[.agg #[.int .i64 0, .int .i64 0], .bool false]) w := fun _ => by kernel_rfl
  refine callsD_of_wpS Tryz.func89 rfl fun c₀ cs hu => ?_
  apply wpS_seq
  apply wpS_region
  simp [wpOpsS, go_sem, recoverD, hu, Tryz.ntmps89, Exit.thenS, hta]
  apply wpS_seq
  apply wpS_region
  simp [wpOpsS, go_sem, Exit.thenS]
  refine wpS_cond (t := false) (by simp [Act.eval, Array.replicate]) ?_
  simp only [Bool.false_eq_true, if_false]
  refine wpS_of_wp (wp_skip ?_)
  cases c₀
  simp_all [bodyPostS, results, Tryz.results89]

set_option maxRecDepth 100000 in
set_option maxHeartbeats 4000000 in
theorem catch_fault (p q : Nat) (e0 p0 : Int) (w : World) (bp : Boxed w p 25 (.slice none 0 0)) (bq : Box2 w q 77 (.int .i64 0) (.int .i64 0)) (hne : p ≠ q) :
    CallsD Tryz.prog 89 #[.pointer (some ⟨p, 0, none⟩), .pointer (some ⟨q, 0, none⟩)] (.panicking [{ v := faultV e0 p0, recovered := false }]) w fun e u' w' => e = .returned (.tuple #[]) ∧ u' = .panicking [{ v := faultV e0 p0, recovered := true }] ∧ Boxed w' p 25 (.slice none 0 0) ∧ Box2 w' q 77 (.int .i64 e0) (.int .i64 p0) ∧ ∀ n w0, Below n w0 w → n ≤ w.heap.size → n ≤ p → n ≤ q → Below n w0 w' := by
  unfold faultV
  have hta : ∀ w : World, (Instr.typeAssert (.iface 77 (.agg #[.int .i64 e0, .int .i64 p0])) 20 77 true).run Tryz.prog w = .ok (.tuple #[.agg #[.int .i64 e0, .int .i64 p0], .bool true]) w := fun _ => by kernel_rfl
  refine callsD_of_wpS Tryz.func89 rfl fun c₀ cs hu => ?_
  apply wpS_seq
  apply wpS_region
  simp [wpOpsS, go_sem, recoverD, hu, Tryz.ntmps89, Exit.thenS, hta]
  apply wpS_seq
  apply wpS_region
  simp [wpOpsS, go_sem, Exit.thenS]
  refine wpS_cond (t := true) (by simp [Act.eval, Array.replicate]) ?_
  simp only [if_true]
  refine wpS_of_wp ?_
  simp [Array.replicate]
  have n0 := Box2.new w 77 (.int .i64 e0) (.int .i64 p0)
  have bp1 := bp.alloc (.cells #[.int .i64 e0, .int .i64 p0] 77)
  have bq1 := bq.alloc (.cells #[.int .i64 e0, .int .i64 p0] 77)
  have hpD : p ≠ w.heap.size := by have := bp.lt; omega
  have hqD : q ≠ w.heap.size := by have := bq.lt; omega
  have HB := hidD (fun (n : Nat) (w0 : World) (h : Below n w0 w) (hn : n ≤ w.heap.size) => h.alloc hn (.cells #[.int .i64 e0, .int .i64 p0] 77))
  obtain ⟨W, hW⟩ : ∃ W, w.alloc (.cells #[.int .i64 e0, .int .i64 p0] 77) = W := ⟨_, rfl⟩
  rw [hW] at n0 bp1 bq1 HB
  rw [hW]
  obtain ⟨D, hD⟩ : ∃ D, w.heap.size = D := ⟨_, rfl⟩
  rw [hD] at n0 hpD hqD HB
  rw [hD]
  clear hW bp bq hta hu
  have d0 := n0.c0
  have d1 := n0.c1
  have x0 := bp1.cell
  have x1 := bp1.frozen
  have y0 := bq1.c0
  have y1 := bq1.c1
  have z0 := bq1.f0
  have z1 := bq1.f1
  have HX := hidD bp1
  have HY := hidD bq1
  clear bp1 bq1 n0
  go_region
  have hX : Boxed (((W.setCell ⟨p, 0, none⟩ (.slice none 0 0)).setCell ⟨q, 0, none⟩ (.int .i64 e0)).setCell ⟨q, 1, none⟩ (.int .i64 p0)).drew p 25 (.slice none 0 0) :=
    (Below.heap_setCell _ ⟨q, 1, none⟩ (.int .i64 p0) p hne).trans ((Below.heap_setCell _ ⟨q, 0, none⟩ (.int .i64 e0) p hne).trans (HX.out.set (.slice none 0 0)))
  have hY : Box2 (((W.setCell ⟨p, 0, none⟩ (.slice none 0 0)).setCell ⟨q, 0, none⟩ (.int .i64 e0)).setCell ⟨q, 1, none⟩ (.int .i64 p0)).drew q 77 (.int .i64 e0) (.int .i64 p0) :=
    (((HY.out.far (p := ⟨p, 0, none⟩) (fun e => hne e.symm) _).set0 _).set1 _).drew
  have hZ : ∀ n w0, Below n w0 w → n ≤ D → n ≤ p → n ≤ q → Below n w0 (((W.setCell ⟨p, 0, none⟩ (.slice none 0 0)).setCell ⟨q, 0, none⟩ (.int .i64 e0)).setCell ⟨q, 1, none⟩ (.int .i64 p0)).drew :=
    fun n w0 h hn h1 h2 => ((((HB.out n w0 h hn).setCell (p := ⟨p, 0, none⟩) h1 _).setCell (p := ⟨q, 0, none⟩) h2 _).setCell (p := ⟨q, 1, none⟩) h2 _).drew
  generalize (((W.setCell ⟨p, 0, none⟩ (.slice none 0 0)).setCell ⟨q, 0, none⟩ (.int .i64 e0)).setCell ⟨q, 1, none⟩ (.int .i64 p0)).drew = V at hX hY hZ ⊢
  simp [bodyPostS, results, Tryz.results89]
  exact ⟨hX, hY, hZ⟩

set_option maxRecDepth 100000 in
set_option maxHeartbeats 4000000 in
theorem yread_bad (s : ByteArray) (e0 q0 : Int) (w : World) (hP : ∀ V R, RcB V R s 0 → Calls Tryz.prog 90 #[.pointer (some ⟨R, 0, none⟩)] V fun r w' => V.grownBy w' (some R) ∧ r = .panicked [{ v := faultV e0 q0, recovered := false }]) :
    Calls Tryz.prog 44 #[.string s] w fun r w' => r = .returned (.tuple #[.agg #[.slice none 0 0], .agg #[.int .i64 e0, .int .i64 q0]]) ∧ Below w.heap.size w w' := by
  have hmf : ∀ (fn : Fn) (first cap : Array Value) (w : World), (Instr.makeFunc fn first cap).run Tryz.prog w = .ok (.func fn first cap) w := fun _ _ _ _ => rfl
  have HP := hidD hP
  clear hP
  go_enter_defers Tryz.func44, Tryz.ntmps44
  go_upto_region 3 with fail
  have h0 := Boxed.new w 25 (.slice none 0 0)
  have h1 := Box2.new (w.alloc (.cells #[.slice none 0 0] 25)) 77 (.int .i64 0) (.int .i64 0)
  have h2 : RcB (((w.alloc (.cells #[.slice none 0 0] 25)).alloc (.cells #[.int .i64 0, .int .i64 0] 77)).alloc (.cells #[.string s, .int .i64 0] 124)) ((w.alloc (.cells #[.slice none 0 0] 25)).alloc (.cells #[.int .i64 0, .int .i64 0] 77)).heap.size s 0 := World.alloc_heap_new _ _
  rw [World.size_alloc, World.size_alloc] at h2
  rw [World.size_alloc] at h1
  replace h0 := (h0.alloc (.cells #[.int .i64 0, .int .i64 0] 77)).alloc (.cells #[.string s, .int .i64 0] 124)
  replace h1 := h1.alloc (.cells #[.string s, .int .i64 0] 124)
  have hb : Below w.heap.size w (((w.alloc (.cells #[.slice none 0 0] 25)).alloc (.cells #[.int .i64 0, .int .i64 0] 77)).alloc (.cells #[.string s, .int .i64 0] 124)) := (((Below.refl _ w).alloc (Nat.le_refl _) _).alloc (by rw [World.size_alloc]; omega) _).alloc (by rw [World.size_alloc, World.size_alloc]; omega) _
  have hz : (((w.alloc (.cells #[.slice none 0 0] 25)).alloc (.cells #[.int .i64 0, .int .i64 0] 77)).alloc (.cells #[.string s, .int .i64 0] 124)).heap.size = w.heap.size + 1 + 1 + 1 := by rw [World.size_alloc, World.size_alloc, World.size_alloc]
  obtain ⟨V, hV⟩ : ∃ V, ((w.alloc (.cells #[.slice none 0 0] 25)).alloc (.cells #[.int .i64 0, .int .i64 0] 77)).alloc (.cells #[.string s, .int .i64 0] 124) = V := ⟨_, rfl⟩
  rw [hV] at h0 h1 h2 hb hz
  rw [hV]
  have H0 := hidD h0
  have H1 := hidD h1
  have HB := hidD hb
  have HC := hidD (HP.out _ _ h2)
  clear h0 h1 h2 hb hV HP hz
  go_wp2_with (go_at_call 90; refine HC.out.mono ?_; rintro e w1 ⟨hg1, rfl⟩; have HG := hidD hg1; clear hg1)
  have hp1 : Boxed w1 w.heap.size 25 (.slice none 0 0) := H0.out.kept HG.out (fun e => by have := Option.some.inj e; omega)
  have hq1 : Box2 w1 (w.heap.size + 1) 77 (.int .i64 0) (.int .i64 0) := (HG.out.block _ H1.out.lt (fun e => by have := Option.some.inj e; omega)).trans H1.out
  have hB1 : Below w.heap.size w w1 := HB.out.grown HG.out HB.out.size (fun k e => by have := Option.some.inj e; omega)
  refine leaves_cons (f := 89) (args := #[.pointer (some ⟨w.heap.size, 0, none⟩), .pointer (some ⟨w.heap.size + 1, 0, none⟩)]) (by simp) (by simp [go_sem]) ?_
  refine (catch_fault w.heap.size (w.heap.size + 1) e0 q0 _ hp1 hq1 (by omega)).mono ?_
  rintro e u' w2 ⟨rfl, rfl, h3, h4, h5⟩
  have h6 := h5 _ _ hB1 hB1.size (Nat.le_refl _) (by omega)
  have x0 := h3.cell
  have y0 := h4.c0
  have y1 := h4.c1
  simp [Leaves, settle, results, Tryz.results44, go_sem, x0, y0, y1]
  exact h6

theorem row_other {W W' : World} {F : Nat} {cs : Array Value} {t : TypeId} {m : Nat × Nat} (hF : W.heap[F]? = some (.cells cs t m)) (ht : t = 77) (hg : W.grownBy W' (some F)) : ∀ k v ds, Row k W v ds → Row k W' v ds := by
  intro k v ds hr
  obtain ⟨a, cap, e, _⟩ := id hr
  subst e
  refine hr.grown hg (fun p ep hl => ?_)
  obtain ⟨b, off, ea, cs', m', hb⟩ := hr.typ hl
  rw [ea] at ep
  cases ep
  intro e
  subst e
  have := hb.symm.trans hF
  simp only [Option.some.injEq, Obj.cells.injEq] at this
  subst ht
  have h2 := this.2.1
  revert h2
  cases k <;> (show ¬ (_ = _); decide)
theorem rowK_other {W W' : World} {F : Nat} {cs : Array Value} {t : TypeId} {m : Nat × Nat} (hF : W.heap[F]? = some (.cells cs t m)) (ht : t = 77) (hg : W.grownBy W' (some F)) {r : Bool} {v : Value} {qs : List Rat} (h : RowK r W v qs) : RowK r W' v qs := by
  obtain ⟨a, cap, e, h1, h2, h3, h4⟩ := h
  refine ⟨a, cap, e, h1, h2, h3, ?_⟩
  rcases h4 with h4 | ⟨b, ea, h5⟩
  · exact Or.inl h4
  · refine Or.inr ⟨b, ea, h5.keep (hg.block b h5.lt (fun e => ?_)) (row_other hF ht hg)⟩
    obtain ⟨cs', g1, _⟩ := h5
    have e := Option.some.inj e
    subst e
    have := g1.symm.trans hF
    simp only [Option.some.injEq, Obj.cells.injEq] at this
    subst ht
    have h2 := this.2.1
    revert h2
    cases r <;> (show ¬ (_ = _); decide)

set_option maxRecDepth 100000 in
set_option maxHeartbeats 4000000 in
theorem yread_ok (s : ByteArray) (ps : List Rat) (w : World) (hP : ∀ V R, RcB V R s 0 → Calls Tryz.prog 90 #[.pointer (some ⟨R, 0, none⟩)] V fun r w' => V.grownBy w' (some R) ∧ ∃ u, r = .returned u ∧ IsPoly w' u ps) :
    Calls Tryz.prog 44 #[.string s] w fun r w' => ∃ u, r = .returned (.tuple #[u, .agg #[.int .i64 0, .int .i64 0]]) ∧ IsPoly w' u ps ∧ Below w.heap.size w w' := by
  have hmf : ∀ (fn : Fn) (first cap : Array Value) (w : World), (Instr.makeFunc fn first cap).run Tryz.prog w = .ok (.func fn first cap) w := fun _ _ _ _ => rfl
  have HP := hidD hP
  clear hP
  go_enter_defers Tryz.func44, Tryz.ntmps44
  go_upto_region 3 with fail
  have h0 := Boxed.new w 25 (.slice none 0 0)
  have h1 := Box2.new (w.alloc (.cells #[.slice none 0 0] 25)) 77 (.int .i64 0) (.int .i64 0)
  have h2 : RcB (((w.alloc (.cells #[.slice none 0 0] 25)).alloc (.cells #[.int .i64 0, .int .i64 0] 77)).alloc (.cells #[.string s, .int .i64 0] 124)) ((w.alloc (.cells #[.slice none 0 0] 25)).alloc (.cells #[.int .i64 0, .int .i64 0] 77)).heap.size s 0 := World.alloc_heap_new _ _
  rw [World.size_alloc, World.size_alloc] at h2
  rw [World.size_alloc] at h1
  replace h0 := (h0.alloc (.cells #[.int .i64 0, .int .i64 0] 77)).alloc (.cells #[.string s, .int .i64 0] 124)
  replace h1 := h1.alloc (.cells #[.string s, .int .i64 0] 124)
  have hb : Below w.heap.size w (((w.alloc (.cells #[.slice none 0 0] 25)).alloc (.cells #[.int .i64 0, .int .i64 0] 77)).alloc (.cells #[.string s, .int .i64 0] 124)) := (((Below.refl _ w).alloc (Nat.le_refl _) _).alloc (by rw [World.size_alloc]; omega) _).alloc (by rw [World.size_alloc, World.size_alloc]; omega) _
  have hz : (((w.alloc (.cells #[.slice none 0 0] 25)).alloc (.cells #[.int .i64 0, .int .i64 0] 77)).alloc (.cells #[.string s, .int .i64 0] 124)).heap.size = w.heap.size + 1 + 1 + 1 := by rw [World.size_alloc, World.size_alloc, World.size_alloc]
  obtain ⟨V, hV⟩ : ∃ V, ((w.alloc (.cells #[.slice none 0 0] 25)).alloc (.cells #[.int .i64 0, .int .i64 0] 77)).alloc (.cells #[.string s, .int .i64 0] 124) = V := ⟨_, rfl⟩
  rw [hV] at h0 h1 h2 hb hz
  rw [hV]
  have H0 := hidD h0
  have H1 := hidD h1
  have HB := hidD hb
  have HC := hidD (HP.out _ _ h2)
  clear h0 h1 h2 hb hV HP hz
  go_wp2_with (go_at_call 90; refine HC.out.mono ?_; rintro e w1 ⟨hg1, u1, rfl, hu1⟩; have HG := hidD hg1; obtain ⟨a9, l9, c9, rfl⟩ := hu1.form; have HU := hidD hu1.row; have hp1 : Boxed w1 w.heap.size 25 (.slice none 0 0) := H0.out.kept HG.out (fun e => by have := Option.some.inj e; omega); have hq1 : Box2 w1 (w.heap.size + 1) 77 (.int .i64 0) (.int .i64 0) := (HG.out.block _ H1.out.lt (fun e => by have := Option.some.inj e; omega)).trans H1.out; have x0 := hp1.cell; have x1 := hp1.frozen; have y0 := hq1.c0; have y1 := hq1.c1; have z0 := hq1.f0; have z1 := hq1.f1; have H2 := hidD hp1; have H3 := hidD hq1; clear hg1 hu1 hp1 hq1)
  have hne : w.heap.size + 1 ≠ w.heap.size := by omega
  have hB1 : Below w.heap.size w w1 := HB.out.grown HG.out HB.out.size (fun k e => by have := Option.some.inj e; omega)
  have a1 := H2.out.set (.slice a9 l9 c9)
  have a2 := boxP H2.out (.slice a9 l9 c9) HU.out
  have a3 := H3.out.far (p := ⟨w.heap.size, 0, none⟩) hne (.slice a9 l9 c9)
  have a4 := hB1.setCell (p := ⟨w.heap.size, 0, none⟩) (Nat.le_refl _) (.slice a9 l9 c9)
  generalize w1.setCell ⟨w.heap.size, 0, none⟩ (.slice a9 l9 c9) = W2 at a1 a2 a3 a4 ⊢
  have b1 := (Below.heap_setCell W2 ⟨w.heap.size + 1, 0, none⟩ (.int .i64 0) w.heap.size (fun e => hne e.symm)).trans a1
  have b2 := rowK_other a3 rfl (grown_set W2 (w.heap.size + 1) 0 (.int .i64 0)) a2
  have b3 := a3.set0 (.int .i64 0)
  have b4 := a4.setCell (p := ⟨w.heap.size + 1, 0, none⟩) (by show _ ≤ w.heap.size + 1; omega) (.int .i64 0)
  generalize W2.setCell ⟨w.heap.size + 1, 0, none⟩ (.int .i64 0) = W3 at b1 b2 b3 b4 ⊢
  have d1 := (Below.heap_setCell W3 ⟨w.heap.size + 1, 1, none⟩ (.int .i64 0) w.heap.size (fun e => hne e.symm)).trans b1
  have d2 := rowK_other b3 rfl (grown_set W3 (w.heap.size + 1) 1 (.int .i64 0)) b2
  have d3 := b3.set1 (.int .i64 0)
  have d4 := b4.setCell (p := ⟨w.heap.size + 1, 1, none⟩) (by show _ ≤ w.heap.size + 1; omega) (.int .i64 0)
  generalize W3.setCell ⟨w.heap.size + 1, 1, none⟩ (.int .i64 0) = W4 at d1 d2 d3 d4 ⊢
  refine leaves_cons (f := 89) (args := #[.pointer (some ⟨w.heap.size, 0, none⟩), .pointer (some ⟨w.heap.size + 1, 0, none⟩)]) (by simp) (by simp [go_sem]) ?_
  refine (catch_idle ⟨w.heap.size, 0, none⟩ ⟨w.heap.size + 1, 0, none⟩ _).mono ?_
  rintro e u' w2 ⟨rfl, rfl, rfl⟩
  have e1 : Boxed W4 w.heap.size 25 (.slice a9 l9 c9) := d1
  have f1 := (e1.alloc (.cells #[.int .i64 0, .int .i64 0] 77)).cell
  have f2 := (d3.alloc (.cells #[.int .i64 0, .int .i64 0] 77)).c0
  have f3 := (d3.alloc (.cells #[.int .i64 0, .int .i64 0] 77)).c1
  have f4 := d4.alloc d4.size (.cells #[.int .i64 0, .int .i64 0] 77)
  have f5 := d2.below ((Below.refl _ W4).alloc (Nat.le_refl _) (.cells #[.int .i64 0, .int .i64 0] 77))
  generalize W4.alloc (.cells #[.int .i64 0, .int .i64 0] 77) = W5 at f1 f2 f3 f4 f5 ⊢
  simp [Leaves, settle, results, Tryz.results44, go_sem, f1, f2, f3]
  exact ⟨⟨_, rfl, f5⟩, f4⟩
end Go.Proofs.YtcahejkcdcjjgaaGreatDoor
namespace Go.Proofs.YtcahejkcdcjjgaaGreatDoor
open Go.RowKit Go.Shelf

attribute [local go_sem] Oper.semAt_some

theorem sumS_sums {l : List UInt8} : ∀ (f : Nat) (b : Bool) (I m : Nat) (S S' : List Rat) (k : Nat), I ≤ l.length → m ≤ I → SumsAt S m → sumS l f b I S = .ok S' k → ∃ m', m' ≤ l.length ∧ SumsAt S' m' := by
  intro f
  induction f with
  | zero => intro b I m S S' k _ _ _ h; cases h
  | succ f ih =>
    intro b I m S S' k hI hm hS h
    cases ht : termS l I with
    | bad e p => rw [sumS_bad ht] at h; cases h
    | ok a k5 =>
      obtain ⟨c, n⟩ := a
      have h1 := termS_lt hI ht
      have h2 := hS.next (termS_frac hI ht) h1.2.2 b
      have h3 := skB_ge l k5
      have h4 := skB_le h1.2.1
      rw [sumS_ok ht] at h
      split at h
      · rename_i h5; have := isAt_lt h5; exact ih _ _ (m + 1) _ _ _ (by omega) (by omega) h2 h
      · split at h
        · rename_i h5; have := isAt_lt h5; exact ih _ _ (m + 1) _ _ _ (by omega) (by omega) h2 h
        · split at h
          · cases h; exact ⟨m + 1, by omega, h2⟩
          · cases h
theorem totS_sums {l : List UInt8} {S : List Rat} {k : Nat} (h : totS l = .ok S k) : ∃ m, m ≤ l.length ∧ SumsAt S m := by
  unfold totS at h
  have h4 := skB_le (l := l) (i := 0) (by omega)
  split at h
  · rename_i h5; have := isAt_lt h5; exact sumS_sums _ _ _ 0 _ _ _ (by omega) (by omega) SumsAt.start h
  · exact sumS_sums _ _ _ 0 _ _ _ h4 (by omega) SumsAt.start h
theorem parseP_small (l : List UInt8) : (parseP l).1.length ≤ 9 ∧ ∀ i, SmQ 601 (cf (parseP l).1 i) := by
  by_cases h : 300 < l.length
  · rw [show parseP l = ([], 1, 0) by unfold parseP; rw [if_pos h]]
    exact ⟨by simp, fun i => by rw [cf_nil]; exact SmQ.zero _ (by omega)⟩
  · rw [parseP_eq h]
    cases ht : totS l with
    | bad e p => exact ⟨by simp [finS], fun i => by rw [show (finS (Rd.bad (α := List Rat) e p)).1 = [] from rfl, cf_nil]; exact SmQ.zero _ (by omega)⟩
    | ok S k =>
      obtain ⟨m, hm, hs⟩ := totS_sums ht
      rw [show (finS (Rd.ok S k)).1 = trimQ S from rfl]
      exact ⟨Nat.le_trans (trim_length_le _) (by rw [hs.1]; exact Nat.le_refl _), fun i => by rw [cf_trim]; exact (hs.2 i).mono (by omega)⟩

/-- What the code's Parse hands back. -/
def ParC (l : List UInt8) (w' : World) (u : Value) (e p : Int) : Prop := e = ((parseP l).2.1 : Int) ∧ p = ((parseP l).2.2 : Int) ∧ IsPoly w' u (parseP l).1

theorem yread_c (s : ByteArray) (hs : s.size ≤ 300) (w : World) :
    Calls Tryz.prog 44 #[.string s] w fun r w' => ∃ u e p, r = .returned (.tuple #[u, .agg #[.int .i64 e, .int .i64 p]]) ∧ ParC (wlst s) w' u e p ∧ Below w.heap.size w w' := by
  have HP := parseP_eq (l := wlst s) (by rw [wlst_len]; omega)
  cases ht : totS (wlst s) with
  | bad e0 q0 =>
    rw [ht] at HP
    refine (yread_bad s e0 q0 w (fun V R hR => (dpoly_c R s V hR hs).mono (fun r w' h => ⟨h.1, h.2.1 _ _ ht⟩))).mono ?_
    rintro r w' ⟨rfl, hb⟩
    refine ⟨_, _, _, rfl, ?_, hb⟩
    rw [ParC, HP]
    exact ⟨rfl, rfl, _, rfl, RowK.nil _ _⟩
  | ok S k =>
    rw [ht] at HP
    refine (yread_ok s (trimQ S) w (fun V R hR => (dpoly_c R s V hR hs).mono (fun r w' h => ⟨h.1, by obtain ⟨u, h1, h2, _⟩ := h.2.2 _ _ ht; exact ⟨u, h1, h2⟩⟩))).mono ?_
    rintro r w' ⟨u, rfl, hu, hb⟩
    refine ⟨_, _, _, rfl, ?_, hb⟩
    rw [ParC, HP]
    exact ⟨rfl, rfl, hu⟩

set_option maxRecDepth 100000 in
set_option maxHeartbeats 4000000 in
theorem yParse_c (s : ByteArray) (w : World) :
    Calls Tryz.prog 9 #[.string s] w fun r w' => ∃ u e p, r = .returned (.tuple #[u, .int .i64 e, .int .i64 p]) ∧ ParC (wlst s) w' u e p ∧ Below w.heap.size w w' := by
  by_cases hlong : 300 < s.size
  · have hlong' : (300 : Int) < (s.size : Int) := by omega
    have HP := hidD (show parseP (wlst s) = ([], 1, 0) by unfold parseP; rw [if_pos (by rw [wlst_len]; exact hlong)])
    clear hlong
    go_enter Tryz.func9, Tryz.ntmps9
    go_wp2
    exact bodyPost_ret (v := .tuple #[.agg #[.slice none 0 0], .int .i64 1, .int .i64 0]) (by simp [results, Tryz.results9, go_sem]) rfl ⟨_, _, _, rfl, by rw [ParC, HP.out]; exact ⟨rfl, rfl, _, rfl, RowK.nil _ _⟩, (Below.refl _ w).alloc (Nat.le_refl _) _⟩
  · have hlong' : ¬ (300 : Int) < (s.size : Int) := by omega
    have HR := hidD (fun (V : World) => yread_c s (by omega) V)
    clear hlong
    go_enter Tryz.func9, Tryz.ntmps9
    go_upto_region 4 with (go_at_call 44; refine (HR.out _).mono ?_; clear HR; rintro e w1 ⟨u1, e1, p1, rfl, hu1, hb1⟩; obtain ⟨a9, l9, c9, rfl⟩ := hu1.2.2.form; have HU := hidD hu1; have HB := hidD hb1; clear hu1 hb1)
    have hw0 : w.heap.size < w1.heap.size := by have := HB.out.size; rw [World.size_alloc] at this; omega
    have q0 : Boxed w1 w.heap.size 25 (.slice none 0 0) := (HB.out.block _ (by rw [World.size_alloc]; omega)).trans (Boxed.new w 25 (.slice none 0 0))
    have hb0 : Below w.heap.size w w1 := ((Below.refl _ w).alloc (Nat.le_refl _) _).trans (HB.out.mono (by rw [World.size_alloc]; omega))
    have h0 := Boxed.new w1 25 (.slice a9 l9 c9)
    have h1 := Box2.new (w1.alloc (.cells #[.slice a9 l9 c9] 25)) 77 (.int .i64 e1) (.int .i64 p1)
    rw [World.size_alloc] at h1
    replace h0 := h0.alloc (.cells #[.int .i64 e1, .int .i64 p1] 77)
    have hA : Below w1.heap.size w1 ((w1.alloc (.cells #[.slice a9 l9 c9] 25)).alloc (.cells #[.int .i64 e1, .int .i64 p1] 77)) := ((Below.refl _ w1).alloc (Nat.le_refl _) _).alloc (by rw [World.size_alloc]; omega) _
    have q1 := (hA.block _ q0.lt).trans q0
    have hb1 := hb0.trans (hA.mono hb0.size)
    have hu1 := HU.out.2.2.row.below hA
    have HUE := hidD (⟨HU.out.1, HU.out.2.1⟩ : e1 = _ ∧ p1 = _)
    have hne1 : w.heap.size ≠ w1.heap.size := by omega
    have hne2 : w.heap.size ≠ w1.heap.size + 1 := by omega
    generalize (w1.alloc (.cells #[.slice a9 l9 c9] 25)).alloc (.cells #[.int .i64 e1, .int .i64 p1] 77) = W2 at h0 h1 hA q1 hb1 hu1 ⊢
    clear hA q0 hb0 HB HU hw0
    obtain ⟨Q, hQ⟩ : ∃ Q, w.heap.size = Q := ⟨_, rfl⟩
    obtain ⟨B, hB⟩ : ∃ B, w1.heap.size = B := ⟨_, rfl⟩
    rw [hB] at h0 h1 hne1 hne2
    rw [hQ] at q1 hne1 hne2
    rw [hB, hQ]
    have q2 : Boxed W2 Q 25 (.slice none 0 0) := q1
    have x0 := h0.cell
    have y0 := h1.c0
    have y1 := h1.c1
    have z0 := q2.cell
    have z1 := q2.frozen
    have HQ2 := hidD q2
    have HQQ := hidD hQ
    have HB1 := hidD hb1
    have HU1 := hidD hu1
    clear h0 h1 q1 q2 hQ hB hb1 hu1
    go_region
    go_wp2_with fail
    have r0 := z0
    refine bodyPost_ret (v := .tuple #[.agg #[.slice a9 l9 c9], .int .i64 e1, .int .i64 p1]) (by simp [results, Tryz.results9, go_sem, r0]) rfl ⟨_, _, _, rfl, ⟨HUE.out.1, HUE.out.2, _, rfl, ?_⟩, ?_⟩
    · exact (boxP HQ2.out (.slice a9 l9 c9) HU1.out).below ((Below.refl _ _).drew)
    · exact (HB1.out.setCell (p := ⟨Q, 0, none⟩) (by rw [HQQ.out]; exact Nat.le_refl _) _).drew
end Go.Proofs.YtcahejkcdcjjgaaGreatDoor
namespace Go.Proofs.YtcahejkcdcjjgaaGreatDoor
open Go.RowKit Go.Shelf

/-! How long texts are, and how great what products need. -/
theorem textQ_len {k : Nat} {q : Rat} (h : SmQ k q) : (textQ q).length ≤ 40 * k + 5 := by
  have h1 := decZ_len q.num
  have h2 := decZ_len (q.den : Int)
  have h3 := h.1.words
  have h4 := h.2.words
  unfold textQ
  split
  · omega
  · rw [List.length_append, List.length_cons]; omega
theorem SmQ.abs {k : Nat} {q : Rat} (h : SmQ k q) : SmQ k (absQ q) := by
  have := absQ_num q
  unfold SmQ Sm at h ⊢
  rw [this.1, this.2]
  exact ⟨by have := h.1; omega, h.2⟩
theorem termL_len {k : Nat} {c : Rat} (h : SmQ k c) {i : Nat} (hi : i < B64) (f : Bool) : (termL c i f).length ≤ 40 * k + 40 := by
  have h1 := textQ_len h.abs
  have h2 := decN_len i
  have h3 : (limbs B64 i).length ≤ 1 := limbs_length_le two_le_B64 (by rw [Nat.pow_one]; exact hi)
  have h4 : (signL c f).length ≤ 1 := by
    unfold signL
    split
    · simp
    · split <;> simp
  have h5 : (coefL c i).length ≤ 40 * k + 5 := by
    unfold coefL
    split
    · simp
    · exact h1
  have h6 : (powL i).length ≤ 23 := by
    unfold powL
    split
    · simp
    · split
      · simp
      · rw [List.length_cons, List.length_cons]; omega
  unfold termL
  rw [List.length_append, List.length_append]
  omega
theorem polyT_len {k : Nat} {ps : List Rat} (h : ∀ i, SmQ k (cf ps i)) (hl : ps.length ≤ B64) : ∀ (d m : Nat), ps.length - m = d → (polyT (ps.drop m) m).length ≤ d * (40 * k + 40) := by
  intro d
  induction d with
  | zero =>
    intro m hm
    rw [List.drop_of_length_le (by omega)]
    simp [polyT]
  | succ d ih =>
    intro m hm
    have ih := ih (m + 1) (by omega)
    rw [polyT_drop ps (by omega : m < ps.length)]
    have h1 := termL_len (h m) (by omega : m < B64) (polyT (ps.drop (m + 1)) (m + 1)).isEmpty
    rw [Nat.add_mul]
    split
    · omega
    · rw [List.length_append]; omega
theorem polyT_ok {ps : List Rat} (h : Sqs ps) (hl : ps.length ≤ 3000000) (m : Nat) : (polyT (ps.drop m) m).length ≤ 140737488355328 := by
  have h1 := polyT_len (fun i => (h.at i).sm) (by unfold B64; omega) _ m rfl
  refine Nat.le_trans h1 (Nat.le_trans (Nat.mul_le_mul_right _ (Nat.sub_le _ _)) (Nat.le_trans (Nat.mul_le_mul_right _ hl) ?_))
  decide
theorem textP_len {k : Nat} {ps : List Rat} (h : ∀ i, SmQ k (cf ps i)) (hl : ps.length ≤ B64) : (textP ps).length ≤ ps.length * (40 * k + 40) + 1 := by
  have h1 := polyT_len h hl _ 0 rfl
  rw [List.drop_zero, Nat.sub_zero] at h1
  unfold textP
  split
  · simp
  · omega

theorem cf_addAt_ge (z : List Rat) (i : Nat) (a : Rat) (q : List Rat) : ∀ (j k : Nat), i + j ≤ k → cf (addAt z i a q j) k = cf z k := by
  intro j
  induction j with
  | zero => intro k _; rfl
  | succ j ih =>
    intro k hk
    rw [addAt]
    by_cases h : i + j < z.length
    · rw [cf_set _ _ _ _ (by rw [addAt_length]; exact h), if_neg (by omega), ih k (by omega)]
    · rw [List.set_eq_of_length_le (by rw [addAt_length]; omega), ih k (by omega)]
theorem cf_addAt_or (z : List Rat) (i : Nat) (a : Rat) (q : List Rat) : ∀ (j k : Nat), cf (addAt z i a q j) k = cf z k ∨ cf (addAt z i a q j) k = cf z k + a * cf q (k - i) := by
  intro j
  induction j with
  | zero => intro k; exact Or.inl rfl
  | succ j ih =>
    intro k
    rw [addAt]
    by_cases h : i + j < z.length
    · rw [cf_set _ _ _ _ (by rw [addAt_length]; exact h)]
      by_cases e : k = i + j
      · subst e
        rw [if_pos rfl, cf_addAt_ge z i a q j (i + j) (Nat.le_refl _)]
        exact Or.inr (by rw [Nat.add_sub_cancel_left])
      · rw [if_neg e]; exact ih k
    · rw [List.set_eq_of_length_le (by rw [addAt_length]; omega)]; exact ih k
theorem mulAt_sm {A : Nat} {ps qs : List Rat} (hp : ∀ i, SmQ A (cf ps i)) (hq : ∀ j, SmQ A (cf qs j)) (n : Nat) : ∀ (i k : Nat), SmQ (min i ps.length * (A + A + 1) + 1) (cf (mulAt ps qs n i) k) := by
  intro i
  induction i with
  | zero => intro k; rw [mulAt, cf_replicate]; exact SmQ.zero _ (by omega)
  | succ i ih =>
    intro k
    rw [mulAt]
    rcases cf_addAt_or (mulAt ps qs n i) i (cf ps i) qs qs.length k with e | e
    · rw [e]; exact (ih k).mono (by have : min i ps.length * (A + A + 1) ≤ min (i + 1) ps.length * (A + A + 1) := Nat.mul_le_mul_right _ (by omega); omega)
    · rw [e]
      by_cases hi : i < ps.length
      · rw [show min (i + 1) ps.length = min i ps.length + 1 from by omega, Nat.add_mul]
        exact ((ih k).add2 ((hp i).mul (hq (k - i)))).mono (by omega)
      · rw [cf_ge (p := ps) (by omega), Rat.zero_mul, Rat.add_zero, show min (i + 1) ps.length = min i ps.length from by omega]
        exact ih k
theorem timesOk_of {A : Nat} {ps qs : List Rat} (hp : ∀ i, SmQ A (cf ps i)) (hq : ∀ j, SmQ A (cf qs j)) (hL : (ps.length + 1) * (A + A + 1) + 1 ≤ 1000000) : M3.TimesOk ps qs := by
  have hle : A + A + 1 ≤ (ps.length + 1) * (A + A + 1) := Nat.le_mul_of_pos_left _ (by omega)
  refine ⟨fun i j => Sq.of ((hp i).mul (hq j)) (by omega), fun n i j k => ?_⟩
  have h1 := mulAt_sm hp hq n i k
  have h2 : min i ps.length * (A + A + 1) ≤ ps.length * (A + A + 1) := Nat.mul_le_mul_right _ (by omega)
  rw [Nat.add_mul] at hL
  rcases cf_addAt_or (mulAt ps qs n i) i (cf ps i) qs j k with e | e
  · rw [e]; exact Sq.of h1 (by omega)
  · rw [e]; exact Sq.of (h1.add2 ((hp i).mul (hq (k - i)))) (by omega)
theorem mulQ_sm {A : Nat} {ps qs : List Rat} (hp : ∀ i, SmQ A (cf ps i)) (hq : ∀ j, SmQ A (cf qs j)) (k : Nat) : SmQ (ps.length * (A + A + 1) + 1) (cf (mulQ ps qs) k) := by
  unfold mulQ
  rw [cf_trim, cf_mulR]
  have h := mulAt_sm hp hq (ps.length + qs.length) ps.length k
  rwa [cf_mulAt _ _ _ _ _ (Or.inr (by omega)), Nat.min_self] at h

/-! What the document's own example comes to. -/
def aliveL : List Rat := [Rat.divInt 1 2, 1]
def aliveS : List Rat := [Rat.divInt 1 4, 1, 1]
theorem alive_parse : parseP [120, 32, 43, 32, 49, 47, 50] = (aliveL, 0, 0) := by decide +kernel
theorem alive_times : mulQ aliveL aliveL = aliveS := by decide +kernel
end Go.Proofs.YtcahejkcdcjjgaaGreatDoor
namespace Go.Proofs.YtcahejkcdcjjgaaGreatDoor
open Go.RowKit Go.Shelf

attribute [local go_sem] Oper.semAt_some

theorem _root_.Go.Boxed.bel {W W' : World} {B : Nat} {t : TypeId} {v : Value} (h : Boxed W B t v) (hb : Below W.heap.size W W') : Boxed W' B t v := (hb.block B h.lt).trans h
theorem alive_text : textP aliveS = [120, 94, 50, 43, 120, 43, 49, 47, 52] := by decide +kernel
theorem aliveL_sm (i : Nat) : SmQ 1 (cf aliveL i) := by
  rcases i with _ | _ | i
  · exact ⟨by show Sm 1 1; unfold Sm B64; decide, by show Sm 1 2; unfold Sm B64; decide⟩
  · exact ⟨by show Sm 1 1; unfold Sm B64; decide, by show Sm 1 1; unfold Sm B64; decide⟩
  · rw [cf_ge (by simp [aliveL])]; exact SmQ.zero 1 (by omega)
theorem aliveL_sqs : Sqs aliveL := Sqs.of fun i => Sq.of (aliveL_sm i) (by omega)
theorem aliveS_sqs : Sqs aliveS := Sqs.of fun i => by rw [← alive_times]; exact Sq.of (mulQ_sm aliveL_sm aliveL_sm i) (by simp [aliveL])

set_option maxRecDepth 100000 in
theorem jnum_c (e : Int) (w : World) : Calls Tryz.prog 12 #[.int .i64 e] w fun r w' => r = .returned (.int .i64 e) ∧ Below w.heap.size w w' := by
  go_enter Tryz.func12, Tryz.ntmps12
  go_wp2
  go_ret
  exact ⟨rfl, Below.refl _ _⟩

set_option maxRecDepth 100000 in
set_option maxHeartbeats 4000000 in
theorem jalive_c (w : World) (htab : Pow10 w) : Calls Tryz.prog 19 #[] w fun r w' => r = .returned (.bool true) ∧ Below w.heap.size w w' := by
  have HT := hidD htab
  have HC := hidD (fun (V : World) => show Calls Tryz.prog 9 #[.string ⟨#[120, 32, 43, 32, 49, 47, 50]⟩] V fun r w' => ∃ u, r = .returned (.tuple #[u, .int .i64 0, .int .i64 0]) ∧ IsPoly w' u aliveL ∧ Below V.heap.size V w' from
    (yParse_c ⟨#[120, 32, 43, 32, 49, 47, 50]⟩ V).mono (fun r w' h => by
      obtain ⟨u, e, p, h1, h2, h3⟩ := h
      rw [ParC, show wlst ⟨#[120, 32, 43, 32, 49, 47, 50]⟩ = [120, 32, 43, 32, 49, 47, 50] from rfl, alive_parse] at h2
      obtain ⟨rfl, rfl, h4⟩ := h2
      exact ⟨u, h1, h4, h3⟩))
  have M := hidD (Below.refl w.heap.size w)
  clear htab
  go_enter Tryz.func19, Tryz.ntmps19
  go_upto_region 2 with (go_at_call 9; refine (HC.out _).mono ?_; clear HC; rintro e w1 ⟨u, rfl, hu, hb⟩; obtain ⟨a1, l1, c1, rfl⟩ := hu.form)
  replace M := hidD (M.out.trans (hb.mono M.out.size))
  have hA : Below w1.heap.size w1 (w1.alloc (.cells #[.slice a1 l1 c1] 25)) := (Below.refl _ w1).alloc (Nat.le_refl _) _
  have nP := Boxed.new w1 25 (.slice a1 l1 c1)
  have rP := hu.below hA
  replace M := hidD (M.out.trans (hA.mono M.out.size))
  clear hA
  obtain ⟨VP, hV⟩ : ∃ V, w1.alloc (.cells #[.slice a1 l1 c1] 25) = V := ⟨_, rfl⟩
  obtain ⟨BP, hB⟩ : ∃ B, w1.heap.size = B := ⟨_, rfl⟩
  rw [hV] at rP M
  rw [hV, hB] at nP
  rw [hV]
  rw [hB]
  clear hV hB
  clear hu hb
  have H1 := hidD (fun (V : World) (h : Below VP.heap.size VP V) => M3.yTimes_c _ _ aliveL aliveL V (rP.below h) (rP.below h) aliveL_sqs aliveL_sqs (timesOk_of aliveL_sm aliveL_sm (by simp [aliveL])) (by simp [aliveL]))
  rw [alive_times] at H1
  have hq : Below VP.heap.size VP VP := Below.refl _ _
  have eP := (nP.bel hq).cell
  go_upto_region 3 with (go_at_call 28; refine (H1.out _ hq).mono ?_; clear H1; rintro e w2 ⟨u, rfl, hu, _, hb⟩; obtain ⟨a2, l2, c2, rfl⟩ := hu.form)
  replace hb := Below.then hq hb
  clear hq eP
  replace nP := nP.bel hb
  replace rP := rP.below hb
  replace M := hidD (M.out.trans (hb.mono M.out.size))
  clear hb
  have hA : Below w2.heap.size w2 (w2.alloc (.cells #[.slice a2 l2 c2] 25)) := (Below.refl _ w2).alloc (Nat.le_refl _) _
  have nQ := Boxed.new w2 25 (.slice a2 l2 c2)
  have rQ := hu.below hA
  replace nP := nP.bel hA
  replace rP := rP.below hA
  replace M := hidD (M.out.trans (hA.mono M.out.size))
  clear hA
  obtain ⟨VQ, hV⟩ : ∃ V, w2.alloc (.cells #[.slice a2 l2 c2] 25) = V := ⟨_, rfl⟩
  obtain ⟨BQ, hB⟩ : ∃ B, w2.heap.size = B := ⟨_, rfl⟩
  rw [hV] at nP rP rQ M
  rw [hV, hB] at nQ
  rw [hV]
  rw [hB]
  clear hV hB
  clear hu
  have H1 := hidD (fun (V : World) (h : Below VQ.heap.size VQ V) => jnum_c 0 V)
  have H2 := hidD (fun (V : World) (h : Below VQ.heap.size VQ V) => yText_c _ aliveS V (rQ.below h) aliveS_sqs (fun m => polyT_ok aliveS_sqs (by simp [aliveS]) m) (tab_below HT.out (M.out.trans (h.mono M.out.size))))
  rw [alive_text] at H2
  have H3 := hidD (fun (V : World) (h : Below VQ.heap.size VQ V) => yDegree_c _ aliveS V (rQ.below h))
  rw [show ((aliveS.length : Int) - 1) = 2 from rfl] at H3
  have hq : Below VQ.heap.size VQ VQ := Below.refl _ _
  have eQ := (nQ.bel hq).cell
  go_wp2_with (first
    | (go_at_call 12; refine (H1.out _ hq).mono ?_; clear H1; rintro e x1 ⟨rfl, hb⟩; replace hq := Below.then hq hb; clear hb eQ; have eQ := (nQ.bel hq).cell)
    | (go_at_call 13; refine (H2.out _ hq).mono ?_; clear H2; rintro e x2 ⟨rfl, hb⟩; replace hq := Below.then hq hb; clear hb eQ; have eQ := (nQ.bel hq).cell)
    | (go_at_call 15; refine (H3.out _ hq).mono ?_; clear H3; rintro e x3 ⟨rfl, hb⟩; replace hq := Below.then hq hb; clear hb eQ; have eQ := (nQ.bel hq).cell))
  go_ret
  exact ⟨rfl, M.out.trans (hq.mono M.out.size)⟩
end Go.Proofs.YtcahejkcdcjjgaaGreatDoor
namespace Go.Proofs.YtcahejkcdcjjgaaGreatDoor
open Go.RowKit Go.Shelf

/-! A polynomial's text is read as that polynomial. -/
theorem skB_at {l : List UInt8} {I : Nat} {t : List UInt8} (h : l.drop I = t) (ht : t.head? ≠ some 32) : skB l I = I := by
  unfold skB runTo
  rw [h]
  cases t with
  | nil => rfl
  | cons a t =>
    rw [List.takeWhile_cons_of_neg (by intro e; exact ht (by rw [beq_iff_eq] at e; rw [e]; rfl))]
    rfl
theorem isAt_at {l : List UInt8} {I : Nat} {t : List UInt8} (h : l.drop I = t) (c : UInt8) : isAt l I c = (t.head? == some c) := by
  unfold isAt
  rw [← h, List.head?_drop]
theorem drop_more {l A B : List UInt8} {I : Nat} (h : l.drop I = A ++ B) : l.drop (I + A.length) = B := by
  rw [← List.drop_drop, h, List.drop_append_of_le_length (Nat.le_refl _), List.drop_length, List.nil_append]
theorem dgE_at {l D Z : List UInt8} {I : Nat} (h : l.drop I = D ++ Z) (hD : D.all isD = true) (hZ : ∀ c, Z.head? = some c → isD c = false) : dgE l I = I + D.length := by
  unfold dgE runTo
  rw [h, List.takeWhile_append_of_pos (fun a ha => List.all_eq_true.1 hD a ha)]
  have : Z.takeWhile isD = [] := by
    cases Z with
    | nil => rfl
    | cons a t => rw [List.takeWhile_cons_of_neg (by rw [hZ a rfl]; decide)]
  rw [this, List.append_nil]
theorem dig_ne {c d : UInt8} (h : isD c = true) (hd : isD d = false) : c ≠ d := fun e => by rw [e, hd] at h; cases h
theorem numS_at {l D Z : List UInt8} {I : Nat} (h : l.drop I = D ++ Z) (hD : D.all isD = true) (h0 : D ≠ []) (hZ : ∀ c, Z.head? = some c → isD c = false) : numS l I = if 12 < D.length then .bad 3 I else .ok (D, I) (I + D.length) := by
  have hs : skB l I = I := skB_at h (by
    cases D with
    | nil => exact absurd rfl h0
    | cons a t =>
      intro e
      have e := Option.some.inj e
      have ha := List.all_eq_true.1 hD a (List.mem_cons_self ..)
      rw [e] at ha
      exact absurd ha (by decide))
  have hl : 0 < D.length := List.length_pos_iff.2 h0
  unfold numS
  rw [hs, dgE_at h hD hZ, if_neg (by omega), Nat.add_sub_cancel_left, h, List.take_left' rfl]
theorem decN_dig (n : Nat) : (decN n).all isD = true ∧ num (decN n) = n ∧ decN n ≠ [] := by
  by_cases h : n = 0
  · subst h; decide
  · obtain ⟨c, t, h1, _, _, h2, h3⟩ := decN_head h
    rw [h1]; exact ⟨h2, h3, by simp⟩
/-- A fraction's text, from 0 up: the digits above, and those below. -/
theorem coefS_at {l Z : List UInt8} {I k : Nat} {q c : Rat} (hq : ¬ q < 0) (h : l.drop I = textQ q ++ Z) (hZ : ∀ c, Z.head? = some c → isD c = false ∧ c ≠ 47 ∧ c ≠ 32) (hr : coefS l I = .ok c k) : c = q ∧ k = I + (textQ q).length := by
  have hn : ¬ q.num < 0 := fun h2 => hq (neg_num.2 h2)
  obtain ⟨a, ha⟩ : ∃ a : Nat, q.num = (a : Int) := ⟨q.num.toNat, by omega⟩
  have hdz : decZ q.num = decN a := by rw [ha]; unfold decZ; rw [if_neg (by omega)]; rfl
  have hdd : decZ (q.den : Int) = decN q.den := by unfold decZ; rw [if_neg (by omega)]; rfl
  obtain ⟨d1, d2, d3⟩ := decN_dig a
  obtain ⟨b1, b2, b3⟩ := decN_dig q.den
  unfold textQ at h ⊢
  by_cases h1 : q.den = 1
  · rw [if_pos h1, hdz] at h ⊢
    have hN := numS_at h d1 d3 (fun c hc => (hZ c hc).1)
    unfold coefS at hr
    rw [hN] at hr
    by_cases h12 : 12 < (decN a).length
    · rw [if_pos h12] at hr; cases hr
    · rw [if_neg h12] at hr
      have hm := drop_more h
      have hs : skB l (I + (decN a).length) = I + (decN a).length := skB_at hm (fun e => (hZ _ e).2.2 rfl)
      simp only [hs, isAt_at hm, d2] at hr
      rw [if_neg (by intro e; rw [beq_iff_eq] at e; exact (hZ _ e).2.1 rfl)] at hr
      cases hr
      refine ⟨?_, rfl⟩
      rw [← divInt_one a, ← ha]
      have e := Rat.num_divInt_den q
      rw [h1] at e
      exact e
  · rw [if_neg h1, hdz, hdd] at h ⊢
    rw [List.append_assoc, List.cons_append] at h
    have hN := numS_at (Z := 47 :: (decN q.den ++ Z)) h d1 d3 (fun c hc => by cases hc; decide)
    unfold coefS at hr
    rw [hN] at hr
    by_cases h12 : 12 < (decN a).length
    · rw [if_pos h12] at hr; cases hr
    · rw [if_neg h12] at hr
      have hm := drop_more h
      have hs : skB l (I + (decN a).length) = I + (decN a).length := skB_at hm (by simp)
      have hm2 : l.drop (I + (decN a).length + 1) = decN q.den ++ Z := drop_more (A := [47]) (by rw [hm]; rfl)
      have hN2 := numS_at hm2 b1 b3 (fun c hc => (hZ c hc).1)
      simp only [hs, isAt_at hm, d2] at hr
      rw [if_pos (by simp)] at hr
      simp only [hN2] at hr
      by_cases h13 : 12 < (decN q.den).length
      · rw [if_pos h13] at hr; cases hr
      · rw [if_neg h13] at hr
        simp only [b2] at hr
        rw [if_neg q.den_nz] at hr
        cases hr
        refine ⟨?_, by rw [List.length_append, List.length_cons]; omega⟩
        rw [← ha]
        exact Rat.num_divInt_den q
theorem textQ_one {q : Rat} (h : textQ q = [49]) : q = 1 := by
  have hd : q.den = 1 := by
    by_cases h1 : q.den = 1
    · exact h1
    · exfalso
      unfold textQ at h
      rw [if_neg h1] at h
      have hl := congrArg List.length h
      rw [List.length_append, List.length_cons] at hl
      have h3 : (decZ (q.den : Int)).length ≠ 0 := by
        intro e
        have h4 := (decN_dig q.den).2.2
        unfold decZ at e
        rw [if_neg (by omega)] at e
        exact h4 (List.length_eq_zero_iff.1 e)
      simp at hl
      omega
  unfold textQ at h
  rw [if_pos hd] at h
  have h2 := dec_good (z := q.num) (by rw [h]; simp)
  rw [h] at h2
  have h3 : q.num = 1 := h2.2.symm.trans (by decide)
  rw [← Rat.num_divInt_den q, h3, hd]
  decide +kernel
theorem absQ_nn (c : Rat) : ¬ absQ c < 0 := fun h => by
  have h1 := neg_num.1 h
  rw [(absQ_num c).1] at h1
  omega
/-- What may stand behind a term. -/
def Stops (Z : List UInt8) : Prop := Z = [] ∨ ∃ t, Z = 43 :: t ∨ Z = 45 :: t
theorem Stops.head {Z : List UInt8} (h : Stops Z) {c : UInt8} (hc : Z.head? = some c) : isD c = false ∧ c ≠ 47 ∧ c ≠ 32 ∧ c ≠ 120 ∧ c ≠ 94 := by
  rcases h with rfl | ⟨t, rfl | rfl⟩
  · cases hc
  · cases hc; decide
  · cases hc; decide
theorem powS_at {l Z : List UInt8} {I n k j : Nat} (hj : j ≠ 0) (h : l.drop I = powL j ++ Z) (hZ : Stops Z) (hj8 : j ≤ 8) (hr : powS l (I + 1) = .ok n k) : n = j ∧ k = I + (powL j).length := by
  unfold powL at h ⊢
  rw [if_neg hj] at h ⊢
  by_cases h1 : j = 1
  · rw [if_pos h1] at h ⊢
    have hm : l.drop (I + 1) = Z := drop_more (A := [120]) h
    have hs : skB l (I + 1) = I + 1 := skB_at hm (fun e => (hZ.head e).2.2.1 rfl)
    unfold powS at hr
    rw [hs, isAt_at hm, if_neg (by intro e; rw [beq_iff_eq] at e; exact (hZ.head e).2.2.2.2 rfl)] at hr
    cases hr
    exact ⟨h1.symm, rfl⟩
  · rw [if_neg h1] at h ⊢
    have hm : l.drop (I + 1) = 94 :: (decN j ++ Z) := drop_more (A := [120]) h
    have hs : skB l (I + 1) = I + 1 := skB_at hm (by simp)
    have hm2 : l.drop (I + 1 + 1) = decN j ++ Z := drop_more (A := [94]) hm
    obtain ⟨d1, d2, d3⟩ := decN_dig j
    have hN := numS_at hm2 d1 d3 (fun c hc => (hZ.head hc).1)
    unfold powS at hr
    rw [hs, isAt_at hm, if_pos (by simp), hN] at hr
    by_cases h12 : 12 < (decN j).length
    · rw [if_pos h12] at hr; cases hr
    · rw [if_neg h12] at hr
      simp only [d2] at hr
      rw [if_neg (by omega)] at hr
      cases hr
      exact ⟨rfl, by rw [List.length_cons, List.length_cons]; omega⟩
/-- A term's text is read as that term. -/
theorem termS_at {l Z : List UInt8} {I n k j : Nat} {c c' : Rat} (h : l.drop I = coefL c j ++ (powL j ++ Z)) (hZ : Stops Z) (hj8 : j ≤ 8) (hr : termS l I = .ok (c', n) k) : c' = absQ c ∧ n = j ∧ k = I + ((coefL c j).length + (powL j).length) := by
  rw [termS_eq] at hr
  have hpz : ∀ d, (powL j ++ Z).head? = some d → isD d = false ∧ d ≠ 47 ∧ d ≠ 32 := by
    intro d hd
    by_cases hj : j = 0
    · rw [show powL j = [] by unfold powL; rw [if_pos hj], List.nil_append] at hd
      exact ⟨(hZ.head hd).1, (hZ.head hd).2.1, (hZ.head hd).2.2.1⟩
    · have : d = 120 := by
        unfold powL at hd
        rw [if_neg hj] at hd
        split at hd <;> (cases hd; rfl)
      subst this
      decide
  -- the coefficient
  have hh : ∀ c0 k0, headS l I = .ok c0 k0 → c0 = absQ c ∧ k0 = I + (coefL c j).length := by
    intro c0 k0 he
    unfold coefL at h ⊢
    unfold headS at he
    by_cases hc : textQ (absQ c) = [49] ∧ 0 < j
    · rw [if_pos hc] at h ⊢
      rw [List.nil_append] at h
      have hj : j ≠ 0 := by omega
      have hx : (powL j ++ Z).head? = some 120 := by
        unfold powL
        rw [if_neg hj]
        split <;> rfl
      have hs : skB l I = I := skB_at h (by rw [hx]; decide)
      rw [hs, isAt_at h, hx, if_pos (by decide)] at he
      cases he
      exact ⟨(textQ_one hc.1).symm, rfl⟩
    · rw [if_neg hc] at h ⊢
      have hd0 : ∀ d, (textQ (absQ c) ++ (powL j ++ Z)).head? = some d → isD d = true := by
        intro d hd
        have hn : ¬ (absQ c).num < 0 := fun h2 => absQ_nn c (neg_num.2 h2)
        have hz : decZ (absQ c).num = decN (absQ c).num.natAbs := by unfold decZ; rw [if_neg hn]
        obtain ⟨d1, _, d3⟩ := decN_dig (absQ c).num.natAbs
        have : ∃ x t, textQ (absQ c) = x :: t ∧ isD x = true := by
          cases hdn : decN (absQ c).num.natAbs with
          | nil => exact absurd hdn d3
          | cons x t =>
            rw [hdn] at d1 hz
            refine ⟨x, ?_⟩
            have hx := List.all_eq_true.1 d1 x (List.mem_cons_self ..)
            unfold textQ
            rw [hz]
            split
            · exact ⟨t, rfl, hx⟩
            · exact ⟨t ++ 47 :: decZ ((absQ c).den : Int), rfl, hx⟩
        obtain ⟨x, t, e, hx⟩ := this
        rw [e] at hd
        cases hd
        exact hx
      have hs : skB l I = I := skB_at h (fun e => absurd (hd0 _ e) (by decide))
      rw [hs, isAt_at h, if_neg (by intro e; rw [beq_iff_eq] at e; exact absurd (hd0 _ e) (by decide))] at he
      exact coefS_at (absQ_nn c) h hpz he
  cases hd : headS l I with
  | bad e p => rw [hd] at hr; cases hr
  | ok c0 k0 =>
    rw [hd] at hr
    obtain ⟨e1, e2⟩ := hh c0 k0 hd
    have hm := drop_more h
    rw [← e2] at hm
    have hs : skB l k0 = k0 := skB_at hm (fun e => (hpz _ e).2.2 rfl)
    simp only [hs] at hr
    by_cases hj : j = 0
    · have hp0 : powL j = [] := by unfold powL; rw [if_pos hj]
      rw [hp0, List.nil_append] at hm
      rw [isAt_at hm, if_neg (by intro e; rw [beq_iff_eq] at e; exact (hZ.head e).2.2.2.1 rfl)] at hr
      cases hr
      exact ⟨e1, hj.symm, by rw [hp0, e2]; rfl⟩
    · have hx : (powL j ++ Z).head? = some 120 := by
        unfold powL
        rw [if_neg hj]
        split <;> rfl
      rw [isAt_at hm, hx, if_pos (by decide)] at hr
      cases hp : powS l (k0 + 1) with
      | bad e p => rw [hp] at hr; cases hr
      | ok n0 m0 =>
        rw [hp] at hr
        cases hr
        obtain ⟨g1, g2⟩ := powS_at hj hm hZ hj8 hp
        exact ⟨e1, g1, by rw [g2, e2]; omega⟩

/-- The terms of the powers below m, behind others. -/
def lowT (ps : List Rat) : Nat → List UInt8
  | 0 => []
  | m + 1 => (if cf ps m = 0 then [] else termL (cf ps m) m false) ++ lowT ps m
theorem polyT_low (ps : List Rat) : ∀ m, m ≤ ps.length → polyT (ps.drop m) m ≠ [] → polyT ps 0 = polyT (ps.drop m) m ++ lowT ps m := by
  intro m
  induction m with
  | zero => intro _ _; rw [List.drop_zero, lowT, List.append_nil]
  | succ m ih =>
    intro hm hne
    have hd := polyT_drop ps (by omega : m < ps.length)
    have he : (polyT (ps.drop (m + 1)) (m + 1)).isEmpty = false := by
      cases h : polyT (ps.drop (m + 1)) (m + 1) with
      | nil => exact absurd h hne
      | cons a t => rfl
    rw [he] at hd
    rw [lowT]
    by_cases hc : cf ps m = 0
    · rw [if_pos hc] at hd ⊢
      rw [ih (by omega) (by rw [hd]; exact hne), hd, List.nil_append]
    · rw [if_neg hc] at hd ⊢
      rw [ih (by omega) (by rw [hd]; intro e; exact hne (List.append_eq_nil_iff.1 e).1), hd, List.append_assoc]
theorem lowT_next (ps : List Rat) : ∀ m, (lowT ps m = [] ∧ ∀ i, i < m → cf ps i = 0) ∨ ∃ j, j < m ∧ cf ps j ≠ 0 ∧ (∀ i, j < i → i < m → cf ps i = 0) ∧ lowT ps m = termL (cf ps j) j false ++ lowT ps j := by
  intro m
  induction m with
  | zero => exact Or.inl ⟨rfl, fun i hi => absurd hi (Nat.not_lt_zero _)⟩
  | succ m ih =>
    by_cases hc : cf ps m = 0
    · rw [lowT, if_pos hc, List.nil_append]
      rcases ih with ⟨h1, h2⟩ | ⟨j, h1, h2, h3, h4⟩
      · exact Or.inl ⟨h1, fun i hi => by by_cases e : i = m; · rw [e]; exact hc
                                         · exact h2 i (by omega)⟩
      · exact Or.inr ⟨j, by omega, h2, fun i a b => by by_cases e : i = m; · rw [e]; exact hc
                                                       · exact h3 i a (by omega), h4⟩
    · exact Or.inr ⟨m, by omega, hc, fun i a b => by omega, by rw [lowT, if_neg hc]⟩
theorem signL_two (c : Rat) : signL c false = if c < 0 then [45] else [43] := by unfold signL; split <;> rfl
theorem lowT_stops (ps : List Rat) (m : Nat) : Stops (lowT ps m) := by
  rcases lowT_next ps m with ⟨h, _⟩ | ⟨j, _, _, _, h⟩
  · exact Or.inl h
  · rw [h]
    unfold termL
    rw [signL_two]
    right
    split
    · exact ⟨_, Or.inr rfl⟩
    · exact ⟨_, Or.inl rfl⟩
theorem sumS_back {l : List UInt8} {ps : List Rat} : ∀ (f I j k : Nat) (b : Bool) (S S' : List Rat), j ≤ 8 → cf ps j ≠ 0 → b = decide (cf ps j < 0) → I ≤ l.length → l.drop I = coefL (cf ps j) j ++ (powL j ++ lowT ps j) → S.length = 9 → (∀ i, cf S i = if j < i then cf ps i else 0) → sumS l f b I S = .ok S' k → S'.length = 9 ∧ ∀ i, cf S' i = cf ps i := by
  intro f
  induction f with
  | zero => intro I j k b S S' _ _ _ _ _ _ _ h; cases h
  | succ f ih =>
    intro I j k b S S' hj8 hc hb hI hd hl hS h
    cases ht : termS l I with
    | bad e p => rw [sumS_bad ht] at h; cases h
    | ok a k5 =>
      obtain ⟨c', n⟩ := a
      obtain ⟨rfl, rfl, hk5⟩ := termS_at hd (lowT_stops ps j) hj8 ht
      have hlt := termS_lt hI ht
      have hm : l.drop k5 = lowT ps n := by
        rw [hk5, ← Nat.add_assoc]
        exact drop_more (drop_more hd)
      rw [sumS_ok ht] at h
      obtain ⟨S1, hS1⟩ : ∃ S1, S.set n (if b then cf S n - absQ (cf ps n) else cf S n + absQ (cf ps n)) = S1 := ⟨_, rfl⟩
      rw [hS1] at h
      have hl1 : S1.length = 9 := by rw [← hS1, List.length_set]; exact hl
      have h1 : ∀ i, cf S1 i = if n ≤ i then cf ps i else 0 := by
        intro i
        rw [← hS1, cf_set _ _ _ _ (by rw [hl]; omega)]
        by_cases e : i = n
        · rw [if_pos e, e, show (if n ≤ n then cf ps n else 0) = cf ps n from if_pos (Nat.le_refl _), hS n, show (if n < n then cf ps n else 0) = 0 from if_neg (Nat.lt_irrefl _)]
          by_cases hneg : cf ps n < 0
          · rw [hb, decide_eq_true hneg, if_pos rfl, absQ_neg hneg]; grind
          · rw [hb, decide_eq_false hneg, if_neg (by decide), absQ_pos hneg]; grind
        · rw [if_neg e, hS i]
          by_cases e2 : n < i
          · rw [if_pos e2, if_pos (by omega)]
          · rw [if_neg e2, if_neg (by omega)]
      have hs : skB l k5 = k5 := skB_at hm (fun e => ((lowT_stops ps n).head e).2.2.1 rfl)
      rw [hs, isAt_at hm, isAt_at hm] at h
      rcases lowT_next ps n with ⟨h2, h3⟩ | ⟨j', h2, h3, h4, h5⟩
      · rw [h2] at hm h
        rw [if_neg (by decide), if_neg (by decide)] at h
        have hke : k5 = l.length := by
          have := congrArg List.length hm
          rw [List.length_drop] at this
          simp at this
          omega
        rw [if_pos hke] at h
        cases h
        refine ⟨hl1, fun i => ?_⟩
        rw [h1 i]
        by_cases e : n ≤ i
        · rw [if_pos e]
        · rw [if_neg e, h3 i (by omega)]
      · have h1' : ∀ i, cf S1 i = if j' < i then cf ps i else 0 := by
          intro i
          rw [h1 i]
          by_cases e : n ≤ i
          · rw [if_pos e, if_pos (by omega)]
          · rw [if_neg e]
            by_cases e2 : j' < i
            · rw [if_pos e2, h4 i e2 (by omega)]
            · rw [if_neg e2]
        have hk1 : k5 + 1 ≤ l.length := by
          have e := congrArg List.length hm
          rw [List.length_drop, h5] at e
          have : (termL (cf ps j') j' false).length ≠ 0 := fun e0 => termL_ne _ _ _ (List.length_eq_zero_iff.1 e0)
          rw [List.length_append] at e
          omega
        by_cases hneg : cf ps j' < 0
        · have h6 : lowT ps n = 45 :: (coefL (cf ps j') j' ++ (powL j' ++ lowT ps j')) := by
            rw [h5]; unfold termL; rw [signL_two, if_pos hneg]; simp
          rw [h6] at hm h
          rw [if_neg (by simp), if_pos (by simp)] at h
          exact ih _ j' _ _ _ _ (by omega) h3 (by rw [decide_eq_true hneg]) hk1 (drop_more (A := [45]) hm) hl1 h1' h
        · have h6 : lowT ps n = 43 :: (coefL (cf ps j') j' ++ (powL j' ++ lowT ps j')) := by
            rw [h5]; unfold termL; rw [signL_two, if_neg hneg]; simp
          rw [h6] at hm h
          rw [if_pos (by simp)] at h
          exact ih _ j' _ _ _ _ (by omega) h3 (by rw [decide_eq_false hneg]) hk1 (drop_more (A := [43]) hm) hl1 h1' h

theorem sumS_pos {l : List UInt8} : ∀ (f : Nat) (b : Bool) (I : Nat) (S : List Rat) (e p : Nat), sumS l (f + 1) b I S = .bad e p → I ≤ l.length → l.length - I < f + 1 → e ≠ 0 := by
  intro f
  induction f with
  | zero =>
    intro b I S e p h hI hf
    cases ht : termS l I with
    | bad e' p' => rw [sumS_bad ht] at h; cases h; exact termS_pos l I _ _ ht
    | ok a k5 =>
      obtain ⟨c, n⟩ := a
      have := termS_lt hI ht
      omega
  | succ f ih =>
    intro b I S e p h hI hf
    cases ht : termS l I with
    | bad e' p' => rw [sumS_bad ht] at h; cases h; exact termS_pos l I _ _ ht
    | ok a k5 =>
      obtain ⟨c, n⟩ := a
      have h1 := termS_lt hI ht
      have h3 := skB_ge l k5
      rw [sumS_ok ht] at h
      split at h
      · rename_i h5; have := isAt_lt h5; exact ih _ _ _ _ _ h (by omega) (by omega)
      · split at h
        · rename_i h5; have := isAt_lt h5; exact ih _ _ _ _ _ h (by omega) (by omega)
        · split at h
          · cases h
          · cases h; decide
theorem coefL_head (c : Rat) (j : Nat) (Z : List UInt8) (d : UInt8) (h : (coefL c j ++ (powL j ++ Z)).head? = some d) : d ≠ 32 ∧ d ≠ 45 := by
  unfold coefL at h
  split at h
  · rename_i hc
    unfold powL at h
    rw [if_neg (by omega)] at h
    split at h <;> (cases h; decide)
  · have hn : ¬ (absQ c).num < 0 := fun h2 => absQ_nn c (neg_num.2 h2)
    have hz : decZ (absQ c).num = decN (absQ c).num.natAbs := by unfold decZ; rw [if_neg hn]
    obtain ⟨d1, _, d3⟩ := decN_dig (absQ c).num.natAbs
    cases hdn : decN (absQ c).num.natAbs with
    | nil => exact absurd hdn d3
    | cons x t =>
      rw [hdn] at d1 hz
      have hx := List.all_eq_true.1 d1 x (List.mem_cons_self ..)
      have hxd : x = d := by
        unfold textQ at h
        rw [hz] at h
        split at h <;> (cases h; rfl)
      rw [← hxd]
      exact ⟨dig_ne hx (by decide), dig_ne hx (by decide)⟩

/-- A polynomial's text, if it is read at all, is read as that polynomial. -/
theorem parseP_back {ps : List Rat} (htr : trimQ ps = ps) (hl : ps.length ≤ 9) (h : (parseP (textP ps)).2.1 = 0) : (parseP (textP ps)).1 = ps := by
  have hlen : ¬ 300 < (textP ps).length := by
    intro h2
    unfold parseP at h
    rw [if_pos h2] at h
    cases h
  rcases List.eq_nil_or_concat ps with hn | ⟨qs, c, hps⟩
  · rw [hn, show textP [] = [48] from by decide, show parseP [48] = ([], 0, 0) by decide +kernel]
  rw [List.concat_eq_append] at hps
  rw [parseP_eq hlen] at h ⊢
  cases ht : totS (textP ps) with
  | bad e p =>
    rw [ht] at h
    have hp : e ≠ 0 := by
      intro e0
      unfold totS at ht
      have h4 := skB_le (l := textP ps) (i := 0) (by omega)
      split at ht
      · rename_i h5; have := isAt_lt h5; exact sumS_pos _ _ _ _ _ _ ht (by omega) (by omega) e0
      · exact sumS_pos _ _ _ _ _ _ ht h4 (by omega) e0
    exact absurd h hp
  | ok S k =>
    show trimQ S = ps
    have hd : ps.length = qs.length + 1 := by rw [hps]; simp
    have hcf : cf ps qs.length = c := by rw [hps]; simp [cf]
    have hc : c ≠ 0 := by
      intro h0
      have h1 : trimQ ps = trimQ qs := trim_ext fun i => by
        by_cases hi : i < qs.length
        · rw [hps]; simp [cf, List.getElem?_append_left hi]
        · rw [cf_ge (p := qs) (by omega)]
          by_cases hi2 : i = qs.length
          · rw [hi2, hcf, h0]
          · rw [cf_ge (by omega)]
      have h2 := trim_length_le qs
      rw [← h1, htr] at h2
      omega
    clear hps
    have hT : polyT (ps.drop qs.length) qs.length = termL c qs.length true := by
      rw [polyT_drop ps (by omega), hcf, if_neg hc, List.drop_of_length_le (by omega)]
      simp [polyT]
    have hne : polyT (ps.drop qs.length) qs.length ≠ [] := by rw [hT]; exact termL_ne _ _ _
    have hlow := polyT_low ps qs.length (by omega) hne
    have htx : textP ps = termL c qs.length true ++ lowT ps qs.length := by
      unfold textP
      rw [hlow, hT, if_neg (by intro e; exact termL_ne _ _ _ (List.append_eq_nil_iff.1 e).1)]
    have hS0 : ∀ i, cf (List.replicate 9 0) i = if qs.length < i then cf ps i else 0 := fun i => by
      rw [cf_replicate]
      split
      · rw [cf_ge (by omega)]
      · rfl
    unfold totS at ht
    by_cases hneg : c < 0
    · have hx : (textP ps).drop 0 = 45 :: (coefL c qs.length ++ (powL qs.length ++ lowT ps qs.length)) := by
        rw [List.drop_zero, htx]; unfold termL signL; rw [if_pos hneg]; simp
      have hs : skB (textP ps) 0 = 0 := skB_at hx (by simp)
      rw [hs, isAt_at hx, if_pos (by simp)] at ht
      have h1 : 0 + 1 ≤ (textP ps).length := by
        have e := congrArg List.length hx
        rw [List.drop_zero, List.length_cons] at e
        omega
      have := sumS_back (ps := ps) _ _ qs.length _ _ _ _ (by omega) (by rw [hcf]; exact hc) (by rw [hcf, decide_eq_true hneg]) h1 (by rw [hcf]; exact drop_more (A := [45]) hx) rfl hS0 ht
      rw [← htr]
      exact trim_ext this.2
    · have hx : (textP ps).drop 0 = coefL c qs.length ++ (powL qs.length ++ lowT ps qs.length) := by
        rw [List.drop_zero, htx]; unfold termL signL; rw [if_neg hneg]; simp
      have hh := coefL_head c qs.length (lowT ps qs.length)
      have hs : skB (textP ps) 0 = 0 := skB_at hx (fun e => (hh _ e).1 rfl)
      rw [hs, isAt_at hx, if_neg (by intro e; rw [beq_iff_eq] at e; exact (hh _ e).2 rfl)] at ht
      have := sumS_back (ps := ps) _ _ qs.length _ _ _ _ (by omega) (by rw [hcf]; exact hc) (by rw [hcf, decide_eq_false hneg]) (Nat.zero_le _) (by rw [hcf]; exact hx) rfl hS0 ht
      rw [← htr]
      exact trim_ext this.2
end Go.Proofs.YtcahejkcdcjjgaaGreatDoor
namespace Go.Proofs.YtcahejkcdcjjgaaGreatDoor
open Go.RowKit Go.Shelf

attribute [local go_sem] Oper.semAt_some

theorem textP_nil : textP [] = [48] := by decide
/-- What both Parses hand back. -/
theorem parseP_trim (l : List UInt8) : trimQ (parseP l).1 = (parseP l).1 := by
  by_cases h : 300 < l.length
  · rw [show parseP l = ([], 1, 0) by unfold parseP; rw [if_pos h]]; rfl
  · rw [parseP_eq h]
    cases totS l with
    | bad e p => rfl
    | ok S k => exact trim_trim _
theorem _root_.Go.Proofs.YtcahejkcdcjjgaaGreatDoor.RowK.isPoly {V : World} {a : Option Addr} {l c : Nat} {ps : List Rat} (h : RowK true V (.slice a l c) ps) : IsPoly V (.agg #[.slice a l c]) ps := ⟨_, rfl, h⟩

set_option maxRecDepth 100000 in
set_option maxHeartbeats 8000000 in
theorem polyParses_c (s : ByteArray) (i : Int) (hs : s.size ≤ 140737488351232) (w : World) (htab : Pow10 w) :
    Calls Tryz.prog 3 #[.string s, .int .i64 i] w fun r w' => r = .returned (.bool true) ∧ Below w.heap.size w w' := by
  have HT := hidD htab
  have hsm := parseP_small (wlst s)
  have htr := parseP_trim (wlst s)
  obtain ⟨ps, hps⟩ : ∃ ps, (parseP (wlst s)).1 = ps := ⟨_, rfl⟩
  obtain ⟨E, hE⟩ : ∃ E : Nat, (parseP (wlst s)).2.1 = E := ⟨_, rfl⟩
  obtain ⟨A, hA⟩ : ∃ A : Nat, (parseP (wlst s)).2.2 = A := ⟨_, rfl⟩
  have HC := hidD (fun (V : World) => yParse_c s V)
  have HD := hidD (fun (V : World) => xParse_c s hs V)
  unfold ParC at HC
  unfold ParOk at HD
  rw [hps, hE, hA] at HC HD
  rw [hps] at hsm htr
  have hQ : Sqs ps := Sqs.of fun i => Sq.of (hsm.2 i) (by omega)
  have HQ := hidD hQ
  have HTL := hidD (fun m => polyT_ok hQ (by omega) m)
  have HTR := hidD htr
  have hlen : ps.length ≤ 9 := hsm.1
  have hwr : IntKind.i64.wrap ((ps.length : Int) - 1) = (ps.length : Int) - 1 := by rw [IntKind.wrap_i64]; omega
  obtain ⟨c, hc⟩ : ∃ c, (if i < 0 then 0 else cf ps i.toNat) = c := ⟨_, rfl⟩
  have HSC := hidD (show Sq c by
    rw [← hc]
    split
    · exact Sq.of (SmQ.zero 1 (by omega)) (by omega)
    · exact HQ.out.at _)
  have HCC := hidD hc
  obtain ⟨n, hn⟩ : ∃ n, ps.length = n := ⟨_, rfl⟩
  rw [hn] at hlen hwr
  have HN := hidD hn
  obtain ⟨T1, hT1⟩ : ∃ S : ByteArray, ⟨(textP ps).toArray⟩ = S := ⟨_, rfl⟩
  obtain ⟨T2, hT2⟩ : ∃ S : ByteArray, ⟨(textQ c).toArray⟩ = S := ⟨_, rfl⟩
  have HT1 := hidD hT1
  have HT2 := hidD hT2
  have M := hidD (Below.refl w.heap.size w)
  clear htab hps hE hA hsm htr hQ hc hn hT1 hT2 hs
  go_enter Tryz.func3, Tryz.ntmps3
  go_upto_region 2 with (go_at_call 9; refine (HC.out _).mono ?_; clear HC; rintro e w1 ⟨u, e1, p1, rfl, ⟨rfl, rfl, hu⟩, hb⟩; obtain ⟨a1, l1, c1, rfl⟩ := hu.form)
  replace M := hidD (M.out.trans (hb.mono M.out.size))
  have hA : Below w1.heap.size w1 (w1.alloc (.cells #[.slice a1 l1 c1] 25)) := (Below.refl _ w1).alloc (Nat.le_refl _) _
  have nP := Boxed.new w1 25 (.slice a1 l1 c1)
  have rP := hu.row.below hA
  replace M := hidD (M.out.trans (hA.mono M.out.size))
  clear hA
  obtain ⟨VP, hV⟩ : ∃ V, w1.alloc (.cells #[.slice a1 l1 c1] 25) = V := ⟨_, rfl⟩
  obtain ⟨BP, hB⟩ : ∃ B, w1.heap.size = B := ⟨_, rfl⟩
  rw [hV] at rP M
  rw [hV, hB] at nP
  rw [hV]
  rw [hB]
  clear hV hB
  clear hu hb
  go_upto_region 3 with (go_at_call 10; refine (HD.out _).mono ?_; clear HD; rintro e w2 ⟨u, e2, p2, rfl, ⟨rfl, rfl, hu, _, _⟩, hb⟩; obtain ⟨a2, c2, ee, _⟩ := id hu; rw [HN.out] at ee; subst ee)
  replace nP := nP.bel hb
  replace rP := rP.below hb
  replace M := hidD (M.out.trans (hb.mono M.out.size))
  clear hb
  have rX := hu
  clear hu
  go_upto_region 4 with fail
  have hu := RowK.nil true w2
  have hA : Below w2.heap.size w2 (w2.alloc (.cells #[.slice none 0 0] 25)) := (Below.refl _ w2).alloc (Nat.le_refl _) _
  have nN := Boxed.new w2 25 (.slice none 0 0)
  have rN := hu.below hA
  replace nP := nP.bel hA
  replace rP := rP.below hA
  replace rX := rX.below hA
  replace M := hidD (M.out.trans (hA.mono M.out.size))
  clear hA
  obtain ⟨VN, hV⟩ : ∃ V, w2.alloc (.cells #[.slice none 0 0] 25) = V := ⟨_, rfl⟩
  obtain ⟨BN, hB⟩ : ∃ B, w2.heap.size = B := ⟨_, rfl⟩
  rw [hV] at nP rP rX rN M
  rw [hV, hB] at nN
  rw [hV]
  rw [hB]
  clear hV hB
  clear hu
  have H1 := hidD (fun (V : World) (h : Below VN.heap.size VN V) => yCoef_c _ ps i V (rP.below h).isPoly)
  rw [HCC.out] at H1
  have hq : Below VN.heap.size VN VN := Below.refl _ _
  have eP := (nP.bel hq).cell
  go_upto_region 5 with (go_at_call 11; refine (H1.out _ hq).mono ?_; clear H1; rintro e w3 ⟨u, rfl, hu, hb⟩; obtain ⟨s3, a3, l3, c3, t3, b3, k3, d3, rfl⟩ := IsRat.form hu)
  replace hb := Below.then hq hb
  clear hq eP
  replace nP := nP.bel hb
  replace rP := rP.below hb
  replace rX := rX.below hb
  replace nN := nN.bel hb
  replace rN := rN.below hb
  replace M := hidD (M.out.trans (hb.mono M.out.size))
  clear hb
  have hA : Below w3.heap.size w3 (w3.alloc (.cells #[.bool s3, .slice a3 l3 c3, .bool t3, .slice b3 k3 d3] 38)) := (Below.refl _ w3).alloc (Nat.le_refl _) _
  have nC := Box4.new w3 38 (.bool s3) (.slice a3 l3 c3) (.bool t3) (.slice b3 k3 d3)
  have rC := hu.below hA
  replace nP := nP.bel hA
  replace rP := rP.below hA
  replace rX := rX.below hA
  replace nN := nN.bel hA
  replace rN := rN.below hA
  replace M := hidD (M.out.trans (hA.mono M.out.size))
  clear hA
  obtain ⟨VC, hV⟩ : ∃ V, w3.alloc (.cells #[.bool s3, .slice a3 l3 c3, .bool t3, .slice b3 k3 d3] 38) = V := ⟨_, rfl⟩
  obtain ⟨BC, hB⟩ : ∃ B, w3.heap.size = B := ⟨_, rfl⟩
  rw [hV] at nP rP rX nN rN rC M
  rw [hV, hB] at nC
  rw [hV]
  rw [hB]
  clear hV hB
  clear hu
  have H1 := hidD (fun (V : World) (h : Below VC.heap.size VC V) => jnum_c (E : Int) V)
  have H2 := hidD (fun (V : World) (h : Below VC.heap.size VC V) => yText_c _ ps V (rP.below h).isPoly HQ.out HTL.out (tab_below HT.out (M.out.trans (h.mono M.out.size))))
  rw [HT1.out] at H2
  have H3 := hidD (fun (V : World) (h : Below VC.heap.size VC V) => xText_c _ ps V (rX.below h) HQ.out HTL.out HTR.out (tab_below HT.out (M.out.trans (h.mono M.out.size))))
  rw [HT1.out] at H3
  have H4 := hidD (fun (V : World) (h : Below VC.heap.size VC V) => yDegree_c _ ps V (rP.below h).isPoly)
  rw [HN.out] at H4
  have H5 := hidD (fun (V : World) (h : Below VC.heap.size VC V) => qtext_c _ c V (rC.below h) HSC.out (tab_below HT.out (M.out.trans (h.mono M.out.size))))
  rw [HT2.out] at H5
  have H6 := hidD (fun (V : World) (h : Below VC.heap.size VC V) => xCoef_c _ ps i V (rX.below h))
  rw [HCC.out] at H6
  have H7 := hidD (fun (V : World) (v : Value) (hv : IsRef V v c) => stext_c v c V hv HSC.out)
  rw [HT2.out] at H7
  have H8 := hidD (fun (V : World) (h : Below VC.heap.size VC V) => yText_c _ [] V (rN.below h).isPoly (Sqs.of fun i => Sq.of (k := 1) (by rw [cf_nil]; exact SmQ.zero 1 (by omega)) (by omega)) (fun m => by simp [polyT]) (tab_below HT.out (M.out.trans (h.mono M.out.size))))
  rw [textP_nil] at H8
  have H9 := hidD (fun (V : World) (h : Below VC.heap.size VC V) => yDegree_c _ [] V (rN.below h).isPoly)
  rw [show ((([] : List Rat).length : Int) - 1) = -1 from rfl] at H9
  have H10 := hidD (fun (V : World) (h : Below VC.heap.size VC V) => jalive_c V (tab_below HT.out (M.out.trans (h.mono M.out.size))))
  have hq : Below VC.heap.size VC VC := Below.refl _ _
  have eP := (nP.bel hq).cell
  have eC0 := (nC.below hq).c0
  have eC1 := (nC.below hq).c1
  have eC2 := (nC.below hq).c2
  have eC3 := (nC.below hq).c3
  have eN := (nN.bel hq).cell
  go_wp2_with (first
    | (go_at_call 12; refine (H1.out _ hq).mono ?_; clear H1; rintro e x1 ⟨rfl, hb⟩; replace hq := Below.then hq hb; clear hb eP eC0 eC1 eC2 eC3 eN; have eP := (nP.bel hq).cell; have eC0 := (nC.below hq).c0; have eC1 := (nC.below hq).c1; have eC2 := (nC.below hq).c2; have eC3 := (nC.below hq).c3; have eN := (nN.bel hq).cell)
    | (go_at_call 13; refine (H2.out _ hq).mono ?_; clear H2; rintro e x2 ⟨rfl, hb⟩; replace hq := Below.then hq hb; clear hb eP eC0 eC1 eC2 eC3 eN; have eP := (nP.bel hq).cell; have eC0 := (nC.below hq).c0; have eC1 := (nC.below hq).c1; have eC2 := (nC.below hq).c2; have eC3 := (nC.below hq).c3; have eN := (nN.bel hq).cell)
    | (go_at_call 14; refine (H3.out _ hq).mono ?_; clear H3; rintro e x3 ⟨rfl, hb⟩; replace hq := Below.then hq hb; clear hb eP eC0 eC1 eC2 eC3 eN; have eP := (nP.bel hq).cell; have eC0 := (nC.below hq).c0; have eC1 := (nC.below hq).c1; have eC2 := (nC.below hq).c2; have eC3 := (nC.below hq).c3; have eN := (nN.bel hq).cell)
    | (go_at_call 15; refine (H4.out _ hq).mono ?_; clear H4; rintro e x4 ⟨rfl, hb⟩; replace hq := Below.then hq hb; clear hb eP eC0 eC1 eC2 eC3 eN; have eP := (nP.bel hq).cell; have eC0 := (nC.below hq).c0; have eC1 := (nC.below hq).c1; have eC2 := (nC.below hq).c2; have eC3 := (nC.below hq).c3; have eN := (nN.bel hq).cell)
    | (go_at_call 16; refine (H5.out _ hq).mono ?_; clear H5; rintro e x5 ⟨rfl, hb⟩; replace hq := Below.then hq hb; clear hb eP eC0 eC1 eC2 eC3 eN; have eP := (nP.bel hq).cell; have eC0 := (nC.below hq).c0; have eC1 := (nC.below hq).c1; have eC2 := (nC.below hq).c2; have eC3 := (nC.below hq).c3; have eN := (nN.bel hq).cell)
    | (go_at_call 18; refine (H6.out _ hq).mono ?_; clear H6; rintro e x6 ⟨v7, rfl, gv, hb⟩; replace hq := Below.then hq hb; clear hb eP eC0 eC1 eC2 eC3 eN; have eP := (nP.bel hq).cell; have eC0 := (nC.below hq).c0; have eC1 := (nC.below hq).c1; have eC2 := (nC.below hq).c2; have eC3 := (nC.below hq).c3; have eN := (nN.bel hq).cell)
    | (go_at_call 17; refine (H7.out _ _ gv).mono ?_; clear H7; rintro e x7 ⟨rfl, hb⟩; replace hq := Below.then hq hb; clear hb eP eC0 eC1 eC2 eC3 eN; have eP := (nP.bel hq).cell; have eC0 := (nC.below hq).c0; have eC1 := (nC.below hq).c1; have eC2 := (nC.below hq).c2; have eC3 := (nC.below hq).c3; have eN := (nN.bel hq).cell)
    | (go_at_call 13; refine (H8.out _ hq).mono ?_; clear H8; rintro e x8 ⟨rfl, hb⟩; replace hq := Below.then hq hb; clear hb eP eC0 eC1 eC2 eC3 eN; have eP := (nP.bel hq).cell; have eC0 := (nC.below hq).c0; have eC1 := (nC.below hq).c1; have eC2 := (nC.below hq).c2; have eC3 := (nC.below hq).c3; have eN := (nN.bel hq).cell)
    | (go_at_call 15; refine (H9.out _ hq).mono ?_; clear H9; rintro e x9 ⟨rfl, hb⟩; replace hq := Below.then hq hb; clear hb eP eC0 eC1 eC2 eC3 eN; have eP := (nP.bel hq).cell; have eC0 := (nC.below hq).c0; have eC1 := (nC.below hq).c1; have eC2 := (nC.below hq).c2; have eC3 := (nC.below hq).c3; have eN := (nN.bel hq).cell)
    | (go_at_call 19; refine (H10.out _ hq).mono ?_; clear H10; rintro e x10 ⟨rfl, hb⟩; replace hq := Below.then hq hb; clear hb eP eC0 eC1 eC2 eC3 eN; have eP := (nP.bel hq).cell; have eC0 := (nC.below hq).c0; have eC1 := (nC.below hq).c1; have eC2 := (nC.below hq).c2; have eC3 := (nC.below hq).c3; have eN := (nN.bel hq).cell))
  go_ret
  exact ⟨rfl, M.out.trans (hq.mono M.out.size)⟩
end Go.Proofs.YtcahejkcdcjjgaaGreatDoor
namespace Go.Proofs.YtcahejkcdcjjgaaGreatDoor
open Go.RowKit Go.Shelf

attribute [local go_sem] Oper.semAt_some

/-- A world above another one. -/
def Abv (V0 V : World) : Prop := Below V0.heap.size V0 V
theorem Abv.below {V0 V V' : World} (h : Abv V0 V) (hb : Below V.heap.size V V') : Abv V0 V' := Below.then h hb
theorem Abv.drew (V : World) : Abv V V.drew := (Below.refl _ V).drew

set_option maxRecDepth 100000 in
set_option maxHeartbeats 8000000 in
theorem polyBack_c (s : ByteArray) (hs : s.size ≤ 140737488351232) (w : World) (htab : Pow10 w) :
    Calls Tryz.prog 8 #[.string s] w fun r w' => r = .returned (.bool true) ∧ Below w.heap.size w w' := by
  have hmx : Tryz.prog.follows .mixedOrders = true := by kernel_rfl
  have HT := hidD htab
  have hsm := parseP_small (wlst s)
  have htr := parseP_trim (wlst s)
  obtain ⟨ps, hps⟩ : ∃ ps, (parseP (wlst s)).1 = ps := ⟨_, rfl⟩
  obtain ⟨E, hE⟩ : ∃ E : Nat, (parseP (wlst s)).2.1 = E := ⟨_, rfl⟩
  have HC := hidD (fun (V : World) => yParse_c s V)
  have HD := hidD (fun (V : World) => xParse_c s hs V)
  unfold ParC at HC
  unfold ParOk at HD
  rw [hps, hE] at HC HD
  rw [hps] at hsm htr
  have hQ : Sqs ps := Sqs.of fun i => Sq.of (hsm.2 i) (by omega)
  have HQ := hidD hQ
  have HTL := hidD (fun m => polyT_ok hQ (by omega) m)
  obtain ⟨T1, hT1⟩ : ∃ S : ByteArray, ⟨(textP ps).toArray⟩ = S := ⟨_, rfl⟩
  have hwT : wlst T1 = textP ps := by rw [← hT1]; simp [wlst]
  have hzT : T1.size ≤ 140737488351232 := by
    rw [← wlst_len, hwT]
    have := textP_len hsm.2 (by unfold B64; omega)
    have h2 : ps.length * (40 * 601 + 40) ≤ 9 * (40 * 601 + 40) := Nat.mul_le_mul_right _ hsm.1
    omega
  have HT1 := hidD hT1
  have HBK := hidD (fun h => parseP_back htr hsm.1 h)
  obtain ⟨qs, hqs⟩ : ∃ qs, (parseP (wlst T1)).1 = qs := ⟨_, rfl⟩
  obtain ⟨G, hG⟩ : ∃ G : Nat, (parseP (wlst T1)).2.1 = G := ⟨_, rfl⟩
  have HC2 := hidD (fun (V : World) => yParse_c T1 V)
  have HD2 := hidD (fun (V : World) => xParse_c T1 hzT V)
  unfold ParC at HC2
  unfold ParOk at HD2
  rw [hqs, hG] at HC2 HD2
  rw [← hwT, hqs, hG] at HBK
  have hGc : (G : Int) = 0 ∨ (G : Int) ≠ 0 := by omega
  obtain ⟨n, hn⟩ : ∃ n, ps.length = n := ⟨_, rfl⟩
  have HN := hidD hn
  have M := hidD (Below.refl w.heap.size w)
  clear htab hps hE hsm htr hQ hn hT1 hs hwT hzT hqs hG
  go_enter Tryz.func8, Tryz.ntmps8
  go_upto_region 2 with (go_at_call 9; refine (HC.out _).mono ?_; clear HC; rintro e w1 ⟨u, e1, p1, rfl, ⟨rfl, _, hu⟩, hb⟩; obtain ⟨a1, l1, c1, rfl⟩ := hu.form)
  replace M := hidD (M.out.trans (hb.mono M.out.size))
  have hA : Below w1.heap.size w1 (w1.alloc (.cells #[.slice a1 l1 c1] 25)) := (Below.refl _ w1).alloc (Nat.le_refl _) _
  have nP := Boxed.new w1 25 (.slice a1 l1 c1)
  have rP := hu.row.below hA
  replace M := hidD (M.out.trans (hA.mono M.out.size))
  clear hA
  obtain ⟨VP, hV⟩ : ∃ V, w1.alloc (.cells #[.slice a1 l1 c1] 25) = V := ⟨_, rfl⟩
  obtain ⟨BP, hB⟩ : ∃ B, w1.heap.size = B := ⟨_, rfl⟩
  rw [hV] at rP M
  rw [hV, hB] at nP
  rw [hV]
  rw [hB]
  clear hV hB
  clear hu hb
  go_upto_region 3 with (go_at_call 10; refine (HD.out _).mono ?_; clear HD; rintro e w2 ⟨u2, e2, p2, rfl, ⟨rfl, _, _, _, _⟩, hb⟩)
  replace nP := nP.bel hb
  replace rP := rP.below hb
  replace M := hidD (M.out.trans (hb.mono M.out.size))
  clear hb
  have H1 := hidD (fun (V : World) (h : Below w2.heap.size w2 V) => yText_c _ ps V (rP.below h).isPoly HQ.out HTL.out (tab_below HT.out (M.out.trans (h.mono M.out.size))))
  rw [HT1.out] at H1
  have hq : Below w2.heap.size w2 w2 := Below.refl _ _
  have eP := (nP.bel hq).cell
  go_upto_region 4 with (go_at_call 13; refine (H1.out _ hq).mono ?_; clear H1; rintro e w3 ⟨rfl, hb⟩)
  replace hb := Below.then hq hb
  clear hq eP
  replace nP := nP.bel hb
  replace rP := rP.below hb
  replace M := hidD (M.out.trans (hb.mono M.out.size))
  clear hb
  go_upto_region 5 with (go_at_call 9; refine (HC2.out _).mono ?_; clear HC2; rintro e w4 ⟨u, e4, p4, rfl, ⟨rfl, _, hu⟩, hb⟩; obtain ⟨a4, l4, c4, rfl⟩ := hu.form)
  replace nP := nP.bel hb
  replace rP := rP.below hb
  replace M := hidD (M.out.trans (hb.mono M.out.size))
  clear hb
  have hA : Below w4.heap.size w4 (w4.alloc (.cells #[.slice a4 l4 c4] 25)) := (Below.refl _ w4).alloc (Nat.le_refl _) _
  have nQ := Boxed.new w4 25 (.slice a4 l4 c4)
  have rQ := hu.row.below hA
  replace nP := nP.bel hA
  replace rP := rP.below hA
  replace M := hidD (M.out.trans (hA.mono M.out.size))
  clear hA
  obtain ⟨VQ, hV⟩ : ∃ V, w4.alloc (.cells #[.slice a4 l4 c4] 25) = V := ⟨_, rfl⟩
  obtain ⟨BQ, hB⟩ : ∃ B, w4.heap.size = B := ⟨_, rfl⟩
  rw [hV] at nP rP rQ M
  rw [hV, hB] at nQ
  rw [hV]
  rw [hB]
  clear hV hB
  clear hu
  go_upto_region 6 with (go_at_call 10; refine (HD2.out _).mono ?_; clear HD2; rintro e w5 ⟨u5, e5, p5, rfl, ⟨rfl, _, _, _, _⟩, hb⟩)
  replace nP := nP.bel hb
  replace rP := rP.below hb
  replace nQ := nQ.bel hb
  replace rQ := rQ.below hb
  replace M := hidD (M.out.trans (hb.mono M.out.size))
  clear hb
  have HE := hidD (fun (V : World) (e : Int) => jnum_c e V)
  have hq : Below w5.heap.size w5 w5 := Below.refl _ _
  go_upto_region 8 with (go_at_call 12; refine (HE.out _ _).mono ?_; rintro e x ⟨rfl, hb⟩; replace hq := Below.then hq hb; clear hb)
  clear HE
  replace nP := nP.bel hq
  replace rP := rP.below hq
  replace nQ := nQ.bel hq
  replace rQ := rQ.below hq
  replace M := hidD (M.out.trans (hq.mono M.out.size))
  clear hq
  have ST0 : Abv x x.drew := Abv.drew x
  have H10 := hidD (fun (V : World) (h : Below x.heap.size x V) => jalive_c V (tab_below HT.out (M.out.trans (h.mono M.out.size))))
  rcases hGc with h0 | h0
  · have HQE := hidD (HBK.out (by omega))
    rw [HQE.out] at rQ
    rw [h0]
    clear h0 HBK HQE
    have H2 := hidD (fun (V : World) (h : Below x.heap.size x V) => yText_c _ ps V (rQ.below h).isPoly HQ.out HTL.out (tab_below HT.out (M.out.trans (h.mono M.out.size))))
    rw [HT1.out] at H2
    have H3 := hidD (fun (V : World) (h : Below x.heap.size x V) => yDegree_c _ ps V (rQ.below h).isPoly)
    rw [HN.out] at H3
    have H4 := hidD (fun (V : World) (h : Below x.heap.size x V) => yDegree_c _ ps V (rP.below h).isPoly)
    rw [HN.out] at H4
    refine wp_region_tab hmx [[], [0], [1], [2], [3, 2, 2], [2], [4, 5, 2], [6, 4, 2], [7], [8, 7, 7], [7], [10, 9, 7], [9, 11, 7], [7, 12, 2], [2, 13], [14, 11], [15, 15], [15, 16], [17, 16, 0, 1, 2, 3, 4, 5, 6, 7, 8, 9, 10, 11, 12, 13, 14, 15, 16, 17]] (by kernel_rfl) (by decide)
      (fun D act V => ∃ (t52x t53x t54x t55x t56x t57x t58x t59x t60x t61x t62x t63x t64x t65x t66x t67x t68x t69x t2x : Value), act = { tmps := #[Value.string s, undef, t2x, Value.pointer (some { block := BP, off := 0 }), Value.int IntKind.i64 ↑E, Value.int IntKind.i64 ↑(parseP (wlst s)).snd.snd, u2, Value.int IntKind.i64 ↑E, Value.int IntKind.i64 ↑(parseP (wlst s)).snd.snd, Value.string T1, Value.pointer (some { block := BQ, off := 0 }), Value.int IntKind.i64 0, Value.int IntKind.i64 ↑(parseP (wlst T1)).snd.snd, u5, Value.int IntKind.i64 0, Value.int IntKind.i64 ↑(parseP (wlst T1)).snd.snd, Value.tuple #[Value.agg #[Value.slice a1 l1 c1], Value.int IntKind.i64 ↑E, Value.int IntKind.i64 ↑(parseP (wlst s)).snd.snd], Value.string s, Value.tuple #[Value.agg #[Value.slice a1 l1 c1], Value.int IntKind.i64 ↑E, Value.int IntKind.i64 ↑(parseP (wlst s)).snd.snd], Value.agg #[Value.slice a1 l1 c1], Value.int IntKind.i64 ↑E, Value.int IntKind.i64 ↑(parseP (wlst s)).snd.snd, Value.tuple #[u2, Value.int IntKind.i64 ↑E, Value.int IntKind.i64 ↑(parseP (wlst s)).snd.snd], Value.string s, Value.tuple #[u2, Value.int IntKind.i64 ↑E, Value.int IntKind.i64 ↑(parseP (wlst s)).snd.snd], u2, Value.int IntKind.i64 ↑E, Value.int IntKind.i64 ↑(parseP (wlst s)).snd.snd, Value.agg #[Value.slice a1 l1 c1], Value.string T1, Value.tuple #[Value.agg #[Value.slice a4 l4 c4], Value.int IntKind.i64 0, Value.int IntKind.i64 ↑(parseP (wlst T1)).snd.snd], Value.string T1, Value.tuple #[Value.agg #[Value.slice a4 l4 c4], Value.int IntKind.i64 0, Value.int IntKind.i64 ↑(parseP (wlst T1)).snd.snd], Value.agg #[Value.slice a4 l4 c4], Value.int IntKind.i64 0, Value.int IntKind.i64 ↑(parseP (wlst T1)).snd.snd, Value.tuple #[u5, Value.int IntKind.i64 0, Value.int IntKind.i64 ↑(parseP (wlst T1)).snd.snd], Value.string T1, Value.tuple #[u5, Value.int IntKind.i64 0, Value.int IntKind.i64 ↑(parseP (wlst T1)).snd.snd], u5, Value.int IntKind.i64 0, Value.int IntKind.i64 ↑(parseP (wlst T1)).snd.snd, Value.int IntKind.i64 ↑E, Value.int IntKind.i64 ↑E, Value.int IntKind.i64 ↑E, Value.bool false, Value.bool false, Value.int IntKind.i64 0, Value.int IntKind.i64 0, Value.int IntKind.i64 0, Value.bool false, Value.bool false, t52x, t53x, t54x, t55x, t56x, t57x, t58x, t59x, t60x, t61x, t62x, t63x, t64x, t65x, t66x, t67x, t68x, t69x], defers := [] } ∧ Hid ((D 0 = true → t52x = .int .i64 0) ∧ (D 1 = true → t53x = .bool false) ∧ (D 2 = true → t54x = .bool false) ∧ (D 3 = true → t55x = .agg #[.slice a4 l4 c4]) ∧ (D 4 = true → t56x = .string T1) ∧ (D 5 = true → t57x = .string T1) ∧ (D 6 = true → t58x = .bool true) ∧ (D 7 = true → t59x = .bool true) ∧ (D 8 = true → t60x = .agg #[.slice a4 l4 c4]) ∧ (D 9 = true → t61x = .int .i64 ((n : Int) - 1)) ∧ (D 10 = true → t62x = .agg #[.slice a1 l1 c1]) ∧ (D 11 = true → t63x = .int .i64 ((n : Int) - 1)) ∧ (D 12 = true → t64x = .bool true) ∧ (D 13 = true → t65x = .bool true) ∧ (D 14 = true → t66x = .bool true) ∧ (D 15 = true → t67x = .bool true) ∧ (D 16 = true → t68x = .bool true) ∧ (D 17 = true → t69x = .bool true) ∧ (D 18 = true → t2x = .bool true)) ∧ Hid (Abv x V))
      ⟨_, _, _, _, _, _, _, _, _, _, _, _, _, _, _, _, _, _, _, rfl, hidD ⟨by simp, by simp, by simp, by simp, by simp, by simp, by simp, by simp, by simp, by simp, by simp, by simp, by simp, by simp, by simp, by simp, by simp, by simp, by simp⟩, hidD ST0⟩ ?step1 ?fin1
    case step1 =>
      rintro D act V i ds hcl hi hds hDi ⟨t52x, t53x, t54x, t55x, t56x, t57x, t58x, t59x, t60x, t61x, t62x, t63x, t64x, t65x, t66x, t67x, t68x, t69x, t2x, rfl, GG, SS0⟩
      have hi6 : i < 19 := (List.getElem?_eq_some_iff.1 hi).1
      obtain rfl | rfl | rfl | rfl | rfl | rfl | rfl | rfl | rfl | rfl | rfl | rfl | rfl | rfl | rfl | rfl | rfl | rfl | rfl : i = 0 ∨ i = 1 ∨ i = 2 ∨ i = 3 ∨ i = 4 ∨ i = 5 ∨ i = 6 ∨ i = 7 ∨ i = 8 ∨ i = 9 ∨ i = 10 ∨ i = 11 ∨ i = 12 ∨ i = 13 ∨ i = 14 ∨ i = 15 ∨ i = 16 ∨ i = 17 ∨ i = 18 := by omega
      all_goals
        simp only [List.getElem?_cons_zero, List.getElem?_cons_succ, Option.some.injEq] at hi
        subst hi
      · have hS0 := SS0.out
        clear hds
        refine wpOp_go rfl rfl (fun K hK => ?_)
        go_simp
        exact hK _ _ ⟨_, _, _, _, _, _, _, _, _, _, _, _, _, _, _, _, _, _, _, rfl, hidD ⟨fun _ => rfl, GG.out.2.1, GG.out.2.2.1, GG.out.2.2.2.1, GG.out.2.2.2.2.1, GG.out.2.2.2.2.2.1, GG.out.2.2.2.2.2.2.1, GG.out.2.2.2.2.2.2.2.1, GG.out.2.2.2.2.2.2.2.2.1, GG.out.2.2.2.2.2.2.2.2.2.1, GG.out.2.2.2.2.2.2.2.2.2.2.1, GG.out.2.2.2.2.2.2.2.2.2.2.2.1, GG.out.2.2.2.2.2.2.2.2.2.2.2.2.1, GG.out.2.2.2.2.2.2.2.2.2.2.2.2.2.1, GG.out.2.2.2.2.2.2.2.2.2.2.2.2.2.2.1, GG.out.2.2.2.2.2.2.2.2.2.2.2.2.2.2.2.1, GG.out.2.2.2.2.2.2.2.2.2.2.2.2.2.2.2.2.1, GG.out.2.2.2.2.2.2.2.2.2.2.2.2.2.2.2.2.2.1, GG.out.2.2.2.2.2.2.2.2.2.2.2.2.2.2.2.2.2.2⟩, hidD (SS0.out)⟩
      · have hS0 := SS0.out
        obtain rfl := GG.out.1 (hds 0 (by simp))
        clear hds
        refine wpOp_go rfl rfl (fun K hK => ?_)
        go_simp
        exact hK _ _ ⟨_, _, _, _, _, _, _, _, _, _, _, _, _, _, _, _, _, _, _, rfl, hidD ⟨fun _ => rfl, fun _ => rfl, GG.out.2.2.1, GG.out.2.2.2.1, GG.out.2.2.2.2.1, GG.out.2.2.2.2.2.1, GG.out.2.2.2.2.2.2.1, GG.out.2.2.2.2.2.2.2.1, GG.out.2.2.2.2.2.2.2.2.1, GG.out.2.2.2.2.2.2.2.2.2.1, GG.out.2.2.2.2.2.2.2.2.2.2.1, GG.out.2.2.2.2.2.2.2.2.2.2.2.1, GG.out.2.2.2.2.2.2.2.2.2.2.2.2.1, GG.out.2.2.2.2.2.2.2.2.2.2.2.2.2.1, GG.out.2.2.2.2.2.2.2.2.2.2.2.2.2.2.1, GG.out.2.2.2.2.2.2.2.2.2.2.2.2.2.2.2.1, GG.out.2.2.2.2.2.2.2.2.2.2.2.2.2.2.2.2.1, GG.out.2.2.2.2.2.2.2.2.2.2.2.2.2.2.2.2.2.1, GG.out.2.2.2.2.2.2.2.2.2.2.2.2.2.2.2.2.2.2⟩, hidD (SS0.out)⟩
      · have hS0 := SS0.out
        obtain rfl := GG.out.2.1 (hds 1 (by simp))
        clear hds
        refine wpOp_go rfl rfl (fun K hK => ?_)
        go_simp
        exact hK _ _ ⟨_, _, _, _, _, _, _, _, _, _, _, _, _, _, _, _, _, _, _, rfl, hidD ⟨GG.out.1, fun _ => rfl, fun _ => rfl, GG.out.2.2.2.1, GG.out.2.2.2.2.1, GG.out.2.2.2.2.2.1, GG.out.2.2.2.2.2.2.1, GG.out.2.2.2.2.2.2.2.1, GG.out.2.2.2.2.2.2.2.2.1, GG.out.2.2.2.2.2.2.2.2.2.1, GG.out.2.2.2.2.2.2.2.2.2.2.1, GG.out.2.2.2.2.2.2.2.2.2.2.2.1, GG.out.2.2.2.2.2.2.2.2.2.2.2.2.1, GG.out.2.2.2.2.2.2.2.2.2.2.2.2.2.1, GG.out.2.2.2.2.2.2.2.2.2.2.2.2.2.2.1, GG.out.2.2.2.2.2.2.2.2.2.2.2.2.2.2.2.1, GG.out.2.2.2.2.2.2.2.2.2.2.2.2.2.2.2.2.1, GG.out.2.2.2.2.2.2.2.2.2.2.2.2.2.2.2.2.2.1, GG.out.2.2.2.2.2.2.2.2.2.2.2.2.2.2.2.2.2.2⟩, hidD (SS0.out)⟩
      · have hS0 := SS0.out
        obtain rfl := GG.out.2.2.1 (hds 2 (by simp))
        have eQ := (nQ.bel hS0).cell
        clear hds
        refine wpOp_yes rfl rfl (fun K hK => ?_)
        go_simp
        exact hK _ _ ⟨_, _, _, _, _, _, _, _, _, _, _, _, _, _, _, _, _, _, _, rfl, hidD ⟨GG.out.1, GG.out.2.1, fun _ => rfl, fun _ => rfl, GG.out.2.2.2.2.1, GG.out.2.2.2.2.2.1, GG.out.2.2.2.2.2.2.1, GG.out.2.2.2.2.2.2.2.1, GG.out.2.2.2.2.2.2.2.2.1, GG.out.2.2.2.2.2.2.2.2.2.1, GG.out.2.2.2.2.2.2.2.2.2.2.1, GG.out.2.2.2.2.2.2.2.2.2.2.2.1, GG.out.2.2.2.2.2.2.2.2.2.2.2.2.1, GG.out.2.2.2.2.2.2.2.2.2.2.2.2.2.1, GG.out.2.2.2.2.2.2.2.2.2.2.2.2.2.2.1, GG.out.2.2.2.2.2.2.2.2.2.2.2.2.2.2.2.1, GG.out.2.2.2.2.2.2.2.2.2.2.2.2.2.2.2.2.1, GG.out.2.2.2.2.2.2.2.2.2.2.2.2.2.2.2.2.2.1, GG.out.2.2.2.2.2.2.2.2.2.2.2.2.2.2.2.2.2.2⟩, hidD (SS0.out)⟩
      · have hS0 := SS0.out
        obtain rfl := GG.out.2.2.2.1 (hds 3 (by simp))
        obtain rfl := GG.out.2.2.1 (hds 2 (by simp))
        clear hds
        have HC := hidD (H2.out V hS0)
        refine wpOp_yes rfl rfl (fun K hK => ?_)
        go_simp
        go_wp2_with (go_at_call 13; refine HC.out.mono ?_; rintro e w5 ⟨rfl, hb5⟩)
        exact ⟨_, _, _, _, _, _, _, _, _, _, _, _, _, _, _, _, _, _, _, rfl, hidD ⟨GG.out.1, GG.out.2.1, fun _ => rfl, fun _ => rfl, fun _ => rfl, GG.out.2.2.2.2.2.1, GG.out.2.2.2.2.2.2.1, GG.out.2.2.2.2.2.2.2.1, GG.out.2.2.2.2.2.2.2.2.1, GG.out.2.2.2.2.2.2.2.2.2.1, GG.out.2.2.2.2.2.2.2.2.2.2.1, GG.out.2.2.2.2.2.2.2.2.2.2.2.1, GG.out.2.2.2.2.2.2.2.2.2.2.2.2.1, GG.out.2.2.2.2.2.2.2.2.2.2.2.2.2.1, GG.out.2.2.2.2.2.2.2.2.2.2.2.2.2.2.1, GG.out.2.2.2.2.2.2.2.2.2.2.2.2.2.2.2.1, GG.out.2.2.2.2.2.2.2.2.2.2.2.2.2.2.2.2.1, GG.out.2.2.2.2.2.2.2.2.2.2.2.2.2.2.2.2.2.1, GG.out.2.2.2.2.2.2.2.2.2.2.2.2.2.2.2.2.2.2⟩, hidD (SS0.out.below hb5)⟩
      · have hS0 := SS0.out
        obtain rfl := GG.out.2.2.1 (hds 2 (by simp))
        clear hds
        refine wpOp_yes rfl rfl (fun K hK => ?_)
        go_simp
        exact hK _ _ ⟨_, _, _, _, _, _, _, _, _, _, _, _, _, _, _, _, _, _, _, rfl, hidD ⟨GG.out.1, GG.out.2.1, fun _ => rfl, GG.out.2.2.2.1, GG.out.2.2.2.2.1, fun _ => rfl, GG.out.2.2.2.2.2.2.1, GG.out.2.2.2.2.2.2.2.1, GG.out.2.2.2.2.2.2.2.2.1, GG.out.2.2.2.2.2.2.2.2.2.1, GG.out.2.2.2.2.2.2.2.2.2.2.1, GG.out.2.2.2.2.2.2.2.2.2.2.2.1, GG.out.2.2.2.2.2.2.2.2.2.2.2.2.1, GG.out.2.2.2.2.2.2.2.2.2.2.2.2.2.1, GG.out.2.2.2.2.2.2.2.2.2.2.2.2.2.2.1, GG.out.2.2.2.2.2.2.2.2.2.2.2.2.2.2.2.1, GG.out.2.2.2.2.2.2.2.2.2.2.2.2.2.2.2.2.1, GG.out.2.2.2.2.2.2.2.2.2.2.2.2.2.2.2.2.2.1, GG.out.2.2.2.2.2.2.2.2.2.2.2.2.2.2.2.2.2.2⟩, hidD (SS0.out)⟩
      · have hS0 := SS0.out
        obtain rfl := GG.out.2.2.2.2.1 (hds 4 (by simp))
        obtain rfl := GG.out.2.2.2.2.2.1 (hds 5 (by simp))
        obtain rfl := GG.out.2.2.1 (hds 2 (by simp))
        clear hds
        refine wpOp_yes rfl rfl (fun K hK => ?_)
        go_simp
        exact hK _ _ ⟨_, _, _, _, _, _, _, _, _, _, _, _, _, _, _, _, _, _, _, rfl, hidD ⟨GG.out.1, GG.out.2.1, fun _ => rfl, GG.out.2.2.2.1, fun _ => rfl, fun _ => rfl, fun _ => rfl, GG.out.2.2.2.2.2.2.2.1, GG.out.2.2.2.2.2.2.2.2.1, GG.out.2.2.2.2.2.2.2.2.2.1, GG.out.2.2.2.2.2.2.2.2.2.2.1, GG.out.2.2.2.2.2.2.2.2.2.2.2.1, GG.out.2.2.2.2.2.2.2.2.2.2.2.2.1, GG.out.2.2.2.2.2.2.2.2.2.2.2.2.2.1, GG.out.2.2.2.2.2.2.2.2.2.2.2.2.2.2.1, GG.out.2.2.2.2.2.2.2.2.2.2.2.2.2.2.2.1, GG.out.2.2.2.2.2.2.2.2.2.2.2.2.2.2.2.2.1, GG.out.2.2.2.2.2.2.2.2.2.2.2.2.2.2.2.2.2.1, GG.out.2.2.2.2.2.2.2.2.2.2.2.2.2.2.2.2.2.2⟩, hidD (SS0.out)⟩
      · have hS0 := SS0.out
        obtain rfl := GG.out.2.2.2.2.2.2.1 (hds 6 (by simp))
        obtain rfl := GG.out.2.2.1 (hds 2 (by simp))
        clear hds
        refine wpOp_yes rfl rfl (fun K hK => ?_)
        go_simp
        exact hK _ _ ⟨_, _, _, _, _, _, _, _, _, _, _, _, _, _, _, _, _, _, _, rfl, hidD ⟨GG.out.1, GG.out.2.1, fun _ => rfl, GG.out.2.2.2.1, GG.out.2.2.2.2.1, GG.out.2.2.2.2.2.1, fun _ => rfl, fun _ => rfl, GG.out.2.2.2.2.2.2.2.2.1, GG.out.2.2.2.2.2.2.2.2.2.1, GG.out.2.2.2.2.2.2.2.2.2.2.1, GG.out.2.2.2.2.2.2.2.2.2.2.2.1, GG.out.2.2.2.2.2.2.2.2.2.2.2.2.1, GG.out.2.2.2.2.2.2.2.2.2.2.2.2.2.1, GG.out.2.2.2.2.2.2.2.2.2.2.2.2.2.2.1, GG.out.2.2.2.2.2.2.2.2.2.2.2.2.2.2.2.1, GG.out.2.2.2.2.2.2.2.2.2.2.2.2.2.2.2.2.1, GG.out.2.2.2.2.2.2.2.2.2.2.2.2.2.2.2.2.2.1, GG.out.2.2.2.2.2.2.2.2.2.2.2.2.2.2.2.2.2.2⟩, hidD (SS0.out)⟩
      · have hS0 := SS0.out
        obtain rfl := GG.out.2.2.2.2.2.2.2.1 (hds 7 (by simp))
        have eQ := (nQ.bel hS0).cell
        clear hds
        refine wpOp_yes rfl rfl (fun K hK => ?_)
        go_simp
        exact hK _ _ ⟨_, _, _, _, _, _, _, _, _, _, _, _, _, _, _, _, _, _, _, rfl, hidD ⟨GG.out.1, GG.out.2.1, GG.out.2.2.1, GG.out.2.2.2.1, GG.out.2.2.2.2.1, GG.out.2.2.2.2.2.1, GG.out.2.2.2.2.2.2.1, fun _ => rfl, fun _ => rfl, GG.out.2.2.2.2.2.2.2.2.2.1, GG.out.2.2.2.2.2.2.2.2.2.2.1, GG.out.2.2.2.2.2.2.2.2.2.2.2.1, GG.out.2.2.2.2.2.2.2.2.2.2.2.2.1, GG.out.2.2.2.2.2.2.2.2.2.2.2.2.2.1, GG.out.2.2.2.2.2.2.2.2.2.2.2.2.2.2.1, GG.out.2.2.2.2.2.2.2.2.2.2.2.2.2.2.2.1, GG.out.2.2.2.2.2.2.2.2.2.2.2.2.2.2.2.2.1, GG.out.2.2.2.2.2.2.2.2.2.2.2.2.2.2.2.2.2.1, GG.out.2.2.2.2.2.2.2.2.2.2.2.2.2.2.2.2.2.2⟩, hidD (SS0.out)⟩
      · have hS0 := SS0.out
        obtain rfl := GG.out.2.2.2.2.2.2.2.2.1 (hds 8 (by simp))
        obtain rfl := GG.out.2.2.2.2.2.2.2.1 (hds 7 (by simp))
        clear hds
        have HC := hidD (H3.out V hS0)
        refine wpOp_yes rfl rfl (fun K hK => ?_)
        go_simp
        go_wp2_with (go_at_call 15; refine HC.out.mono ?_; rintro e w5 ⟨rfl, hb5⟩)
        exact ⟨_, _, _, _, _, _, _, _, _, _, _, _, _, _, _, _, _, _, _, rfl, hidD ⟨GG.out.1, GG.out.2.1, GG.out.2.2.1, GG.out.2.2.2.1, GG.out.2.2.2.2.1, GG.out.2.2.2.2.2.1, GG.out.2.2.2.2.2.2.1, fun _ => rfl, fun _ => rfl, fun _ => rfl, GG.out.2.2.2.2.2.2.2.2.2.2.1, GG.out.2.2.2.2.2.2.2.2.2.2.2.1, GG.out.2.2.2.2.2.2.2.2.2.2.2.2.1, GG.out.2.2.2.2.2.2.2.2.2.2.2.2.2.1, GG.out.2.2.2.2.2.2.2.2.2.2.2.2.2.2.1, GG.out.2.2.2.2.2.2.2.2.2.2.2.2.2.2.2.1, GG.out.2.2.2.2.2.2.2.2.2.2.2.2.2.2.2.2.1, GG.out.2.2.2.2.2.2.2.2.2.2.2.2.2.2.2.2.2.1, GG.out.2.2.2.2.2.2.2.2.2.2.2.2.2.2.2.2.2.2⟩, hidD (SS0.out.below hb5)⟩
      · have hS0 := SS0.out
        obtain rfl := GG.out.2.2.2.2.2.2.2.1 (hds 7 (by simp))
        have eP := (nP.bel hS0).cell
        clear hds
        refine wpOp_yes rfl rfl (fun K hK => ?_)
        go_simp
        exact hK _ _ ⟨_, _, _, _, _, _, _, _, _, _, _, _, _, _, _, _, _, _, _, rfl, hidD ⟨GG.out.1, GG.out.2.1, GG.out.2.2.1, GG.out.2.2.2.1, GG.out.2.2.2.2.1, GG.out.2.2.2.2.2.1, GG.out.2.2.2.2.2.2.1, fun _ => rfl, GG.out.2.2.2.2.2.2.2.2.1, GG.out.2.2.2.2.2.2.2.2.2.1, fun _ => rfl, GG.out.2.2.2.2.2.2.2.2.2.2.2.1, GG.out.2.2.2.2.2.2.2.2.2.2.2.2.1, GG.out.2.2.2.2.2.2.2.2.2.2.2.2.2.1, GG.out.2.2.2.2.2.2.2.2.2.2.2.2.2.2.1, GG.out.2.2.2.2.2.2.2.2.2.2.2.2.2.2.2.1, GG.out.2.2.2.2.2.2.2.2.2.2.2.2.2.2.2.2.1, GG.out.2.2.2.2.2.2.2.2.2.2.2.2.2.2.2.2.2.1, GG.out.2.2.2.2.2.2.2.2.2.2.2.2.2.2.2.2.2.2⟩, hidD (SS0.out)⟩
      · have hS0 := SS0.out
        obtain rfl := GG.out.2.2.2.2.2.2.2.2.2.2.1 (hds 10 (by simp))
        obtain rfl := GG.out.2.2.2.2.2.2.2.1 (hds 7 (by simp))
        clear hds
        have HC := hidD (H4.out V hS0)
        refine wpOp_yes rfl rfl (fun K hK => ?_)
        go_simp
        go_wp2_with (go_at_call 15; refine HC.out.mono ?_; rintro e w5 ⟨rfl, hb5⟩)
        exact ⟨_, _, _, _, _, _, _, _, _, _, _, _, _, _, _, _, _, _, _, rfl, hidD ⟨GG.out.1, GG.out.2.1, GG.out.2.2.1, GG.out.2.2.2.1, GG.out.2.2.2.2.1, GG.out.2.2.2.2.2.1, GG.out.2.2.2.2.2.2.1, fun _ => rfl, GG.out.2.2.2.2.2.2.2.2.1, GG.out.2.2.2.2.2.2.2.2.2.1, fun _ => rfl, fun _ => rfl, GG.out.2.2.2.2.2.2.2.2.2.2.2.2.1, GG.out.2.2.2.2.2.2.2.2.2.2.2.2.2.1, GG.out.2.2.2.2.2.2.2.2.2.2.2.2.2.2.1, GG.out.2.2.2.2.2.2.2.2.2.2.2.2.2.2.2.1, GG.out.2.2.2.2.2.2.2.2.2.2.2.2.2.2.2.2.1, GG.out.2.2.2.2.2.2.2.2.2.2.2.2.2.2.2.2.2.1, GG.out.2.2.2.2.2.2.2.2.2.2.2.2.2.2.2.2.2.2⟩, hidD (SS0.out.below hb5)⟩
      · have hS0 := SS0.out
        obtain rfl := GG.out.2.2.2.2.2.2.2.2.2.1 (hds 9 (by simp))
        obtain rfl := GG.out.2.2.2.2.2.2.2.2.2.2.2.1 (hds 11 (by simp))
        obtain rfl := GG.out.2.2.2.2.2.2.2.1 (hds 7 (by simp))
        clear hds
        refine wpOp_yes rfl rfl (fun K hK => ?_)
        go_simp
        exact hK _ _ ⟨_, _, _, _, _, _, _, _, _, _, _, _, _, _, _, _, _, _, _, rfl, hidD ⟨GG.out.1, GG.out.2.1, GG.out.2.2.1, GG.out.2.2.2.1, GG.out.2.2.2.2.1, GG.out.2.2.2.2.2.1, GG.out.2.2.2.2.2.2.1, fun _ => rfl, GG.out.2.2.2.2.2.2.2.2.1, fun _ => rfl, GG.out.2.2.2.2.2.2.2.2.2.2.1, fun _ => rfl, fun _ => rfl, GG.out.2.2.2.2.2.2.2.2.2.2.2.2.2.1, GG.out.2.2.2.2.2.2.2.2.2.2.2.2.2.2.1, GG.out.2.2.2.2.2.2.2.2.2.2.2.2.2.2.2.1, GG.out.2.2.2.2.2.2.2.2.2.2.2.2.2.2.2.2.1, GG.out.2.2.2.2.2.2.2.2.2.2.2.2.2.2.2.2.2.1, GG.out.2.2.2.2.2.2.2.2.2.2.2.2.2.2.2.2.2.2⟩, hidD (SS0.out)⟩
      · have hS0 := SS0.out
        obtain rfl := GG.out.2.2.2.2.2.2.2.1 (hds 7 (by simp))
        obtain rfl := GG.out.2.2.2.2.2.2.2.2.2.2.2.2.1 (hds 12 (by simp))
        obtain rfl := GG.out.2.2.1 (hds 2 (by simp))
        clear hds
        refine wpOp_yes rfl rfl (fun K hK => ?_)
        go_simp
        exact hK _ _ ⟨_, _, _, _, _, _, _, _, _, _, _, _, _, _, _, _, _, _, _, rfl, hidD ⟨GG.out.1, GG.out.2.1, fun _ => rfl, GG.out.2.2.2.1, GG.out.2.2.2.2.1, GG.out.2.2.2.2.2.1, GG.out.2.2.2.2.2.2.1, fun _ => rfl, GG.out.2.2.2.2.2.2.2.2.1, GG.out.2.2.2.2.2.2.2.2.2.1, GG.out.2.2.2.2.2.2.2.2.2.2.1, GG.out.2.2.2.2.2.2.2.2.2.2.2.1, fun _ => rfl, fun _ => rfl, GG.out.2.2.2.2.2.2.2.2.2.2.2.2.2.2.1, GG.out.2.2.2.2.2.2.2.2.2.2.2.2.2.2.2.1, GG.out.2.2.2.2.2.2.2.2.2.2.2.2.2.2.2.2.1, GG.out.2.2.2.2.2.2.2.2.2.2.2.2.2.2.2.2.2.1, GG.out.2.2.2.2.2.2.2.2.2.2.2.2.2.2.2.2.2.2⟩, hidD (SS0.out)⟩
      · have hS0 := SS0.out
        obtain rfl := GG.out.2.2.1 (hds 2 (by simp))
        obtain rfl := GG.out.2.2.2.2.2.2.2.2.2.2.2.2.2.1 (hds 13 (by simp))
        clear hds
        refine wpOp_go rfl rfl (fun K hK => ?_)
        go_simp
        exact hK _ _ ⟨_, _, _, _, _, _, _, _, _, _, _, _, _, _, _, _, _, _, _, rfl, hidD ⟨GG.out.1, GG.out.2.1, fun _ => rfl, GG.out.2.2.2.1, GG.out.2.2.2.2.1, GG.out.2.2.2.2.2.1, GG.out.2.2.2.2.2.2.1, GG.out.2.2.2.2.2.2.2.1, GG.out.2.2.2.2.2.2.2.2.1, GG.out.2.2.2.2.2.2.2.2.2.1, GG.out.2.2.2.2.2.2.2.2.2.2.1, GG.out.2.2.2.2.2.2.2.2.2.2.2.1, GG.out.2.2.2.2.2.2.2.2.2.2.2.2.1, fun _ => rfl, fun _ => rfl, GG.out.2.2.2.2.2.2.2.2.2.2.2.2.2.2.2.1, GG.out.2.2.2.2.2.2.2.2.2.2.2.2.2.2.2.2.1, GG.out.2.2.2.2.2.2.2.2.2.2.2.2.2.2.2.2.2.1, GG.out.2.2.2.2.2.2.2.2.2.2.2.2.2.2.2.2.2.2⟩, hidD (SS0.out)⟩
      · have hS0 := SS0.out
        obtain rfl := GG.out.2.2.2.2.2.2.2.2.2.2.2.2.2.2.1 (hds 14 (by simp))
        clear hds
        refine wpOp_go rfl rfl (fun K hK => ?_)
        go_simp
        exact hK _ _ ⟨_, _, _, _, _, _, _, _, _, _, _, _, _, _, _, _, _, _, _, rfl, hidD ⟨GG.out.1, GG.out.2.1, GG.out.2.2.1, GG.out.2.2.2.1, GG.out.2.2.2.2.1, GG.out.2.2.2.2.2.1, GG.out.2.2.2.2.2.2.1, GG.out.2.2.2.2.2.2.2.1, GG.out.2.2.2.2.2.2.2.2.1, GG.out.2.2.2.2.2.2.2.2.2.1, GG.out.2.2.2.2.2.2.2.2.2.2.1, GG.out.2.2.2.2.2.2.2.2.2.2.2.1, GG.out.2.2.2.2.2.2.2.2.2.2.2.2.1, GG.out.2.2.2.2.2.2.2.2.2.2.2.2.2.1, fun _ => rfl, fun _ => rfl, GG.out.2.2.2.2.2.2.2.2.2.2.2.2.2.2.2.2.1, GG.out.2.2.2.2.2.2.2.2.2.2.2.2.2.2.2.2.2.1, GG.out.2.2.2.2.2.2.2.2.2.2.2.2.2.2.2.2.2.2⟩, hidD (SS0.out)⟩
      · have hS0 := SS0.out
        obtain rfl := GG.out.2.2.2.2.2.2.2.2.2.2.2.2.2.2.2.1 (hds 15 (by simp))
        clear hds
        have HC := hidD (H10.out V hS0)
        refine wpOp_yes rfl rfl (fun K hK => ?_)
        go_simp
        go_wp2_with (go_at_call 19; refine HC.out.mono ?_; rintro e w5 ⟨rfl, hb5⟩)
        exact ⟨_, _, _, _, _, _, _, _, _, _, _, _, _, _, _, _, _, _, _, rfl, hidD ⟨GG.out.1, GG.out.2.1, GG.out.2.2.1, GG.out.2.2.2.1, GG.out.2.2.2.2.1, GG.out.2.2.2.2.2.1, GG.out.2.2.2.2.2.2.1, GG.out.2.2.2.2.2.2.2.1, GG.out.2.2.2.2.2.2.2.2.1, GG.out.2.2.2.2.2.2.2.2.2.1, GG.out.2.2.2.2.2.2.2.2.2.2.1, GG.out.2.2.2.2.2.2.2.2.2.2.2.1, GG.out.2.2.2.2.2.2.2.2.2.2.2.2.1, GG.out.2.2.2.2.2.2.2.2.2.2.2.2.2.1, GG.out.2.2.2.2.2.2.2.2.2.2.2.2.2.2.1, fun _ => rfl, fun _ => rfl, GG.out.2.2.2.2.2.2.2.2.2.2.2.2.2.2.2.2.2.1, GG.out.2.2.2.2.2.2.2.2.2.2.2.2.2.2.2.2.2.2⟩, hidD (SS0.out.below hb5)⟩
      · have hS0 := SS0.out
        obtain rfl := GG.out.2.2.2.2.2.2.2.2.2.2.2.2.2.2.2.1 (hds 15 (by simp))
        obtain rfl := GG.out.2.2.2.2.2.2.2.2.2.2.2.2.2.2.2.2.1 (hds 16 (by simp))
        clear hds
        refine wpOp_go rfl rfl (fun K hK => ?_)
        go_simp
        exact hK _ _ ⟨_, _, _, _, _, _, _, _, _, _, _, _, _, _, _, _, _, _, _, rfl, hidD ⟨GG.out.1, GG.out.2.1, GG.out.2.2.1, GG.out.2.2.2.1, GG.out.2.2.2.2.1, GG.out.2.2.2.2.2.1, GG.out.2.2.2.2.2.2.1, GG.out.2.2.2.2.2.2.2.1, GG.out.2.2.2.2.2.2.2.2.1, GG.out.2.2.2.2.2.2.2.2.2.1, GG.out.2.2.2.2.2.2.2.2.2.2.1, GG.out.2.2.2.2.2.2.2.2.2.2.2.1, GG.out.2.2.2.2.2.2.2.2.2.2.2.2.1, GG.out.2.2.2.2.2.2.2.2.2.2.2.2.2.1, GG.out.2.2.2.2.2.2.2.2.2.2.2.2.2.2.1, fun _ => rfl, fun _ => rfl, fun _ => rfl, GG.out.2.2.2.2.2.2.2.2.2.2.2.2.2.2.2.2.2.2⟩, hidD (SS0.out)⟩
      · have hS0 := SS0.out
        obtain rfl := GG.out.2.2.2.2.2.2.2.2.2.2.2.2.2.2.2.2.2.1 (hds 17 (by simp))
        clear hds
        refine wpOp_go rfl rfl (fun K hK => ?_)
        go_simp
        exact hK _ _ ⟨_, _, _, _, _, _, _, _, _, _, _, _, _, _, _, _, _, _, _, rfl, hidD ⟨GG.out.1, GG.out.2.1, GG.out.2.2.1, GG.out.2.2.2.1, GG.out.2.2.2.2.1, GG.out.2.2.2.2.2.1, GG.out.2.2.2.2.2.2.1, GG.out.2.2.2.2.2.2.2.1, GG.out.2.2.2.2.2.2.2.2.1, GG.out.2.2.2.2.2.2.2.2.2.1, GG.out.2.2.2.2.2.2.2.2.2.2.1, GG.out.2.2.2.2.2.2.2.2.2.2.2.1, GG.out.2.2.2.2.2.2.2.2.2.2.2.2.1, GG.out.2.2.2.2.2.2.2.2.2.2.2.2.2.1, GG.out.2.2.2.2.2.2.2.2.2.2.2.2.2.2.1, GG.out.2.2.2.2.2.2.2.2.2.2.2.2.2.2.2.1, GG.out.2.2.2.2.2.2.2.2.2.2.2.2.2.2.2.2.1, fun _ => rfl, fun _ => rfl⟩, hidD (SS0.out)⟩
    case fin1 =>
      rintro D act V hDD ⟨t52x, t53x, t54x, t55x, t56x, t57x, t58x, t59x, t60x, t61x, t62x, t63x, t64x, t65x, t66x, t67x, t68x, t69x, t2x, rfl, GG, SS0⟩
      obtain rfl := GG.out.2.2.2.2.2.2.2.2.2.2.2.2.2.2.2.2.2.2 (hDD 18 (by decide))
      have hq := SS0.out
      clear GG SS0 hDD
      go_wp2_with fail
      go_ret
      exact ⟨rfl, M.out.trans (Below.mono hq M.out.size)⟩
  · have h1 : ((G : Int) != 0) = true := by simpa using h0
    clear h0 HBK
    refine wp_region_tab hmx [[], [0], [1], [2], [3, 2, 2], [2], [4, 5, 2], [6, 4, 2], [7], [8, 7, 7], [7], [10, 9, 7], [9, 11, 7], [7, 12, 2], [2, 13], [14, 11], [15, 15], [15, 16], [17, 16, 0, 1, 2, 3, 4, 5, 6, 7, 8, 9, 10, 11, 12, 13, 14, 15, 16, 17]] (by kernel_rfl) (by decide)
      (fun D act V => ∃ (t52x t53x t54x t66x t67x t68x t69x t2x : Value), act = { tmps := #[Value.string s, undef, t2x, Value.pointer (some { block := BP, off := 0 }), Value.int IntKind.i64 ↑E, Value.int IntKind.i64 ↑(parseP (wlst s)).snd.snd, u2, Value.int IntKind.i64 ↑E, Value.int IntKind.i64 ↑(parseP (wlst s)).snd.snd, Value.string T1, Value.pointer (some { block := BQ, off := 0 }), Value.int IntKind.i64 ↑G, Value.int IntKind.i64 ↑(parseP (wlst T1)).snd.snd, u5, Value.int IntKind.i64 ↑G, Value.int IntKind.i64 ↑(parseP (wlst T1)).snd.snd, Value.tuple #[Value.agg #[Value.slice a1 l1 c1], Value.int IntKind.i64 ↑E, Value.int IntKind.i64 ↑(parseP (wlst s)).snd.snd], Value.string s, Value.tuple #[Value.agg #[Value.slice a1 l1 c1], Value.int IntKind.i64 ↑E, Value.int IntKind.i64 ↑(parseP (wlst s)).snd.snd], Value.agg #[Value.slice a1 l1 c1], Value.int IntKind.i64 ↑E, Value.int IntKind.i64 ↑(parseP (wlst s)).snd.snd, Value.tuple #[u2, Value.int IntKind.i64 ↑E, Value.int IntKind.i64 ↑(parseP (wlst s)).snd.snd], Value.string s, Value.tuple #[u2, Value.int IntKind.i64 ↑E, Value.int IntKind.i64 ↑(parseP (wlst s)).snd.snd], u2, Value.int IntKind.i64 ↑E, Value.int IntKind.i64 ↑(parseP (wlst s)).snd.snd, Value.agg #[Value.slice a1 l1 c1], Value.string T1, Value.tuple #[Value.agg #[Value.slice a4 l4 c4], Value.int IntKind.i64 ↑G, Value.int IntKind.i64 ↑(parseP (wlst T1)).snd.snd], Value.string T1, Value.tuple #[Value.agg #[Value.slice a4 l4 c4], Value.int IntKind.i64 ↑G, Value.int IntKind.i64 ↑(parseP (wlst T1)).snd.snd], Value.agg #[Value.slice a4 l4 c4], Value.int IntKind.i64 ↑G, Value.int IntKind.i64 ↑(parseP (wlst T1)).snd.snd, Value.tuple #[u5, Value.int IntKind.i64 ↑G, Value.int IntKind.i64 ↑(parseP (wlst T1)).snd.snd], Value.string T1, Value.tuple #[u5, Value.int IntKind.i64 ↑G, Value.int IntKind.i64 ↑(parseP (wlst T1)).snd.snd], u5, Value.int IntKind.i64 ↑G, Value.int IntKind.i64 ↑(parseP (wlst T1)).snd.snd, Value.int IntKind.i64 ↑E, Value.int IntKind.i64 ↑E, Value.int IntKind.i64 ↑E, Value.bool false, Value.bool false, Value.int IntKind.i64 ↑G, Value.int IntKind.i64 ↑G, Value.int IntKind.i64 ↑G, Value.bool false, Value.bool false, t52x, t53x, t54x, undef, undef, undef, undef, undef, undef, undef, undef, undef, undef, undef, t66x, t67x, t68x, t69x], defers := [] } ∧ Hid ((D 0 = true → t52x = .int .i64 (G : Int)) ∧ (D 1 = true → t53x = .bool true) ∧ (D 2 = true → t54x = .bool true) ∧ (D 14 = true → t66x = .bool true) ∧ (D 15 = true → t67x = .bool true) ∧ (D 16 = true → t68x = .bool true) ∧ (D 17 = true → t69x = .bool true) ∧ (D 18 = true → t2x = .bool true)) ∧ Hid (Abv x V))
      ⟨_, _, _, _, _, _, _, _, rfl, hidD ⟨by simp, by simp, by simp, by simp, by simp, by simp, by simp, by simp⟩, hidD ST0⟩ ?step2 ?fin2
    case step2 =>
      rintro D act V i ds hcl hi hds hDi ⟨t52x, t53x, t54x, t66x, t67x, t68x, t69x, t2x, rfl, GG, SS0⟩
      have hi6 : i < 19 := (List.getElem?_eq_some_iff.1 hi).1
      obtain rfl | rfl | rfl | rfl | rfl | rfl | rfl | rfl | rfl | rfl | rfl | rfl | rfl | rfl | rfl | rfl | rfl | rfl | rfl : i = 0 ∨ i = 1 ∨ i = 2 ∨ i = 3 ∨ i = 4 ∨ i = 5 ∨ i = 6 ∨ i = 7 ∨ i = 8 ∨ i = 9 ∨ i = 10 ∨ i = 11 ∨ i = 12 ∨ i = 13 ∨ i = 14 ∨ i = 15 ∨ i = 16 ∨ i = 17 ∨ i = 18 := by omega
      all_goals
        simp only [List.getElem?_cons_zero, List.getElem?_cons_succ, Option.some.injEq] at hi
        subst hi
      · have hS0 := SS0.out
        clear hds
        refine wpOp_go rfl rfl (fun K hK => ?_)
        go_simp
        exact hK _ _ ⟨_, _, _, _, _, _, _, _, rfl, hidD ⟨fun _ => rfl, GG.out.2.1, GG.out.2.2.1, GG.out.2.2.2.1, GG.out.2.2.2.2.1, GG.out.2.2.2.2.2.1, GG.out.2.2.2.2.2.2.1, GG.out.2.2.2.2.2.2.2⟩, hidD (SS0.out)⟩
      · have hS0 := SS0.out
        obtain rfl := GG.out.1 (hds 0 (by simp))
        clear hds
        refine wpOp_go rfl rfl (fun K hK => ?_)
        go_simp
        exact hK _ _ ⟨_, _, _, _, _, _, _, _, rfl, hidD ⟨fun _ => rfl, fun _ => rfl, GG.out.2.2.1, GG.out.2.2.2.1, GG.out.2.2.2.2.1, GG.out.2.2.2.2.2.1, GG.out.2.2.2.2.2.2.1, GG.out.2.2.2.2.2.2.2⟩, hidD (SS0.out)⟩
      · have hS0 := SS0.out
        obtain rfl := GG.out.2.1 (hds 1 (by simp))
        clear hds
        refine wpOp_go rfl rfl (fun K hK => ?_)
        go_simp
        exact hK _ _ ⟨_, _, _, _, _, _, _, _, rfl, hidD ⟨GG.out.1, fun _ => rfl, fun _ => rfl, GG.out.2.2.2.1, GG.out.2.2.2.2.1, GG.out.2.2.2.2.2.1, GG.out.2.2.2.2.2.2.1, GG.out.2.2.2.2.2.2.2⟩, hidD (SS0.out)⟩
      · have hS0 := SS0.out
        obtain rfl := GG.out.2.2.1 (hds 2 (by simp))
        clear hds
        refine wpOp_no rfl rfl ?_
        exact ⟨_, _, _, _, _, _, _, _, rfl, hidD ⟨GG.out.1, GG.out.2.1, fun _ => rfl, GG.out.2.2.2.1, GG.out.2.2.2.2.1, GG.out.2.2.2.2.2.1, GG.out.2.2.2.2.2.2.1, GG.out.2.2.2.2.2.2.2⟩, hidD (SS0.out)⟩
      · have hS0 := SS0.out
        obtain rfl := GG.out.2.2.1 (hds 2 (by simp))
        clear hds
        refine wpOp_no rfl rfl ?_
        exact ⟨_, _, _, _, _, _, _, _, rfl, hidD ⟨GG.out.1, GG.out.2.1, fun _ => rfl, GG.out.2.2.2.1, GG.out.2.2.2.2.1, GG.out.2.2.2.2.2.1, GG.out.2.2.2.2.2.2.1, GG.out.2.2.2.2.2.2.2⟩, hidD (SS0.out)⟩
      · have hS0 := SS0.out
        obtain rfl := GG.out.2.2.1 (hds 2 (by simp))
        clear hds
        refine wpOp_no rfl rfl ?_
        exact ⟨_, _, _, _, _, _, _, _, rfl, hidD ⟨GG.out.1, GG.out.2.1, fun _ => rfl, GG.out.2.2.2.1, GG.out.2.2.2.2.1, GG.out.2.2.2.2.2.1, GG.out.2.2.2.2.2.2.1, GG.out.2.2.2.2.2.2.2⟩, hidD (SS0.out)⟩
      · have hS0 := SS0.out
        obtain rfl := GG.out.2.2.1 (hds 2 (by simp))
        clear hds
        refine wpOp_no rfl rfl ?_
        exact ⟨_, _, _, _, _, _, _, _, rfl, hidD ⟨GG.out.1, GG.out.2.1, fun _ => rfl, GG.out.2.2.2.1, GG.out.2.2.2.2.1, GG.out.2.2.2.2.2.1, GG.out.2.2.2.2.2.2.1, GG.out.2.2.2.2.2.2.2⟩, hidD (SS0.out)⟩
      · have hS0 := SS0.out
        obtain rfl := GG.out.2.2.1 (hds 2 (by simp))
        clear hds
        refine wpOp_no rfl rfl ?_
        exact ⟨_, _, _, _, _, _, _, _, rfl, hidD ⟨GG.out.1, GG.out.2.1, fun _ => rfl, GG.out.2.2.2.1, GG.out.2.2.2.2.1, GG.out.2.2.2.2.2.1, GG.out.2.2.2.2.2.2.1, GG.out.2.2.2.2.2.2.2⟩, hidD (SS0.out)⟩
      · have hS0 := SS0.out
        clear hds
        refine wpOp_no rfl rfl ?_
        exact ⟨_, _, _, _, _, _, _, _, rfl, hidD ⟨GG.out.1, GG.out.2.1, GG.out.2.2.1, GG.out.2.2.2.1, GG.out.2.2.2.2.1, GG.out.2.2.2.2.2.1, GG.out.2.2.2.2.2.2.1, GG.out.2.2.2.2.2.2.2⟩, hidD (SS0.out)⟩
      · have hS0 := SS0.out
        clear hds
        refine wpOp_no rfl rfl ?_
        exact ⟨_, _, _, _, _, _, _, _, rfl, hidD ⟨GG.out.1, GG.out.2.1, GG.out.2.2.1, GG.out.2.2.2.1, GG.out.2.2.2.2.1, GG.out.2.2.2.2.2.1, GG.out.2.2.2.2.2.2.1, GG.out.2.2.2.2.2.2.2⟩, hidD (SS0.out)⟩
      · have hS0 := SS0.out
        clear hds
        refine wpOp_no rfl rfl ?_
        exact ⟨_, _, _, _, _, _, _, _, rfl, hidD ⟨GG.out.1, GG.out.2.1, GG.out.2.2.1, GG.out.2.2.2.1, GG.out.2.2.2.2.1, GG.out.2.2.2.2.2.1, GG.out.2.2.2.2.2.2.1, GG.out.2.2.2.2.2.2.2⟩, hidD (SS0.out)⟩
      · have hS0 := SS0.out
        clear hds
        refine wpOp_no rfl rfl ?_
        exact ⟨_, _, _, _, _, _, _, _, rfl, hidD ⟨GG.out.1, GG.out.2.1, GG.out.2.2.1, GG.out.2.2.2.1, GG.out.2.2.2.2.1, GG.out.2.2.2.2.2.1, GG.out.2.2.2.2.2.2.1, GG.out.2.2.2.2.2.2.2⟩, hidD (SS0.out)⟩
      · have hS0 := SS0.out
        clear hds
        refine wpOp_no rfl rfl ?_
        exact ⟨_, _, _, _, _, _, _, _, rfl, hidD ⟨GG.out.1, GG.out.2.1, GG.out.2.2.1, GG.out.2.2.2.1, GG.out.2.2.2.2.1, GG.out.2.2.2.2.2.1, GG.out.2.2.2.2.2.2.1, GG.out.2.2.2.2.2.2.2⟩, hidD (SS0.out)⟩
      · have hS0 := SS0.out
        obtain rfl := GG.out.2.2.1 (hds 2 (by simp))
        clear hds
        refine wpOp_no rfl rfl ?_
        exact ⟨_, _, _, _, _, _, _, _, rfl, hidD ⟨GG.out.1, GG.out.2.1, fun _ => rfl, GG.out.2.2.2.1, GG.out.2.2.2.2.1, GG.out.2.2.2.2.2.1, GG.out.2.2.2.2.2.2.1, GG.out.2.2.2.2.2.2.2⟩, hidD (SS0.out)⟩
      · have hS0 := SS0.out
        obtain rfl := GG.out.2.2.1 (hds 2 (by simp))
        clear hds
        refine wpOp_go rfl rfl (fun K hK => ?_)
        go_simp
        exact hK _ _ ⟨_, _, _, _, _, _, _, _, rfl, hidD ⟨GG.out.1, GG.out.2.1, fun _ => rfl, fun _ => rfl, GG.out.2.2.2.2.1, GG.out.2.2.2.2.2.1, GG.out.2.2.2.2.2.2.1, GG.out.2.2.2.2.2.2.2⟩, hidD (SS0.out)⟩
      · have hS0 := SS0.out
        obtain rfl := GG.out.2.2.2.1 (hds 14 (by simp))
        clear hds
        refine wpOp_go rfl rfl (fun K hK => ?_)
        go_simp
        exact hK _ _ ⟨_, _, _, _, _, _, _, _, rfl, hidD ⟨GG.out.1, GG.out.2.1, GG.out.2.2.1, fun _ => rfl, fun _ => rfl, GG.out.2.2.2.2.2.1, GG.out.2.2.2.2.2.2.1, GG.out.2.2.2.2.2.2.2⟩, hidD (SS0.out)⟩
      · have hS0 := SS0.out
        obtain rfl := GG.out.2.2.2.2.1 (hds 15 (by simp))
        clear hds
        have HC := hidD (H10.out V hS0)
        refine wpOp_yes rfl rfl (fun K hK => ?_)
        go_simp
        go_wp2_with (go_at_call 19; refine HC.out.mono ?_; rintro e w5 ⟨rfl, hb5⟩)
        exact ⟨_, _, _, _, _, _, _, _, rfl, hidD ⟨GG.out.1, GG.out.2.1, GG.out.2.2.1, GG.out.2.2.2.1, fun _ => rfl, fun _ => rfl, GG.out.2.2.2.2.2.2.1, GG.out.2.2.2.2.2.2.2⟩, hidD (SS0.out.below hb5)⟩
      · have hS0 := SS0.out
        obtain rfl := GG.out.2.2.2.2.1 (hds 15 (by simp))
        obtain rfl := GG.out.2.2.2.2.2.1 (hds 16 (by simp))
        clear hds
        refine wpOp_go rfl rfl (fun K hK => ?_)
        go_simp
        exact hK _ _ ⟨_, _, _, _, _, _, _, _, rfl, hidD ⟨GG.out.1, GG.out.2.1, GG.out.2.2.1, GG.out.2.2.2.1, fun _ => rfl, fun _ => rfl, fun _ => rfl, GG.out.2.2.2.2.2.2.2⟩, hidD (SS0.out)⟩
      · have hS0 := SS0.out
        obtain rfl := GG.out.2.2.2.2.2.2.1 (hds 17 (by simp))
        clear hds
        refine wpOp_go rfl rfl (fun K hK => ?_)
        go_simp
        exact hK _ _ ⟨_, _, _, _, _, _, _, _, rfl, hidD ⟨GG.out.1, GG.out.2.1, GG.out.2.2.1, GG.out.2.2.2.1, GG.out.2.2.2.2.1, GG.out.2.2.2.2.2.1, fun _ => rfl, fun _ => rfl⟩, hidD (SS0.out)⟩
    case fin2 =>
      rintro D act V hDD ⟨t52x, t53x, t54x, t66x, t67x, t68x, t69x, t2x, rfl, GG, SS0⟩
      obtain rfl := GG.out.2.2.2.2.2.2.2 (hDD 18 (by decide))
      have hq := SS0.out
      clear GG SS0 hDD
      go_wp2_with fail
      go_ret
      exact ⟨rfl, M.out.trans (Below.mono hq M.out.size)⟩
end Go.Proofs.YtcahejkcdcjjgaaGreatDoor
namespace Go.Proofs.YtcahejkcdcjjgaaGreatDoor
open Go.RowKit Go.Shelf

/-- Appending to a row turns no block of another type. -/
theorem append_far (r : Bool) (base : Nat) (W : World) (v : Value) (qs : List Rat) (h : OutK r base W v qs) {x y z u : Value} {q : Rat} (hq : IsK r W (.agg #[x, y, z, u]) q) (hl : qs.length + 1 ≤ 1099511627776) {v' : Value} {w' : World}
    (hap : (Builtin.append_ #[tsK r, tsK r] (tsK r) #[v, .slice (some ⟨W.heap.size, 0, none⟩) 1 1]).run Tryz.prog (W.alloc (.cells #[x, y, z, u] (tyK r))) = .ok v' w') :
    ∀ B, B < W.heap.size → (∀ cs m, W.heap[B]? ≠ some (.cells cs (tyK r) m)) → w'.heap[B]? = W.heap[B]? := by
  obtain ⟨i, hi, hz, hsz, hby⟩ := info_tsK r
  have ht := under_tsK r
  have hal : Below W.heap.size W (W.alloc (.cells #[x, y, z, u] (tyK r))) := (Below.refl _ W).alloc (Nat.le_refl _) _
  obtain ⟨W1, hW1⟩ : ∃ W1, W.alloc (.cells #[x, y, z, u] (tyK r)) = W1 := ⟨_, rfl⟩
  have hnew : W1.heap[W.heap.size]? = some (.cells #[x, y, z, u] (tyK r) (0, 0)) := by rw [← hW1]; exact World.alloc_heap_new W _
  rw [hW1] at hal hap
  have hnews : ∀ j c, [x, y, z, u][j]? = some c → W1.cell? ((⟨W.heap.size, 0, none⟩ : Addr).add j) = some c := fun j c hc => by
    rw [addr_plain, Nat.zero_add]
    exact cell_of hnew (by simpa using hc)
  have hz1 : (Value.agg (zK r)).cells = zK r := rfl
  have fin : ∀ o B, B < W.heap.size → (W1.drew.alloc o).heap[B]? = W.heap[B]? := fun o B hB => by
    have hb2 : Below W.heap.size W (W1.drew.alloc o) := (hal.drew).alloc (by exact hal.size) _
    exact hb2.block B hB
  rcases h with ⟨rfl, rfl⟩ | ⟨g, cap, cur, rfl, h2, h3, h4, h5, h6, h7, h8⟩
  · have hr := run_append_nil (P := Tryz.prog) W1 (tsK r) (tsK r) (tyK r) i _ ht hi hz ⟨W.heap.size, 0, none⟩ 1 1 [x, y, z, u] (by rw [hsz]; rfl) hnews (by omega) (by omega) (by rw [hby]; omega)
    rw [hz1] at hr
    rw [hr] at hap
    cases hap
    intro B hB _
    exact fin _ B hB
  · have h3' : W1.heap[g]? = some (.cells cur (tyK r) (0, 0)) := (hal.block g (Array.getElem?_eq_some_iff.1 h3).1).trans h3
    have hlc : (cur.toList.take (qs.length * 4)).length = qs.length * 4 := by rw [List.length_take]; have h0 : cur.toList.length = cur.size := Array.length_toList; omega
    by_cases hroom : qs.length + 1 ≤ cap
    · have hr := run_append_room (P := Tryz.prog) W1 (tsK r) (tsK r) (tyK r) i ht hi g qs.length cap cur h3' ⟨W.heap.size, 0, none⟩ 1 1 [x, y, z, u] (by rw [hsz]; rfl) hnews hq.one hroom (by rw [hsz]; simp; omega)
      rw [hr] at hap
      cases hap
      intro B hB hn
      have hne : B ≠ g := fun e => hn cur (0, 0) (by rw [e]; exact h3)
      exact (setRow_other W1 g B _ hne).trans (hal.block B hB)
    · have holds : ∀ j c, (cur.toList.take (qs.length * 4))[j]? = some c → W1.cell? ((⟨g, 0, none⟩ : Addr).add j) = some c := fun j c hc => by
        rw [addr_plain, Nat.zero_add]
        rw [List.getElem?_take] at hc
        split at hc
        · rw [Array.getElem?_toList] at hc
          exact cell_of h3' hc
        · cases hc
      have hr := run_append_grow (P := Tryz.prog) W1 (tsK r) (tsK r) (tyK r) i _ ht hi hz ⟨g, 0, none⟩ qs.length cap (cur.toList.take (qs.length * 4)) (by rw [hsz]; exact hlc) holds ⟨W.heap.size, 0, none⟩ 1 1 [x, y, z, u] (by rw [hsz]; rfl) hnews (by omega) (by omega) (by rw [hby]; exact growslice_fits (by omega) (by omega))
      rw [hz1] at hr
      rw [hr] at hap
      cases hap
      intro B hB _
      exact fin _ B hB

/-- A row of the other kind stands. -/
theorem OutK.other {r r2 : Bool} {base : Nat} {W W' : World} {v : Value} {qs : List Rat} (h : OutK r2 base W v qs) (hne : tyK r2 ≠ tyK r) (hf : ∀ B, B < W.heap.size → (∀ cs m, W.heap[B]? ≠ some (.cells cs (tyK r) m)) → W'.heap[B]? = W.heap[B]?) (hk : ∀ k v ds, Row k W v ds → Row k W' v ds) : OutK r2 base W' v qs := by
  rcases h with h | ⟨g, cap, cur, h1, h2, h3, h4, h5, h6, h7, h8⟩
  · exact Or.inl h
  · refine Or.inr ⟨g, cap, cur, h1, h2, (hf g (Array.getElem?_eq_some_iff.1 h3).1 fun cs m e => ?_).trans h3, h4, h5, h6, h7, h8.keep hk⟩
    rw [h3] at e
    simp only [Option.some.injEq, Obj.cells.injEq] at e
    exact hne e.2.1

/-- Both rows, one longer: first the code's, then the document's. -/
theorem two_append (base : Nat) (W : World) (v u : Value) (qs : List Rat) (h : OutK true base W v qs) (h2 : OutK false base W u qs) {x y z t : Value} {q : Rat} (hq : IsRat W (.agg #[x, y, z, t]) q) (hl : qs.length + 1 ≤ 1099511627776) (hbase : base ≤ W.heap.size) :
    ∃ v' w', (Builtin.append_ #[22, 22] 22 #[v, .slice (some ⟨W.heap.size, 0, none⟩) 1 1]).run Tryz.prog (W.alloc (.cells #[x, y, z, t] 38)) = .ok v' w' ∧ OutK true base w' v' (qs ++ [q]) ∧ OutK false base w' u qs ∧ (∀ n w0, n ≤ base → Below n w0 W → Below n w0 w') := by
  obtain ⟨v', w', e, h3, h4, h5⟩ := out_append true base W v qs h hq hl hbase
  exact ⟨v', w', e, h3, h2.other (r := true) (by decide) (append_far true base W v qs h hq hl e) h4, h5⟩
theorem two_append2 (base : Nat) (W : World) (v u : Value) (qs ps : List Rat) (h : OutK true base W v ps) (h2 : OutK false base W u qs) {x y z t : Value} {q : Rat} (hq : IsRef W (.agg #[x, y, z, t]) q) (hl : qs.length + 1 ≤ 1099511627776) (hbase : base ≤ W.heap.size) :
    ∃ v' w', (Builtin.append_ #[30, 30] 30 #[u, .slice (some ⟨W.heap.size, 0, none⟩) 1 1]).run Tryz.prog (W.alloc (.cells #[x, y, z, t] 49)) = .ok v' w' ∧ OutK false base w' v' (qs ++ [q]) ∧ OutK true base w' v ps ∧ (∀ n w0, n ≤ base → Below n w0 W → Below n w0 w') := by
  obtain ⟨v', w', e, h3, h4, h5⟩ := out_append false base W u qs h2 hq hl hbase
  exact ⟨v', w', e, h3, h.other (r := false) (by decide) (append_far false base W u qs h2 hq hl e) h4, h5⟩

theorem OutK.els {r : Bool} {base : Nat} {W : World} {a : Option Addr} {n c : Nat} {qs : List Rat} (h : OutK r base W (.slice a n c) qs) (hn : 0 < qs.length) : ∃ g, a = some ⟨g, 0, none⟩ ∧ base ≤ g ∧ Els r W g qs := by
  rcases h with ⟨_, rfl⟩ | ⟨g, cap, cur, e, h2, h3, h4, h5, h6, h7, h8⟩
  · simp at hn
  · refine ⟨g, by cases e; rfl, h2, cur, h3, fun j hj => ?_⟩
    obtain ⟨x, y, z, u, e0, e1, e2, e3, h9⟩ := h8.2 j hj
    rw [List.getElem?_take_of_lt (by omega), Array.getElem?_toList] at e0 e1 e2 e3
    exact ⟨x, y, z, u, e0, e1, e2, e3, h9⟩

/-- PolyOf's memory behind its first loop: the list in, of which the first k are struck; the document's row; the polynomial in its box, whose row is its own; the document's polynomial. -/
structure OfS (w : World) (n : Nat) (fs : List Rat) (oa ma : Option Addr) (BP : Nat) (ap : Option Addr) (lp cp : Nat) (qv : Value) (k : Nat) (W : World) : Prop where
  bel : Below w.heap.size w W
  le : w.heap.size ≤ BP
  box : Boxed W BP 25 (.slice ap lp cp)
  pol : RowK true W (.slice ap lp cp) (trimQ fs)
  quo : RowK false W qv (trimQ fs)
  inn : 0 < n → ∃ g, oa = some ⟨g, 0, none⟩ ∧ w.heap.size ≤ g ∧ (∀ p, ap = some p → p.block ≠ g) ∧ ∃ qs, qs.length = n ∧ (∀ j, k ≤ j → cf qs j = cf fs j) ∧ Els true W g qs
  mro : 0 < n → ∃ g, ma = some ⟨g, 0, none⟩ ∧ Els false W g fs

section
variable {w : World} {n : Nat} {fs : List Rat} {oa ma : Option Addr} {BP : Nat} {ap : Option Addr} {lp cp : Nat} {qv : Value} {k : Nat} {W W' : World}
theorem OfS.below (h : OfS w n fs oa ma BP ap lp cp qv k W) (hb : Below W.heap.size W W') : OfS w n fs oa ma BP ap lp cp qv k W' := by
  refine ⟨h.bel.trans (hb.mono h.bel.size), h.le, h.box.bel hb, h.pol.below hb, h.quo.below hb, fun h0 => ?_, fun h0 => ?_⟩
  · obtain ⟨g, e, h1, h2, qs, h3, h4, h5⟩ := h.inn h0
    exact ⟨g, e, h1, h2, qs, h3, h4, h5.below hb⟩
  · obtain ⟨g, e, h1⟩ := h.mro h0
    exact ⟨g, e, h1.below hb⟩
theorem OfS.drew (h : OfS w n fs oa ma BP ap lp cp qv k W) : OfS w n fs oa ma BP ap lp cp qv k W.drew := h.below (Below.refl _ W).drew
/-- The element k of the list. -/
theorem OfS.elem (h : OfS w n fs oa ma BP ap lp cp qv k W) {g : Nat} (hg : oa = some ⟨g, 0, none⟩) (hk : k < n) :
    ∃ s a l c t b kk d, W.cell? ⟨g, k * 4, none⟩ = some (.bool s) ∧ W.cell? ⟨g, k * 4 + 1, none⟩ = some (.slice a l c) ∧ W.cell? ⟨g, k * 4 + 2, none⟩ = some (.bool t) ∧ W.cell? ⟨g, k * 4 + 3, none⟩ = some (.slice b kk d) ∧ IsRat W (.agg #[.bool s, .slice a l c, .bool t, .slice b kk d]) (cf fs k) := by
  obtain ⟨g', e, h1, h2, qs, h3, h4, h5⟩ := h.inn (by omega)
  rw [hg] at e
  cases e
  obtain ⟨x, y, z, u, c0, c1, c2, c3, h6⟩ := h5.at (j := k) (by omega)
  rw [h4 k (Nat.le_refl _)] at h6
  obtain ⟨s, a, l, c, t, b, kk, d, e, _⟩ := (show IsRat W _ _ from h6)
  cases e
  exact ⟨s, a, l, c, t, b, kk, d, c0, c1, c2, c3, h6⟩
theorem OfS.melem (h : OfS w n fs oa ma BP ap lp cp qv k W) {g : Nat} (hg : ma = some ⟨g, 0, none⟩) {j : Nat} (hj : j < fs.length) (h0 : 0 < n) :
    ∃ a l c s b kk d t, W.cell? ⟨g, j * 4, none⟩ = some (.slice a l c) ∧ W.cell? ⟨g, j * 4 + 1, none⟩ = some (.bool s) ∧ W.cell? ⟨g, j * 4 + 2, none⟩ = some (.slice b kk d) ∧ W.cell? ⟨g, j * 4 + 3, none⟩ = some (.bool t) ∧ IsRef W (.agg #[.slice a l c, .bool s, .slice b kk d, .bool t]) (cf fs j) := by
  obtain ⟨g', e, h5⟩ := h.mro h0
  rw [hg] at e
  cases e
  obtain ⟨x, y, z, u, c0, c1, c2, c3, h6⟩ := h5.at hj
  obtain ⟨a, l, c, s, b, kk, d, t, e, _⟩ := (show IsRef W _ _ from h6)
  cases e
  exact ⟨a, l, c, s, b, kk, d, t, c0, c1, c2, c3, h6⟩
theorem OfS.frozen (h : OfS w n fs oa ma BP ap lp cp qv k W) {g : Nat} (hg : oa = some ⟨g, 0, none⟩) (h0 : 0 < n) (o : Nat) : W.frozen? ⟨g, o, none⟩ = false := by
  obtain ⟨g', e, h1, h2, qs, h3, h4, h5⟩ := h.inn h0
  rw [hg] at e
  cases e
  exact h5.frozen o
theorem RowK.keepRow {r : Bool} {W W' : World} {a : Option Addr} {l c : Nat} {qs : List Rat} (h : RowK r W (.slice a l c) qs) (hb : ∀ b, a = some ⟨b, 0, none⟩ → (∃ cs, W.heap[b]? = some (.cells cs (tyK r) (0, 0))) → W'.heap[b]? = W.heap[b]?) (hk : ∀ k v ds, Row k W v ds → Row k W' v ds) : RowK r W' (.slice a l c) qs := by
  obtain ⟨a', cap, e, h1, h2, h3, h4⟩ := h
  cases e
  refine ⟨a, c, rfl, h1, h2, h3, ?_⟩
  rcases h4 with h4 | ⟨b, ea, h5⟩
  · exact Or.inl h4
  · exact Or.inr ⟨b, ea, h5.keep (hb b ea (by obtain ⟨cs, h6, _⟩ := h5; exact ⟨cs, h6⟩)) hk⟩
/-- The element k is struck. -/
theorem OfS.put (h : OfS w n fs oa ma BP ap lp cp qv k W) {g : Nat} (hg : oa = some ⟨g, 0, none⟩) (hk : k < n) : OfS w n fs oa ma BP ap lp cp qv (k + 1) (putAt W g (k * 4) (.bool false) (.slice none 0 0) (.bool false) (.slice none 0 0)) := by
  obtain ⟨g', e, h1, h2, qs, h3, h4, h5⟩ := h.inn (by omega)
  rw [hg] at e
  cases e
  have hkeep := h5.putKeep (j := k) (by omega) (.bool false) (.slice none 0 0) (.bool false) (.slice none 0 0)
  have hE := h5.set (j := k) (by omega) (x := .bool false) (y := .slice none 0 0) (z := .bool false) (u := .slice none 0 0) (q := 0) (rat0 W)
  obtain ⟨cs, hcs, _⟩ := h5
  have far : ∀ B, B ≠ g → (putAt W g (k * 4) (.bool false) (.slice none 0 0) (.bool false) (.slice none 0 0)).heap[B]? = W.heap[B]? := fun B hB => putAt_far hB _ _ _ _
  have hBP : BP ≠ g := fun e => by
    have := h.box
    unfold Boxed at this
    rw [e, hcs] at this
    cases this
  have hty : ∀ b, (∃ cs, W.heap[b]? = some (.cells cs (tyK false) (0, 0))) → b ≠ g := fun b ⟨cs2, h9⟩ e => by
    rw [e, hcs] at h9
    cases h9
  refine ⟨below_putAt h.bel h1 _ _ _ _, h.le, (far BP hBP).trans h.box, ?_, ?_, fun _ => ⟨g, hg, h1, h2, qs.set k 0, by rw [List.length_set]; exact h3, fun j hj => ?_, hE⟩, fun h0 => ?_⟩
  · exact h.pol.keepRow (fun b eb _ => far b (h2 _ eb)) hkeep
  · obtain ⟨a, l, c, rfl⟩ := h.quo.form
    exact h.quo.keepRow (fun b _ hx => far b (hty b hx)) hkeep
  · rw [cf_set _ _ _ _ (by omega), if_neg (by omega)]
    exact h4 j (by omega)
  · obtain ⟨gm, em, h6⟩ := h.mro h0
    refine ⟨gm, em, ?_⟩
    obtain ⟨cs2, h7, h8⟩ := h6
    exact Els.keep ⟨cs2, h7, h8⟩ (far gm (hty gm ⟨cs2, h7⟩)) hkeep
end

theorem ofS_start {w wr W : World} {n : Nat} {fs : List Rat} {oa ma : Option Addr} {oc mc BP : Nat} {ap : Option Addr} {lp cp : Nat} {qv : Value} (hO : OutK true w.heap.size wr (.slice oa n oc) fs) (hM : OutK false w.heap.size wr (.slice ma n mc) fs) (hl : fs.length = n) (hB : Below w.heap.size w wr)
    (hfr : FrhP wr.heap.size (.agg #[.slice ap lp cp])) (h5 : Below wr.heap.size wr W) (hle : w.heap.size ≤ BP) (box : Boxed W BP 25 (.slice ap lp cp)) (pol : RowK true W (.slice ap lp cp) (trimQ fs)) (quo : RowK false W qv (trimQ fs)) : OfS w n fs oa ma BP ap lp cp qv 0 W := by
  refine ⟨hB.trans (h5.mono hB.size), hle, box, pol, quo, fun h0 => ?_, fun h0 => ?_⟩
  · obtain ⟨g, e, h1, h2⟩ := hO.els (by omega)
    refine ⟨g, e, h1, fun p hp => ?_, fs, hl, fun _ _ => rfl, h2.below h5⟩
    have h6 := hfr p lp cp (by rw [hp])
    have h7 := h2.lt
    omega
  · obtain ⟨g, e, h1, h2⟩ := hM.els (by omega)
    exact ⟨g, e, h2.below h5⟩
end Go.Proofs.YtcahejkcdcjjgaaGreatDoor
