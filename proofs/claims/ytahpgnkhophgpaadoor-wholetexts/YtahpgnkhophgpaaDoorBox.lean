import Derived.Test.YtahpgnkhophgpaaDoorRef4
import Derived.Deep.RegionHeld3
namespace Go.Proofs.YtahpgnkhophgpaaDoor
open Go.RowKit Go.Shelf

/-- Block B has the two cells x and y. -/
def Box2 (W : World) (B : Nat) (t : TypeId) (x y : Value) : Prop := W.heap[B]? = some (.cells #[x, y] t (0, 0))

theorem Box2.lt {W : World} {B : Nat} {t : TypeId} {x y : Value} (h : Box2 W B t x y) : B < W.heap.size := (Array.getElem?_eq_some_iff.1 h).1
theorem Box2.c0 {W : World} {B : Nat} {t : TypeId} {x y : Value} (h : Box2 W B t x y) : W.cell? ⟨B, 0, none⟩ = some x := by simp [World.cell?, show W.heap[B]? = _ from h]
theorem Box2.c1 {W : World} {B : Nat} {t : TypeId} {x y : Value} (h : Box2 W B t x y) : W.cell? ⟨B, 1, none⟩ = some y := by simp [World.cell?, show W.heap[B]? = _ from h]
theorem Box2.f0 {W : World} {B : Nat} {t : TypeId} {x y : Value} (h : Box2 W B t x y) : W.frozen? ⟨B, 0, none⟩ = false := by simp [World.frozen?, show W.heap[B]? = _ from h]
theorem Box2.f1 {W : World} {B : Nat} {t : TypeId} {x y : Value} (h : Box2 W B t x y) : W.frozen? ⟨B, 1, none⟩ = false := by simp [World.frozen?, show W.heap[B]? = _ from h]
theorem Box2.new (W : World) (t : TypeId) (x y : Value) : Box2 (W.alloc (.cells #[x, y] t)) W.heap.size t x y := World.alloc_heap_new W _
theorem Box2.below {W W' : World} {B : Nat} {t : TypeId} {x y : Value} (h : Box2 W B t x y) (hb : Below W.heap.size W W') : Box2 W' B t x y := (hb.block B h.lt).trans h
theorem Box2.alloc {W : World} {B : Nat} {t : TypeId} {x y : Value} (h : Box2 W B t x y) (o : Obj) : Box2 (W.alloc o) B t x y := h.below ((Below.refl _ W).alloc (Nat.le_refl _) o)
theorem Box2.drew {W : World} {B : Nat} {t : TypeId} {x y : Value} (h : Box2 W B t x y) : Box2 W.drew B t x y := h
theorem Box2.set0 {W : World} {B : Nat} {t : TypeId} {x y : Value} (h : Box2 W B t x y) (u : Value) : Box2 (W.setCell ⟨B, 0, none⟩ u) B t u y := by
  obtain ⟨hlt, hk⟩ := Array.getElem?_eq_some_iff.1 h
  show (W.heap.modify B _)[B]? = _
  rw [Array.getElem?_eq_getElem (by rw [Array.size_modify]; exact hlt), Array.getElem_modify_self, hk]
  rfl
theorem Box2.set1 {W : World} {B : Nat} {t : TypeId} {x y : Value} (h : Box2 W B t x y) (u : Value) : Box2 (W.setCell ⟨B, 1, none⟩ u) B t x u := by
  obtain ⟨hlt, hk⟩ := Array.getElem?_eq_some_iff.1 h
  show (W.heap.modify B _)[B]? = _
  rw [Array.getElem?_eq_getElem (by rw [Array.size_modify]; exact hlt), Array.getElem_modify_self, hk]
  rfl
theorem Box2.far {W : World} {B : Nat} {t : TypeId} {x y : Value} (h : Box2 W B t x y) {p : Addr} (hp : B ≠ p.block) (u : Value) : Box2 (W.setCell p u) B t x y := (Below.heap_setCell W p u B hp).trans h

theorem Below.then {w W w1 : World} (h : Below w.heap.size w W) (k : Below W.heap.size W w1) : Below w.heap.size w w1 := h.trans (k.mono h.size)

theorem cell_set_nb {w : World} {b o b' o' : Nat} {u : Value} (h : b ≠ b') : (w.setCell ⟨b', o', none⟩ u).cell? ⟨b, o, none⟩ = w.cell? ⟨b, o, none⟩ :=
  World.cell?_of_block (w := w) (Below.heap_setCell w ⟨b', o', none⟩ u b h)

/-- A value that is no number. -/
def noInt : Value → Bool | .int _ _ => false | _ => true

theorem Row.set {k : IntKind} {W : World} {v : Value} {ds : List Nat} (h : Row k W v ds) {p : Addr} {u0 : Value} (hp : W.cell? p = some u0) (hn : noInt u0 = true) (u : Value) : Row k (W.setCell p u) v ds := by
  obtain ⟨a, cap, e, h1, h2, h2', h3⟩ := h
  refine ⟨a, cap, e, h1, h2, h2', ?_⟩
  rcases h3 with h3 | ⟨b, off, ea, hlt, hc⟩
  · exact Or.inl h3
  · refine Or.inr ⟨b, off, ea, by simpa [World.setCell] using hlt, fun j hj => ?_⟩
    have hc' := hc j hj
    have hne : p ≠ ⟨b, off + j, none⟩ := by
      intro e'
      rw [← e', hp] at hc'
      cases hc'
      simp [noInt] at hn
    exact (World.cell?_setCell_other (h := hne) ..).trans hc'

/-- Behind the two stores of a result of two cells. -/
theorem set2_fin {k : IntKind} {w w2 : World} {R : Nat} {t : TypeId} {u0 u1 : Value} (x0 x1 : Value) {v : Value} {ds : List Nat} (hB : Below w.heap.size w w2) (hR : w.heap.size ≤ R) (q : Box2 w2 R t u0 u1) (n0 : noInt u0 = true) (n1 : noInt u1 = true) (hr : Row k w2 v ds) :
    Row k ((w2.setCell ⟨R, 0, none⟩ x0).setCell ⟨R, 1, none⟩ x1) v ds ∧ Below w.heap.size w ((w2.setCell ⟨R, 0, none⟩ x0).setCell ⟨R, 1, none⟩ x1) :=
  ⟨Row.set (Row.set hr q.c0 n0 _) (u0 := u1) (q.set0 x0).c1 n1 _, (hB.setCell hR _).setCell hR _⟩

theorem RN.below {W W' : World} {v : Value} {n : Nat} (h : RN W v n) (hb : Below W.heap.size W W') : RN W' v n := Row.below h hb

theorem RN.form {W : World} {v : Value} {n : Nat} (h : RN W v n) : ∃ a cap, v = .slice a (limbs 10000 n).length cap := by
  obtain ⟨a, cap, e, _⟩ := h
  exact ⟨a, cap, e⟩

end Go.Proofs.YtahpgnkhophgpaaDoor
