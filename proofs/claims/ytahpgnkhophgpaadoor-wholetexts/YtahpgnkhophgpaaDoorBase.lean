import Derived.RangeFuncNested
import Derived.RangeFuncBound
import Derived.RangeFuncCalls
import Derived.RangeFuncLeaves
import Derived.RangeFuncBox
import Derived.Shelf.Abstract
import Derived.Shelf.RegionOpen
import Derived.WalkKit
import Derived.WalkSpells
import Derived.WalkLawsBesides
import Derived.OwnWalkIn
import Derived.TacticsInMore
import Derived.LoopNIn
import Derived.LoopIn
import Derived.Maps.AppendAt
import Derived.Deep.QuietTactic
import Derived.BigQuiet
import Derived.Test.YtahpgnkhophgpaaDoorMath
import Derived.Test.YtahpgnkhophgpaaDoorProg
namespace Go.Proofs.YtahpgnkhophgpaaDoor
open Go.RowKit Go.Shelf

/-- The slice value v holds the numbers ds in the world W. -/
def Row (k : IntKind) (W : World) (v : Value) (ds : List Nat) : Prop :=
  ∃ a cap, v = .slice a ds.length cap ∧ ds.length ≤ cap ∧ cap ≤ 9223372036854775807 ∧ ds.length ≤ 1099511627776 ∧
    (ds = [] ∨ ∃ b off, a = some ⟨b, off, none⟩ ∧ b < W.heap.size ∧ ∀ j, j < ds.length → W.cell? ⟨b, off + j, none⟩ = some (.int k (ds[j]?.getD 0 : Nat)))

theorem Row.below {k : IntKind} {W W' : World} {v : Value} {ds : List Nat} (h : Row k W v ds) (hb : Below W.heap.size W W') : Row k W' v ds := by
  obtain ⟨a, cap, e, h1, h2, h2', h3⟩ := h
  refine ⟨a, cap, e, h1, h2, h2', ?_⟩
  rcases h3 with h3 | ⟨b, off, ea, hlt, hc⟩
  · exact Or.inl h3
  · exact Or.inr ⟨b, off, ea, Nat.lt_of_lt_of_le hlt hb.size, fun j hj => (hb.cell (p := ⟨b, off + j, none⟩) hlt).trans (hc j hj)⟩

theorem Row.nil (k : IntKind) (W : World) : Row k W (.slice none 0 0) [] := ⟨none, 0, rfl, Nat.le_refl _, by omega, by simp, Or.inl rfl⟩

theorem ret_int {k : IntKind} {a b : Int} (h : a = b) : Ending.returned (.int k a) = .returned (.int k b) := by rw [h]

/-- A row's cells, hidden from the walk. -/
theorem Row.open {k : IntKind} {W : World} {v : Value} {ds : List Nat} (h : Row k W v ds) : ∃ a cap, v = .slice a ds.length cap ∧ ds.length ≤ cap ∧ cap ≤ 9223372036854775807 ∧ ds.length ≤ 1099511627776 ∧
    Hid (∀ j, j < ds.length → ∃ b off, a = some ⟨b, off, none⟩ ∧ b < W.heap.size ∧ W.cell? ⟨b, off + j, none⟩ = some (.int k (ds[j]?.getD 0 : Nat))) := by
  obtain ⟨a, cap, e, h1, h2, h2', h3⟩ := h
  refine ⟨a, cap, e, h1, h2, h2', fun j hj => ?_⟩
  rcases h3 with h3 | ⟨b, off, ea, hb, hc⟩
  · rw [h3] at hj; simp at hj
  · exact ⟨b, off, ea, hb, hc j hj⟩

theorem Tryd.infoInt : (Tryd.prog.info? 3).map (fun i => (i.zero, i.size, i.bytes)) = some (some (.int .i64 0), 1, 8) := by kernel_rfl
theorem Tryd.infoU64 : (Tryd.prog.info? 56).map (fun i => (i.zero, i.size, i.bytes)) = some (some (.int .u64 0), 1, 8) := by kernel_rfl

/-- The numbers as a row's cells. -/
def cellsOf (k : IntKind) (ds : List Nat) : List Value := ds.map (fun d => Value.int k (d : Nat))

theorem cellsOf_snoc (k : IntKind) (ds : List Nat) (d : Nat) : cellsOf k (ds ++ [d]) = cellsOf k ds ++ [.int k (d : Nat)] := by simp [cellsOf]
theorem cellsOf_length (k : IntKind) (ds : List Nat) : (cellsOf k ds).length = ds.length := by simp [cellsOf]

theorem Row.of_owns {k : IntKind} {w : World} {base : Nat} {e : TypeId} {v : Value} {n : Nat} {ds : List Nat} (h : w.ownsRow base e 1 v n (cellsOf k ds)) (hl : ds.length ≤ 1099511627776) : Row k w v ds := by
  obtain ⟨h1, h2⟩ := h
  rw [cellsOf_length] at h1
  simp at h1
  subst h1
  rcases h2 with ⟨rfl, h0⟩ | ⟨g, cap, cur, rfl, _, hg, hle, hmax, hsz, htk⟩
  · have : ds = [] := List.eq_nil_of_length_eq_zero h0
    subst this
    exact Row.nil k w
  · refine ⟨_, cap, rfl, hle, by unfold maxLen at hmax; omega, hl, Or.inr ⟨g, 0, rfl, (Array.getElem?_eq_some_iff.1 hg).1, fun j hj => ?_⟩⟩
    have hj2 : j < cur.size := by omega
    have e1 : cur[j]? = some (.int k (ds[j]?.getD 0 : Nat)) := by
      have e2 : (cur.toList.take (ds.length * 1))[j]? = (cellsOf k ds)[j]? := by rw [htk]
      rw [List.getElem?_take_of_lt (by omega)] at e2
      rw [← Array.getElem?_toList, e2]
      simp [cellsOf, List.getElem?_map, List.getElem?_eq_getElem hj]
    simp [World.cell?, hg, e1]

/-- Behind an append of one number onto a row that the call owns. -/
theorem append_end {k : IntKind} {w wr w3 : World} {e : TypeId} {o : Obj} {v v' : Value} {acc : List Nat} {D : Int} (d : Nat) (hD : D = (d : Nat)) (hB : Below w.heap.size w wr) (hown : wr.ownsRow w.heap.size e 1 v acc.length (cellsOf k acc))
    (hown' : w3.ownsRow w.heap.size e 1 v' (acc.length + 1) (cellsOf k acc ++ [.int k D])) (hgrow : (wr.alloc o).grownBy w3 v.ownBlock) :
    ∃ g cv, v' = .slice (some ⟨g, 0, none⟩) (acc ++ [d]).length cv ∧ w3.ownsRow w.heap.size e 1 v' (acc ++ [d]).length (cellsOf k (acc ++ [d])) ∧ Below w.heap.size w w3 := by
  obtain ⟨g, cv, hv⟩ := ownsRow_succ hown'
  subst hD
  refine ⟨g, cv, by rw [hv]; simp, by rw [cellsOf_snoc]; simpa using hown', ?_⟩
  exact (hB.alloc hB.size _).grown hgrow (by simp; have := hB.size; omega) (fun q hq => (hown.lt q hq).1)

end Go.Proofs.YtahpgnkhophgpaaDoor
