import Derived.Test.YtcahodpphikgnaaGreatDoorK20
import Derived.Test.YtcahodpphikgnaaGreatDoorK14
import Derived.Test.YtcahodpphikgnaaGreatDoorK12
import Derived.Test.YtcahodpphikgnaaGreatDoorK16
import Derived.Test.YtcahodpphikgnaaGreatDoorK05
import Derived.Test.YtcahodpphikgnaaGreatDoorK13
import Derived.Test.YtcahodpphikgnaaGreatDoorK15
import Derived.Test.YtcahodpphikgnaaGreatDoorK17
import Derived.Lib.BitFns
namespace Go.Proofs.YtcahodpphikgnaaGreatDoor
open Go.RowKit Go.Shelf

set_option maxHeartbeats 1000000 in
theorem itext_0 (a : Option Addr) (cap : Nat) (w : World) :
    Calls Tryz.prog 13 #[.agg #[.bool false, .slice a 0 cap]] w fun e w' => e = .returned (.string ⟨#[48]⟩) ∧ Below w.heap.size w w' := by
  have b0 := Box2.new w 25 (.bool false) (.slice a 0 cap)
  have k1 := b0.c1
  go_enter Tryz.func13, Tryz.ntmps13
  go_wp2
  go_ret
  exact ⟨rfl, (Below.refl _ w).alloc (Nat.le_refl _) _⟩

set_option maxHeartbeats 1000000 in
theorem itext_w (s : Bool) (a : Option Addr) (l cap : Nat) (T : ByteArray) (w : World) (hl : 0 < l) (hT : T.size ≤ 100000000000000)
    (HT : ∀ V, Below w.heap.size w V → Calls Tryz.prog 48 #[.slice a l cap] V fun e w' => e = .returned (.string T) ∧ Below V.heap.size V w') :
    Calls Tryz.prog 13 #[.agg #[.bool s, .slice a l cap]] w fun e w' => e = .returned (.string (if s then (⟨#[45]⟩ : ByteArray) ++ T else T)) ∧ Below w.heap.size w w' := by
  have b0 := Box2.new w 25 (.bool s) (.slice a l cap)
  have hB0 : Below w.heap.size w (w.alloc (.cells #[.bool s, .slice a l cap] 25)) := (Below.refl _ w).alloc (Nat.le_refl _) _
  have k0 := b0.c0
  have k1 := b0.c1
  have hl0 : ¬ l = 0 := by omega
  have HTH := hidD HT
  clear HT
  cases s
  all_goals
    go_enter Tryz.func13, Tryz.ntmps13
    go_wp2_with (go_at_call 48; refine (HTH.out _ hB0).mono ?_; rintro e w1 ⟨rfl, hb1⟩)
    go_ret
    exact ⟨by simp, Below.then hB0 hb1⟩

theorem decN_len (n : Nat) : (decN n).length ≤ 20 * (limbs B64 n).length + 1 := by
  unfold decN
  split
  · simp
  · rw [txt_length]
    have h1 : n < B64 ^ (limbs B64 n).length := by
      have := val_lt (dig_limbs two_le_B64 n)
      rwa [val_limbs two_le_B64] at this
    have h2 : B64 ^ (limbs B64 n).length ≤ 10 ^ (20 * (limbs B64 n).length) := by
      rw [Nat.pow_mul]
      exact Nat.pow_le_pow_left (by unfold B64; omega) _
    have := limbs_length_le (B := 10) (by omega) (Nat.lt_of_lt_of_le h1 h2)
    omega

theorem itext_c (v : Value) (z : Int) (w : World) (h : IsInt w v z) (htab : Lib.TabIs Tryz.prog w "internal/strconv.uint64pow10" .u64 Lib.pow10Tab) :
    Calls Tryz.prog 13 #[v] w fun e w' => e = .returned (.string ⟨(decZ z).toArray⟩) ∧ Below w.heap.size w w' := by
  obtain ⟨a, l, cap, rfl, hu⟩ := h
  have hl := hu.len
  by_cases h0 : z.natAbs = 0
  · have hz : z = 0 := by omega
    subst hz
    have hl0 : l = 0 := by rw [hl]; simp [limbs_zero]
    subst hl0
    exact itext_0 a cap w
  · have hlp : 0 < l := by rw [hl]; exact wlen_pos_iff.2 h0
    refine (itext_w _ a l cap ⟨(decN z.natAbs).toArray⟩ w hlp (by
      have h1 := decN_len z.natAbs
      have h2 := (row_fn hu).2.2.2.1
      show (decN z.natAbs).toArray.size ≤ _
      rw [List.size_toArray]; omega) (fun V hV => mtext_w a l cap z.natAbs V (Row.below hu hV) h0 (tab_below htab hV))).mono ?_
    rintro e w' ⟨rfl, hB⟩
    refine ⟨?_, hB⟩
    congr 2
    unfold decZ
    by_cases hz : z < 0
    · simp only [hz, decide_true, if_true]; exact ba_cons _ _
    · simp only [hz, decide_false, if_false, Bool.false_eq_true]
end Go.Proofs.YtcahodpphikgnaaGreatDoor
namespace Go.Proofs.YtcahodpphikgnaaGreatDoor
open Go.RowKit Go.Shelf

attribute [local go_sem] Oper.semAt_some

theorem IsInt.set {W : World} {v : Value} {z : Int} (h : IsInt W v z) {p : Addr} {u0 : Value} (hp : W.cell? p = some u0) (hn : noInt u0 = true) (u : Value) : IsInt (W.setCell p u) v z := by
  obtain ⟨a, l, cap, e, hr⟩ := h
  exact ⟨a, l, cap, e, Row.set hr hp hn u⟩

theorem IsInt.form {W : World} {v : Value} {z : Int} (h : IsInt W v z) : ∃ a l cap, v = .agg #[.bool (decide (z < 0)), .slice a l cap] := by
  obtain ⟨a, l, cap, e, _⟩ := h
  exact ⟨a, l, cap, e⟩

theorem IsInt.alloc {W : World} {v : Value} {z : Int} (h : IsInt W v z) (o : Obj) : IsInt (W.alloc o) v z := h.below ((Below.refl _ W).alloc (Nat.le_refl _) o)
theorem IsInt.drew {W : World} {v : Value} {z : Int} (h : IsInt W v z) : IsInt W.drew v z := h

/-- A number that is laid into a box of its own leaves the others. -/
theorem IsInt.box {W : World} {R : Nat} {t : TypeId} {u0 u1 x0 x1 v : Value} {z : Int} (h : IsInt W v z) (q : Box2 W R t u0 u1) (n0 : noInt u0 = true) (n1 : noInt u1 = true) : IsInt ((W.setCell ⟨R, 0, none⟩ x0).setCell ⟨R, 1, none⟩ x1) v z := by
  obtain ⟨a, l, cap, e, hr⟩ := h
  exact ⟨a, l, cap, e, Row.set (Row.set hr q.c0 n0 _) (u0 := u1) (q.set0 x0).c1 n1 _⟩

end Go.Proofs.YtcahodpphikgnaaGreatDoor
namespace Go.Proofs.YtcahodpphikgnaaGreatDoor
open Go.RowKit Go.Shelf

/-- Block B has the four cells x, y, z, u. -/
def Box4 (W : World) (B : Nat) (t : TypeId) (x y z u : Value) : Prop := W.heap[B]? = some (.cells #[x, y, z, u] t (0, 0))

section
variable {W W' : World} {B : Nat} {t : TypeId} {x y z u : Value}
theorem Box4.lt (h : Box4 W B t x y z u) : B < W.heap.size := (Array.getElem?_eq_some_iff.1 h).1
theorem Box4.c0 (h : Box4 W B t x y z u) : W.cell? ⟨B, 0, none⟩ = some x := by simp [World.cell?, show W.heap[B]? = _ from h]
theorem Box4.c1 (h : Box4 W B t x y z u) : W.cell? ⟨B, 1, none⟩ = some y := by simp [World.cell?, show W.heap[B]? = _ from h]
theorem Box4.c2 (h : Box4 W B t x y z u) : W.cell? ⟨B, 2, none⟩ = some z := by simp [World.cell?, show W.heap[B]? = _ from h]
theorem Box4.c3 (h : Box4 W B t x y z u) : W.cell? ⟨B, 3, none⟩ = some u := by simp [World.cell?, show W.heap[B]? = _ from h]
theorem Box4.f0 (h : Box4 W B t x y z u) : W.frozen? ⟨B, 0, none⟩ = false := by simp [World.frozen?, show W.heap[B]? = _ from h]
theorem Box4.f1 (h : Box4 W B t x y z u) : W.frozen? ⟨B, 1, none⟩ = false := by simp [World.frozen?, show W.heap[B]? = _ from h]
theorem Box4.f2 (h : Box4 W B t x y z u) : W.frozen? ⟨B, 2, none⟩ = false := by simp [World.frozen?, show W.heap[B]? = _ from h]
theorem Box4.f3 (h : Box4 W B t x y z u) : W.frozen? ⟨B, 3, none⟩ = false := by simp [World.frozen?, show W.heap[B]? = _ from h]
theorem Box4.new (W : World) (t : TypeId) (x y z u : Value) : Box4 (W.alloc (.cells #[x, y, z, u] t)) W.heap.size t x y z u := World.alloc_heap_new W _
theorem Box4.below (h : Box4 W B t x y z u) (hb : Below W.heap.size W W') : Box4 W' B t x y z u := (hb.block B h.lt).trans h
theorem Box4.alloc (h : Box4 W B t x y z u) (o : Obj) : Box4 (W.alloc o) B t x y z u := h.below ((Below.refl _ W).alloc (Nat.le_refl _) o)
theorem Box4.drew (h : Box4 W B t x y z u) : Box4 W.drew B t x y z u := h
theorem Box4.set0 (h : Box4 W B t x y z u) (v : Value) : Box4 (W.setCell ⟨B, 0, none⟩ v) B t v y z u := by
  obtain ⟨hlt, hk⟩ := Array.getElem?_eq_some_iff.1 h
  show (W.heap.modify B _)[B]? = _
  rw [Array.getElem?_eq_getElem (by rw [Array.size_modify]; exact hlt), Array.getElem_modify_self, hk]
  rfl
theorem Box4.set1 (h : Box4 W B t x y z u) (v : Value) : Box4 (W.setCell ⟨B, 1, none⟩ v) B t x v z u := by
  obtain ⟨hlt, hk⟩ := Array.getElem?_eq_some_iff.1 h
  show (W.heap.modify B _)[B]? = _
  rw [Array.getElem?_eq_getElem (by rw [Array.size_modify]; exact hlt), Array.getElem_modify_self, hk]
  rfl
theorem Box4.set2 (h : Box4 W B t x y z u) (v : Value) : Box4 (W.setCell ⟨B, 2, none⟩ v) B t x y v u := by
  obtain ⟨hlt, hk⟩ := Array.getElem?_eq_some_iff.1 h
  show (W.heap.modify B _)[B]? = _
  rw [Array.getElem?_eq_getElem (by rw [Array.size_modify]; exact hlt), Array.getElem_modify_self, hk]
  rfl
theorem Box4.set3 (h : Box4 W B t x y z u) (v : Value) : Box4 (W.setCell ⟨B, 3, none⟩ v) B t x y z v := by
  obtain ⟨hlt, hk⟩ := Array.getElem?_eq_some_iff.1 h
  show (W.heap.modify B _)[B]? = _
  rw [Array.getElem?_eq_getElem (by rw [Array.size_modify]; exact hlt), Array.getElem_modify_self, hk]
  rfl
theorem Box4.far (h : Box4 W B t x y z u) {p : Addr} (hp : B ≠ p.block) (v : Value) : Box4 (W.setCell p v) B t x y z u := (Below.heap_setCell W p v B hp).trans h
end

/-- The four stores of a fraction. -/
def put4 (W : World) (B : Nat) (x y z u : Value) : World := (((W.setCell ⟨B, 0, none⟩ x).setCell ⟨B, 1, none⟩ y).setCell ⟨B, 2, none⟩ z).setCell ⟨B, 3, none⟩ u

theorem Box4.put {W : World} {B : Nat} {t : TypeId} {x y z u : Value} (h : Box4 W B t x y z u) (x' y' z' u' : Value) : Box4 (put4 W B x' y' z' u') B t x' y' z' u' := (((h.set0 x').set1 y').set2 z').set3 u'
theorem Box4.putFar {W : World} {B C : Nat} {t : TypeId} {x y z u : Value} (h : Box4 W B t x y z u) (hn : B ≠ C) (x' y' z' u' : Value) : Box4 (put4 W C x' y' z' u') B t x y z u := (((h.far hn x').far hn y').far hn z').far hn u'
theorem Box2.putFar {W : World} {B C : Nat} {t : TypeId} {x y : Value} (h : Box2 W B t x y) (hn : B ≠ C) (x' y' z' u' : Value) : Box2 (put4 W C x' y' z' u') B t x y := (((h.far hn x').far hn y').far hn z').far hn u'
theorem below_put4 {n B : Nat} {w W : World} (h : Below n w W) (hB : n ≤ B) (x y z u : Value) : Below n w (put4 W B x y z u) := (((h.setCell (p := ⟨B, 0, none⟩) hB _).setCell (p := ⟨B, 1, none⟩) hB _).setCell (p := ⟨B, 2, none⟩) hB _).setCell (p := ⟨B, 3, none⟩) hB _

theorem Row.put4 {k : IntKind} {W : World} {v : Value} {ds : List Nat} (h : Row k W v ds) {B : Nat} {t : TypeId} {x y z u : Value} (q : Box4 W B t x y z u) (n0 : noInt x = true) (n1 : noInt y = true) (n2 : noInt z = true) (n3 : noInt u = true) (x' y' z' u' : Value) : Row k (put4 W B x' y' z' u') v ds :=
  Row.set (Row.set (Row.set (Row.set h q.c0 n0 _) (q.set0 x').c1 n1 _) ((q.set0 x').set1 y').c2 n2 _) (((q.set0 x').set1 y').set2 z').c3 n3 _

theorem IsInt.put4 {W : World} {v : Value} {i : Int} (h : IsInt W v i) {B : Nat} {t : TypeId} {x y z u : Value} (q : Box4 W B t x y z u) (n0 : noInt x = true) (n1 : noInt y = true) (n2 : noInt z = true) (n3 : noInt u = true) (x' y' z' u' : Value) : IsInt (put4 W B x' y' z' u') v i := by
  obtain ⟨a, l, cap, e, hr⟩ := h
  exact ⟨a, l, cap, e, Row.put4 hr q n0 n1 n2 n3 _ _ _ _⟩

theorem IsBig.put4 {W : World} {v : Value} {i : Int} (h : IsBig W v i) {B : Nat} {t : TypeId} {x y z u : Value} (q : Box4 W B t x y z u) (n0 : noInt x = true) (n1 : noInt y = true) (n2 : noInt z = true) (n3 : noInt u = true) (x' y' z' u' : Value) : IsBig (put4 W B x' y' z' u') v i := by
  obtain ⟨a, l, cap, e, hr⟩ := h
  exact ⟨a, l, cap, e, Row.put4 hr q n0 n1 n2 n3 _ _ _ _⟩

/-- The value v is the fraction q. -/
def IsRat (W : World) (v : Value) (q : Rat) : Prop := ∃ s a l c t b k d, v = .agg #[.bool s, .slice a l c, .bool t, .slice b k d] ∧ IsInt W (.agg #[.bool s, .slice a l c]) q.num ∧ IsInt W (.agg #[.bool t, .slice b k d]) (denZ q)

theorem IsRat.below {W W' : World} {v : Value} {q : Rat} (h : IsRat W v q) (hb : Below W.heap.size W W') : IsRat W' v q := by
  obtain ⟨s, a, l, c, t, b, k, d, e, h1, h2⟩ := h
  exact ⟨s, a, l, c, t, b, k, d, e, h1.below hb, h2.below hb⟩
theorem IsRat.put4 {W : World} {v : Value} {p : Rat} (h : IsRat W v p) {B : Nat} {t : TypeId} {x y z u : Value} (q : Box4 W B t x y z u) (n0 : noInt x = true) (n1 : noInt y = true) (n2 : noInt z = true) (n3 : noInt u = true) (x' y' z' u' : Value) : IsRat (put4 W B x' y' z' u') v p := by
  obtain ⟨s, a, l, c, t, b, k, d, e, h1, h2⟩ := h
  exact ⟨s, a, l, c, t, b, k, d, e, h1.put4 q n0 n1 n2 n3 _ _ _ _, h2.put4 q n0 n1 n2 n3 _ _ _ _⟩

/-- The value v is the document's fraction q. -/
def IsRef (W : World) (v : Value) (q : Rat) : Prop := ∃ a l c s b k d t, v = .agg #[.slice a l c, .bool s, .slice b k d, .bool t] ∧ IsBig W (.agg #[.slice a l c, .bool s]) q.num ∧ IsBig W (.agg #[.slice b k d, .bool t]) (q.den : Int)

theorem IsRef.below {W W' : World} {v : Value} {q : Rat} (h : IsRef W v q) (hb : Below W.heap.size W W') : IsRef W' v q := by
  obtain ⟨s, a, l, c, t, b, k, d, e, h1, h2⟩ := h
  exact ⟨s, a, l, c, t, b, k, d, e, h1.below hb, h2.below hb⟩
theorem IsRef.put4 {W : World} {v : Value} {p : Rat} (h : IsRef W v p) {B : Nat} {t : TypeId} {x y z u : Value} (q : Box4 W B t x y z u) (n0 : noInt x = true) (n1 : noInt y = true) (n2 : noInt z = true) (n3 : noInt u = true) (x' y' z' u' : Value) : IsRef (put4 W B x' y' z' u') v p := by
  obtain ⟨s, a, l, c, t, b, k, d, e, h1, h2⟩ := h
  exact ⟨s, a, l, c, t, b, k, d, e, h1.put4 q n0 n1 n2 n3 _ _ _ _, h2.put4 q n0 n1 n2 n3 _ _ _ _⟩
end Go.Proofs.YtcahodpphikgnaaGreatDoor
namespace Go.Proofs.YtcahodpphikgnaaGreatDoor
open Go.RowKit Go.Shelf

/-- What a box, or a value, tells. -/
inductive Dat
  | int (z : Int)
  | rat (q : Rat)
  | big (z : Int)
  | ref (q : Rat)
  | zref
  | pair (x y : Int)

def Dat.ty : Dat → TypeId
  | .int _ => 25
  | .rat _ => 27
  | .big _ => 32
  | .ref _ => 34
  | .zref => 34
  | .pair _ _ => 27

/-- A fraction as the code has it, in whatever numbers; 0 below stands for 1. -/
def IsPair (W : World) (v : Value) (x y : Int) : Prop := ∃ s a l c t b k d, v = .agg #[.bool s, .slice a l c, .bool t, .slice b k d] ∧ IsInt W (.agg #[.bool s, .slice a l c]) x ∧ IsInt W (.agg #[.bool t, .slice b k d]) y
theorem IsRat.pair {W : World} {v : Value} {q : Rat} (h : IsRat W v q) : IsPair W v q.num (denZ q) := h
theorem IsPair.form {W : World} {v : Value} {x y : Int} (h : IsPair W v x y) : ∃ s a l c t b k d, v = .agg #[.bool s, .slice a l c, .bool t, .slice b k d] := by
  obtain ⟨s, a, l, c, t, b, k, d, e, _⟩ := h
  exact ⟨s, a, l, c, t, b, k, d, e⟩
theorem IsPair.below {W W' : World} {v : Value} {x y : Int} (h : IsPair W v x y) (hb : Below W.heap.size W W') : IsPair W' v x y := by
  obtain ⟨s, a, l, c, t, b, k, d, e, h1, h2⟩ := h
  exact ⟨s, a, l, c, t, b, k, d, e, h1.below hb, h2.below hb⟩

def Has (V : World) (v : Value) : Dat → Prop
  | .int z => IsInt V v z
  | .rat q => IsRat V v q
  | .big z => IsBig V v z
  | .ref q => IsRef V v q
  | .zref => v = .agg #[.slice none 0 0, .bool false, .slice none 0 0, .bool false]
  | .pair x y => IsPair V v x y

theorem Has.below {V V' : World} {v : Value} {d : Dat} (h : Has V v d) (hb : Below V.heap.size V V') : Has V' v d := by
  cases d with
  | int z => exact IsInt.below h hb
  | rat q => exact IsRat.below h hb
  | big z => exact IsBig.below h hb
  | ref q => exact IsRef.below h hb
  | zref => exact h
  | pair x y => exact IsPair.below h hb

theorem Has.alloc {V : World} {v : Value} {d : Dat} (h : Has V v d) (o : Obj) : Has (V.alloc o) v d := h.below ((Below.refl _ V).alloc (Nat.le_refl _) o)

theorem Has.keep {V V' : World} {v : Value} {d : Dat} (h : Has V v d) (hk : ∀ k v ds, Row k V v ds → Row k V' v ds) : Has V' v d := by
  cases d with
  | zref => exact h
  | pair x y =>
    obtain ⟨s, a, l, c, t, b, k, d, e, ⟨a1, l1, c1, e1, h1⟩, ⟨a2, l2, c2, e2, h2⟩⟩ := h
    exact ⟨s, a, l, c, t, b, k, d, e, ⟨a1, l1, c1, e1, hk _ _ _ h1⟩, ⟨a2, l2, c2, e2, hk _ _ _ h2⟩⟩
  | int z => obtain ⟨a, l, c, e, hr⟩ := h; exact ⟨a, l, c, e, hk _ _ _ hr⟩
  | big z => obtain ⟨a, l, c, e, hr⟩ := h; exact ⟨a, l, c, e, hk _ _ _ hr⟩
  | rat q =>
    obtain ⟨s, a, l, c, t, b, k, d, e, ⟨a1, l1, c1, e1, h1⟩, ⟨a2, l2, c2, e2, h2⟩⟩ := h
    exact ⟨s, a, l, c, t, b, k, d, e, ⟨a1, l1, c1, e1, hk _ _ _ h1⟩, ⟨a2, l2, c2, e2, hk _ _ _ h2⟩⟩
  | ref q =>
    obtain ⟨s, a, l, c, t, b, k, d, e, ⟨a1, l1, c1, e1, h1⟩, ⟨a2, l2, c2, e2, h2⟩⟩ := h
    exact ⟨s, a, l, c, t, b, k, d, e, ⟨a1, l1, c1, e1, hk _ _ _ h1⟩, ⟨a2, l2, c2, e2, hk _ _ _ h2⟩⟩

/-- Block B has the cells cs. -/
def Bx (V : World) (B : Nat) (t : TypeId) (cs : Array Value) : Prop := V.heap[B]? = some (.cells cs t (0, 0))
theorem Bx.lt {V : World} {B : Nat} {t : TypeId} {cs : Array Value} (h : Bx V B t cs) : B < V.heap.size := (Array.getElem?_eq_some_iff.1 h).1
theorem Bx.below {V V' : World} {B : Nat} {t : TypeId} {cs : Array Value} (h : Bx V B t cs) (hb : Below V.heap.size V V') : Bx V' B t cs := (hb.block B h.lt).trans h
theorem Bx.far {V : World} {B : Nat} {t : TypeId} {cs : Array Value} (h : Bx V B t cs) {p : Addr} (hp : B ≠ p.block) (u : Value) : Bx (V.setCell p u) B t cs := (Below.heap_setCell V p u B hp).trans h

/-- Boxes, no two of them one; a place of none is not made yet. -/
def Mem (w V : World) (bs : List (Option (Nat × Dat))) : Prop :=
  (∀ (i : Nat) B d, bs[i]? = some (some (B, d)) → (∃ cs, Bx V B d.ty cs ∧ Has V (.agg cs) d) ∧ w.heap.size ≤ B) ∧
  (∀ (i j : Nat) B d d', bs[i]? = some (some (B, d)) → bs[j]? = some (some (B, d')) → i = j) ∧ Below w.heap.size w V

theorem Mem.nil (w : World) : Mem w w [] := ⟨fun i B z h => by simp at h, fun i j B z z' h => by simp at h, Below.refl _ w⟩

theorem Mem.int {w V : World} {bs : List (Option (Nat × Dat))} (M : Mem w V bs) {i B : Nat} {z : Int} (h : bs[i]? = some (some (B, .int z))) : ∃ s a l c, Box2 V B 25 (.bool s) (.slice a l c) ∧ IsInt V (.agg #[.bool s, .slice a l c]) z := by
  obtain ⟨⟨cs, h1, h2⟩, _⟩ := M.1 i B _ h
  obtain ⟨a, l, c, e, hu⟩ := h2
  cases e
  exact ⟨_, a, l, c, h1, a, l, c, rfl, hu⟩
theorem Mem.big {w V : World} {bs : List (Option (Nat × Dat))} (M : Mem w V bs) {i B : Nat} {z : Int} (h : bs[i]? = some (some (B, .big z))) : ∃ a l c s, Box2 V B 32 (.slice a l c) (.bool s) ∧ IsBig V (.agg #[.slice a l c, .bool s]) z := by
  obtain ⟨⟨cs, h1, h2⟩, _⟩ := M.1 i B _ h
  obtain ⟨a, l, c, e, hu⟩ := h2
  cases e
  exact ⟨a, l, c, _, h1, a, l, c, rfl, hu⟩
theorem Mem.rat {w V : World} {bs : List (Option (Nat × Dat))} (M : Mem w V bs) {i B : Nat} {q : Rat} (h : bs[i]? = some (some (B, .rat q))) :
    ∃ s a l c t b k d, Box4 V B 27 (.bool s) (.slice a l c) (.bool t) (.slice b k d) ∧ IsRat V (.agg #[.bool s, .slice a l c, .bool t, .slice b k d]) q ∧ IsInt V (.agg #[.bool s, .slice a l c]) q.num ∧ IsInt V (.agg #[.bool t, .slice b k d]) (denZ q) := by
  obtain ⟨⟨cs, h1, h2⟩, _⟩ := M.1 i B _ h
  have h3 := h2
  obtain ⟨s, a, l, c, t, b, k, d, e, g1, g2⟩ := h2
  cases e
  exact ⟨s, a, l, c, t, b, k, d, h1, h3, g1, g2⟩
theorem Mem.pair {w V : World} {bs : List (Option (Nat × Dat))} (M : Mem w V bs) {i B : Nat} {x y : Int} (h : bs[i]? = some (some (B, .pair x y))) :
    ∃ s a l c t b k d, Box4 V B 27 (.bool s) (.slice a l c) (.bool t) (.slice b k d) ∧ IsPair V (.agg #[.bool s, .slice a l c, .bool t, .slice b k d]) x y ∧ IsInt V (.agg #[.bool s, .slice a l c]) x ∧ IsInt V (.agg #[.bool t, .slice b k d]) y := by
  obtain ⟨⟨cs, h1, h2⟩, _⟩ := M.1 i B _ h
  have h3 := h2
  obtain ⟨s, a, l, c, t, b, k, d, e, g1, g2⟩ := h2
  cases e
  exact ⟨s, a, l, c, t, b, k, d, h1, h3, g1, g2⟩
theorem Mem.ref {w V : World} {bs : List (Option (Nat × Dat))} (M : Mem w V bs) {i B : Nat} {q : Rat} (h : bs[i]? = some (some (B, .ref q))) :
    ∃ a l c s b k d t, Box4 V B 34 (.slice a l c) (.bool s) (.slice b k d) (.bool t) ∧ IsRef V (.agg #[.slice a l c, .bool s, .slice b k d, .bool t]) q ∧ IsBig V (.agg #[.slice a l c, .bool s]) q.num ∧ IsBig V (.agg #[.slice b k d, .bool t]) (q.den : Int) := by
  obtain ⟨⟨cs, h1, h2⟩, _⟩ := M.1 i B _ h
  have h3 := h2
  obtain ⟨s, a, l, c, t, b, k, d, e, g1, g2⟩ := h2
  cases e
  exact ⟨s, a, l, c, t, b, k, d, h1, h3, g1, g2⟩

theorem Mem.below {w V V' : World} {bs : List (Option (Nat × Dat))} (M : Mem w V bs) (hb : Below V.heap.size V V') : Mem w V' bs :=
  ⟨fun i B z h => by
    obtain ⟨⟨cs, h1, h2⟩, h3⟩ := M.1 i B z h
    exact ⟨⟨cs, h1.below hb, h2.below hb⟩, h3⟩, M.2.1, M.2.2.trans (hb.mono M.2.2.size)⟩

theorem Mem.drew {w V : World} {bs : List (Option (Nat × Dat))} (M : Mem w V bs) : Mem w V.drew bs := M.below ((Below.refl _ V).drew)

theorem Mem.sub {w V : World} {bs cs : List (Option (Nat × Dat))} (M : Mem w V bs) (f : Nat → Nat) (hf : ∀ (i j : Nat), f i = f j → i = j) (h : ∀ (i : Nat) x, cs[i]? = some (some x) → bs[f i]? = some (some x)) : Mem w V cs :=
  ⟨fun i B d h1 => M.1 (f i) B d (h i _ h1), fun i j B d d' h1 h2 => hf i j (M.2.1 (f i) (f j) B d d' (h i _ h1) (h j _ h2)), M.2.2⟩

theorem Mem.take {w V : World} {bs : List (Option (Nat × Dat))} (M : Mem w V bs) (n : Nat) : Mem w V (bs.take n) := by
  refine M.sub id (fun _ _ h => h) (fun i x h => ?_)
  rw [List.getElem?_take] at h
  split at h
  · exact h
  · cases h

theorem Mem.none {w V : World} {bs : List (Option (Nat × Dat))} (M : Mem w V bs) : Mem w V (bs ++ [Option.none]) := by
  refine M.sub id (fun _ _ h => h) (fun i x h => ?_)
  by_cases hi : i < bs.length
  · rwa [List.getElem?_append_left hi] at h
  · rw [List.getElem?_append_right (by omega)] at h
    obtain ⟨k, hk⟩ : ∃ k, i - bs.length = k := ⟨_, rfl⟩
    rw [hk] at h
    cases k <;> simp at h

/-- A box is made, at a place that had none. -/
theorem Mem.fill {w V : World} {bs : List (Option (Nat × Dat))} (M : Mem w V bs) {i : Nat} (h : bs[i]? = some Option.none) {cs : Array Value} (d : Dat) (hd : Has V (.agg cs) d) :
    Mem w (V.alloc (.cells cs d.ty)) (bs.set i (some (V.heap.size, d))) := by
  have hal : Below V.heap.size V (V.alloc (.cells cs d.ty)) := (Below.refl _ V).alloc (Nat.le_refl _) _
  have hlen : i < bs.length := (List.getElem?_eq_some_iff.1 h).1
  have M2 := M.below hal
  have hlt : ∀ (j : Nat) B d, bs[j]? = some (some (B, d)) → B < V.heap.size := fun j B d h => by
    obtain ⟨⟨_, h1, _⟩, _⟩ := M.1 j B d h
    exact h1.lt
  refine ⟨fun j B d' hj => ?_, fun j k B d1 d2 h1 h2 => ?_, M2.2.2⟩
  · by_cases hij : i = j
    · subst hij
      rw [List.getElem?_set_self hlen] at hj
      simp at hj
      obtain ⟨rfl, rfl⟩ := hj
      exact ⟨⟨cs, World.alloc_heap_new V _, hd.below hal⟩, M.2.2.size⟩
    · rw [List.getElem?_set_ne hij] at hj
      exact M2.1 j B d' hj
  · by_cases hij : i = j <;> by_cases hik : i = k
    · omega
    · subst hij
      rw [List.getElem?_set_self hlen] at h1
      rw [List.getElem?_set_ne hik] at h2
      simp at h1
      have := hlt k B d2 h2
      omega
    · subst hik
      rw [List.getElem?_set_self hlen] at h2
      rw [List.getElem?_set_ne hij] at h1
      simp at h2
      have := hlt j B d1 h1
      omega
    · rw [List.getElem?_set_ne hij] at h1
      rw [List.getElem?_set_ne hik] at h2
      exact M.2.1 j k B d1 d2 h1 h2

theorem set_end {α : Type} (l : List α) (x y : α) : (l ++ [x]).set l.length y = l ++ [y] := by
  induction l with
  | nil => rfl
  | cons a l ih => simp

theorem Mem.push {w V : World} {bs : List (Option (Nat × Dat))} (M : Mem w V bs) {cs : Array Value} (d : Dat) (hd : Has V (.agg cs) d) : Mem w (V.alloc (.cells cs d.ty)) (bs ++ [some (V.heap.size, d)]) := by
  have h := M.none.fill (i := bs.length) (by simp) d hd
  rwa [set_end] at h

/-- A box has another thing in it. -/
theorem Mem.repl {w V V' : World} {bs : List (Option (Nat × Dat))} (M : Mem w V bs) {i B : Nat} {d : Dat} (h : bs[i]? = some (some (B, d))) {cs : Array Value} (d' : Dat) (hc : Bx V' B d'.ty cs) (hd : Has V (.agg cs) d')
    (hk : ∀ k v ds, Row k V v ds → Row k V' v ds) (hf : ∀ B' t cs, B' ≠ B → Bx V B' t cs → Bx V' B' t cs) (hB : Below w.heap.size w V') : Mem w V' (bs.set i (some (B, d'))) := by
  have hlen : i < bs.length := (List.getElem?_eq_some_iff.1 h).1
  obtain ⟨_, hw⟩ := M.1 i B d h
  refine ⟨fun j B' d1 hj => ?_, fun j k B' d1 d2 h1 h2 => ?_, hB⟩
  · by_cases hij : i = j
    · subst hij
      rw [List.getElem?_set_self hlen] at hj
      simp at hj
      obtain ⟨rfl, rfl⟩ := hj
      exact ⟨⟨cs, hc, hd.keep hk⟩, hw⟩
    · rw [List.getElem?_set_ne hij] at hj
      obtain ⟨⟨cs1, g1, g2⟩, hw1⟩ := M.1 j B' d1 hj
      have hne : B' ≠ B := fun e => hij (by rw [e] at hj; exact M.2.1 i j B d d1 h hj)
      exact ⟨⟨cs1, hf _ _ _ hne g1, g2.keep hk⟩, hw1⟩
  · have hget : ∀ (j : Nat) d1, (bs.set i (some (B, d')))[j]? = some (some (B', d1)) → ∃ d3, bs[j]? = some (some (B', d3)) := fun j d1 hj => by
      by_cases hij : i = j
      · subst hij
        rw [List.getElem?_set_self hlen] at hj
        simp at hj
        exact ⟨d, by rw [h, hj.1]⟩
      · rw [List.getElem?_set_ne hij] at hj
        exact ⟨d1, hj⟩
    obtain ⟨d3, g1⟩ := hget j d1 h1
    obtain ⟨d4, g2⟩ := hget k d2 h2
    exact M.2.1 j k B' d3 d4 g1 g2

theorem keep2 {V : World} {B : Nat} {t : TypeId} {x y : Value} (q : Box2 V B t x y) (n0 : noInt x = true) (n1 : noInt y = true) (x' y' : Value) : ∀ k v ds, Row k V v ds → Row k ((V.setCell ⟨B, 0, Option.none⟩ x').setCell ⟨B, 1, Option.none⟩ y') v ds :=
  fun _ _ _ h => Row.set (Row.set h q.c0 n0 _) (q.set0 x').c1 n1 _

theorem Mem.putInt {w V : World} {bs : List (Option (Nat × Dat))} (M : Mem w V bs) {i B : Nat} {z0 : Int} (h : bs[i]? = some (some (B, .int z0))) {x y : Value} {z : Int} (hi : IsInt V (.agg #[x, y]) z) :
    Mem w ((V.setCell ⟨B, 0, Option.none⟩ x).setCell ⟨B, 1, Option.none⟩ y) (bs.set i (some (B, .int z))) := by
  obtain ⟨s, a, l, c, hb, _⟩ := M.int h
  obtain ⟨_, hw⟩ := M.1 i B _ h
  exact M.repl h (.int z) (cs := #[x, y]) ((hb.set0 x).set1 y) hi (keep2 hb rfl rfl x y) (fun B' t cs hne g => (g.far (p := ⟨B, 0, Option.none⟩) hne _).far (p := ⟨B, 1, Option.none⟩) hne _) ((M.2.2.setCell (p := ⟨B, 0, Option.none⟩) hw _).setCell (p := ⟨B, 1, Option.none⟩) hw _)
theorem Mem.putBig {w V : World} {bs : List (Option (Nat × Dat))} (M : Mem w V bs) {i B : Nat} {z0 : Int} (h : bs[i]? = some (some (B, .big z0))) {x y : Value} {z : Int} (hi : IsBig V (.agg #[x, y]) z) :
    Mem w ((V.setCell ⟨B, 0, Option.none⟩ x).setCell ⟨B, 1, Option.none⟩ y) (bs.set i (some (B, .big z))) := by
  obtain ⟨a, l, c, s, hb, _⟩ := M.big h
  obtain ⟨_, hw⟩ := M.1 i B _ h
  exact M.repl h (.big z) (cs := #[x, y]) ((hb.set0 x).set1 y) hi (keep2 hb rfl rfl x y) (fun B' t cs hne g => (g.far (p := ⟨B, 0, Option.none⟩) hne _).far (p := ⟨B, 1, Option.none⟩) hne _) ((M.2.2.setCell (p := ⟨B, 0, Option.none⟩) hw _).setCell (p := ⟨B, 1, Option.none⟩) hw _)

theorem far4 {V : World} {B : Nat} (x y z u : Value) : ∀ B' t cs, B' ≠ B → Bx V B' t cs → Bx (put4 V B x y z u) B' t cs := fun _ _ _ hne g => (((g.far (p := ⟨B, 0, Option.none⟩) hne _).far (p := ⟨B, 1, Option.none⟩) hne _).far (p := ⟨B, 2, Option.none⟩) hne _).far (p := ⟨B, 3, Option.none⟩) hne _

theorem Mem.putRat {w V : World} {bs : List (Option (Nat × Dat))} (M : Mem w V bs) {i B : Nat} {q0 : Rat} (h : bs[i]? = some (some (B, .rat q0))) {x y z u : Value} {q : Rat} (hi : IsRat V (.agg #[x, y, z, u]) q) :
    Mem w (put4 V B x y z u) (bs.set i (some (B, .rat q))) := by
  obtain ⟨_, _, _, _, _, _, _, _, hb, _⟩ := M.rat h
  obtain ⟨_, hw⟩ := M.1 i B _ h
  exact M.repl h (.rat q) (cs := #[x, y, z, u]) (hb.put x y z u) hi (fun _ _ _ g => Row.put4 g hb rfl rfl rfl rfl _ _ _ _) (far4 x y z u) (below_put4 M.2.2 hw _ _ _ _)
theorem Mem.putRef {w V : World} {bs : List (Option (Nat × Dat))} (M : Mem w V bs) {i B : Nat} {q0 : Rat} (h : bs[i]? = some (some (B, .ref q0))) {x y z u : Value} {q : Rat} (hi : IsRef V (.agg #[x, y, z, u]) q) :
    Mem w (put4 V B x y z u) (bs.set i (some (B, .ref q))) := by
  obtain ⟨_, _, _, _, _, _, _, _, hb, _⟩ := M.ref h
  obtain ⟨_, hw⟩ := M.1 i B _ h
  exact M.repl h (.ref q) (cs := #[x, y, z, u]) (hb.put x y z u) hi (fun _ _ _ g => Row.put4 g hb rfl rfl rfl rfl _ _ _ _) (far4 x y z u) (below_put4 M.2.2 hw _ _ _ _)

theorem Mem.zref {w V : World} {bs : List (Option (Nat × Dat))} (M : Mem w V bs) {i B : Nat} (h : bs[i]? = some (some (B, .zref))) : Box4 V B 34 (.slice Option.none 0 0) (.bool false) (.slice Option.none 0 0) (.bool false) := by
  obtain ⟨⟨cs, h1, h2⟩, _⟩ := M.1 i B _ h
  cases (show Value.agg cs = _ from h2)
  exact h1
theorem Mem.putZref {w V : World} {bs : List (Option (Nat × Dat))} (M : Mem w V bs) {i B : Nat} (h : bs[i]? = some (some (B, .zref))) {x y z u : Value} {q : Rat} (hi : IsRef V (.agg #[x, y, z, u]) q) :
    Mem w (put4 V B x y z u) (bs.set i (some (B, .ref q))) := by
  have hb := M.zref h
  obtain ⟨_, hw⟩ := M.1 i B _ h
  exact M.repl h (.ref q) (cs := #[x, y, z, u]) (hb.put x y z u) hi (fun _ _ _ g => Row.put4 g hb rfl rfl rfl rfl _ _ _ _) (far4 x y z u) (below_put4 M.2.2 hw _ _ _ _)

/-- What a value tells stays when a box is written. -/
theorem Has.set2 {V : World} {v : Value} {d : Dat} (h : Has V v d) {B : Nat} {t : TypeId} {x y : Value} (q : Box2 V B t x y) (n0 : noInt x = true) (n1 : noInt y = true) (x' y' : Value) : Has ((V.setCell ⟨B, 0, Option.none⟩ x').setCell ⟨B, 1, Option.none⟩ y') v d := h.keep (keep2 q n0 n1 x' y')
theorem Has.put4 {V : World} {v : Value} {d : Dat} (h : Has V v d) {B : Nat} {t : TypeId} {x y z u : Value} (q : Box4 V B t x y z u) (n0 : noInt x = true) (n1 : noInt y = true) (n2 : noInt z = true) (n3 : noInt u = true) (x' y' z' u' : Value) : Has (Go.Proofs.YtcahodpphikgnaaGreatDoor.put4 V B x' y' z' u') v d := h.keep (fun _ _ _ g => Row.put4 g q n0 n1 n2 n3 _ _ _ _)

theorem IsInt.form2 {W : World} {v : Value} {z : Int} (h : IsInt W v z) : ∃ s a l c, v = .agg #[.bool s, .slice a l c] := by
  obtain ⟨a, l, c, e, _⟩ := h
  exact ⟨_, a, l, c, e⟩
theorem IsBig.form2 {W : World} {v : Value} {z : Int} (h : IsBig W v z) : ∃ a l c s, v = .agg #[.slice a l c, .bool s] := by
  obtain ⟨a, l, c, e, _⟩ := h
  exact ⟨a, l, c, _, e⟩
theorem IsRat.form {W : World} {v : Value} {q : Rat} (h : IsRat W v q) : ∃ s a l c t b k d, v = .agg #[.bool s, .slice a l c, .bool t, .slice b k d] := by
  obtain ⟨s, a, l, c, t, b, k, d, e, _⟩ := h
  exact ⟨s, a, l, c, t, b, k, d, e⟩
theorem IsRef.form {W : World} {v : Value} {q : Rat} (h : IsRef W v q) : ∃ a l c s b k d t, v = .agg #[.slice a l c, .bool s, .slice b k d, .bool t] := by
  obtain ⟨s, a, l, c, t, b, k, d, e, _⟩ := h
  exact ⟨s, a, l, c, t, b, k, d, e⟩
theorem Mem.ne {w V : World} {bs : List (Option (Nat × Dat))} (M : Mem w V bs) (i j : Nat) {B B' : Nat} {d d' : Dat} (h : bs[i]? = some (some (B, d))) (h' : bs[j]? = some (some (B', d'))) (hij : i ≠ j) : B ≠ B' := fun e => by
  subst e
  exact hij (M.2.1 i j B d d' h h')
theorem Mem.ge {w V : World} {bs : List (Option (Nat × Dat))} (M : Mem w V bs) (i : Nat) {B : Nat} {d : Dat} (h : bs[i]? = some (some (B, d))) : w.heap.size ≤ B := (M.1 i B d h).2

theorem int0 (W : World) : IsInt W (.agg #[.bool false, .slice Option.none 0 0]) 0 :=
  ⟨Option.none, 0, 0, by simp, by unfold UN; rw [Int.natAbs_zero, limbs_zero]; exact Row.nil _ _⟩
theorem big0 (W : World) : IsBig W (.agg #[.slice Option.none 0 0, .bool false]) 0 :=
  ⟨Option.none, 0, 0, by simp, by unfold RN; rw [Int.natAbs_zero, limbs_zero]; exact Row.nil _ _⟩
theorem rat0 (W : World) : IsRat W (.agg #[.bool false, .slice Option.none 0 0, .bool false, .slice Option.none 0 0]) 0 := ⟨_, _, _, _, _, _, _, _, rfl, int0 W, int0 W⟩

/-- A tuple of two things and true. -/
def Tup2 (V : World) (t : Value) (d1 d2 : Dat) : Prop := ∃ u1 u2, t = .tuple #[u1, u2, .bool true] ∧ Has V u1 d1 ∧ Has V u2 d2
theorem Tup2.below {V V' : World} {t : Value} {d1 d2 : Dat} (h : Tup2 V t d1 d2) (hb : Below V.heap.size V V') : Tup2 V' t d1 d2 := by
  obtain ⟨u1, u2, e, h1, h2⟩ := h
  exact ⟨u1, u2, e, h1.below hb, h2.below hb⟩
theorem Tup2.alloc {V : World} {t : Value} {d1 d2 : Dat} (h : Tup2 V t d1 d2) (o : Obj) : Tup2 (V.alloc o) t d1 d2 := by
  obtain ⟨u1, u2, e, h1, h2⟩ := h
  exact ⟨u1, u2, e, h1.alloc o, h2.alloc o⟩
theorem Tup2.set2 {V : World} {v : Value} {d1 d2 : Dat} (h : Tup2 V v d1 d2) {B : Nat} {t : TypeId} {x y : Value} (q : Box2 V B t x y) (n0 : noInt x = true) (n1 : noInt y = true) (x' y' : Value) : Tup2 ((V.setCell ⟨B, 0, Option.none⟩ x').setCell ⟨B, 1, Option.none⟩ y') v d1 d2 := by
  obtain ⟨u1, u2, e, h1, h2⟩ := h
  exact ⟨u1, u2, e, h1.set2 q n0 n1 x' y', h2.set2 q n0 n1 x' y'⟩
end Go.Proofs.YtcahodpphikgnaaGreatDoor
namespace Go.Proofs.YtcahodpphikgnaaGreatDoor
open Go.RowKit Go.Shelf

attribute [local go_sem] Oper.semAt_some

theorem IsBig.alloc {W : World} {v : Value} {z : Int} (h : IsBig W v z) (o : Obj) : IsBig (W.alloc o) v z := h.below ((Below.refl _ W).alloc (Nat.le_refl _) o)
theorem IsBig.form {W : World} {v : Value} {z : Int} (h : IsBig W v z) : ∃ a l cap, v = .agg #[.slice a l cap, .bool (decide (z < 0))] := by
  obtain ⟨a, l, cap, e, _⟩ := h
  exact ⟨a, l, cap, e⟩
theorem IsBig.box {W : World} {R : Nat} {t : TypeId} {u0 u1 x0 x1 v : Value} {z : Int} (h : IsBig W v z) (q : Box2 W R t u0 u1) (n0 : noInt u0 = true) (n1 : noInt u1 = true) : IsBig ((W.setCell ⟨R, 0, none⟩ x0).setCell ⟨R, 1, none⟩ x1) v z := by
  obtain ⟨a, l, cap, e, hr⟩ := h
  exact ⟨a, l, cap, e, Row.set (Row.set hr q.c0 n0 _) (u0 := u1) (q.set0 x0).c1 n1 _⟩

set_option maxRecDepth 100000 in
set_option maxHeartbeats 1000000 in
theorem rless_c (va vb : Value) (x y : Int) (w : World) (ha : IsBig w va x) (hb : IsBig w vb y) (hma : szB x ≤ 1000000000) (hmb : szB y ≤ 1000000000) :
    Calls Tryz.prog 95 #[va, vb] w fun e w' => ∃ u, e = .returned u ∧ IsBig w' u (x - y) ∧ Below w.heap.size w w' := by
  obtain ⟨a, la, ca, rfl⟩ := ha.form
  obtain ⟨b, lb, cb, rfl⟩ := hb.form
  obtain ⟨s, hs⟩ : ∃ s, decide (x < 0) = s := ⟨_, rfl⟩
  obtain ⟨t, ht⟩ : ∃ t, decide (y < 0) = t := ⟨_, rfl⟩
  rw [hs] at ha ⊢
  rw [ht] at hb ⊢
  clear hs ht
  obtain ⟨W0, hW0⟩ : ∃ W0, ((w.alloc (.cells #[.slice a la ca, .bool s] 32)).alloc (.cells #[.slice b lb cb, .bool t] 32)).alloc (.cells #[.slice none 0 0, .bool false] 32) = W0 := ⟨_, rfl⟩
  have hB0 : Below w.heap.size w W0 := by rw [← hW0]; exact below_3 w _ _ _
  have b0 : Box2 W0 w.heap.size 32 (.slice a la ca) (.bool s) := by rw [← hW0]; exact ((Box2.new w _ _ _).alloc _).alloc _
  have b1 : Box2 W0 (w.heap.size + 1) 32 (.slice b lb cb) (.bool t) := by
    have h := (Box2.new (w.alloc (.cells #[.slice a la ca, .bool s] 32)) 32 (.slice b lb cb) (.bool t)).alloc (.cells #[.slice none 0 0, .bool false] 32)
    rw [World.size_alloc, hW0] at h; exact h
  have bR : Box2 W0 (w.heap.size + 1 + 1) 32 (.slice none 0 0) (.bool false) := by
    have h := Box2.new ((w.alloc (.cells #[.slice a la ca, .bool s] 32)).alloc (.cells #[.slice b lb cb, .bool t] 32)) 32 (.slice none 0 0) (.bool false)
    rw [World.size_alloc, World.size_alloc, hW0] at h; exact h
  have HN := hidD (fun (V : World) (h : Below W0.heap.size W0 V) => neg_c _ y V ((hb.below hB0).below h))
  have HS := hidD (fun (V : World) (u : Value) (h : Below W0.heap.size W0 V) (hu : IsBig V u (-y)) => sum_c _ u x (-y) V ((ha.below hB0).below h) hu hma (by unfold szB at *; rw [Int.natAbs_neg]; exact hmb))
  clear ha hb
  go_enter Tryz.func95, Tryz.ntmps95
  go_wp2_with fail
  try rw [hW0]
  clear hW0
  have hq : Below W0.heap.size W0 W0.drew := (Below.refl _ W0).drew
  have k0 := b0.c0
  have k1 := b0.c1
  have k2 := b1.c0
  have k3 := b1.c1
  have ne2 : ¬ (w.heap.size = w.heap.size + 1 + 1) := by omega
  go_region_held3 (fun w' => w'.cell? ⟨w.heap.size, 0, none⟩ = some (.slice a la ca) ∧ w'.cell? ⟨w.heap.size, 1, none⟩ = some (.bool s) ∧ w'.cell? ⟨w.heap.size + 1, 0, none⟩ = some (.slice b lb cb) ∧ w'.cell? ⟨w.heap.size + 1, 1, none⟩ = some (.bool t)) (refine ⟨?_, ?_, ?_, ?_⟩ <;> (first | (go_keep; done) | ((repeat rw [cell_set_nb (by omega)]); simp [*]; done)))
    (first
      | (go_at_call 62; refine (HN.out _ hq).mono ?_; rintro e w1 ⟨u1, rfl, hu1, hb1⟩; obtain ⟨na, nl, nc, rfl⟩ := hu1.form; obtain ⟨s1, hs1⟩ : ∃ s1, decide (-y < 0) = s1 := ⟨_, rfl⟩; rw [hs1] at hu1; rw [hs1]; clear hs1; have hq := Below.then hq hb1; have k0 := (b0.below hq).c0; have k1 := (b0.below hq).c1; have k2 := (b1.below hq).c0; have k3 := (b1.below hq).c1)
      | (go_at_call 66; refine (HS.out _ _ hq hu1).mono ?_; rintro e w2 ⟨u2, rfl, hu2, hb2⟩; obtain ⟨sa, sl, sc, rfl⟩ := hu2.form; obtain ⟨s2, hs2⟩ : ∃ s2, decide (x + -y < 0) = s2 := ⟨_, rfl⟩; rw [hs2] at hu2; rw [hs2]; clear hs2; have hq := Below.then hq hb2; have k0 := (b0.below hq).c0; have k1 := (b0.below hq).c1; have k2 := (b1.below hq).c0; have k3 := (b1.below hq).c1; have r0 := (bR.below hq).c0; have r1 := (bR.below hq).c1; have f0 := (bR.below hq).f0; have f1 := (bR.below hq).f1))
  all_goals go_wp2_with fail
  have hq2 := hB0.trans (hq.mono hB0.size)
  have hfin := hu2.box (bR.below hq) rfl rfl (x0 := .slice sa sl sc) (x1 := .bool s2)
  exact bodyPost_ret (v := .agg #[.slice sa sl sc, .bool s2]) (by simp [results, Tryz.results95, go_sem, r0, r1]) rfl ⟨_, rfl, by rw [Int.sub_eq_add_neg]; exact hfin, (hq2.setCell (p := ⟨_, 0, none⟩) (by simp only; omega) _).setCell (p := ⟨_, 1, none⟩) (by simp only; omega) _⟩
end Go.Proofs.YtcahodpphikgnaaGreatDoor
namespace Go.Proofs.YtcahodpphikgnaaGreatDoor
open Go.RowKit Go.Shelf

attribute [local go_sem] Oper.semAt_some

set_option maxRecDepth 100000 in
set_option maxHeartbeats 1000000 in
theorem iminus_c (va vb : Value) (x y : Int) (w : World) (ha : IsInt w va x) (hb : IsInt w vb y) (hlx : (limbs B64 x.natAbs).length < 1099511627776) (hly : (limbs B64 y.natAbs).length < 1099511627776) :
    Calls Tryz.prog 65 #[va, vb] w fun e w' => ∃ u, e = .returned u ∧ IsInt w' u (x - y) ∧ Below w.heap.size w w' := by
  obtain ⟨a, la, ca, rfl⟩ := ha.form
  obtain ⟨b, lb, cb, e0, hu⟩ := hb
  cases e0
  obtain ⟨s, hs⟩ : ∃ s, decide (x < 0) = s := ⟨_, rfl⟩
  obtain ⟨t, ht⟩ : ∃ t, decide (y < 0) = t := ⟨_, rfl⟩
  rw [hs] at ha ⊢
  rw [ht]
  clear hs
  obtain ⟨W0, hW0⟩ : ∃ W0, ((w.alloc (.cells #[.bool s, .slice a la ca] 25)).alloc (.cells #[.bool t, .slice b lb cb] 25)).alloc (.cells #[.bool false, .slice none 0 0] 25) = W0 := ⟨_, rfl⟩
  have hB0 : Below w.heap.size w W0 := by rw [← hW0]; exact below_3 w _ _ _
  have b0 : Box2 W0 w.heap.size 25 (.bool s) (.slice a la ca) := by rw [← hW0]; exact ((Box2.new w _ _ _).alloc _).alloc _
  have b1 : Box2 W0 (w.heap.size + 1) 25 (.bool t) (.slice b lb cb) := by
    have h := (Box2.new (w.alloc (.cells #[.bool s, .slice a la ca] 25)) 25 (.bool t) (.slice b lb cb)).alloc (.cells #[.bool false, .slice none 0 0] 25)
    rw [World.size_alloc, hW0] at h; exact h
  have bR : Box2 W0 (w.heap.size + 1 + 1) 25 (.bool false) (.slice none 0 0) := by
    have h := Box2.new ((w.alloc (.cells #[.bool s, .slice a la ca] 25)).alloc (.cells #[.bool t, .slice b lb cb] 25)) 25 (.bool false) (.slice none 0 0)
    rw [World.size_alloc, World.size_alloc, hW0] at h; exact h
  have hneg : (if (!t) = true then -(y.natAbs : Int) else y.natAbs) = -y := by
    rw [← ht]
    by_cases h : y < 0
    · simp only [h, decide_true, Bool.not_true, Bool.false_eq_true, if_false]; omega
    · simp only [h, decide_false, Bool.not_false, if_true]; omega
  have HN := hidD (fun (V : World) (h : Below W0.heap.size W0 V) => show Calls Tryz.prog 58 #[.bool (!t), .slice b lb cb] V fun e w' => ∃ u, e = .returned u ∧ IsInt w' u (-y) ∧ Below V.heap.size V w' by
    have h1 := signed_c (!t) (.slice b lb cb) y.natAbs V (UN.below (UN.below hu hB0) h)
    rw [hneg] at h1
    exact h1)
  have HS := hidD (fun (V : World) (u : Value) (h : Below W0.heap.size W0 V) (hu : IsInt V u (-y)) => iplus_c _ u x (-y) V ((ha.below hB0).below h) hu hlx (by rw [Int.natAbs_neg]; exact hly))
  clear ha hu hneg ht
  go_enter Tryz.func65, Tryz.ntmps65
  go_wp2_with fail
  try rw [hW0]
  clear hW0
  have hq : Below W0.heap.size W0 W0.drew := (Below.refl _ W0).drew
  have k0 := b0.c0
  have k1 := b0.c1
  have k2 := b1.c0
  have k3 := b1.c1
  have ne2 : ¬ (w.heap.size = w.heap.size + 1 + 1) := by omega
  go_region_held3 (fun w' => w'.cell? ⟨w.heap.size, 0, none⟩ = some (.bool s) ∧ w'.cell? ⟨w.heap.size, 1, none⟩ = some (.slice a la ca) ∧ w'.cell? ⟨w.heap.size + 1, 0, none⟩ = some (.bool t) ∧ w'.cell? ⟨w.heap.size + 1, 1, none⟩ = some (.slice b lb cb)) (refine ⟨?_, ?_, ?_, ?_⟩ <;> (first | (go_keep; done) | ((repeat rw [cell_set_nb (by omega)]); simp [*]; done)))
    (first
      | (go_at_call 58; refine (HN.out _ hq).mono ?_; rintro e w1 ⟨u1, rfl, hu1, hb1⟩; obtain ⟨na, nl, nc, rfl⟩ := hu1.form; obtain ⟨s1, hs1⟩ : ∃ s1, decide (-y < 0) = s1 := ⟨_, rfl⟩; rw [hs1] at hu1; rw [hs1]; clear hs1; have hq := Below.then hq hb1; have k0 := (b0.below hq).c0; have k1 := (b0.below hq).c1; have k2 := (b1.below hq).c0; have k3 := (b1.below hq).c1)
      | (go_at_call 42; refine (HS.out _ _ hq hu1).mono ?_; rintro e w2 ⟨u2, rfl, hu2, hb2⟩; obtain ⟨sa, sl, sc, rfl⟩ := hu2.form; obtain ⟨s2, hs2⟩ : ∃ s2, decide (x + -y < 0) = s2 := ⟨_, rfl⟩; rw [hs2] at hu2; rw [hs2]; clear hs2; have hq := Below.then hq hb2; have k0 := (b0.below hq).c0; have k1 := (b0.below hq).c1; have k2 := (b1.below hq).c0; have k3 := (b1.below hq).c1; have r0 := (bR.below hq).c0; have r1 := (bR.below hq).c1; have f0 := (bR.below hq).f0; have f1 := (bR.below hq).f1))
  all_goals go_wp2_with fail
  have hq2 := hB0.trans (hq.mono hB0.size)
  have hfin := hu2.box (bR.below hq) rfl rfl (x0 := .bool s2) (x1 := .slice sa sl sc)
  exact bodyPost_ret (v := .agg #[.bool s2, .slice sa sl sc]) (by simp [results, Tryz.results65, go_sem, r0, r1]) rfl ⟨_, rfl, by rw [Int.sub_eq_add_neg]; exact hfin, (hq2.setCell (p := ⟨_, 0, none⟩) (by simp only; omega) _).setCell (p := ⟨_, 1, none⟩) (by simp only; omega) _⟩
end Go.Proofs.YtcahodpphikgnaaGreatDoor
namespace Go.Proofs.YtcahodpphikgnaaGreatDoor
open Go.RowKit Go.Shelf

/-- Block b begins with the words xs, and may be written. -/
def ArI (W : World) (b : Nat) (xs : List Nat) : Prop := ∃ tl : List Value, W.heap[b]? = some (.cells (cellsOf .i64 xs ++ tl).toArray 3 (0, 0))

theorem ArI.lt {W : World} {b : Nat} {xs : List Nat} (h : ArI W b xs) : b < W.heap.size := by obtain ⟨_, h⟩ := h; exact (Array.getElem?_eq_some_iff.1 h).1
theorem ArI.cell {W : World} {b : Nat} {xs : List Nat} (h : ArI W b xs) {j : Nat} (hj : j < xs.length) : W.cell? ⟨b, j, none⟩ = some (.int .i64 (xs[j]?.getD 0 : Nat)) := by
  obtain ⟨tl, h⟩ := h
  have e : (cellsOf .i64 xs ++ tl)[j]? = some (.int .i64 (xs[j]?.getD 0 : Nat)) := by
    rw [List.getElem?_append_left (by rw [cellsOf_length]; exact hj)]
    simp [cellsOf, List.getElem?_eq_getElem hj]
  simp [World.cell?, h, e]
theorem ArI.frozen {W : World} {b : Nat} {xs : List Nat} (h : ArI W b xs) (j : Nat) : W.frozen? ⟨b, j, none⟩ = false := by obtain ⟨_, h⟩ := h; simp [World.frozen?, h]
theorem ArI.of_block {W W' : World} {b : Nat} {xs : List Nat} (h : ArI W b xs) (e : W'.heap[b]? = W.heap[b]?) : ArI W' b xs := by obtain ⟨tl, h⟩ := h; exact ⟨tl, e.trans h⟩
theorem ArI.kept {W W' : World} {row : Option Nat} {b : Nat} {xs : List Nat} (h : ArI W b xs) (hg : W.grownBy W' row) (hne : some b ≠ row) : ArI W' b xs := h.of_block (hg.block b h.lt hne)
theorem ArI.below {W W' : World} {b : Nat} {xs : List Nat} (h : ArI W b xs) (hb : Below W.heap.size W W') : ArI W' b xs := h.of_block (hb.block b h.lt)
theorem ArI.alloc {W : World} {b : Nat} {xs : List Nat} (h : ArI W b xs) (o : Obj) : ArI (W.alloc o) b xs := h.below ((Below.refl _ W).alloc (Nat.le_refl _) o)
theorem ArI.set {W : World} {b : Nat} {xs : List Nat} (h : ArI W b xs) (j v : Nat) : ArI (W.setCell ⟨b, j, none⟩ (.int .i64 (v : Nat))) b (xs.set j v) := by
  obtain ⟨tl, h⟩ := h
  obtain ⟨hlt, hk⟩ := Array.getElem?_eq_some_iff.1 h
  have e : ∃ tl', (cellsOf .i64 xs ++ tl).set j (.int .i64 (v : Nat)) = cellsOf .i64 (xs.set j v) ++ tl' := by
    rcases Nat.lt_or_ge j xs.length with hj | hj
    · exact ⟨tl, by rw [List.set_append_left _ _ (by rw [cellsOf_length]; exact hj)]; simp [cellsOf, List.map_set]⟩
    · exact ⟨_, by rw [List.set_append_right _ _ (by rw [cellsOf_length]; exact hj), List.set_eq_of_length_le hj]⟩
  obtain ⟨tl', e⟩ := e
  refine ⟨tl', ?_⟩
  show (W.heap.modify b _)[b]? = _
  rw [Array.getElem?_eq_getElem (by rw [Array.size_modify]; exact hlt), Array.getElem_modify_self, hk, ← e]
  simp
theorem ArI.made {W : World} {b : Nat} {xs : List Nat} (h : W.heap[b]? = some (.cells (cellsOf .i64 xs).toArray 3 (0, 0))) : ArI W b xs := ⟨[], by rw [List.append_nil]; exact h⟩
/-- A piece of a written block us a row. -/
theorem ArI.row {W : World} {b : Nat} {xs : List Nat} (h : ArI W b xs) (off len cap : Nat) (h1 : off + len ≤ xs.length) (h2 : len ≤ cap) (h3 : cap ≤ 9223372036854775807) (h4 : len ≤ 1099511627776) : Row .i64 W (.slice (some ⟨b, off, none⟩) len cap) ((xs.drop off).take len) := by
  have e : ((xs.drop off).take len).length = len := by rw [List.length_take, List.length_drop]; omega
  refine ⟨_, cap, by rw [e], by omega, h3, by omega, Or.inr ⟨b, off, rfl, h.lt, fun j hj => ?_⟩⟩
  rw [e] at hj
  rw [h.cell (by omega), List.getElem?_take_of_lt hj, List.getElem?_drop]


theorem madeCells_int (n : Nat) : madeCells #[.int .i64 0] n = (cellsOf .i64 (List.replicate n 0)).toArray := by
  apply Array.ext
  · simp [madeCells, cellsOf]
  · intro i h1 h2
    simp [madeCells, cellsOf, Nat.mod_one]

theorem make_ints (n : Nat) (h : n ≤ 2199023255552) (w : World) : (Instr.makeSlice 30 (.int .i64 (n : Int)) (.int .i64 (n : Int))).run Tryz.prog w = .ok (.slice (some ⟨w.heap.size, 0, none⟩) n n) (w.alloc (.cells (cellsOf .i64 (List.replicate n 0)).toArray 3)) := by
  rw [← madeCells_int]
  exact run_make_row' 30 3 (.int .i64 0) 8 Tryz.underlying30 Tryz.infoInt rfl .i64 .i64 n (by omega) (by omega) w

theorem val_set (B : Nat) : ∀ (D : List Nat) (j d : Nat), j < D.length → val B (D.set j d) + B ^ j * D[j]?.getD 0 = val B D + B ^ j * d
  | [], _, _, h => by cases h
  | x :: D, 0, d, _ => by simp [val]; omega
  | x :: D, j + 1, d, h => by
    have ih := val_set B D j d (by simpa using h)
    simp only [List.set_cons_succ, val, List.getElem?_cons_succ, Nat.pow_succ]
    have e : B * val B (D.set j d) + B * (B ^ j * D[j]?.getD 0) = B * val B D + B * (B ^ j * d) := by rw [← Nat.mul_add, ih, Nat.mul_add]
    have e1 : B ^ j * B * D[j]?.getD 0 = B * (B ^ j * D[j]?.getD 0) := by rw [Nat.mul_comm (B ^ j) B, Nat.mul_assoc]
    have e2 : B ^ j * B * d = B * (B ^ j * d) := by rw [Nat.mul_comm (B ^ j) B, Nat.mul_assoc]
    omega

theorem val_zeros (B n : Nat) : val B (List.replicate n 0) = 0 := by
  induction n with
  | zero => rfl
  | succ n ih => rw [List.replicate_succ, val, ih]; simp

theorem Dig.set {B : Nat} {D : List Nat} (h : Dig B D) (j : Nat) {d : Nat} (hd : d < B) : Dig B (D.set j d) := fun x hx => by
  rcases List.mem_or_eq_of_mem_set hx with h1 | h1
  · exact h x h1
  · rw [h1]; exact hd

/-- What the outer loop of Times knows: i digits of the first are worked in. -/
def TimAt (us bs : List Nat) (i : Nat) (D : List Nat) : Prop :=
  D.length = us.length + bs.length + 1 ∧ Dig 10000 D ∧ val 10000 D = val 10000 (us.take i) * val 10000 bs

/-- What the inner loop knows besides. -/
def TimK (us bs : List Nat) (i k c : Nat) (D : List Nat) : Prop :=
  D.length = us.length + bs.length + 1 ∧ Dig 10000 D ∧ c < 10000 ∧
    val 10000 D + 10000 ^ (i + k) * c = val 10000 (us.take i) * val 10000 bs + 10000 ^ i * (us[i]?.getD 0 * val 10000 (bs.take k))

theorem TimAt.start (us bs : List Nat) : TimAt us bs 0 (List.replicate (us.length + bs.length + 1) 0) :=
  ⟨List.length_replicate, fun x hx => by rw [List.eq_of_mem_replicate hx]; omega, by rw [val_zeros]; simp [val]⟩

theorem TimAt.inner {us bs : List Nat} {i : Nat} {D : List Nat} (h : TimAt us bs i D) : TimK us bs i 0 0 D := by
  obtain ⟨h1, h2, h3⟩ := h
  refine ⟨h1, h2, by omega, ?_⟩
  rw [h3]; simp [val]

theorem TimK.total {us bs : List Nat} {i k c : Nat} {D : List Nat} (h : TimK us bs i k c D) (hk : bs.length ≤ k) : val 10000 D + 10000 ^ (i + k) * c = val 10000 (us.take (i + 1)) * val 10000 bs := by
  obtain ⟨_, _, _, h4⟩ := h
  rw [h4, List.take_of_length_le hk, val_take_succ, Nat.add_mul, Nat.mul_assoc]

theorem TimK.done {us bs : List Nat} {i k : Nat} {D : List Nat} (h : TimK us bs i k 0 D) (hk : bs.length ≤ k) : TimAt us bs (i + 1) D := by
  have := h.total hk
  exact ⟨h.1, h.2.1, by omega⟩

/-- The carry is gone one place behind the second. -/
theorem TimK.over {us bs : List Nat} {i k c : Nat} {D : List Nat} (h : TimK us bs i k c D) (ha : Dig 10000 us) (hb : Dig 10000 bs) (hi : i < us.length) (hk : bs.length < k) : c = 0 := by
  have h1 := h.total (by omega)
  have h2 := val_lt (ha.take (i + 1))
  have h3 := val_lt hb
  rw [List.length_take, Nat.min_eq_left (by omega)] at h2
  have h4 : val 10000 (us.take (i + 1)) * val 10000 bs < 10000 ^ (i + 1) * 10000 ^ bs.length := Nat.mul_lt_mul'' h2 h3
  rw [← Nat.pow_add] at h4
  have h5 : 10000 ^ (i + 1 + bs.length) ≤ 10000 ^ (i + k) := Nat.pow_le_pow_right (by omega) (by omega)
  rcases Nat.eq_zero_or_pos c with h6 | h6
  · exact h6
  · have := Nat.mul_le_mul_left (10000 ^ (i + k)) h6
    omega

/-- One place more. -/
theorem TimK.step {us bs : List Nat} {i k c : Nat} {D : List Nat} (h : TimK us bs i k c D) (ha : Dig 10000 us) (hb : Dig 10000 bs) (hj : i + k < D.length) (c1 : Nat) (hc1 : c1 = c + D[i + k]?.getD 0 + us[i]?.getD 0 * bs[k]?.getD 0) :
    TimK us bs i (k + 1) (c1 / 10000) (D.set (i + k) (c1 % 10000)) := by
  obtain ⟨h1, h2, h3, h4⟩ := h
  have x1 := ha.getD (by omega) i
  have x2 := hb.getD (by omega) k
  have x3 := h2.getD (by omega) (i + k)
  have x4 : us[i]?.getD 0 * bs[k]?.getD 0 ≤ 9999 * 9999 := Nat.mul_le_mul (by omega) (by omega)
  refine ⟨by rw [List.length_set]; exact h1, h2.set _ (Nat.mod_lt _ (by omega)), by omega, ?_⟩
  have h5 := val_set 10000 D (i + k) (c1 % 10000) hj
  rw [val_take_succ, Nat.mul_add, Nat.mul_add]
  have e1 : 10000 ^ (i + (k + 1)) * (c1 / 10000) + 10000 ^ (i + k) * (c1 % 10000) = 10000 ^ (i + k) * c1 := by
    rw [← Nat.add_assoc, Nat.pow_succ, Nat.mul_assoc, ← Nat.mul_add, Nat.div_add_mod]
  have e2 : 10000 ^ i * (us[i]?.getD 0 * (10000 ^ k * bs[k]?.getD 0)) = 10000 ^ (i + k) * (us[i]?.getD 0 * bs[k]?.getD 0) := by
    rw [Nat.pow_add, Nat.mul_assoc]
    congr 1
    rw [Nat.mul_left_comm]
  rw [hc1, Nat.mul_add, Nat.mul_add] at e1
  rw [e2]
  rw [hc1] at h5 ⊢
  omega

theorem TimAt.fin {us bs D : List Nat} {m n : Nat} (h : TimAt us bs us.length D) (ha : us = limbs 10000 m) (hb : bs = limbs 10000 n) : trimL D = limbs 10000 (m * n) := by
  obtain ⟨_, h2, h3⟩ := h
  rw [List.take_of_length_le (Nat.le_refl _)] at h3
  rw [← limbs_val (by omega) h2, h3, ha, hb, val_limbs (by omega), val_limbs (by omega)]
end Go.Proofs.YtcahodpphikgnaaGreatDoor
namespace Go.Proofs.YtcahodpphikgnaaGreatDoor
open Go.RowKit Go.Shelf

theorem Box2.keptG {W W' : World} {B : Nat} {t : TypeId} {x y : Value} {g : Nat} (h : Box2 W B t x y) (hg : W.grownBy W' (some g)) (hne : B ≠ g) : Box2 W' B t x y :=
  (hg.block B h.lt (fun e => hne (by cases e; rfl))).trans h

theorem mul_wrap {x y : Nat} (hx : x < 10000) (hy : y < 10000) : x * y ≤ 99980001 ∧ IntKind.i64.wrap ((x : Int) * (y : Int)) = ((x * y : Nat) : Int) := by
  have h : x * y ≤ 9999 * 9999 := Nat.mul_le_mul (by omega) (by omega)
  refine ⟨by omega, ?_⟩
  have e : (x : Int) * (y : Int) = ((x * y : Nat) : Int) := by rw [Int.natCast_mul]
  rw [e]
  generalize x * y = p at *
  simp [IntKind.wrap, IntKind.signed, IntKind.bits]
  omega

set_option maxRecDepth 100000 in
set_option maxHeartbeats 2000000 in
theorem rtimes_w (a b : Option Addr) (la lb ca cb m n : Nat) (s t : Bool) (w : World) (ra : RN w (.slice a la ca) m) (rb : RN w (.slice b lb cb) n) (hla : la ≤ 1000000000) (hlb : lb ≤ 1000000000) :
    Calls Tryz.prog 67 #[.agg #[.slice a la ca, .bool s], .agg #[.slice b lb cb, .bool t]] w fun e w' => ∃ c lc cc, e = .returned (.agg #[.slice c lc cc, .bool ((s != t) && decide (0 < lc))]) ∧ RN w' (.slice c lc cc) (m * n) ∧ Below w.heap.size w w' := by
  obtain ⟨W0, hW0⟩ : ∃ W0, ((w.alloc (.cells #[.slice a la ca, .bool s] 32)).alloc (.cells #[.slice b lb cb, .bool t] 32)).alloc (.cells #[.slice none 0 0, .bool false] 32) = W0 := ⟨_, rfl⟩
  have hB0 : Below w.heap.size w W0 := by rw [← hW0]; exact below_3 w _ _ _
  have b0 : Box2 W0 w.heap.size 32 (.slice a la ca) (.bool s) := by rw [← hW0]; exact ((Box2.new w _ _ _).alloc _).alloc _
  have b1 : Box2 W0 (w.heap.size + 1) 32 (.slice b lb cb) (.bool t) := by
    have h := (Box2.new (w.alloc (.cells #[.slice a la ca, .bool s] 32)) 32 (.slice b lb cb) (.bool t)).alloc (.cells #[.slice none 0 0, .bool false] 32)
    rw [World.size_alloc, hW0] at h; exact h
  have bR : Box2 W0 (w.heap.size + 1 + 1) 32 (.slice none 0 0) (.bool false) := by
    have h := Box2.new ((w.alloc (.cells #[.slice a la ca, .bool s] 32)).alloc (.cells #[.slice b lb cb, .bool t] 32)) 32 (.slice none 0 0) (.bool false)
    rw [World.size_alloc, World.size_alloc, hW0] at h; exact h
  have hg0 : W0.heap.size = w.heap.size + 3 := by rw [← hW0]; simp
  obtain ⟨hl1, hc1, hm1, hk1, hf1⟩ := row_fn ra
  obtain ⟨hl2, hc2, hm2, hk2, hf2⟩ := row_fn rb
  have HF := hidD (fun D (h : TimAt (limbs 10000 m) (limbs 10000 n) (limbs 10000 m).length D) => h.fin (m := m) (n := n) rfl rfl)
  have xa := dig_limbs (B := 10000) (by omega) m
  have xb := dig_limbs (B := 10000) (by omega) n
  have hmk := make_ints (la + lb + 1) (by omega) W0
  rw [show ((la + lb + 1 : Nat) : Int) = (la : Int) + (lb : Int) + 1 from by omega] at hmk
  obtain ⟨W1, hW1⟩ : ∃ W1, W0.alloc (.cells (cellsOf .i64 (List.replicate (la + lb + 1) 0)).toArray 3) = W1 := ⟨_, rfl⟩
  rw [hW1] at hmk
  obtain ⟨g, hg⟩ : ∃ g, g = W0.heap.size := ⟨_, rfl⟩
  rw [← hg] at hmk hg0
  have hA1 : ArI W1 g (List.replicate (la + lb + 1) 0) := by rw [← hW1, hg]; exact ArI.made (World.alloc_heap_new W0 _)
  have hB1 : Below w.heap.size w W1 := by rw [← hW1]; exact hB0.alloc hB0.size _
  have q0 : Box2 W1 w.heap.size 32 (.slice a la ca) (.bool s) := by rw [← hW1]; exact b0.alloc _
  have q1 : Box2 W1 (w.heap.size + 1) 32 (.slice b lb cb) (.bool t) := by rw [← hW1]; exact b1.alloc _
  have qR : Box2 W1 (w.heap.size + 1 + 1) 32 (.slice none 0 0) (.bool false) := by rw [← hW1]; exact bR.alloc _
  have k0 := b0.c0
  have k1 := b1.c0
  have HS := hidD (TimAt.start (limbs 10000 m) (limbs 10000 n))
  generalize limbs 10000 m = us at *
  generalize limbs 10000 n = vs at *
  have H1 := hidD hf1
  have H2 := hidD hf2
  have HL1 := hidD hl1
  have HL2 := hidD hl2
  rw [← hl1, ← hl2] at HS
  have hgw : w.heap.size + 2 < g := by omega
  clear hg0
  clear hf1 hf2 hl1 hl2 ra rb hW1 hg b0 b1 bR
  go_enter Tryz.func67, Tryz.ntmps67
  go_wp2
  clear hW0 hmk k0 k1
  go_loopw [6] (fun iv wr => ∃ (i : Nat) (D : List Nat), iv = .int .i64 i ∧ i ≤ la ∧ Hid (TimAt us vs i D) ∧ ArI wr g D ∧ W1.grownBy wr (some g))
    (fun iv _ => la - (intOf iv).toNat)
  case atStart => exact ⟨0, _, rfl, Nat.zero_le _, HS.out, hA1, grown_refl _ _⟩
  case round =>
    clear HS hA1
    obtain ⟨i, D, rfl, hi, HD, hA, hG⟩ := hrel
    have m0 := (q0.keptG hG (by omega)).c0
    have m1 := (q0.keptG hG (by omega)).c1
    have m2 := (q1.keptG hG (by omega)).c0
    have m3 := (q1.keptG hG (by omega)).c1
    by_cases hlt : i < la
    · have HI := hidD HD.out.inner
      clear HD
      obtain ⟨ab, ao, rfl, hab, hca⟩ := H1.out i hlt
      go_wp2
      go_loopw [7, 8] (fun cv kv wr => ∃ (c k : Nat) (D : List Nat), cv = .int .i64 c ∧ kv = .int .i64 k ∧ k ≤ lb + 1 ∧ c < 10000 ∧ Hid (TimK us vs i k c D) ∧ ArI wr g D ∧ W1.grownBy wr (some g))
        (fun _ kv _ => lb + 2 - (intOf kv).toNat)
      case atStart => exact ⟨0, 0, D, rfl, rfl, by omega, by omega, HI, hA, hG⟩
      case round =>
        clear HI hA hG m0 m1 m2 m3
        obtain ⟨c, k, D, rfl, rfl, hk, hc, HK, hA, hG⟩ := hrel
        have m0 := (q0.keptG hG (by omega)).c0
        have m2 := (q1.keptG hG (by omega)).c0
        have hDl := HK.out.1
        rw [← HL1.out, ← HL2.out] at hDl
        by_cases hkl : k < lb
        · obtain ⟨bb, bo, rfl, hbb, hcb⟩ := H2.out k hkl
          have hxa : wr.cell? ⟨ab, ao + i, none⟩ = some (.int .i64 (us[i]?.getD 0 : Nat)) := (World.cell?_of_block (w := W1) (hG.block ab (by have := hB1.size; omega) (fun e => by cases e; omega))).trans ((hB1.cell (p := ⟨ab, ao + i, none⟩) hab).trans hca)
          have hxb : wr.cell? ⟨bb, bo + k, none⟩ = some (.int .i64 (vs[k]?.getD 0 : Nat)) := (World.cell?_of_block (w := W1) (hG.block bb (by have := hB1.size; omega) (fun e => by cases e; omega))).trans ((hB1.cell (p := ⟨bb, bo + k, none⟩) hbb).trans hcb)
          have hxd : wr.cell? ⟨g, i + k, none⟩ = some (.int .i64 (D[i + k]?.getD 0 : Nat)) := hA.cell (by omega)
          have hfr := hA.frozen (i + k)
          have y1 := xa.getD (by omega) i
          have y2 := xb.getD (by omega) k
          have y3 := HK.out.2.1.getD (by omega) (i + k)
          have HST := hidD (HK.out.step xa xb (by omega) _ rfl)
          obtain ⟨z1, z2⟩ := mul_wrap y1 y2
          generalize us[i]?.getD 0 = x at *
          generalize vs[k]?.getD 0 = y at *
          generalize D[i + k]?.getD 0 = d at *
          generalize x * y = p at *
          clear hca hcb
          go_upto_region 11 with fail
          go_quiet (fail)
          go_wp2
          have e2 : ((c : Int) + (d : Int) + (p : Int)) % 10000 = (((c + d + p) % 10000 : Nat) : Int) := by omega
          rw [e2]
          exact ⟨⟨(c + d + p) / 10000, k + 1, D.set (i + k) ((c + d + p) % 10000), by go_num, by simp, by omega, HST.out.2.2.1, HST, ArI.set (W := wr.drewN nq) hA _ _, grown_trans (B := wr.drewN nq) ⟨hG.os, hG.tape, hG.output, hG.size, hG.block⟩ (grown_set _ _ _ _)⟩, by simp [intOf]; omega⟩
        · rcases Nat.eq_zero_or_pos c with hc0 | hc0
          · subst hc0
            have HN := hidD (HK.out.done (by rw [← HL2.out]; omega))
            clear HK
            go_wp2
            exact ⟨⟨i + 1, D, by simp, by omega, HN, hA, hG⟩, by simp [intOf]; omega⟩
          · have hkb : k ≤ lb := by
              rcases Nat.lt_or_ge lb k with h | h
              · have := HK.out.over xa xb (by rw [← HL1.out]; exact hlt) (by rw [← HL2.out]; exact h)
                omega
              · exact h
            have hxd : wr.cell? ⟨g, i + k, none⟩ = some (.int .i64 (D[i + k]?.getD 0 : Nat)) := hA.cell (by omega)
            have hfr := hA.frozen (i + k)
            have y3 := HK.out.2.1.getD (by omega) (i + k)
            have hb0 : vs[k]?.getD 0 = 0 := by rw [List.getElem?_eq_none (by rw [← HL2.out]; omega)]; rfl
            have HST := hidD (HK.out.step xa xb (by omega) _ rfl)
            rw [hb0, Nat.mul_zero, Nat.add_zero] at HST
            clear hb0
            generalize D[i + k]?.getD 0 = d at *
            go_wp2
            have e2 : ((c : Int) + (d : Int)) % 10000 = (((c + d) % 10000 : Nat) : Int) := by omega
            rw [e2]
            exact ⟨⟨(c + d) / 10000, k + 1, D.set (i + k) ((c + d) % 10000), by go_num, by simp, by omega, HST.out.2.2.1, HST, ArI.set hA _ _, grown_trans hG (grown_set _ _ _ _)⟩, by simp [intOf]; omega⟩
    · obtain rfl : i = la := by omega
      have hrow : Row .i64 wr (.slice (some ⟨g, 0, none⟩) (i + lb + 1) (i + lb + 1)) D := by
        have hDl := HD.out.1
        rw [← HL1.out, ← HL2.out] at hDl
        have h1 := hA.row 0 (i + lb + 1) (i + lb + 1) (by omega) (Nat.le_refl _) (by omega) (by omega)
        rwa [List.drop_zero, List.take_of_length_le (by omega)] at h1
      have HTR := hidD (HF.out D (by rw [← HL1.out]; exact HD.out))
      have hBw : Below w.heap.size w wr := below_grown hB1 hG (by omega)
      have rR := qR.keptG hG (by omega)
      have p0 := q0.keptG hG (by omega)
      have p1 := q1.keptG hG (by omega)
      clear HD HF H1 H2
      go_upto_region 14 with fail
      have hq : Below wr.heap.size wr wr.drew := (Below.refl _ wr).drew
      have ne2 : ¬ (w.heap.size = w.heap.size + 1 + 1) := by omega
      go_region_held3 (fun w' => w'.cell? ⟨w.heap.size, 1, none⟩ = some (.bool s) ∧ w'.cell? ⟨w.heap.size + 1, 1, none⟩ = some (.bool t)) (refine ⟨?_, ?_⟩ <;> (first | (go_keep; done) | ((repeat rw [cell_set_nb (by omega)]); simp [*]; done)))
        (first
          | (go_at_call 56; refine (trim_c _ D _ (Row.below hrow hq)).mono ?_; rintro e w1 ⟨u, rfl, hu, rfl⟩; rw [HTR.out] at hu; obtain ⟨a', c', rfl⟩ := RN.form hu)
          | (go_at_call 93; refine (made_c _ _ _ _ _).mono ?_; rintro e w2 ⟨rfl, hb2⟩; have hu := Row.below hu hb2; have hq := Below.then hq hb2; have m1 := (p0.below hq).c1; have m3 := (p1.below hq).c1; have r0 := (rR.below hq).c0; have r1 := (rR.below hq).c1; have f0 := (rR.below hq).f0; have f1 := (rR.below hq).f1))
      all_goals go_wp2_with fail
      obtain ⟨hr, hB2⟩ := set2_fin (.slice a' (limbs 10000 (m * n)).length c') (.bool (!(s == t) && decide (0 < (limbs 10000 (m * n)).length))) (hBw.trans (hq.mono hBw.size)) (by omega) (rR.below hq) rfl rfl hu
      exact bodyPost_ret (v := .agg #[.slice a' (limbs 10000 (m * n)).length c', .bool (!(s == t) && decide (0 < (limbs 10000 (m * n)).length))]) (by simp [results, Tryz.results67, go_sem, r0, r1]) rfl ⟨_, _, _, rfl, hr, hB2⟩

theorem rtimes_c (va vb : Value) (x y : Int) (w : World) (ha : IsBig w va x) (hb : IsBig w vb y) (hma : szB x ≤ 1000000000) (hmb : szB y ≤ 1000000000) :
    Calls Tryz.prog 67 #[va, vb] w fun e w' => ∃ u, e = .returned u ∧ IsBig w' u (x * y) ∧ Below w.heap.size w w' := by
  obtain ⟨a, la, ca, rfl, ra⟩ := ha
  obtain ⟨b, lb, cb, rfl, rb⟩ := hb
  have hl1 := (row_fn ra).1
  have hl2 := (row_fn rb).1
  unfold szB at hma hmb
  refine (rtimes_w a b la lb ca cb _ _ _ _ w ra rb (by omega) (by omega)).mono ?_
  rintro e w' ⟨c, lc, cc, rfl, hr, hB⟩
  refine ⟨_, rfl, ⟨c, lc, cc, ?_, ?_⟩, hB⟩
  · have hl := (row_fn hr).1
    have e1 : ((decide (x < 0) != decide (y < 0)) && decide (0 < lc)) = decide (x * y < 0) := by
      rw [Bool.eq_iff_iff]
      simp only [Bool.and_eq_true, decide_eq_true_eq]
      have h0 : 0 < lc ↔ x.natAbs * y.natAbs ≠ 0 := by
        rw [hl, List.length_pos_iff, Ne, limbs_eq_nil (by omega)]
      rw [h0]
      rcases Int.lt_trichotomy x 0 with hx | hx | hx <;> rcases Int.lt_trichotomy y 0 with hy | hy | hy
      · have := Int.mul_pos_of_neg_of_neg hx hy
        simp [hx, hy]; omega
      · subst hy; simp
      · have := Int.mul_neg_of_neg_of_pos hx hy
        have h1 : ¬ y < 0 := by omega
        simp only [hx, h1, decide_true, decide_false, this, iff_true]
        exact ⟨rfl, Nat.mul_ne_zero (by omega) (by omega)⟩
      · subst hx; simp
      · subst hx; simp
      · subst hx; simp
      · have := Int.mul_neg_of_pos_of_neg hx hy
        have h1 : ¬ x < 0 := by omega
        simp only [hy, h1, decide_true, decide_false, this, iff_true]
        exact ⟨rfl, Nat.mul_ne_zero (by omega) (by omega)⟩
      · subst hy; simp
      · have := Int.mul_pos hx hy
        have h1 : ¬ x < 0 := by omega
        have h2 : ¬ y < 0 := by omega
        simp [h1, h2]; omega
    rw [e1]
  · rw [Int.natAbs_mul]; exact hr
end Go.Proofs.YtcahodpphikgnaaGreatDoor
namespace Go.Proofs.YtcahodpphikgnaaGreatDoor
open Go.RowKit Go.Shelf

theorem wlst_back (s : ByteArray) : (⟨(wlst s).toArray⟩ : ByteArray) = s := by
  apply ByteArray.ext
  simp [wlst]

theorem int_szB {n : Int} (h1 : -9223372036854775808 ≤ n) (h2 : n ≤ 9223372036854775807) : szB n ≤ 1000000000 := by
  have h3 : (10000 : Nat) ^ 5 = 100000000000000000000 := by decide
  have h4 := limbs_length_le (B := 10000) (by omega) (n := n.natAbs) (k := 5) (by omega)
  unfold szB
  omega
theorem wpOp_yes {P : Program} {ops : Array Oper} {Q : Exit → Act → World → Prop} {i : Nat} {o : Oper} {K : Act → World → Prop} {a : Act} {w : World} (ho : ops[i]? = some o) (hw : Region.wanted o (yielded ops a.tmps) = true)
    (h : ∀ K' : Act → World → Prop, (∀ a w, K a w → K' a w) → o.wp P a w K' Q) : wpOp P ops Q i K a w := by
  unfold wpOp
  rw [ho]
  simp only [hw, if_true]
  exact Or.inl (h K (fun _ _ h => h))

theorem wpOp_no {P : Program} {ops : Array Oper} {Q : Exit → Act → World → Prop} {i : Nat} {o : Oper} {K : Act → World → Prop} {a : Act} {w : World} (ho : ops[i]? = some o) (hw : Region.wanted o (yielded ops a.tmps) = false)
    (h : K (a.put o.dst undef) w) : wpOp P ops Q i K a w := by
  unfold wpOp
  rw [ho]
  simp only [hw]
  exact h

theorem isBig0 (V : World) : IsBig V (.agg #[.slice none 0 0, .bool false]) 0 := ⟨none, 0, 0, rfl, none, 0, by simp [limbs_zero], by simp [limbs_zero]⟩
end Go.Proofs.YtcahodpphikgnaaGreatDoor
namespace Go.Proofs.YtcahodpphikgnaaGreatDoor
open Go.RowKit Go.Shelf

attribute [local go_sem] Oper.semAt_some

theorem bigOf {W : World} {a : Option Addr} {l c n : Nat} (h : RN W (.slice a l c) n) : IsBig W (.agg #[.slice a l c, .bool false]) (n : Int) := by
  refine ⟨a, l, c, ?_, by rw [Int.natAbs_natCast]; exact h⟩
  have : decide ((n : Int) < 0) = false := decide_eq_false (by omega)
  rw [this]

theorem rnOf {W : World} {a : Option Addr} {l c : Nat} {q : Bool} {n : Nat} {z : Int} (h : IsBig W (.agg #[.slice a l c, .bool q]) z) (hz : z = (n : Int)) : RN W (.slice a l c) n ∧ q = false := by
  obtain ⟨a', l', c', e, hr⟩ := h
  simp only [Value.agg.injEq, Array.mk.injEq, List.cons.injEq, Value.slice.injEq, Value.bool.injEq, and_true] at e
  obtain ⟨⟨rfl, rfl, rfl⟩, e2⟩ := e
  rw [hz, Int.natAbs_natCast] at hr
  refine ⟨hr, ?_⟩
  rw [e2, hz]
  exact decide_eq_false (by omega)

set_option maxRecDepth 100000 in
set_option maxHeartbeats 2000000 in
theorem rdigit_c (a : Option Addr) (la ca : Nat) (b : Option Addr) (lb cb m n : Nat) (w : World) (ra : RN w (.slice a la ca) m) (rb : RN w (.slice b lb cb) n) (hmn : m < n * 10000) (hlb : lb ≤ 1000000000) :
    Calls Tryz.prog 121 #[.slice a la ca, .slice b lb cb] w fun e w' => e = .returned (.int .i64 ((m / n : Nat) : Int)) ∧ Below w.heap.size w w' := by
  have hsz : szB (n : Int) ≤ 1000000000 := by unfold szB; rw [Int.natAbs_natCast, ← (row_fn rb).1]; exact hlb
  have HSZ := hidD hsz
  have HRA := hidD ra
  have HRB := hidD rb
  have HMN := hidD hmn
  clear ra rb hmn hsz
  go_enter Tryz.func121, Tryz.ntmps121
  go_wp2_with fail
  go_loopw [5, 6] (fun lv hv wr => ∃ lo hi : Nat, lv = .int .i64 (lo : Nat) ∧ hv = .int .i64 (hi : Nat) ∧ lo < hi ∧ hi ≤ 10000 ∧ Hid (n * lo ≤ m ∧ m < n * hi) ∧ Below w.heap.size w wr)
    (fun lv hv _ => (intOf hv - intOf lv).toNat)
  case atStart => exact ⟨0, 10000, rfl, rfl, by omega, by omega, hidD ⟨by omega, HMN.out⟩, Below.refl _ w⟩
  case round =>
    obtain ⟨lo, hi, rfl, rfl, h1, h2, HI, hB⟩ := hrel
    obtain ⟨df, hdf⟩ : ∃ df : Nat, (hi : Int) - (lo : Int) = (df : Int) := ⟨hi - lo, by omega⟩
    have w1 : IntKind.i64.wrap (df : Int) = (df : Int) := IntWalk.i64_in _ (by omega)
    by_cases hgo : 1 < df
    · obtain ⟨sm, hsm⟩ : ∃ sm : Nat, (lo : Int) + (hi : Int) = (sm : Int) := ⟨lo + hi, by omega⟩
      have w2 : IntKind.i64.wrap (sm : Int) = (sm : Int) := IntWalk.i64_in _ (by omega)
      obtain ⟨md, hmd⟩ : ∃ md : Nat, (sm : Int) / 2 = (md : Int) := ⟨sm / 2, by omega⟩
      have w3 : IntKind.i64.wrap (md : Int) = (md : Int) := IntWalk.i64_in _ (by omega)
      have h3 : lo < md ∧ md < hi := by omega
      have HOF := hidD (of_c (md : Nat) (by omega) (by omega) wr)
      have HTM := hidD (fun (V : World) (u : Value) (h : Below wr.heap.size wr V) (hu : IsBig V u (md : Nat)) => rtimes_c (.agg #[.slice b lb cb, .bool false]) u (n : Nat) (md : Nat) V (bigOf (RN.below (RN.below HRB.out hB) h)) hu HSZ.out (int_szB (by omega) (by omega)))
      obtain ⟨cm, hcm⟩ : ∃ cm : Int, cmpN (n * md) m = cm := ⟨_, rfl⟩
      have HOR := hidD (show ∀ (V : World) (u : Value), Below wr.heap.size wr V → RN V u (n * md) → Calls Tryz.prog 99 #[u, .slice a la ca] V fun e w' => e = .returned (.int .i64 cm) ∧ Below V.heap.size V w' from fun V u h hu => by
        have h1 := order_c 10000 (by omega) u (.slice a la ca) (limbs 10000 (n * md)) (limbs 10000 m) V hu (RN.below (RN.below HRA.out hB) h) (dig_limbs (by omega) _) (dig_limbs (by omega) _) (top_limbs (by omega) _) (top_limbs (by omega) _)
        rw [val_limbs (by omega), val_limbs (by omega), hcm] at h1
        exact h1)
      have HCM := hidD hcm
      clear hcm
      go_upto_region 6 with (first
        | (go_at_call 46; refine HOF.out.mono ?_; rintro e w5 ⟨u5, rfl, hu5, hb5⟩; obtain ⟨a5, l5, c5, rfl⟩ := hu5.form; obtain ⟨s5, hs5⟩ : ∃ q, decide (((md : Nat) : Int) < 0) = q := ⟨_, rfl⟩; rw [hs5] at hu5; rw [hs5]; clear hs5)
        | (go_at_call 67; refine (HTM.out _ _ hb5 hu5).mono ?_; rintro e w6 ⟨u6, rfl, hu6, hb6⟩; obtain ⟨a6, l6, c6, rfl⟩ := hu6.form; obtain ⟨s6, hs6⟩ : ∃ q, decide (((n : Nat) : Int) * ((md : Nat) : Int) < 0) = q := ⟨_, rfl⟩; rw [hs6] at hu6; rw [hs6]; clear hs6))
      obtain ⟨hr6, rfl⟩ := rnOf (n := n * md) hu6 (by rw [Int.natCast_mul])
      have bx := Box2.new w6 32 (.slice a6 l6 c6) (.bool false)
      obtain ⟨W7, hW7⟩ : ∃ W7, w6.alloc (.cells #[.slice a6 l6 c6, .bool false] 32) = W7 := ⟨_, rfl⟩
      have hb7 : Below wr.heap.size wr W7 := by rw [← hW7]; exact ((hb5.trans (hb6.mono hb5.size)).alloc (hb5.trans (hb6.mono hb5.size)).size _)
      have hr7 : RN W7 (.slice a6 l6 c6) (n * md) := by rw [← hW7]; exact RN.below hr6 ((Below.refl _ w6).alloc (Nat.le_refl _) _)
      rw [hW7] at bx ⊢
      have k0 := bx.c0
      have k1 := bx.c1
      clear hW7 HOF HTM hu5 hu6 hr6
      have hB7 : Below w.heap.size w W7 := hB.trans (hb7.mono hB.size)
      by_cases hle : cm ≤ 0
      · have hle2 : n * md ≤ m := by
          have h := HCM.out
          unfold cmpN at h
          split at h
          · omega
          · split at h <;> omega
        go_wp2_with (go_at_call 99; refine (HOR.out _ _ hb7 hr7).mono ?_; rintro e w8 ⟨rfl, hb8⟩)
        exact ⟨⟨md, hi, rfl, rfl, by omega, h2, hidD ⟨hle2, HI.out.2⟩, hB7.trans (hb8.mono hB7.size)⟩, by simp [intOf]; omega⟩
      · have hle2 : m < n * md := by
          have h := HCM.out
          unfold cmpN at h
          split at h
          · omega
          · split at h
            · assumption
            · omega
        go_wp2_with (go_at_call 99; refine (HOR.out _ _ hb7 hr7).mono ?_; rintro e w8 ⟨rfl, hb8⟩)
        exact ⟨⟨lo, md, rfl, rfl, by omega, by omega, hidD ⟨HI.out.1, hle2⟩, hB7.trans (hb8.mono hB7.size)⟩, by simp [intOf]; omega⟩
    · have HE := hidD (show m / n = lo by
        obtain ⟨e1, e2⟩ := HI.out
        have e3 : hi = lo + 1 := by omega
        rw [e3, Nat.mul_add, Nat.mul_one] at e2
        apply Nat.le_antisymm
        · apply Nat.le_of_lt_succ
          rw [Nat.div_lt_iff_lt_mul (by omega), Nat.succ_mul, Nat.mul_comm lo]
          exact e2
        · rw [Nat.le_div_iff_mul_le (by omega), Nat.mul_comm]
          exact e1)
      go_wp2_with fail
      go_ret
      exact ⟨by rw [HE.out]; rfl, hB⟩
end Go.Proofs.YtcahodpphikgnaaGreatDoor
namespace Go.Proofs.YtcahodpphikgnaaGreatDoor
open Go.RowKit Go.Shelf

attribute [local go_sem] Oper.semAt_some

set_option maxRecDepth 100000 in
set_option maxHeartbeats 1000000 in
theorem rorder_c (va vb : Value) (x y : Int) (w : World) (ha : IsBig w va x) (hb : IsBig w vb y) (hma : szB x ≤ 1000000000) (hmb : szB y ≤ 1000000000) :
    Calls Tryz.prog 69 #[va, vb] w fun e w' => e = .returned (.int .i64 (cmpI x y)) ∧ Below w.heap.size w w' := by
  obtain ⟨a, la, ca, rfl⟩ := ha.form
  obtain ⟨b, lb, cb, rfl⟩ := hb.form
  obtain ⟨s, hs⟩ : ∃ s, decide (x < 0) = s := ⟨_, rfl⟩
  obtain ⟨t, ht⟩ : ∃ t, decide (y < 0) = t := ⟨_, rfl⟩
  rw [hs] at ha ⊢
  rw [ht] at hb ⊢
  clear hs ht
  have hB0 : Below w.heap.size w ((w.alloc (.cells #[.slice a la ca, .bool s] 32)).alloc (.cells #[.slice b lb cb, .bool t] 32)) := below_2 w _ _
  have b0 := (Box2.new w 32 (.slice a la ca) (.bool s)).alloc (.cells #[.slice b lb cb, .bool t] 32)
  have b1 := Box2.new (w.alloc (.cells #[.slice a la ca, .bool s] 32)) 32 (.slice b lb cb) (.bool t)
  simp only [World.size_alloc] at b1
  have HL := hidD (rless_c _ _ x y _ (ha.below hB0) (hb.below hB0) hma hmb)
  have k0 := b0.c0
  have k1 := b0.c1
  have k2 := b1.c0
  have k3 := b1.c1
  clear ha hb
  go_enter Tryz.func69, Tryz.ntmps69
  go_upto_region 2 with (go_at_call 95; refine HL.out.mono ?_; rintro e w2 ⟨u2, rfl, hu2, hb2⟩; obtain ⟨sa, sl, sc, rfl, hr2⟩ := id hu2; obtain ⟨s2, hs2⟩ : ∃ s2, decide (x - y < 0) = s2 := ⟨_, rfl⟩; rw [hs2])
  have bC := Box2.new w2 32 (.slice sa sl sc) (.bool s2)
  have m0 := bC.c0
  have m1 := bC.c1
  have hB2 : Below w.heap.size w (w2.alloc (.cells #[.slice sa sl sc, .bool s2] 32)) := (Below.then hB0 hb2).alloc (Below.then hB0 hb2).size _
  have hl : sl = (limbs 10000 (x - y).natAbs).length := by
    obtain ⟨a', c', e⟩ := hr2.form
    cases e; rfl
  clear k0 k1 k2 k3 HL
  cases s2
  · have h0 : ¬ x - y < 0 := of_decide_eq_false hs2
    by_cases hz : x - y = 0
    · have hl0 : sl = 0 := by rw [hl, hz]; simp [limbs_zero]
      subst hl0
      clear hl hs2
      go_wp2
      go_ret
      refine ⟨?_, hB2⟩
      have e : cmpI x y = 0 := by unfold cmpI; rw [if_neg (by omega), if_neg (by omega)]
      rw [e]; rfl
    · have hl0 : 1 ≤ sl := by
        rw [hl]
        rcases Nat.eq_zero_or_pos (limbs 10000 (x - y).natAbs).length with h | h
        · exact absurd ((limbs_eq_nil (B := 10000) (by omega)).1 (List.eq_nil_of_length_eq_zero h)) (by omega)
        · exact h
      have hmin : min (1 : Int) (sl : Int) = 1 := by omega
      clear hl hs2
      go_wp2
      go_ret
      refine ⟨?_, hB2⟩
      have e : cmpI x y = 1 := by unfold cmpI; rw [if_neg (by omega), if_pos (by omega)]
      rw [e]; try rfl
  · have h0 : x - y < 0 := of_decide_eq_true hs2
    clear hl hs2
    go_wp2
    go_ret
    refine ⟨?_, hB2⟩
    have e : cmpI x y = -1 := by unfold cmpI; rw [if_pos (by omega)]
    rw [e]; try rfl
end Go.Proofs.YtcahodpphikgnaaGreatDoor
namespace Go.Proofs.YtcahodpphikgnaaGreatDoor
open Go.RowKit Go.Shelf

attribute [local go_sem] Oper.semAt_some

set_option maxRecDepth 100000 in
set_option maxHeartbeats 1000000 in
theorem mtimes_w (a : Option Addr) (la ca : Nat) (b : Option Addr) (lb cb m n : Nat) (w : World) (hlen : la + lb ≤ 1099511627776)
    (ra : Row .u64 w (.slice a la ca) (limbs B64 m)) (rb : Row .u64 w (.slice b lb cb) (limbs B64 n)) :
    Calls Tryz.prog 86 #[.slice a la ca, .slice b lb cb] w fun e w' => ∃ u, e = .returned u ∧ UN w' u (m * n) ∧ Below w.heap.size w w' := by
  have hmk := make_row (la + lb) (by omega) w
  rw [show ((la + lb : Nat) : Int) = (la : Int) + (lb : Int) from by omega] at hmk
  obtain ⟨W1, hW1⟩ : ∃ W1, W1 = w.alloc (.cells (cellsOf .u64 (List.replicate (la + lb) 0)).toArray 94) := ⟨_, rfl⟩
  have hB1 : Below w.heap.size w W1 := by rw [hW1]; exact (Below.refl _ w).alloc (Nat.le_refl _) _
  have hA1 : Arr W1 w.heap.size (List.replicate (la + lb) 0) := by rw [hW1]; exact Arr.made (World.alloc_heap_new w _)
  rw [← hW1] at hmk
  have HP := hidD (product_w w.heap.size (la + lb) (la + lb) (List.replicate (la + lb) 0) a la ca b lb cb m n W1 hA1 (fun x hx => by rw [List.eq_of_mem_replicate hx]; unfold B64; omega) (by rw [List.length_replicate]; exact Nat.le_refl _) (Nat.le_refl _) (by omega) hlen (Row.below ra hB1) (Row.below rb hB1)
    (fun p e h0 => by have := row_lt ra e h0; omega) (fun p e h0 => by have := row_lt rb e h0; omega))
  have hl1 := (row_fn ra).2.1
  have hl2 := (row_fn ra).2.2.1
  have hl3 := (row_fn rb).2.1
  have hl4 := (row_fn rb).2.2.1
  clear hW1 hA1 ra rb
  go_enter Tryz.func86, Tryz.ntmps86
  go_wp2_with (go_at_call 105; refine HP.out.mono ?_; rintro e w5 ⟨u, rfl, ⟨hu, hg5⟩, _, _⟩; obtain ⟨ua, uc, rfl⟩ := UN.form hu)
  go_ret
  exact ⟨_, rfl, hu, below_grown hB1 hg5 (Nat.le_refl _)⟩

set_option maxRecDepth 100000 in
set_option maxHeartbeats 1000000 in
theorem itimes_c (va vb : Value) (x y : Int) (w : World) (ha : IsInt w va x) (hb : IsInt w vb y) (hl : (limbs B64 x.natAbs).length + (limbs B64 y.natAbs).length ≤ 1099511627776) :
    Calls Tryz.prog 51 #[va, vb] w fun e w' => ∃ u, e = .returned u ∧ IsInt w' u (x * y) ∧ Below w.heap.size w w' := by
  obtain ⟨a, la, ca, e0, hu⟩ := ha
  cases e0
  obtain ⟨b, lb, cb, e0, hv⟩ := hb
  cases e0
  have ela := hu.len
  have elb := hv.len
  obtain ⟨s, hs⟩ : ∃ s, decide (x < 0) = s := ⟨_, rfl⟩
  obtain ⟨t, ht⟩ : ∃ t, decide (y < 0) = t := ⟨_, rfl⟩
  have hsg : (if (!(s == t)) = true then -((x.natAbs * y.natAbs : Nat) : Int) else ((x.natAbs * y.natAbs : Nat) : Int)) = x * y := by
    rw [← hs, ← ht, ← Int.natAbs_mul]
    rcases Int.lt_trichotomy x 0 with hx | hx | hx <;> rcases Int.lt_trichotomy y 0 with hy | hy | hy
    · have := Int.mul_pos_of_neg_of_neg hx hy
      simp [hx, hy]; omega
    · subst hy; simp
    · have := Int.mul_neg_of_neg_of_pos hx hy
      have h1 : ¬ y < 0 := by omega
      simp [hx, h1]; omega
    · subst hx; simp
    · subst hx; simp
    · subst hx; simp
    · have := Int.mul_neg_of_pos_of_neg hx hy
      have h1 : ¬ x < 0 := by omega
      simp [hy, h1]; omega
    · subst hy; simp
    · have := Int.mul_pos hx hy
      have h1 : ¬ x < 0 := by omega
      have h2 : ¬ y < 0 := by omega
      simp [h1, h2]; omega
  rw [hs, ht]
  obtain ⟨W0, hW0⟩ : ∃ W0, ((w.alloc (.cells #[.bool s, .slice a la ca] 25)).alloc (.cells #[.bool t, .slice b lb cb] 25)).alloc (.cells #[.bool false, .slice none 0 0] 25) = W0 := ⟨_, rfl⟩
  have hB0 : Below w.heap.size w W0 := by rw [← hW0]; exact below_3 w _ _ _
  have b0 : Box2 W0 w.heap.size 25 (.bool s) (.slice a la ca) := by rw [← hW0]; exact ((Box2.new w _ _ _).alloc _).alloc _
  have b1 : Box2 W0 (w.heap.size + 1) 25 (.bool t) (.slice b lb cb) := by
    have h := (Box2.new (w.alloc (.cells #[.bool s, .slice a la ca] 25)) 25 (.bool t) (.slice b lb cb)).alloc (.cells #[.bool false, .slice none 0 0] 25)
    rw [World.size_alloc, hW0] at h; exact h
  have bR : Box2 W0 (w.heap.size + 1 + 1) 25 (.bool false) (.slice none 0 0) := by
    have h := Box2.new ((w.alloc (.cells #[.bool s, .slice a la ca] 25)).alloc (.cells #[.bool t, .slice b lb cb] 25)) 25 (.bool false) (.slice none 0 0)
    rw [World.size_alloc, World.size_alloc, hW0] at h; exact h
  have HT := hidD (fun (V : World) (h : Below W0.heap.size W0 V) => mtimes_w a la ca b lb cb _ _ V (by omega) (UN.below (UN.below hu hB0) h) (UN.below (UN.below hv hB0) h))
  have HS := hidD (fun (V : World) (u : Value) (hu : UN V u (x.natAbs * y.natAbs)) => show Calls Tryz.prog 58 #[.bool (!(s == t)), u] V fun e w' => ∃ u, e = .returned u ∧ IsInt w' u (x * y) ∧ Below V.heap.size V w' by
    have h1 := signed_c (!(s == t)) u _ V hu
    rw [hsg] at h1
    exact h1)
  clear hu hv hsg hs ht ela elb hl
  go_enter Tryz.func51, Tryz.ntmps51
  go_wp2_with fail
  try rw [hW0]
  clear hW0
  have hq : Below W0.heap.size W0 W0.drew := (Below.refl _ W0).drew
  have k0 := b0.c0
  have k1 := b0.c1
  have k2 := b1.c0
  have k3 := b1.c1
  have ne2 : ¬ (w.heap.size = w.heap.size + 1 + 1) := by omega
  go_region_held3 (fun w' => w'.cell? ⟨w.heap.size, 0, none⟩ = some (.bool s) ∧ w'.cell? ⟨w.heap.size, 1, none⟩ = some (.slice a la ca) ∧ w'.cell? ⟨w.heap.size + 1, 0, none⟩ = some (.bool t) ∧ w'.cell? ⟨w.heap.size + 1, 1, none⟩ = some (.slice b lb cb)) (refine ⟨?_, ?_, ?_, ?_⟩ <;> (first | (go_keep; done) | ((repeat rw [cell_set_nb (by omega)]); simp [*]; done)))
    (first
      | (go_at_call 86; refine (HT.out _ hq).mono ?_; rintro e w1 ⟨u1, rfl, hu1, hb1⟩; obtain ⟨na, nc, rfl⟩ := UN.form hu1; have hq := Below.then hq hb1; have k0 := (b0.below hq).c0; have k1 := (b0.below hq).c1; have k2 := (b1.below hq).c0; have k3 := (b1.below hq).c1)
      | (go_at_call 58; refine (HS.out _ _ hu1).mono ?_; rintro e w2 ⟨u2, rfl, hu2, hb2⟩; obtain ⟨sa, sl, sc, rfl⟩ := hu2.form; obtain ⟨s2, hs2⟩ : ∃ s2, decide (x * y < 0) = s2 := ⟨_, rfl⟩; rw [hs2] at hu2; rw [hs2]; clear hs2; have hq := Below.then hq hb2; have k0 := (b0.below hq).c0; have k1 := (b0.below hq).c1; have k2 := (b1.below hq).c0; have k3 := (b1.below hq).c1; have r0 := (bR.below hq).c0; have r1 := (bR.below hq).c1; have f0 := (bR.below hq).f0; have f1 := (bR.below hq).f1))
  all_goals go_wp2_with fail
  have hq2 := hB0.trans (hq.mono hB0.size)
  have hfin := hu2.box (bR.below hq) rfl rfl (x0 := .bool s2) (x1 := .slice sa sl sc)
  exact bodyPost_ret (v := .agg #[.bool s2, .slice sa sl sc]) (by simp [results, Tryz.results51, go_sem, r0, r1]) rfl ⟨_, rfl, hfin, (hq2.setCell (p := ⟨_, 0, none⟩) (by simp only; omega) _).setCell (p := ⟨_, 1, none⟩) (by simp only; omega) _⟩
end Go.Proofs.YtcahodpphikgnaaGreatDoor
namespace Go.Proofs.YtcahodpphikgnaaGreatDoor
open Go.RowKit Go.Shelf

attribute [local go_sem] Oper.semAt_some

theorem bits_top : ∀ k : Fin 201, k.val ≠ 0 → k.val / 2 ^ (Lib.bitLen k.val - 1) = 1 ∧ 1 ≤ Lib.bitLen k.val ∧ Lib.bitLen k.val ≤ 8 := by decide +kernel

theorem pow_words {m e la : Nat} (h : la = (limbs B64 m).length) : (limbs B64 (m ^ e)).length ≤ la * e + 1 := by
  have h1 := val_lt (dig_limbs two_le_B64 m)
  rw [val_limbs two_le_B64, ← h] at h1
  have h2 : m ^ e ≤ B64 ^ (la * e) := by
    rw [Nat.pow_mul]
    exact Nat.pow_le_pow_left (Nat.le_of_lt h1) e
  have h3 : B64 ^ (la * e) < B64 ^ (la * e + 1) := Nat.pow_lt_pow_right (by unfold B64; omega) (by omega)
  exact limbs_length_le two_le_B64 (Nat.lt_of_le_of_lt h2 h3)

theorem pow_words1 {m e la : Nat} (h : la = (limbs B64 m).length) (he : 0 < e) : (limbs B64 (m ^ e)).length ≤ la * e := by
  have h1 := val_lt (dig_limbs two_le_B64 m)
  rw [val_limbs two_le_B64, ← h] at h1
  have h2 : m ^ e < B64 ^ (la * e) := by
    rw [Nat.pow_mul]
    exact Nat.pow_lt_pow_left h1 (by omega)
  exact limbs_length_le two_le_B64 h2

theorem clone_row (a : Option Addr) (la ca : Nat) (us : List Nat) (w : World) (ra : Row .u64 w (.slice a la ca) us) :
    Calls Tryz.prog 78 #[.slice a la ca] w fun e w' => ∃ za zc, e = .returned (.slice za la zc) ∧ Row .u64 w' (.slice za la zc) us ∧ (∀ p, za = some p → 0 < la → w.heap.size ≤ p.block ∧ p.block < w'.heap.size) ∧ Below w.heap.size w w' := by
  obtain ⟨hl, hc, hm, hk, hf⟩ := row_fn ra
  rcases Nat.eq_zero_or_pos la with h0 | h0
  · subst h0
    obtain rfl : us = [] := List.eq_nil_of_length_eq_zero hl.symm
    cases a with
    | none =>
      refine (clone_nil 0 ca w).mono ?_
      rintro e w' ⟨rfl, rfl⟩
      exact ⟨none, 0, rfl, ⟨none, 0, rfl, Nat.le_refl _, by omega, by omega, Or.inl rfl⟩, fun p e _ => (by cases e), Below.refl _ _⟩
    | some p =>
      refine (clone_some p ca [] w (by simp) (fun j hj => by simp at hj)).mono ?_
      rintro e w' ⟨v', rfl, ho, hb⟩
      rcases ho.2 with ⟨ev, _⟩ | ⟨g, cap, cur, ev, _, _, h4, h5, _⟩
      · subst ev
        exact ⟨none, 0, rfl, ⟨none, 0, rfl, Nat.le_refl _, by omega, by omega, Or.inl rfl⟩, fun p e _ => (by cases e), hb⟩
      · subst ev
        exact ⟨_, cap, rfl, ⟨_, cap, rfl, Nat.zero_le _, h5, by simp, Or.inl rfl⟩, fun p _ h => by simp at h, hb⟩
  · obtain ⟨ab, ao, rfl, _, _⟩ := hf 0 h0
    have h1 := clone_some ⟨ab, ao, none⟩ ca us w (by omega) (fun j hj => by
      obtain ⟨b', o', e, hlt, hcell⟩ := hf j (by omega)
      cases e
      rw [addr_plain]
      exact hcell)
    rw [← hl] at h1
    refine h1.mono ?_
    rintro e w' ⟨v', rfl, ho, hb⟩
    rcases ho.2 with ⟨_, ev⟩ | ⟨g, cap, cur, ev, h2, h3, h4, h5, _⟩
    · omega
    · subst ev
      have hA := Arr.owns ho
      have hr := hA.row 0 la cap (by omega) h4 h5 hk
      rw [List.drop_zero, List.take_of_length_le (by omega)] at hr
      exact ⟨_, cap, rfl, hr, fun p e _ => by cases e; exact ⟨h2, hA.lt⟩, hb⟩
end Go.Proofs.YtcahodpphikgnaaGreatDoor
namespace Go.Proofs.YtcahodpphikgnaaGreatDoor
open Go.RowKit Go.Shelf

attribute [local go_sem] Oper.semAt_some

theorem and_one : ∀ f : Fin 201, bits BinOp.and IntKind.u64 (f.val : Int) 1 = ((f.val % 2 : Nat) : Int) := by decide +kernel

set_option maxRecDepth 100000 in
set_option maxHeartbeats 2000000 in
theorem mpower_w (a : Option Addr) (la ca m k : Nat) (w : World) (ra : Row .u64 w (.slice a la ca) (limbs B64 m)) (hk1 : 1 ≤ k) (hk2 : k ≤ 200) (hlk : la * k ≤ 1000000000) :
    Calls Tryz.prog 74 #[.slice a la ca, .int .u64 (k : Nat)] w fun e w' => ∃ u, e = .returned u ∧ UN w' u (m ^ k) ∧ Below w.heap.size w w' := by
  have hmx : Tryz.prog.follows .mixedOrders = true := by kernel_rfl
  obtain ⟨hl1, hc1, hm1, hla, hf1⟩ := row_fn ra
  have HCL := hidD (clone_row a la ca _ w ra)
  have HRA := hidD ra
  have hkw : IntKind.i64.wrap (k : Int) = (k : Int) := by simp [IntKind.wrap, IntKind.signed, IntKind.bits]; omega
  obtain ⟨L, hLe⟩ : ∃ L, L = la * k := ⟨_, rfl⟩
  have hL : L ≤ 1000000000 := by omega
  have hlw : IntKind.i64.wrap ((la : Int) * (k : Int)) = (L : Int) := by
    have e : (la : Int) * (k : Int) = ((la * k : Nat) : Int) := by rw [Int.natCast_mul]
    rw [e, ← hLe]
    simp [IntKind.wrap, IntKind.signed, IntKind.bits]; omega
  have HLE := hidD hLe
  have HL1 := hidD hl1
  clear hf1 hl1 ra hLe
  go_enter Tryz.func74, Tryz.ntmps74
  go_upto_region 2 with (go_at_call 78; refine HCL.out.mono ?_; rintro e w2 ⟨za, zc, rfl, hz, hzb, hb2⟩)
  refine wp_region_tab hmx [[], [0], [], [2], [1, 3], [4, 4], [], [6], [], [8], [7, 9], [10, 10], [5, 0, 1, 2, 3, 4, 5], [11, 12, 0, 1, 2, 3, 4, 5, 6, 7, 8, 9, 10, 11, 12]] (by kernel_rfl) (by decide)
    (fun D a0 V => ∃ g1 g2 : Nat, ∃ t6 t7 t11 t12 t13 t14 t15 t16 t17 t18 t19 t20 t21 t22 : Value, a0 = { tmps := #[.slice a la ca, .int .u64 (k : Nat), undef, undef, .slice none 0 0, .slice za la zc, t6, t7, undef, .slice a la ca, .slice za la zc, t11, t12, t13, t14, t15, t16, t17, t18, t19, t20, t21, t22, undef, undef, undef, undef, undef, undef, undef, undef, undef, undef, undef, undef, undef, undef, undef, undef, undef, undef, undef, undef, undef, undef, undef, undef, undef, undef], defers := [] } ∧
      Hid (D 0 = true → t11 = .slice a la ca) ∧ Hid (D 1 = true → t12 = .int .i64 (la : Nat)) ∧ Hid (D 2 = true → t13 = .int .u64 (k : Nat)) ∧ Hid (D 3 = true → t14 = .int .i64 (k : Nat)) ∧ Hid (D 4 = true → t15 = .int .i64 (L : Nat)) ∧ Hid (D 5 = true → t16 = .slice (some ⟨g1, 0, none⟩) L L) ∧ Hid (D 6 = true → t17 = .slice a la ca) ∧ Hid (D 7 = true → t18 = .int .i64 (la : Nat)) ∧ Hid (D 8 = true → t19 = .int .u64 (k : Nat)) ∧ Hid (D 9 = true → t20 = .int .i64 (k : Nat)) ∧ Hid (D 10 = true → t21 = .int .i64 (L : Nat)) ∧ Hid (D 11 = true → t22 = .slice (some ⟨g2, 0, none⟩) L L) ∧ Hid (D 12 = true → t6 = .slice (some ⟨g1, 0, none⟩) L L) ∧ Hid (D 13 = true → t7 = .slice (some ⟨g2, 0, none⟩) L L) ∧
      (D 5 = true → Arr V g1 (List.replicate L 0) ∧ w2.heap.size ≤ g1) ∧ (D 11 = true → Arr V g2 (List.replicate L 0) ∧ w2.heap.size ≤ g2) ∧ (D 5 = true → D 11 = true → g1 ≠ g2) ∧ Below w2.heap.size w2 V)
    ⟨0, 0, _, _, _, _, _, _, _, _, _, _, _, _, _, _, rfl, hidD (fun h => by cases h), hidD (fun h => by cases h), hidD (fun h => by cases h), hidD (fun h => by cases h), hidD (fun h => by cases h), hidD (fun h => by cases h), hidD (fun h => by cases h), hidD (fun h => by cases h), hidD (fun h => by cases h), hidD (fun h => by cases h), hidD (fun h => by cases h), hidD (fun h => by cases h), hidD (fun h => by cases h), hidD (fun h => by cases h), by simp, by simp, by simp, (Below.refl _ w2).drew⟩ ?step ?fin
  case step =>
    rintro D a0 V i ds hcl2 hi2 hds hDi ⟨g1, g2, t6, t7, t11, t12, t13, t14, t15, t16, t17, t18, t19, t20, t21, t22, rfl, g_0, g_1, g_2, g_3, g_4, g_5, g_6, g_7, g_8, g_9, g_10, g_11, g_12, g_13, q1, q2, q3, hq⟩
    have hi6 : i < 14 := (List.getElem?_eq_some_iff.1 hi2).1
    obtain rfl | rfl | rfl | rfl | rfl | rfl | rfl | rfl | rfl | rfl | rfl | rfl | rfl | rfl : i = 0 ∨ i = 1 ∨ i = 2 ∨ i = 3 ∨ i = 4 ∨ i = 5 ∨ i = 6 ∨ i = 7 ∨ i = 8 ∨ i = 9 ∨ i = 10 ∨ i = 11 ∨ i = 12 ∨ i = 13 := by omega
    all_goals
      simp only [List.getElem?_cons_zero, List.getElem?_cons_succ, Option.some.injEq] at hi2
      subst hi2
      clear hi6
    · clear hds hcl2
      refine wpOp_go rfl rfl (fun K hK => ?_)
      go_simp
      exact hK _ _ ⟨g1, g2, _, _, _, _, _, _, _, _, _, _, _, _, _, _, rfl, hidD (fun _ => rfl), g_1, g_2, g_3, g_4, g_5, g_6, g_7, g_8, g_9, g_10, g_11, g_12, g_13, q1, q2, q3, hq⟩
    · obtain rfl := g_0.out (hds 0 (by simp))
      clear hds hcl2
      refine wpOp_go rfl rfl (fun K hK => ?_)
      go_simp
      exact hK _ _ ⟨g1, g2, _, _, _, _, _, _, _, _, _, _, _, _, _, _, rfl, hidD (fun _ => rfl), hidD (fun _ => rfl), g_2, g_3, g_4, g_5, g_6, g_7, g_8, g_9, g_10, g_11, g_12, g_13, q1, q2, q3, hq⟩
    · clear hds hcl2
      refine wpOp_go rfl rfl (fun K hK => ?_)
      go_simp
      exact hK _ _ ⟨g1, g2, _, _, _, _, _, _, _, _, _, _, _, _, _, _, rfl, g_0, g_1, hidD (fun _ => rfl), g_3, g_4, g_5, g_6, g_7, g_8, g_9, g_10, g_11, g_12, g_13, q1, q2, q3, hq⟩
    · obtain rfl := g_2.out (hds 2 (by simp))
      clear hds hcl2
      refine wpOp_go rfl rfl (fun K hK => ?_)
      go_simp
      exact hK _ _ ⟨g1, g2, _, _, _, _, _, _, _, _, _, _, _, _, _, _, rfl, g_0, g_1, hidD (fun _ => rfl), hidD (fun _ => rfl), g_4, g_5, g_6, g_7, g_8, g_9, g_10, g_11, g_12, g_13, q1, q2, q3, hq⟩
    · obtain rfl := g_1.out (hds 1 (by simp))
      obtain rfl := g_3.out (hds 3 (by simp))
      clear hds hcl2
      refine wpOp_go rfl rfl (fun K hK => ?_)
      go_simp
      exact hK _ _ ⟨g1, g2, _, _, _, _, _, _, _, _, _, _, _, _, _, _, rfl, g_0, hidD (fun _ => rfl), g_2, hidD (fun _ => rfl), hidD (fun _ => rfl), g_5, g_6, g_7, g_8, g_9, g_10, g_11, g_12, g_13, q1, q2, q3, hq⟩
    · obtain rfl := g_4.out (hds 4 (by simp))
      have hf12 : D 12 = false := by
        cases h : D 12 with
        | false => rfl
        | true => rw [hcl2 12 _ rfl h 5 (by simp)] at hDi; cases hDi
      have hf13 : D 13 = false := by
        cases h : D 13 with
        | false => rfl
        | true => rw [hcl2 13 _ rfl h 5 (by simp)] at hDi; cases hDi
      have hmk := make_row L (by omega) V
      clear hds hcl2
      refine wpOp_go rfl rfl (fun K hK => ?_)
      go_simp
      exact hK _ _ ⟨V.heap.size, g2, _, _, _, _, _, _, _, _, _, _, _, _, _, _, rfl, g_0, g_1, g_2, g_3, hidD (fun _ => rfl), hidD (fun _ => rfl), g_6, g_7, g_8, g_9, g_10, g_11, hidD (fun h => by simp [hf12] at h), hidD (fun h => by simp [hf13] at h), fun _ => ⟨Arr.made (World.alloc_heap_new V _), hq.size⟩, fun h => ⟨(q2 h).1.alloc _, (q2 h).2⟩, fun _ h e => by have := (q2 h).1.lt; omega, hq.alloc hq.size _⟩
    · clear hds hcl2
      refine wpOp_go rfl rfl (fun K hK => ?_)
      go_simp
      exact hK _ _ ⟨g1, g2, _, _, _, _, _, _, _, _, _, _, _, _, _, _, rfl, g_0, g_1, g_2, g_3, g_4, g_5, hidD (fun _ => rfl), g_7, g_8, g_9, g_10, g_11, g_12, g_13, q1, q2, q3, hq⟩
    · obtain rfl := g_6.out (hds 6 (by simp))
      clear hds hcl2
      refine wpOp_go rfl rfl (fun K hK => ?_)
      go_simp
      exact hK _ _ ⟨g1, g2, _, _, _, _, _, _, _, _, _, _, _, _, _, _, rfl, g_0, g_1, g_2, g_3, g_4, g_5, hidD (fun _ => rfl), hidD (fun _ => rfl), g_8, g_9, g_10, g_11, g_12, g_13, q1, q2, q3, hq⟩
    · clear hds hcl2
      refine wpOp_go rfl rfl (fun K hK => ?_)
      go_simp
      exact hK _ _ ⟨g1, g2, _, _, _, _, _, _, _, _, _, _, _, _, _, _, rfl, g_0, g_1, g_2, g_3, g_4, g_5, g_6, g_7, hidD (fun _ => rfl), g_9, g_10, g_11, g_12, g_13, q1, q2, q3, hq⟩
    · obtain rfl := g_8.out (hds 8 (by simp))
      clear hds hcl2
      refine wpOp_go rfl rfl (fun K hK => ?_)
      go_simp
      exact hK _ _ ⟨g1, g2, _, _, _, _, _, _, _, _, _, _, _, _, _, _, rfl, g_0, g_1, g_2, g_3, g_4, g_5, g_6, g_7, hidD (fun _ => rfl), hidD (fun _ => rfl), g_10, g_11, g_12, g_13, q1, q2, q3, hq⟩
    · obtain rfl := g_7.out (hds 7 (by simp))
      obtain rfl := g_9.out (hds 9 (by simp))
      clear hds hcl2
      refine wpOp_go rfl rfl (fun K hK => ?_)
      go_simp
      exact hK _ _ ⟨g1, g2, _, _, _, _, _, _, _, _, _, _, _, _, _, _, rfl, g_0, g_1, g_2, g_3, g_4, g_5, g_6, hidD (fun _ => rfl), g_8, hidD (fun _ => rfl), hidD (fun _ => rfl), g_11, g_12, g_13, q1, q2, q3, hq⟩
    · obtain rfl := g_10.out (hds 10 (by simp))
      have hf13 : D 13 = false := by
        cases h : D 13 with
        | false => rfl
        | true => rw [hcl2 13 _ rfl h 11 (by simp)] at hDi; cases hDi
      have hmk := make_row L (by omega) V
      clear hds hcl2
      refine wpOp_go rfl rfl (fun K hK => ?_)
      go_simp
      exact hK _ _ ⟨g1, V.heap.size, _, _, _, _, _, _, _, _, _, _, _, _, _, _, rfl, g_0, g_1, g_2, g_3, g_4, g_5, g_6, g_7, g_8, g_9, hidD (fun _ => rfl), hidD (fun _ => rfl), g_12, hidD (fun h => by simp [hf13] at h), fun h => ⟨(q1 h).1.alloc _, (q1 h).2⟩, fun _ => ⟨Arr.made (World.alloc_heap_new V _), hq.size⟩, fun h _ e => by have := (q1 h).1.lt; omega, hq.alloc hq.size _⟩
    · obtain rfl := g_5.out (hds 5 (by simp))
      clear hds hcl2
      refine wpOp_go rfl rfl (fun K hK => ?_)
      go_simp
      exact hK _ _ ⟨g1, g2, _, _, _, _, _, _, _, _, _, _, _, _, _, _, rfl, g_0, g_1, g_2, g_3, g_4, hidD (fun _ => rfl), g_6, g_7, g_8, g_9, g_10, g_11, hidD (fun _ => rfl), g_13, q1, q2, q3, hq⟩
    · obtain rfl := g_11.out (hds 11 (by simp))
      clear hds hcl2
      refine wpOp_go rfl rfl (fun K hK => ?_)
      go_simp
      exact hK _ _ ⟨g1, g2, _, _, _, _, _, _, _, _, _, _, _, _, _, _, rfl, g_0, g_1, g_2, g_3, g_4, g_5, g_6, g_7, g_8, g_9, g_10, hidD (fun _ => rfl), g_12, hidD (fun _ => rfl), q1, q2, q3, hq⟩
  rintro D a0 V hDD ⟨g1, g2, t6, t7, t11, t12, t13, t14, t15, t16, t17, t18, t19, t20, t21, t22, rfl, g_0, g_1, g_2, g_3, g_4, g_5, g_6, g_7, g_8, g_9, g_10, g_11, g_12, g_13, q1, q2, q3, hq⟩
  obtain rfl := g_0.out (hDD 0 (by decide))
  obtain rfl := g_1.out (hDD 1 (by decide))
  obtain rfl := g_2.out (hDD 2 (by decide))
  obtain rfl := g_3.out (hDD 3 (by decide))
  obtain rfl := g_4.out (hDD 4 (by decide))
  obtain rfl := g_5.out (hDD 5 (by decide))
  obtain rfl := g_6.out (hDD 6 (by decide))
  obtain rfl := g_7.out (hDD 7 (by decide))
  obtain rfl := g_8.out (hDD 8 (by decide))
  obtain rfl := g_9.out (hDD 9 (by decide))
  obtain rfl := g_10.out (hDD 10 (by decide))
  obtain rfl := g_11.out (hDD 11 (by decide))
  obtain rfl := g_12.out (hDD 12 (by decide))
  obtain rfl := g_13.out (hDD 13 (by decide))
  obtain ⟨hA1, hg1⟩ := q1 (hDD 5 (by decide))
  obtain ⟨hA2, hg2⟩ := q2 (hDD 11 (by decide))
  have hg12 := q3 (hDD 5 (by decide)) (hDD 11 (by decide))
  clear q1 q2 q3 hDD g_0 g_1 g_2 g_3 g_4 g_5 g_6 g_7 g_8 g_9 g_10 g_11 g_12 g_13
  obtain ⟨nb, hnb⟩ : ∃ nb, Lib.bitLen k = nb := ⟨_, rfl⟩
  have hbt := bits_top ⟨k, by omega⟩ (by simp only; omega)
  simp only [hnb] at hbt
  obtain ⟨ht1, ht2, ht3⟩ := hbt
  have HLN := hidD (fun (U : World) => show Calls Tryz.prog 104 #[.int .u64 (k : Nat)] U fun e w' => e = .returned (.int .i64 (nb : Nat)) ∧ w' = U by
    have h := Tryz.bits_Len (k : Int) U (by omega) (by omega)
    rw [Int.toNat_natCast, hnb] at h
    exact h)
  have HT1 := hidD ht1
  clear hnb ht1 hlw hkw
  have hBV : Below w.heap.size w V := Below.then hb2 hq
  have hzV := Row.below hz hq
  have hz1 : limbs B64 m = limbs B64 (m ^ (k / 2 ^ (nb - 1))) := by rw [HT1.out, Nat.pow_one]
  rw [hz1] at hzV
  clear hz1
  go_wp2_with (go_at_call 104; refine (HLN.out _).mono ?_; rintro e w4 ⟨rfl, rfl⟩)
  go_loopw [5, 6, 7, 8] (fun zv rv sv iv wr => ∃ (j : Nat) (za : Option Addr) (zl zc x1 x2 : Nat) (d1 d2 : List Nat), iv = .int .i64 ((j : Int) - 1) ∧ j ≤ 8 ∧ zv = .slice za zl zc ∧ rv = .slice (some ⟨x1, 0, none⟩) L L ∧ sv = .slice (some ⟨x2, 0, none⟩) L L ∧ x1 ≠ x2 ∧ w2.heap.size ≤ x1 ∧ w2.heap.size ≤ x2 ∧ Arr wr x1 d1 ∧ Arr wr x2 d2 ∧ Dig B64 d1 ∧ Dig B64 d2 ∧ d1.length = L ∧ d2.length = L ∧ Hid (Row .u64 wr (.slice za zl zc) (limbs B64 (m ^ (k / 2 ^ j)))) ∧ Hid (∀ p, za = some p → 0 < zl → p.block ≠ x1) ∧ Below w.heap.size w wr ∧ Hid (1 ≤ k / 2 ^ j))
    (fun _ _ _ iv _ => (intOf iv + 1).toNat)
  case atStart => exact ⟨nb - 1, za, la, zc, g1, g2, _, _, by congr 1; omega, by omega, rfl, rfl, rfl, hg12, hg1, hg2, hA1, hA2, fun x hx => by rw [List.eq_of_mem_replicate hx]; unfold B64; omega, fun x hx => by rw [List.eq_of_mem_replicate hx]; unfold B64; omega, List.length_replicate, List.length_replicate, hzV, fun p e h0 => by have := (hzb p e h0).2; omega, hBV, by show 1 ≤ _; rw [HT1.out]; omega⟩
  case round =>
    clear hA1 hA2 hzV hBV hq hz hzb hg1 hg2 hg12 HLN HT1 HCL
    obtain ⟨j, za, zl, zc, x1, x2, d1, d2, rfl, hj, rfl, rfl, rfl, hx, hx1, hx2, hA1, hA2, hD1, hD2, hl1, hl2, HZ, HZB, hB, HE⟩ := hrel
    by_cases hj0 : j = 0
    · subst hj0
      go_wp2
      go_ret
      have h1 := HZ.out
      rw [Nat.pow_zero, Nat.div_one] at h1
      exact ⟨_, rfl, h1, hB⟩
    · obtain ⟨i, rfl⟩ : ∃ i, j = i + 1 := ⟨j - 1, by omega⟩
      have e1 : ((i + 1 : Nat) : Int) - 1 = (i : Nat) := by omega
      rw [e1]
      clear hj0 e1
      have hzl := (row_fn HZ.out).1
      have hzw := pow_words1 HL1.out (e := k / 2 ^ (i + 1)) HE.out
      have hdd : k / 2 ^ (i + 1) = k / 2 ^ i / 2 := by rw [Nat.pow_succ, Nat.div_div_eq_div_mul]
      have hfk := Nat.div_le_self k (2 ^ i)
      have HFD := hidD (show k / 2 ^ i = k / 2 ^ i from rfl)
      rw [hdd] at HZ HE hzl hzw
      obtain ⟨f, hf⟩ : ∃ f, k / 2 ^ i = f := ⟨_, rfl⟩
      rw [hf] at HZ HE hzl hzw hfk
      have hee : 2 * (f / 2) ≤ k := by omega
      have hlz : zl + zl ≤ L := by
        have h1 := Nat.mul_le_mul_left la hee
        rw [HLE.out]
        have h2 : la * (2 * (f / 2)) = 2 * (la * (f / 2)) := by rw [Nat.mul_left_comm]
        omega
      have HP := hidD (product_w x1 L L d1 za zl zc za zl zc _ _ wr hA1 hD1 (by omega) hlz (by omega) (by omega) HZ.out HZ.out HZB.out HZB.out)
      clear hzl hzw hee hdd HFD
      go_upto_region 8 with (go_at_call 105; refine HP.out.mono ?_; rintro e w5 ⟨u, rfl, ⟨hu, hg5⟩, hform, d1', hA1', hD1', hl1'⟩; obtain ⟨ua, uc, rfl⟩ := UN.form hu)
      have hul := (row_fn hu).1
      obtain ⟨ul, hule⟩ : ∃ ul, (limbs B64 (m ^ (f / 2) * m ^ (f / 2))).length = ul := ⟨_, rfl⟩
      rw [hule] at hu hform ⊢
      have HUL := hidD hule
      clear hule hul
      have hfi : ((k : Int) / 2 ^ i) = (f : Int) := by rw [← hf, Int.natCast_ediv, Int.natCast_pow]; rfl
      have hand := and_one ⟨f, by omega⟩
      simp only at hand
      have hB5 : Below w.heap.size w w5 := below_grown hB hg5 (by have := hb2.size; omega)
      have hA2' := hA2.kept hg5 (fun e => hx (by cases e; rfl))
      have HUB := hidD (show ∀ p, ua = some p → 0 < ul → p.block ≠ x2 from fun p e h0 => by
        rcases hform with e2 | ⟨l, e2⟩
        · cases e2; cases e
        · cases e2; cases e; exact hx)
      have HUV := hidD (show m ^ (f / 2) * m ^ (f / 2) = m ^ (2 * (f / 2)) by rw [← Nat.pow_add, ← Nat.two_mul])
      have hulb : ul ≤ la * (2 * (f / 2)) := by
        have h1 := pow_words1 HL1.out (e := 2 * (f / 2)) (by have := HE.out; omega)
        rw [← HUV.out, HUL.out] at h1
        exact h1
      have HRA5 := hidD (Row.below HRA.out hB5)
      have HFK := hidD hf
      have hx2w : w.heap.size ≤ x2 := by have := hb2.size; omega
      have hf1 := HE.out
      clear hform hf
      by_cases hodd : f % 2 = 1
      · have hlz2 : ul + la ≤ L := by
          have e2 : 2 * (f / 2) + 1 = f := by omega
          have h1 := Nat.mul_le_mul_left la hfk
          rw [HLE.out]
          have h3 : la * f = la * (2 * (f / 2)) + la := by
            conv => lhs; rw [← e2]
            rw [Nat.mul_succ]
          omega
        have hbt : (bits .and .u64 ((k : Int) / 2 ^ i) 1 == 1) = true := by rw [hfi, hand, hodd]; rfl
        have HP2 := hidD (product_w x2 L L d2 ua ul uc a la ca _ m w5 hA2' hD2 (by omega) hlz2 (by omega) (by omega) hu HRA5.out HUB.out (fun p e h0 => by have := row_lt HRA.out e h0; omega))
        clear hand hulb hfi
        go_wp2_with (go_at_call 105; refine HP2.out.mono ?_; rintro e w6 ⟨u6, rfl, ⟨hu6, hg6⟩, hform6, d2', hA26, hD26, hl26⟩; obtain ⟨ya, yc, rfl⟩ := UN.form hu6)
        refine ⟨⟨i, ya, _, yc, x1, x2, d1', d2', rfl, by omega, rfl, rfl, rfl, hx, hx1, hx2, hA1'.kept hg6 (fun e => hx (Option.some.inj e)), hA26, hD1', hD26, by omega, by omega, ?_, ?_, below_grown hB5 hg6 hx2w, ?_⟩, by simp [intOf]⟩
        · show Row .u64 w6 _ _
          have e3 : m ^ (k / 2 ^ i) = m ^ (f / 2) * m ^ (f / 2) * m := by
            rw [HFK.out, HUV.out, ← Nat.pow_succ]
            congr 1; omega
          rw [e3]; exact hu6
        · show ∀ p, ya = some p → _ → p.block ≠ x1
          intro p e h0
          rcases hform6 with e2 | ⟨l, e2⟩
          · injection e2 with e3
            rw [e3] at e; cases e
          · injection e2 with e3
            rw [e3] at e; cases e; exact fun h => hx h.symm
        · show 1 ≤ k / 2 ^ i
          rw [HFK.out]; omega
      · have hev : f % 2 = 0 := by omega
        have hbt : (bits .and .u64 ((k : Int) / 2 ^ i) 1 == 1) = false := by rw [hfi, hand, hev]; rfl
        clear hand hulb hfi
        go_wp2
        refine ⟨⟨i, ua, ul, uc, x2, x1, d2, d1', rfl, by omega, rfl, rfl, rfl, fun e => hx e.symm, hx2, hx1, hA2', hA1', hD2, hD1', hl2, by omega, ?_, HUB, hB5, ?_⟩, by simp [intOf]⟩
        · show Row .u64 w5 _ _
          have e3 : m ^ (k / 2 ^ i) = m ^ (f / 2) * m ^ (f / 2) := by
            rw [HFK.out, HUV.out]
            congr 1; omega
          rw [e3]; exact hu
        · show 1 ≤ k / 2 ^ i
          rw [HFK.out]; omega
end Go.Proofs.YtcahodpphikgnaaGreatDoor
namespace Go.Proofs.YtcahodpphikgnaaGreatDoor
open Go.RowKit Go.Shelf

attribute [local go_sem] Oper.semAt_some

theorem pow_sign (x : Int) (k : Nat) : (if (decide (x < 0) && decide (k % 2 = 1)) = true then -((x.natAbs ^ k : Nat) : Int) else ((x.natAbs ^ k : Nat) : Int)) = x ^ k := by
  by_cases hx : x < 0
  · obtain ⟨n, rfl⟩ : ∃ n : Nat, x = -(n : Int) := ⟨x.natAbs, by omega⟩
    rw [Int.natAbs_neg, Int.natAbs_natCast]
    by_cases hk : k % 2 = 1
    · simp only [hx, hk, decide_true, Bool.and_self, if_true]
      have : (-(n : Int)) ^ k = -((n : Int) ^ k) := by
        obtain ⟨j, rfl⟩ : ∃ j, k = 2 * j + 1 := ⟨k / 2, by omega⟩
        rw [Int.pow_succ, Int.pow_succ, Int.pow_mul, Int.pow_mul, show (-(n : Int)) ^ 2 = (n : Int) ^ 2 from by rw [Int.pow_succ, Int.pow_succ, Int.pow_succ, Int.pow_succ, Int.pow_zero]; simp; exact Int.neg_mul_neg _ _]
        exact Int.mul_neg _ _
      rw [this, Int.natCast_pow]
    · simp only [hx, hk, decide_true, decide_false, Bool.and_false, Bool.false_eq_true, if_false]
      have : (-(n : Int)) ^ k = (n : Int) ^ k := by
        obtain ⟨j, rfl⟩ : ∃ j, k = 2 * j := ⟨k / 2, by omega⟩
        rw [Int.pow_mul, Int.pow_mul, show (-(n : Int)) ^ 2 = (n : Int) ^ 2 from by rw [Int.pow_succ, Int.pow_succ, Int.pow_succ, Int.pow_succ, Int.pow_zero]; simp; exact Int.neg_mul_neg _ _]
      rw [this, Int.natCast_pow]
  · simp only [hx, decide_false, Bool.false_and, Bool.false_eq_true, if_false]
    rw [Int.natCast_pow]
    congr 1
    omega

set_option maxRecDepth 100000 in
set_option maxHeartbeats 1000000 in
theorem ipower_no (s : Bool) (a : Option Addr) (la ca : Nat) (n : Int) (w : World) (hn : n < 0 ∨ 0 ≤ n ∧ 200 < n) :
    Calls Tryz.prog 41 #[.agg #[.bool s, .slice a la ca], .int .i64 n] w fun e w' => e = .returned (.tuple #[.agg #[.bool false, .slice none 0 0], .bool false]) ∧ Below w.heap.size w w' := by
  have bR := Box2.new (w.alloc (.cells #[.bool s, .slice a la ca] 25)) 25 (.bool false) (.slice none 0 0)
  have hB0 := belowI2 w (.cells #[.bool s, .slice a la ca] 25) (.cells #[.bool false, .slice none 0 0] 25)
  simp only [World.size_alloc] at bR
  have r0 := bR.c0
  have r1 := bR.c1
  have f0 := bR.f0
  have f1 := bR.f1
  rcases hn with hn | ⟨hn1, hn2⟩
  all_goals
    go_enter Tryz.func41, Tryz.ntmps41
    go_wp2_with fail
    exact bodyPost_ret (v := .tuple #[.agg #[.bool false, .slice none 0 0], .bool false]) (by simp [results, Tryz.results41, go_sem, r0, r1]) rfl ⟨rfl, hB0⟩

set_option maxRecDepth 100000 in
set_option maxHeartbeats 1000000 in
theorem ipower_0 (s : Bool) (a : Option Addr) (la ca : Nat) (w : World) :
    Calls Tryz.prog 41 #[.agg #[.bool s, .slice a la ca], .int .i64 0] w fun e w' => ∃ u, e = .returned (.tuple #[u, .bool true]) ∧ IsInt w' u 1 ∧ Below w.heap.size w w' := by
  have bR := Box2.new (w.alloc (.cells #[.bool s, .slice a la ca] 25)) 25 (.bool false) (.slice none 0 0)
  have hB0 := belowI2 w (.cells #[.bool s, .slice a la ca] 25) (.cells #[.bool false, .slice none 0 0] 25)
  simp only [World.size_alloc] at bR
  go_enter Tryz.func41, Tryz.ntmps41
  go_wp2_with (go_at_call 40; refine (iof_c 1 (by omega) (by omega) _).mono ?_; rintro e w5 ⟨u, rfl, hu, hb5⟩; obtain ⟨ua, ul, uc, rfl⟩ := hu.form; obtain ⟨t, ht⟩ : ∃ t, decide ((1 : Int) < 0) = t := ⟨_, rfl⟩; rw [ht] at hu; rw [ht]; clear ht; have r0 := (bR.below hb5).c0; have r1 := (bR.below hb5).c1; have f0 := (bR.below hb5).f0; have f1 := (bR.below hb5).f1)
  have hq := Below.then hB0 hb5
  have hfin := hu.box (bR.below hb5) rfl rfl (x0 := .bool t) (x1 := .slice ua ul uc)
  exact bodyPost_ret (v := .tuple #[.agg #[.bool t, .slice ua ul uc], .bool true]) (by simp [results, Tryz.results41, go_sem, r0, r1]) rfl ⟨_, rfl, hfin, (hq.setCell (p := ⟨_, 0, none⟩) (by simp only; omega) _).setCell (p := ⟨_, 1, none⟩) (by simp only; omega) _⟩

set_option maxRecDepth 100000 in
set_option maxHeartbeats 1000000 in
theorem ipower_c (va : Value) (x : Int) (k : Nat) (w : World) (ha : IsInt w va x) (hk1 : 1 ≤ k) (hk2 : k ≤ 200) (hlk : (limbs B64 x.natAbs).length * k ≤ 1000000000) :
    Calls Tryz.prog 41 #[va, .int .i64 (k : Nat)] w fun e w' => ∃ u, e = .returned (.tuple #[u, .bool true]) ∧ IsInt w' u (x ^ k) ∧ Below w.heap.size w w' := by
  obtain ⟨a, la, ca, e0, hu⟩ := ha
  cases e0
  have ela := hu.len
  rw [← ela] at hlk
  have hsg := pow_sign x k
  obtain ⟨s, hs⟩ : ∃ s, decide (x < 0) = s := ⟨_, rfl⟩
  rw [hs] at hsg ⊢
  obtain ⟨W0, hW0⟩ : ∃ W0, (w.alloc (.cells #[.bool s, .slice a la ca] 25)).alloc (.cells #[.bool false, .slice none 0 0] 25) = W0 := ⟨_, rfl⟩
  have hB0 : Below w.heap.size w W0 := by rw [← hW0]; exact belowI2 w _ _
  have b0 : Box2 W0 w.heap.size 25 (.bool s) (.slice a la ca) := by rw [← hW0]; exact (Box2.new w _ _ _).alloc _
  have bR : Box2 W0 (w.heap.size + 1) 25 (.bool false) (.slice none 0 0) := by
    have h := Box2.new (w.alloc (.cells #[.bool s, .slice a la ca] 25)) 25 (.bool false) (.slice none 0 0)
    rw [World.size_alloc, hW0] at h; exact h
  have HPW := hidD (mpower_w a la ca _ k W0 (UN.below hu hB0) hk1 hk2 hlk)
  have HS := hidD (fun (V : World) (u : Value) (b : Bool) (hb : b = (s && decide (k % 2 = 1))) (hu : UN V u (x.natAbs ^ k)) => show Calls Tryz.prog 58 #[.bool b, u] V fun e w' => ∃ u, e = .returned u ∧ IsInt w' u (x ^ k) ∧ Below V.heap.size V w' by
    have h1 := signed_c b u _ V hu
    rw [hb, hsg] at h1
    rw [hb]
    exact h1)
  have k0 := b0.c0
  have k1 := b0.c1
  have n1 : ¬ ((k : Int) < 0) := by omega
  have n2 : ¬ ((200 : Int) < (k : Int)) := by omega
  have n3 : ¬ ((k : Int) = 0) := by omega
  clear hu hsg hs ela
  cases s <;> rcases (show (k : Int) % 2 = 1 ∨ (k : Int) % 2 = 0 by omega) with ho | ho
  all_goals
    go_enter Tryz.func41, Tryz.ntmps41
    go_wp2_with (first
      | (go_at_call 74; refine HPW.out.mono ?_; rintro e w1 ⟨u1, rfl, hu1, hb1⟩; obtain ⟨na, nc, rfl⟩ := UN.form hu1)
      | (go_at_call 58; refine (HS.out _ _ _ (by simp; try omega) hu1).mono ?_; rintro e w2 ⟨u2, rfl, hu2, hb2⟩; obtain ⟨sa, sl, sc, rfl⟩ := hu2.form; obtain ⟨s2, hs2⟩ : ∃ s2, decide (x ^ k < 0) = s2 := ⟨_, rfl⟩; rw [hs2] at hu2; rw [hs2]; clear hs2; have hq := Below.then hb1 hb2; have r0 := (bR.below hq).c0; have r1 := (bR.below hq).c1; have f0 := (bR.below hq).f0; have f1 := (bR.below hq).f1))
    have hq2 := hB0.trans (hq.mono hB0.size)
    have hfin := hu2.box (bR.below hq) rfl rfl (x0 := .bool s2) (x1 := .slice sa sl sc)
    exact bodyPost_ret (v := .tuple #[.agg #[.bool s2, .slice sa sl sc], .bool true]) (by simp [results, Tryz.results41, go_sem, r0, r1]) rfl ⟨_, rfl, hfin, (hq2.setCell (p := ⟨_, 0, none⟩) (by simp only; omega) _).setCell (p := ⟨_, 1, none⟩) (by simp only; omega) _⟩
end Go.Proofs.YtcahodpphikgnaaGreatDoor
