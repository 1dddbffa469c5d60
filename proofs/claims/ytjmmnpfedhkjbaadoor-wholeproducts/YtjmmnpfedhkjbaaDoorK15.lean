import Derived.Test.YtjmmnpfedhkjbaaDoorK03
import Derived.Deep.RegionHeld3
import Derived.Test.YtjmmnpfedhkjbaaDoorK01
namespace Go.Proofs.YtjmmnpfedhkjbaaDoor
open Go.RowKit Go.Shelf

/-- Block B has the two cells x and y. -/
def Box2 (W : World) (B : Nat) (t : TypeId) (x y : Value) : Prop := W.heap[B]? = some (.cells #[x, y] t (0, 0))

theorem Box2.lt {W : World} {B : Nat} {t : TypeId} {x y : Value} (h : Box2 W B t x y) : B < W.heap.size := (Array.getElem?_eq_some_iff.1 h).1
theorem Box2.c0 {W : World} {B : Nat} {t : TypeId} {x y : Value} (h : Box2 W B t x y) : W.cell? ⟨B, 0, none⟩ = some x := by simp [World.cell?, show W.heap[B]? = _ from h]
theorem Box2.c1 {W : World} {B : Nat} {t : TypeId} {x y : Value} (h : Box2 W B t x y) : W.cell? ⟨B, 1, none⟩ = some y := by simp [World.cell?, show W.heap[B]? = _ from h]
theorem Box2.f0 {W : World} {B : Nat} {t : TypeId} {x y : Value} (h : Box2 W B t x y) : W.frozen? ⟨B, 0, none⟩ = false := by simp [World.frozen?, show W.heap[B]? = _ from h]
theorem Box2.f1 {W : World} {B : Nat} {t : TypeId} {x y : Value} (h : Box2 W B t x y) : W.frozen? ⟨B, 1, none⟩ = false := by simp [World.frozen?, show W.heap[B]? = _ from h]
theorem Box2.new (W : World) (t : TypeId) (x y : Value) : Box2 (W.alloc (.cells #[x, y] t)) W.heap.size t x y := World.alloc_heap_new W _
theorem Box2.below {W W' : World} {B : Nat} {t : TypeId} {x y : Value} (h : Box2 W B t x y) (hb : Below W.heap.size W W') : Box2 W' B t x y := (hb.block B h.lt).trans h
theorem Box2.alloc {W : World} {B : Nat} {t : TypeId} {x y : Value} (h : Box2 W B t x y) (o : Obj) : Box2 (W.alloc o) B t x y := h.below ((Below.refl _ W).alloc (Nat.le_refl _) o)
theorem Box2.drew {W : World} {B : Nat} {t : TypeId} {x y : Value} (h : Box2 W B t x y) : Box2 W.drew B t x y := h
theorem Box2.set0 {W : World} {B : Nat} {t : TypeId} {x y : Value} (h : Box2 W B t x y) (u : Value) : Box2 (W.setCell ⟨B, 0, none⟩ u) B t u y := by
  obtain ⟨hlt, hk⟩ := Array.getElem?_eq_some_iff.1 h
  show (W.heap.modify B _)[B]? = _
  rw [Array.getElem?_eq_getElem (by rw [Array.size_modify]; exact hlt), Array.getElem_modify_self, hk]
  rfl
theorem Box2.set1 {W : World} {B : Nat} {t : TypeId} {x y : Value} (h : Box2 W B t x y) (u : Value) : Box2 (W.setCell ⟨B, 1, none⟩ u) B t x u := by
  obtain ⟨hlt, hk⟩ := Array.getElem?_eq_some_iff.1 h
  show (W.heap.modify B _)[B]? = _
  rw [Array.getElem?_eq_getElem (by rw [Array.size_modify]; exact hlt), Array.getElem_modify_self, hk]
  rfl
theorem Box2.far {W : World} {B : Nat} {t : TypeId} {x y : Value} (h : Box2 W B t x y) {p : Addr} (hp : B ≠ p.block) (u : Value) : Box2 (W.setCell p u) B t x y := (Below.heap_setCell W p u B hp).trans h

theorem Below.then {w W w1 : World} (h : Below w.heap.size w W) (k : Below W.heap.size W w1) : Below w.heap.size w w1 := h.trans (k.mono h.size)

theorem cell_set_nb {w : World} {b o b' o' : Nat} {u : Value} (h : b ≠ b') : (w.setCell ⟨b', o', none⟩ u).cell? ⟨b, o, none⟩ = w.cell? ⟨b, o, none⟩ :=
  World.cell?_of_block (w := w) (Below.heap_setCell w ⟨b', o', none⟩ u b h)

/-- A value that is no number. -/
def noInt : Value → Bool | .int _ _ => false | _ => true

theorem Row.set {k : IntKind} {W : World} {v : Value} {ds : List Nat} (h : Row k W v ds) {p : Addr} {u0 : Value} (hp : W.cell? p = some u0) (hn : noInt u0 = true) (u : Value) : Row k (W.setCell p u) v ds := by
  obtain ⟨a, cap, e, h1, h2, h2', h3⟩ := h
  refine ⟨a, cap, e, h1, h2, h2', ?_⟩
  rcases h3 with h3 | ⟨b, off, ea, hlt, hc⟩
  · exact Or.inl h3
  · refine Or.inr ⟨b, off, ea, by simpa [World.setCell] using hlt, fun j hj => ?_⟩
    have hc' := hc j hj
    have hne : p ≠ ⟨b, off + j, none⟩ := by
      intro e'
      rw [← e', hp] at hc'
      cases hc'
      simp [noInt] at hn
    exact (World.cell?_setCell_other (h := hne) ..).trans hc'

/-- Behind the two stores of a result of two cells. -/
theorem set2_fin {k : IntKind} {w w2 : World} {R : Nat} {t : TypeId} {u0 u1 : Value} (x0 x1 : Value) {v : Value} {ds : List Nat} (hB : Below w.heap.size w w2) (hR : w.heap.size ≤ R) (q : Box2 w2 R t u0 u1) (n0 : noInt u0 = true) (n1 : noInt u1 = true) (hr : Row k w2 v ds) :
    Row k ((w2.setCell ⟨R, 0, none⟩ x0).setCell ⟨R, 1, none⟩ x1) v ds ∧ Below w.heap.size w ((w2.setCell ⟨R, 0, none⟩ x0).setCell ⟨R, 1, none⟩ x1) :=
  ⟨Row.set (Row.set hr q.c0 n0 _) (u0 := u1) (q.set0 x0).c1 n1 _, (hB.setCell hR _).setCell hR _⟩

theorem RN.below {W W' : World} {v : Value} {n : Nat} (h : RN W v n) (hb : Below W.heap.size W W') : RN W' v n := Row.below h hb

theorem RN.form {W : World} {v : Value} {n : Nat} (h : RN W v n) : ∃ a cap, v = .slice a (limbs 10000 n).length cap := by
  obtain ⟨a, cap, e, _⟩ := h
  exact ⟨a, cap, e⟩

end Go.Proofs.YtjmmnpfedhkjbaaDoor
namespace Go.Proofs.YtjmmnpfedhkjbaaDoor
open Go.RowKit Go.Shelf

theorem order_n (va vb : Value) (m n : Nat) (w : World) (ha : RN w va m) (hb : RN w vb n) :
    Calls Tryd.prog 39 #[va, vb] w fun e w' => e = .returned (.int .i64 (cmpN m n)) ∧ Below w.heap.size w w' := by
  have h := order_c 10000 (by omega) va vb _ _ w ha hb (dig_limbs (by omega) m) (dig_limbs (by omega) n) (top_limbs (by omega) m) (top_limbs (by omega) n)
  rw [val_limbs (by omega), val_limbs (by omega)] at h
  exact h

theorem below_3 (w : World) (o1 o2 o3 : Obj) : Below w.heap.size w (((w.alloc o1).alloc o2).alloc o3) :=
  (((Below.refl _ w).alloc (Nat.le_refl _) _).alloc (by simp) _).alloc (by simp; omega) _

theorem cmpN_ge {m n : Nat} (h : n ≤ m) : 0 ≤ cmpN m n := by
  rcases Nat.lt_or_ge n m with g | g
  · rw [cmpN_gt g]; omega
  · have : m = n := by omega
    rw [this, cmpN_self]; omega

set_option maxHeartbeats 2000000 in
/-- The sum of two numbers of one sign. -/
theorem sumSame_w (a b : Option Addr) (la lb ca cb m n : Nat) (s : Bool) (w : World) (ra : RN w (.slice a la ca) m) (rb : RN w (.slice b lb cb) n) (hma : (limbs 10000 m).length ≤ 1000000000) (hmb : (limbs 10000 n).length ≤ 1000000000) :
    Calls Tryd.prog 18 #[.agg #[.slice a la ca, .bool s], .agg #[.slice b lb cb, .bool s]] w fun e w' => ∃ c lc cc, e = .returned (.agg #[.slice c lc cc, .bool (s && decide (0 < lc))]) ∧ RN w' (.slice c lc cc) (m + n) ∧ Below w.heap.size w w' := by
  have ne2 : ¬ (w.heap.size = w.heap.size + 1 + 1) := by omega
  go_enter Tryd.func18, Tryd.ntmps18
  go_wp2_with fail
  have hB0 := below_3 w (.cells #[.slice a la ca, .bool s] 30) (.cells #[.slice b lb cb, .bool s] 30) (.cells #[.slice none 0 0, .bool false] 30)
  have b0 := ((Box2.new w 30 (.slice a la ca) (.bool s)).alloc (.cells #[.slice b lb cb, .bool s] 30)).alloc (.cells #[.slice none 0 0, .bool false] 30)
  have b1 := (Box2.new (w.alloc (.cells #[.slice a la ca, .bool s] 30)) 30 (.slice b lb cb) (.bool s)).alloc (.cells #[.slice none 0 0, .bool false] 30)
  have bR := Box2.new ((w.alloc (.cells #[.slice a la ca, .bool s] 30)).alloc (.cells #[.slice b lb cb, .bool s] 30)) 30 (.slice none 0 0) (.bool false)
  simp only [World.size_alloc] at b1 bR
  go_region_held3 (fun w' => w'.cell? ⟨w.heap.size, 0, none⟩ = some (.slice a la ca) ∧ w'.cell? ⟨w.heap.size + 1, 0, none⟩ = some (.slice b lb cb) ∧ w'.cell? ⟨w.heap.size, 1, none⟩ = some (.bool s)) (refine ⟨?_, ?_, ?_⟩ <;> (first | (go_keep; done) | ((repeat rw [cell_set_nb (by omega)]); simp [*]; done)))
    (first
      | (go_at_call 38; refine (plus_c _ _ m n _ ?_ ?_ hma hmb).mono ?_; exact ra.below hB0.drew; exact rb.below hB0.drew; rintro e w1 ⟨u, rfl, hu, hb1⟩; obtain ⟨a', c', rfl⟩ := hu.form; have b0 := b0.drew.below hb1; have b1 := b1.drew.below hb1; have bR := bR.drew.below hb1; have hB0 := Below.then hB0.drew hb1; have k0 := b0.c0; have k1 := b0.c1; have k2 := b1.c0)
      | (go_at_call 37; refine (made_c _ _ _ _ _).mono ?_; rintro e w2 ⟨rfl, hb2⟩; have hu := Row.below hu hb2; have b0 := b0.below hb2; have b1 := b1.below hb2; have bR := bR.below hb2; have hB0 := Below.then hB0 hb2; have k0 := b0.c0; have k1 := b0.c1; have k2 := b1.c0; have r0 := bR.c0; have r1 := bR.c1; have f0 := bR.f0; have f1 := bR.f1))
  all_goals go_wp2_with fail
  obtain ⟨hr, hB2⟩ := set2_fin (.slice a' (limbs 10000 (m + n)).length c') (.bool (s && decide (0 < (limbs 10000 (m + n)).length))) hB0 (by omega) bR rfl rfl hu
  exact bodyPost_ret (v := .agg #[.slice a' (limbs 10000 (m + n)).length c', .bool (s && decide (0 < (limbs 10000 (m + n)).length))]) (by simp [results, Tryd.results18, go_sem, r0, r1]) rfl ⟨_, _, _, rfl, hr, hB2⟩

set_option maxHeartbeats 2000000 in
/-- The sum of two numbers of two signs, the first one not the lesser. -/
theorem sumDiff_w (a b : Option Addr) (la lb ca cb m n : Nat) (s : Bool) (w : World) (ra : RN w (.slice a la ca) m) (rb : RN w (.slice b lb cb) n) (hma : (limbs 10000 m).length ≤ 1000000000) (hmn : n ≤ m) :
    Calls Tryd.prog 18 #[.agg #[.slice a la ca, .bool s], .agg #[.slice b lb cb, .bool (!s)]] w fun e w' => ∃ c lc cc, e = .returned (.agg #[.slice c lc cc, .bool (s && decide (0 < lc))]) ∧ RN w' (.slice c lc cc) (m - n) ∧ Below w.heap.size w w' := by
  have ne2 : ¬ (w.heap.size = w.heap.size + 1 + 1) := by omega
  have hs : (s == !s) = false := by cases s <;> rfl
  have hcmp := cmpN_ge hmn
  have HC : Hid (n ≤ m) := hmn
  clear hmn
  have hB0 := below_3 w (.cells #[.slice a la ca, .bool s] 30) (.cells #[.slice b lb cb, .bool (!s)] 30) (.cells #[.slice none 0 0, .bool false] 30)
  have b0 := ((Box2.new w 30 (.slice a la ca) (.bool s)).alloc (.cells #[.slice b lb cb, .bool (!s)] 30)).alloc (.cells #[.slice none 0 0, .bool false] 30)
  have b1 := (Box2.new (w.alloc (.cells #[.slice a la ca, .bool s] 30)) 30 (.slice b lb cb) (.bool (!s))).alloc (.cells #[.slice none 0 0, .bool false] 30)
  have bR := Box2.new ((w.alloc (.cells #[.slice a la ca, .bool s] 30)).alloc (.cells #[.slice b lb cb, .bool (!s)] 30)) 30 (.slice none 0 0) (.bool false)
  simp only [World.size_alloc] at b1 bR
  go_enter Tryd.func18, Tryd.ntmps18
  go_wp2_with (first
    | (go_at_call 39; refine (order_n _ _ m n _ ?_ ?_).mono ?_; exact ra.below hB0; exact rb.below hB0; rintro e w0 ⟨rfl, hb0⟩; have b0 := b0.below hb0; have b1 := b1.below hb0; have bR := bR.below hb0; have hB0 := Below.then hB0 hb0; have k0 := b0.c0; have k1 := b0.c1; have k2 := b1.c0))
  go_region_held3 (fun w' => w'.cell? ⟨w.heap.size, 0, none⟩ = some (.slice a la ca) ∧ w'.cell? ⟨w.heap.size + 1, 0, none⟩ = some (.slice b lb cb) ∧ w'.cell? ⟨w.heap.size, 1, none⟩ = some (.bool s)) (refine ⟨?_, ?_, ?_⟩ <;> (first | (go_keep; done) | ((repeat rw [cell_set_nb (by omega)]); simp [*]; done)))
    (first
      | (go_at_call 40; refine (minus_c _ _ m n _ ?_ ?_ (Nat.le_of_lt_succ (Nat.lt_succ_of_le HC.out)) hma).mono ?_; exact ra.below hB0.drew; exact rb.below hB0.drew; rintro e w1 ⟨u, rfl, hu, hb1⟩; obtain ⟨a', c', rfl⟩ := hu.form; have b0 := b0.drew.below hb1; have b1 := b1.drew.below hb1; have bR := bR.drew.below hb1; have hB0 := Below.then hB0.drew hb1; have k0 := b0.c0; have k1 := b0.c1; have k2 := b1.c0)
      | (go_at_call 37; refine (made_c _ _ _ _ _).mono ?_; rintro e w2 ⟨rfl, hb2⟩; have hu := Row.below hu hb2; have b0 := b0.below hb2; have b1 := b1.below hb2; have bR := bR.below hb2; have hB0 := Below.then hB0 hb2; have k0 := b0.c0; have k1 := b0.c1; have k2 := b1.c0; have r0 := bR.c0; have r1 := bR.c1; have f0 := bR.f0; have f1 := bR.f1))
  all_goals go_wp2_with fail
  obtain ⟨hr, hB2⟩ := set2_fin (.slice a' (limbs 10000 (m - n)).length c') (.bool (s && decide (0 < (limbs 10000 (m - n)).length))) hB0 (by omega) bR rfl rfl hu
  exact bodyPost_ret (v := .agg #[.slice a' (limbs 10000 (m - n)).length c', .bool (s && decide (0 < (limbs 10000 (m - n)).length))]) (by simp [results, Tryd.results18, go_sem, r0, r1]) rfl ⟨_, _, _, rfl, hr, hB2⟩

set_option maxHeartbeats 2000000 in
/-- The sum of two numbers of two signs, the first one the lesser. -/
theorem sumLess_w (a b : Option Addr) (la lb ca cb m n : Nat) (s : Bool) (w : World) (ra : RN w (.slice a la ca) m) (rb : RN w (.slice b lb cb) n) (hma : (limbs 10000 n).length ≤ 1000000000) (hmn : m < n) :
    Calls Tryd.prog 18 #[.agg #[.slice a la ca, .bool s], .agg #[.slice b lb cb, .bool (!s)]] w fun e w' => ∃ c lc cc, e = .returned (.agg #[.slice c lc cc, .bool ((!s) && decide (0 < lc))]) ∧ RN w' (.slice c lc cc) (n - m) ∧ Below w.heap.size w w' := by
  have ne2 : ¬ (w.heap.size = w.heap.size + 1 + 1) := by omega
  have hs : (s == !s) = false := by cases s <;> rfl
  have hcmp : cmpN m n < 0 := by rw [cmpN_lt hmn]; omega
  have HC : Hid (m < n) := hmn
  clear hmn
  have hB0 := below_3 w (.cells #[.slice a la ca, .bool s] 30) (.cells #[.slice b lb cb, .bool (!s)] 30) (.cells #[.slice none 0 0, .bool false] 30)
  have b0 := ((Box2.new w 30 (.slice a la ca) (.bool s)).alloc (.cells #[.slice b lb cb, .bool (!s)] 30)).alloc (.cells #[.slice none 0 0, .bool false] 30)
  have b1 := (Box2.new (w.alloc (.cells #[.slice a la ca, .bool s] 30)) 30 (.slice b lb cb) (.bool (!s))).alloc (.cells #[.slice none 0 0, .bool false] 30)
  have bR := Box2.new ((w.alloc (.cells #[.slice a la ca, .bool s] 30)).alloc (.cells #[.slice b lb cb, .bool (!s)] 30)) 30 (.slice none 0 0) (.bool false)
  simp only [World.size_alloc] at b1 bR
  go_enter Tryd.func18, Tryd.ntmps18
  go_wp2_with (first
    | (go_at_call 39; refine (order_n _ _ m n _ ?_ ?_).mono ?_; exact ra.below hB0; exact rb.below hB0; rintro e w0 ⟨rfl, hb0⟩; have b0 := b0.below hb0; have b1 := b1.below hb0; have bR := bR.below hb0; have hB0 := Below.then hB0 hb0; have k0 := b0.c0; have k1 := b1.c1; have k2 := b1.c0))
  go_region_held3 (fun w' => w'.cell? ⟨w.heap.size, 0, none⟩ = some (.slice a la ca) ∧ w'.cell? ⟨w.heap.size + 1, 0, none⟩ = some (.slice b lb cb) ∧ w'.cell? ⟨w.heap.size + 1, 1, none⟩ = some (.bool (!s))) (refine ⟨?_, ?_, ?_⟩ <;> (first | (go_keep; done) | ((repeat rw [cell_set_nb (by omega)]); simp [*]; done)))
    (first
      | (go_at_call 40; refine (minus_c _ _ n m _ ?_ ?_ (Nat.le_of_lt_succ (Nat.lt_succ_of_le (Nat.le_of_lt HC.out))) hma).mono ?_; exact rb.below hB0.drew; exact ra.below hB0.drew; rintro e w1 ⟨u, rfl, hu, hb1⟩; obtain ⟨a', c', rfl⟩ := hu.form; have b0 := b0.drew.below hb1; have b1 := b1.drew.below hb1; have bR := bR.drew.below hb1; have hB0 := Below.then hB0.drew hb1; have k0 := b0.c0; have k1 := b1.c1; have k2 := b1.c0)
      | (go_at_call 37; refine (made_c _ _ _ _ _).mono ?_; rintro e w2 ⟨rfl, hb2⟩; have hu := Row.below hu hb2; have b0 := b0.below hb2; have b1 := b1.below hb2; have bR := bR.below hb2; have hB0 := Below.then hB0 hb2; have k0 := b0.c0; have k1 := b1.c1; have k2 := b1.c0; have r0 := bR.c0; have r1 := bR.c1; have f0 := bR.f0; have f1 := bR.f1))
  all_goals go_wp2_with fail
  obtain ⟨hr, hB2⟩ := set2_fin (.slice a' (limbs 10000 (n - m)).length c') (.bool ((!s) && decide (0 < (limbs 10000 (n - m)).length))) hB0 (by omega) bR rfl rfl hu
  exact bodyPost_ret (v := .agg #[.slice a' (limbs 10000 (n - m)).length c', .bool ((!s) && decide (0 < (limbs 10000 (n - m)).length))]) (by simp [results, Tryd.results18, go_sem, r0, r1]) rfl ⟨_, _, _, rfl, hr, hB2⟩
end Go.Proofs.YtjmmnpfedhkjbaaDoor
namespace Go.Proofs.YtjmmnpfedhkjbaaDoor
open Go.RowKit Go.Shelf

theorem RN.len {W : World} {a : Option Addr} {l c n : Nat} (h : RN W (.slice a l c) n) : l = (limbs 10000 n).length := by
  obtain ⟨a', cap, e, _⟩ := h
  cases e
  rfl

theorem agg_bool {d : Value} {p q : Bool} (h : p = q) : Value.agg #[d, .bool p] = .agg #[d, .bool q] := by rw [h]

/-- The value v is the reference's number z. -/
def IsBig (W : World) (v : Value) (z : Int) : Prop := ∃ a l cap, v = .agg #[.slice a l cap, .bool (decide (z < 0))] ∧ RN W (.slice a l cap) z.natAbs

theorem IsBig.below {W W' : World} {v : Value} {z : Int} (h : IsBig W v z) (hb : Below W.heap.size W W') : IsBig W' v z := by
  obtain ⟨a, l, cap, e, hr⟩ := h
  exact ⟨a, l, cap, e, hr.below hb⟩

/-- How many digits of base 10000 the number has. -/
def szB (z : Int) : Nat := (limbs 10000 z.natAbs).length

theorem limbs_length_mono {B : Nat} (hB : 2 ≤ B) {m n : Nat} (h : m ≤ n) : (limbs B m).length ≤ (limbs B n).length := by
  rcases Nat.lt_or_ge (limbs B n).length (limbs B m).length with g | g
  · have := limbs_lt_length hB g
    omega
  · exact g

theorem len_pos_iff {n : Nat} : 0 < (limbs 10000 n).length ↔ n ≠ 0 := by
  rw [List.length_pos_iff, Ne, limbs_eq_nil (by omega)]

theorem sum_c (va vb : Value) (x y : Int) (w : World) (ha : IsBig w va x) (hb : IsBig w vb y) (hma : szB x ≤ 1000000000) (hmb : szB y ≤ 1000000000) :
    Calls Tryd.prog 18 #[va, vb] w fun e w' => ∃ u, e = .returned u ∧ IsBig w' u (x + y) ∧ Below w.heap.size w w' := by
  obtain ⟨a, la, ca, rfl, ra⟩ := ha
  obtain ⟨b, lb, cb, rfl, rb⟩ := hb
  unfold szB at hma hmb
  by_cases hs : decide (x < 0) = decide (y < 0)
  · rw [← hs]
    refine (sumSame_w a b la lb ca cb _ _ _ w ra rb hma hmb).mono ?_
    rintro e w' ⟨c, lc, cc, rfl, hr, hB⟩
    have hl := hr.len
    have e1 : x.natAbs + y.natAbs = (x + y).natAbs := by
      have : (x < 0 ↔ y < 0) := by simpa using hs
      omega
    rw [e1] at hr hl
    refine ⟨_, rfl, ⟨c, lc, cc, ?_, hr⟩, hB⟩
    refine agg_bool ?_
    rw [Bool.eq_iff_iff]
    simp only [Bool.and_eq_true, decide_eq_true_eq]
    rw [hl, len_pos_iff]
    have : (x < 0 ↔ y < 0) := by simpa using hs
    omega
  · have hs2 : decide (y < 0) = !decide (x < 0) := by
      cases h1 : decide (x < 0) <;> cases h2 : decide (y < 0) <;> simp_all
    have hs3 : ¬ (x < 0 ↔ y < 0) := by simpa using hs
    rw [hs2]
    by_cases hmn : y.natAbs ≤ x.natAbs
    · refine (sumDiff_w a b la lb ca cb _ _ _ w ra rb hma hmn).mono ?_
      rintro e w' ⟨c, lc, cc, rfl, hr, hB⟩
      have hl := hr.len
      have e1 : x.natAbs - y.natAbs = (x + y).natAbs := by omega
      rw [e1] at hr hl
      refine ⟨_, rfl, ⟨c, lc, cc, ?_, hr⟩, hB⟩
      refine agg_bool ?_
      rw [Bool.eq_iff_iff]
      simp only [Bool.and_eq_true, decide_eq_true_eq]
      rw [hl, len_pos_iff]
      omega
    · refine (sumLess_w a b la lb ca cb _ _ _ w ra rb hmb (by omega)).mono ?_
      rintro e w' ⟨c, lc, cc, rfl, hr, hB⟩
      have hl := hr.len
      have e1 : y.natAbs - x.natAbs = (x + y).natAbs := by omega
      rw [e1] at hr hl
      refine ⟨_, rfl, ⟨c, lc, cc, ?_, hr⟩, hB⟩
      refine agg_bool ?_
      rw [Bool.eq_iff_iff]
      simp only [Bool.and_eq_true, decide_eq_true_eq, Bool.not_eq_true', decide_eq_false_iff_not]
      rw [hl, len_pos_iff]
      omega

theorem below_2 (w : World) (o1 o2 : Obj) : Below w.heap.size w ((w.alloc o1).alloc o2) :=
  ((Below.refl _ w).alloc (Nat.le_refl _) _).alloc (by simp) _

set_option maxHeartbeats 1000000 in
theorem neg_w (a : Option Addr) (la ca m : Nat) (s : Bool) (w : World) (ra : RN w (.slice a la ca) m) :
    Calls Tryd.prog 32 #[.agg #[.slice a la ca, .bool s]] w fun e w' => e = .returned (.agg #[.slice a la ca, .bool (!s && decide (0 < la))]) ∧ RN w' (.slice a la ca) m ∧ Below w.heap.size w w' := by
  have hB0 := below_2 w (.cells #[.slice a la ca, .bool s] 30) (.cells #[.slice none 0 0, .bool false] 30)
  have bR := Box2.new (w.alloc (.cells #[.slice a la ca, .bool s] 30)) 30 (.slice none 0 0) (.bool false)
  simp only [World.size_alloc] at bR
  go_enter Tryd.func32, Tryd.ntmps32
  go_wp2_with (first
    | (go_at_call 37; refine (made_c _ _ _ _ _).mono ?_; rintro e w2 ⟨rfl, hb2⟩; have bR := bR.below hb2; have hB0 := Below.then hB0 hb2; have r0 := bR.c0; have r1 := bR.c1; have f0 := bR.f0; have f1 := bR.f1))
  obtain ⟨hr, hB2⟩ := set2_fin (.slice a la ca) (.bool (!s && decide (0 < la))) hB0 (by omega) bR rfl rfl (ra.below hB0)
  exact bodyPost_ret (v := .agg #[.slice a la ca, .bool (!s && decide (0 < la))]) (by simp [results, Tryd.results32, go_sem, r0, r1]) rfl ⟨rfl, hr, hB2⟩

theorem neg_c (va : Value) (x : Int) (w : World) (ha : IsBig w va x) :
    Calls Tryd.prog 32 #[va] w fun e w' => ∃ u, e = .returned u ∧ IsBig w' u (-x) ∧ Below w.heap.size w w' := by
  obtain ⟨a, la, ca, rfl, ra⟩ := ha
  refine (neg_w a la ca _ _ w ra).mono ?_
  rintro e w' ⟨rfl, hr, hB⟩
  have hl := hr.len
  rw [show x.natAbs = (-x).natAbs from by omega] at hr hl
  refine ⟨_, rfl, ⟨a, la, ca, ?_, hr⟩, hB⟩
  refine agg_bool ?_
  rw [Bool.eq_iff_iff]
  simp only [Bool.and_eq_true, decide_eq_true_eq, Bool.not_eq_true', decide_eq_false_iff_not]
  rw [hl, len_pos_iff]
  omega
end Go.Proofs.YtjmmnpfedhkjbaaDoor
namespace Go.Proofs.YtjmmnpfedhkjbaaDoor
open Go.RowKit Go.Shelf

theorem ba_cons (c : UInt8) (l : List UInt8) : (⟨#[c]⟩ : ByteArray) ++ ⟨l.toArray⟩ = ⟨(c :: l).toArray⟩ := by
  apply ByteArray.ext
  simp [ByteArray.data_append]

theorem ba_cons_size (c : UInt8) (s : ByteArray) : ((⟨#[c]⟩ : ByteArray) ++ s).size = 1 + s.size := by
  rw [ByteArray.size_append]; rfl

/-- One byte as a text. -/
theorem conv1 (w : World) (n : Nat) : (convert 55 9 (.slice (some ⟨w.heap.size, 0, none⟩) 1 1)).run Tryd.prog (w.alloc (.cells #[.int .u8 (48 + (n : Int) % 10)] 5)) = .ok (.string ⟨#[chr (n % 10)]⟩) (w.alloc (.cells #[.int .u8 (48 + (n : Int) % 10)] 5)) := by
  have h := run_convert_bytes_back (P := Tryd.prog) (w.alloc (.cells #[.int .u8 (48 + (n : Int) % 10)] 5)) 55 9 5 ⟨w.heap.size, 0, none⟩ 1 [chr (n % 10)] Tryd.underlying55 Tryd.underlying5 Tryd.underlying9 (by
    intro j hj
    have : j = 0 := by simp at hj; omega
    subst this
    have e : (((chr (n % 10)).toNat : Nat) : Int) = 48 + (n : Int) % 10 := by
      have h1 : (chr (n % 10)).toNat = 48 + n % 10 := by
        unfold chr
        rw [UInt8.toNat_ofNat']
        omega
      rw [h1]; omega
    simp only [List.getElem_cons_zero, e]
    go_simp)
  exact h

theorem conv0 (w : World) : (convert 55 9 (.slice (some ⟨w.heap.size, 0, none⟩) 1 1)).run Tryd.prog (w.alloc (.cells #[.int .u8 48] 5)) = .ok (.string ⟨#[chr 0]⟩) (w.alloc (.cells #[.int .u8 48] 5)) := conv1 w 0

set_option maxRecDepth 100000 in
set_option maxHeartbeats 2000000 in
theorem text_w (a : Option Addr) (l ca m : Nat) (s : Bool) (w : World) (ra : RN w (.slice a l ca) m) (hm : m ≠ 0) (hl : l ≤ 1000000000) :
    Calls Tryd.prog 9 #[.agg #[.slice a l ca, .bool s]] w fun e w' => e = .returned (.string ⟨(if s then 45 :: txt (limbs 10 m) else txt (limbs 10 m)).toArray⟩) ∧ Below w.heap.size w w' := by
  have hlen := ra.len
  have hl0 : l ≠ 0 := by rw [hlen]; have := (len_pos_iff (n := m)).2 hm; omega
  obtain ⟨a', ca', e0, hle, hca, _, HA⟩ := Row.open ra
  have xd := dig_limbs (B := 10000) (by omega) m
  have HF : Hid (∀ i k D, TextAt (limbs 10000 m) i k 0 D → i + 1 = (limbs 10000 m).length → D = limbs 10 m) := fun i k D h h2 => by
    have := (h.last h2).2.2.2
    rw [val_limbs (by omega)] at this
    exact this hm (top_limbs (by omega) m)
  have HX : Hid (∀ i n D, TextAt (limbs 10000 m) i 4 n D → D.length = 4 * (i + 1) ∧ Dig 10 D ∧ val 10 D = val 10000 ((limbs 10000 m).take (i + 1))) := fun i n D h => h.next xd
  cases e0
  clear ra hm
  generalize limbs 10000 m = ds at *
  generalize limbs 10 m = dm at *
  have hl00 : ((ds.length : Int) == 0) = false := beq_eq_false_iff_ne.2 (by omega)
  clear hlen
  have bx := Box2.new w 30 (.slice a ds.length ca) (.bool s)
  go_enter Tryd.func9, Tryd.ntmps9
  go_wp2
  go_loopw [3, 4] (fun sv iv wr => ∃ (i : Nat) (D : List Nat) (sb : ByteArray), iv = .int .i64 i ∧ sv = .string sb ∧ i ≤ ds.length ∧ sb.size ≤ 4 * i ∧ Hid (sb = ⟨(txt D).toArray⟩) ∧ Hid ((i < ds.length ∧ D.length = 4 * i ∧ Dig 10 D ∧ val 10 D = val 10000 (ds.take i)) ∨ (i = ds.length ∧ D = dm)) ∧ Box2 wr w.heap.size 30 (.slice a ds.length ca) (.bool s) ∧ Below w.heap.size w wr)
    (fun _ iv _ => ds.length - (intOf iv).toNat)
  case atStart => exact ⟨0, [], ⟨#[]⟩, rfl, rfl, by omega, by show 0 ≤ _; omega, rfl, Or.inl ⟨by omega, rfl, Dig.nil _, by simp [val]⟩, bx, (Below.refl _ _).alloc (Nat.le_refl _) _⟩
  case round =>
    obtain ⟨i, D, sb, rfl, rfl, hi, hsb, HS, HD, bx, hB⟩ := hrel
    have c0 := bx.c0
    have c1 := bx.c1
    by_cases hlt : i < ds.length
    · obtain ⟨b, off, rfl, hb, hc⟩ := HA.out i hlt
      have hq : wr.cell? ⟨b, off + i, none⟩ = some (.int .i64 (ds[i]?.getD 0 : Nat)) := (hB.cell (p := ⟨b, off + i, none⟩) hb).trans hc
      clear hc
      have hT : TextAt ds i 0 (ds[i]?.getD 0) D := by
        rcases HD.out with ⟨_, h1, h2, h3⟩ | ⟨h1, _⟩
        · exact TextAt.start h1 h2 h3
        · omega
      have HT := hide hT
      clear hT HD
      have hx := xd.getD (by omega) i
      generalize ds[i]?.getD 0 = x at hq HT hx
      go_wp2
      go_loopw [3, 5, 6] (fun sv nv kv wr => ∃ (k n : Nat) (D : List Nat) (sb : ByteArray), kv = .int .i64 k ∧ nv = .int .i64 n ∧ sv = .string sb ∧ k ≤ 4 ∧ n < 10000 ∧ sb.size ≤ 4 * i + k ∧ Hid (sb = ⟨(txt D).toArray⟩) ∧ Hid (TextAt ds i k n D) ∧ Box2 wr w.heap.size 30 (.slice (some ⟨b, off, none⟩) ds.length ca) (.bool s) ∧ Below w.heap.size w wr)
        (fun _ _ kv _ => 4 - (intOf kv).toNat)
      case atStart => exact ⟨0, x, D, sb, rfl, rfl, rfl, by omega, hx, by omega, HS, HT, bx, hB⟩
      case round =>
        clear bx c0 c1 hB HS HT hq hsb hx
        obtain ⟨k, n, D, sb, rfl, rfl, rfl, hk4, hn4, hsb, HS, HT, bx, hB⟩ := hrel
        have c0 := bx.c0
        have c1 := bx.c1
        by_cases hk : k < 4
        · have hkI : (k : Int) < 4 := by omega
          by_cases hgo : 0 < n
          · have hcv := conv1 wr n
            have hgI : (0 : Int) < n := by omega
            go_wp2
            refine ⟨⟨k + 1, n / 10, D ++ [n % 10], _, by simp, by simp, rfl, by omega, by omega, by rw [ba_cons_size]; omega, ?_, HT.out.step hk (Or.inl hgo), bx.alloc _, hB.alloc hB.size _⟩, by simp [intOf]; omega⟩
            show _ = _
            rw [HS.out, ba_cons, txt_snoc]
          · by_cases hi2 : i + 1 < ds.length
            · have hn0 : n = 0 := by omega
              subst hn0
              have hcv := conv0 wr
              have hi3 : (i : Int) + 1 < ds.length := by omega
              go_wp2
              refine ⟨⟨k + 1, 0 / 10, D ++ [0 % 10], _, by simp, by simp, rfl, by omega, by omega, by rw [ba_cons_size]; omega, ?_, HT.out.step hk (Or.inr hi2), bx.alloc _, hB.alloc hB.size _⟩, by simp [intOf]; omega⟩
              show _ = _
              rw [HS.out, ba_cons, txt_snoc]
            · have hn0 : n = 0 := by omega
              subst hn0
              have hi3 : decide ((i : Int) + 1 < ds.length) = false := decide_eq_false (by omega)
              have HQ := hide (HF.out i k D HT.out (by omega))
              go_wp2
              go_roundw
              case rel => exact ⟨i + 1, D, sb, by simp, rfl, by omega, by omega, HS, Or.inr ⟨by omega, HQ.out⟩, bx, hB⟩
              case measure => simp [intOf]; omega
        · have hk5 : k = 4 := by omega
          subst hk5
          have HQ : Hid ((i + 1 < ds.length ∧ D.length = 4 * (i + 1) ∧ Dig 10 D ∧ val 10 D = val 10000 (ds.take (i + 1))) ∨ (i + 1 = ds.length ∧ D = dm)) := by
            by_cases hi2 : i + 1 < ds.length
            · exact Or.inl ⟨hi2, HX.out i n D HT.out⟩
            · have hT := HT.out
              have h0 : n = 0 := by
                have h4 := hT.2.2.2.1
                rw [h4]; exact Nat.div_eq_of_lt (by have := xd.getD (by omega) i; simpa using this)
              subst h0
              exact Or.inr ⟨by omega, HF.out i 4 D hT (by omega)⟩
          go_wp2
          go_roundw
          case rel => exact ⟨i + 1, D, sb, by simp, rfl, by omega, by omega, HS, HQ, bx, hB⟩
          case measure => simp [intOf]; omega
    · have e : sb = ⟨(txt dm).toArray⟩ := by
        rcases HD.out with ⟨h, _⟩ | ⟨_, h⟩
        · omega
        · rw [HS.out, h]
      subst e
      cases s
      · go_wp2
        go_ret
        exact ⟨rfl, hB⟩
      · have hz : (txt dm).length ≤ 4 * i := hsb
        go_wp2
        go_ret
        refine ⟨?_, hB⟩
        show Ending.returned (.string (⟨#[45]⟩ ++ ⟨(txt dm).toArray⟩)) = _
        rw [ba_cons]

theorem text_c (v : Value) (z : Int) (w : World) (h : IsBig w v z) (hl : szB z ≤ 1000000000) :
    Calls Tryd.prog 9 #[v] w fun e w' => e = .returned (.string ⟨(decZ z).toArray⟩) ∧ Below w.heap.size w w' := by
  obtain ⟨a, l, cap, rfl, hr⟩ := h
  by_cases hz : z.natAbs = 0
  · have hz0 : z = 0 := by omega
    subst hz0
    have hlen := hr.len
    have hl0 : l = 0 := by rw [hlen]; simp [limbs_zero]
    subst hl0
    clear hr hlen hl
    go_enter Tryd.func9, Tryd.ntmps9
    go_wp2
    go_ret
    exact ⟨rfl, (Below.refl _ _).alloc (Nat.le_refl _) _⟩
  · refine (text_w a l cap _ _ w hr hz (by rw [hr.len]; exact hl)).mono ?_
    rintro e w' ⟨rfl, hB⟩
    refine ⟨?_, hB⟩
    unfold decZ
    rw [decN_pos hz]
    by_cases hn : z < 0
    · simp [hn]
    · simp [hn]
end Go.Proofs.YtjmmnpfedhkjbaaDoor
namespace Go.Proofs.YtjmmnpfedhkjbaaDoor
open Go.RowKit Go.Shelf

theorem Box2.kept {W W' : World} {row : Option Nat} {B : Nat} {t : TypeId} {x y : Value} (h : Box2 W B t x y) (hg : W.grownBy W' row) (hne : some B ≠ row) : Box2 W' B t x y := (hg.block B h.lt hne).trans h

/-- What the loop of an int's digits knows. -/
def OfAt (N c : Nat) (acc : List Nat) : Prop := Dig 10000 acc ∧ val 10000 acc + 10000 ^ acc.length * c = N ∧ acc.length ≤ 100 ∧ (acc = [] ∨ c ≠ 0 ∨ 10000 ^ (acc.length - 1) ≤ val 10000 acc)

theorem OfAt.step {N c : Nat} {acc : List Nat} (h : OfAt N c acc) (hN : N ≤ 9223372036854775808) (hc : c ≠ 0) : OfAt N (c / 10000) (acc ++ [c % 10000]) := by
  obtain ⟨h1, h2, h3, h4⟩ := h
  refine ⟨h1.append (Dig.cons (Nat.mod_lt _ (by omega)) (Dig.nil _)), ?_, ?_, ?_⟩
  · rw [val_snoc, List.length_append, List.length_singleton, Nat.pow_succ, Nat.mul_assoc, Nat.add_assoc, ← Nat.mul_add, Nat.mod_add_div]
    exact h2
  · rcases Nat.lt_or_ge acc.length 20 with h | h
    · simp; omega
    · have g1 : (10000 : Nat) ^ 20 ≤ 10000 ^ acc.length := Nat.pow_le_pow_right (by omega) h
      have g2 : 10000 ^ acc.length * 1 ≤ 10000 ^ acc.length * c := Nat.mul_le_mul_left _ (by omega)
      have g3 : (10000 : Nat) ^ 20 = 100000000000000000000000000000000000000000000000000000000000000000000000000000000 := by decide
      omega
  · right
    by_cases g : c / 10000 = 0
    · right
      rw [List.length_append, List.length_singleton, Nat.add_sub_cancel, val_snoc]
      have : c % 10000 ≠ 0 := by omega
      have := Nat.mul_le_mul_left (10000 ^ acc.length) (show 1 ≤ c % 10000 by omega)
      omega
    · exact Or.inl g

theorem OfAt.done {N : Nat} {acc : List Nat} (h : OfAt N 0 acc) : acc = limbs 10000 N := by
  obtain ⟨h1, h2, h3, h4⟩ := h
  rw [Nat.mul_zero, Nat.add_zero] at h2
  rw [← h2]
  refine (limbs_val_top (by omega) h1 (top_of_pow (by omega) h1 ?_)).symm
  rcases h4 with h | h | h
  · exact Or.inl h
  · exact absurd rfl h
  · exact Or.inr h

theorem append_fld {k : IntKind} {w wr w3 : World} {B base : Nat} {e t : TypeId} {o : Obj} {v v' y : Value} {acc : List Nat} {D : Int} (d : Nat) (hD : D = (d : Nat)) (hb0 : w.heap.size ≤ B) (hbB : B < base) (hB : Below w.heap.size w wr) (bx : Box2 wr B t v y) (hown : wr.ownsRow base e 1 v acc.length (cellsOf k acc))
    (hown' : w3.ownsRow base e 1 v' (acc.length + 1) (cellsOf k acc ++ [.int k D])) (hgrow : (wr.alloc o).grownBy w3 v.ownBlock) :
    ∃ g cv, v' = .slice (some ⟨g, 0, none⟩) (acc ++ [d]).length cv ∧ (w3.setCell ⟨B, 0, none⟩ v').ownsRow base e 1 v' (acc ++ [d]).length (cellsOf k (acc ++ [d])) ∧ Box2 w3 B t v y ∧ Below w.heap.size w w3 ∧ base ≤ w3.heap.size ∧ (∀ B' t' x' y', B' < base → Box2 wr B' t' x' y' → Box2 w3 B' t' x' y') := by
  obtain ⟨g, cv, hv⟩ := ownsRow_succ hown'
  subst hD
  have hrow : ∀ q, v.ownBlock = some q → base ≤ q ∧ q < wr.heap.size := fun q hq => hown.lt q hq
  have hk : ∀ B' t' x' y', B' < base → Box2 wr B' t' x' y' → Box2 w3 B' t' x' y' := fun B' t' x' y' h b => (b.alloc o).kept hgrow (fun e' => by have := (hrow B' e'.symm).1; omega)
  have ho : w3.ownsRow base e 1 v' (acc ++ [d]).length (cellsOf k (acc ++ [d])) := by rw [cellsOf_snoc]; simpa using hown'
  refine ⟨g, cv, by rw [hv]; simp, ownsRow_setCell_below ho hbB v', hk _ _ _ _ hbB bx, ?_, ?_, hk⟩
  · exact (hB.alloc hB.size _).grown hgrow (by simp; have := hB.size; omega) (fun q hq => by have := (hrow q hq).1; omega)
  · rcases ho.2 with ⟨h, _⟩ | ⟨g', cap', cur', _, hge, hgb, _⟩
    · rw [hv] at h; cases h
    · have := (Array.getElem?_eq_some_iff.1 hgb).1
      omega
end Go.Proofs.YtjmmnpfedhkjbaaDoor
namespace Go.Proofs.YtjmmnpfedhkjbaaDoor
open Go.RowKit Go.Shelf

set_option maxRecDepth 100000 in
set_option maxHeartbeats 2000000 in
theorem ofPos_w (N : Nat) (hN : N ≤ 9223372036854775807) (w : World) :
    Calls Tryd.prog 11 #[.int .i64 N] w fun e w' => ∃ u, e = .returned u ∧ IsBig w' u N ∧ Below w.heap.size w w' := by
  obtain ⟨i0, hi, hz0, hz1, hz2⟩ := info_parts Tryd.infoInt
  have bR := (Box2.new w 30 (.slice none 0 0) (.bool false)).alloc (.cells #[.slice none 0 0, .bool false] 30)
  have bb := Box2.new (w.alloc (.cells #[.slice none 0 0, .bool false] 30)) 30 (.slice none 0 0) (.bool false)
  simp only [World.size_alloc] at bb
  have hB0 := below_2 w (.cells #[.slice none 0 0, .bool false] 30) (.cells #[.slice none 0 0, .bool false] 30)
  have HF : Hid (∀ acc, OfAt N 0 acc → acc = limbs 10000 N) := fun acc h => h.done
  have HS : Hid (∀ c acc, OfAt N c acc → c ≠ 0 → OfAt N (c / 10000) (acc ++ [c % 10000])) := fun c acc h hc => h.step (by omega) hc
  go_enter Tryd.func11, Tryd.ntmps11
  go_wp2
  go_loopw [0] (fun nv wr => ∃ (c : Nat) (acc : List Nat) (ao : Option Addr) (cv : Nat), nv = .int .i64 c ∧ c ≤ N ∧ acc.length ≤ 100 ∧ Hid (OfAt N c acc) ∧ Box2 wr w.heap.size 30 (.slice none 0 0) (.bool false) ∧ Box2 wr (w.heap.size + 1) 30 (.slice ao acc.length cv) (.bool false) ∧ wr.ownsRow (w.heap.size + 1 + 1) 3 1 (.slice ao acc.length cv) acc.length (cellsOf .i64 acc) ∧ Below w.heap.size w wr ∧ w.heap.size + 1 + 1 ≤ wr.heap.size)
    (fun nv _ => (intOf nv).toNat)
  case atStart => exact ⟨N, [], none, 0, rfl, Nat.le_refl _, by simp, ⟨Dig.nil _, by simp [val], by simp, Or.inl rfl⟩, bR, bb, World.ownsRow_nil _ _ _ _, hB0, by simp⟩
  case round =>
    clear bR bb hB0
    obtain ⟨c, acc, ao, cv, rfl, hcN, hla, HA, bR, bb, hown, hB, hsz⟩ := hrel
    have c0 := bb.c0
    have c1 := bb.c1
    have f0 := bb.f0
    by_cases hc : c = 0
    · subst hc
      have e := HF.out acc HA.out
      have r0 := bR.c0
      have r1 := bR.c1
      have g0 := bR.f0
      have g1 := bR.f1
      clear HF HS
      go_wp2
      subst e
      obtain ⟨hr, hB2⟩ := set2_fin (.slice ao (limbs 10000 N).length cv) (.bool false) hB (Nat.le_refl _) bR rfl rfl (Row.of_owns hown (by omega))
      exact bodyPost_ret (v := .agg #[.slice ao (limbs 10000 N).length cv, .bool false]) (by simp [results, Tryd.results11, go_sem, r0, r1]) rfl ⟨_, rfl, ⟨ao, _, cv, by rw [show decide ((N : Int) < 0) = false from decide_eq_false (by omega)], hr⟩, hB2⟩
    · have hc0 : ((c : Int) != 0) = true := by rw [bne_iff_ne]; omega
      have HN := hide (HS.out c acc HA.out hc)
      go_wp2_with (first
        | (at_builtin; refine wpList_append_own _ rfl _ _ 28 rfl (w.heap.size + 1 + 1) 3 i0 (.int .i64 0) 1 8 Tryd.underlying28 hi hz0 hz1 hz2 rfl (by decide) (.slice ao acc.length cv) acc.length (cellsOf .i64 acc) rfl (hown.alloc _) ⟨wr.heap.size, 0, none⟩ 1 1 [_] rfl rfl (cell_one_new _ _ _) (by simp [Value.oneCell']) (by unfold maxLen; omega) (by omega) (by simp; omega) ?_; intro v' w3 hown' hgrow hnil; obtain ⟨g, cv', e1, ho, bb3, hB3, hsz3, hk3⟩ := append_fld (c % 10000) (by omega) (by omega) (by omega) hB bb hown hown' hgrow; have d0 := bb3.c0; have d1 := bb3.f0; subst e1))
      have hl1 : (acc ++ [c % 10000]).length ≤ 100 := HN.out.2.2.1
      have el : (acc ++ [c % 10000]).length = acc.length + 1 := by simp
      go_roundw
      case rel => exact ⟨c / 10000, acc ++ [c % 10000], some ⟨g, 0, none⟩, cv', by simp, by omega, hl1, HN, (hk3 _ _ _ _ (by omega) bR).far (by simp) _, by rw [el]; exact bb3.set0 _, by rw [el] at ho ⊢; exact ho, hB3.setCell (by simp) _, by simpa [World.setCell] using hsz3⟩
      case measure => simp [intOf]; omega
theorem tmod_neg (c : Nat) : (-(c : Int)).tmod 10000 = -((c % 10000 : Nat) : Int) := by
  rw [Int.neg_tmod, Int.tmod_eq_emod_of_nonneg (by omega)]; rfl

theorem tdiv_neg (c : Nat) : (-(c : Int)).tdiv 10000 = -((c / 10000 : Nat) : Int) := by
  rw [Int.neg_tdiv, Int.tdiv_eq_ediv_of_nonneg (by omega)]; rfl

set_option maxRecDepth 100000 in
set_option maxHeartbeats 2000000 in
theorem ofNeg_w (N : Nat) (h0 : 1 ≤ N) (hN : N ≤ 9223372036854775808) (w : World) :
    Calls Tryd.prog 11 #[.int .i64 (-(N : Int))] w fun e w' => ∃ u, e = .returned u ∧ IsBig w' u (-(N : Int)) ∧ Below w.heap.size w w' := by
  have h0' : 0 < N := h0
  obtain ⟨i0, hi, hz0, hz1, hz2⟩ := info_parts Tryd.infoInt
  have bR := (Box2.new w 30 (.slice none 0 0) (.bool false)).alloc (.cells #[.slice none 0 0, .bool true] 30)
  have bb := Box2.new (w.alloc (.cells #[.slice none 0 0, .bool false] 30)) 30 (.slice none 0 0) (.bool true)
  simp only [World.size_alloc] at bb
  have hB0 := below_2 w (.cells #[.slice none 0 0, .bool false] 30) (.cells #[.slice none 0 0, .bool true] 30)
  have HF : Hid (∀ acc, OfAt N 0 acc → acc = limbs 10000 N) := fun acc h => h.done
  have HS : Hid (∀ c acc, OfAt N c acc → c ≠ 0 → OfAt N (c / 10000) (acc ++ [c % 10000])) := fun c acc h hc => h.step (by omega) hc
  go_enter Tryd.func11, Tryd.ntmps11
  go_wp2
  go_loopw [0] (fun nv wr => ∃ (c : Nat) (acc : List Nat) (ao : Option Addr) (cv : Nat), nv = .int .i64 (-(c : Int)) ∧ c ≤ N ∧ acc.length ≤ 100 ∧ Hid (OfAt N c acc) ∧ Box2 wr w.heap.size 30 (.slice none 0 0) (.bool false) ∧ Box2 wr (w.heap.size + 1) 30 (.slice ao acc.length cv) (.bool true) ∧ wr.ownsRow (w.heap.size + 1 + 1) 3 1 (.slice ao acc.length cv) acc.length (cellsOf .i64 acc) ∧ Below w.heap.size w wr ∧ w.heap.size + 1 + 1 ≤ wr.heap.size)
    (fun nv _ => (-(intOf nv)).toNat)
  case atStart => exact ⟨N, [], none, 0, rfl, Nat.le_refl _, by simp, ⟨Dig.nil _, by simp [val], by simp, Or.inl rfl⟩, bR, bb, World.ownsRow_nil _ _ _ _, hB0, by simp⟩
  case round =>
    clear bR bb hB0
    obtain ⟨c, acc, ao, cv, rfl, hcN, hla, HA, bR, bb, hown, hB, hsz⟩ := hrel
    have c0 := bb.c0
    have c1 := bb.c1
    have f0 := bb.f0
    have ht := tmod_neg c
    have hd := tdiv_neg c
    by_cases hc : c = 0
    · subst hc
      have e := HF.out acc HA.out
      have r0 := bR.c0
      have r1 := bR.c1
      have g0 := bR.f0
      have g1 := bR.f1
      clear HF HS ht hd
      go_wp2
      subst e
      obtain ⟨hr, hB2⟩ := set2_fin (.slice ao (limbs 10000 N).length cv) (.bool true) hB (Nat.le_refl _) bR rfl rfl (Row.of_owns hown (by omega))
      exact bodyPost_ret (v := .agg #[.slice ao (limbs 10000 N).length cv, .bool true]) (by simp [results, Tryd.results11, go_sem, r0, r1]) rfl ⟨_, rfl, ⟨ao, _, cv, by rw [show decide (-(N : Int) < 0) = true from decide_eq_true (by omega)], by rw [Int.natAbs_neg]; exact hr⟩, hB2⟩
    · have hc0 : ((-(c : Int)) != 0) = true := by rw [bne_iff_ne]; omega
      have HN := hide (HS.out c acc HA.out hc)
      by_cases hm : c % 10000 = 0
      · have hmI : (c : Int) % 10000 = 0 := by omega
        have HM := hide hm
        clear hm
        go_wp2_with (first
          | (at_builtin; refine wpList_append_own _ rfl _ _ 28 rfl (w.heap.size + 1 + 1) 3 i0 (.int .i64 0) 1 8 Tryd.underlying28 hi hz0 hz1 hz2 rfl (by decide) (.slice ao acc.length cv) acc.length (cellsOf .i64 acc) rfl (hown.alloc _) ⟨wr.heap.size, 0, none⟩ 1 1 [_] rfl rfl (cell_one_new _ _ _) (by simp [Value.oneCell']) (by unfold maxLen; omega) (by omega) (by simp; omega) ?_; intro v' w3 hown' hgrow hnil; obtain ⟨g, cv', e1, ho, bb3, hB3, hsz3, hk3⟩ := append_fld (c % 10000) (by omega) (by omega) (by omega) hB bb hown hown' hgrow; have d0 := bb3.c0; have d1 := bb3.f0; subst e1))
        have hl1 : (acc ++ [c % 10000]).length ≤ 100 := HN.out.2.2.1
        have el : (acc ++ [c % 10000]).length = acc.length + 1 := by simp
        go_roundw
        case rel => exact ⟨c / 10000, acc ++ [c % 10000], some ⟨g, 0, none⟩, cv', by simp, by omega, hl1, HN, (hk3 _ _ _ _ (by omega) bR).far (by simp) _, by rw [el]; exact bb3.set0 _, by rw [el] at ho ⊢; exact ho, hB3.setCell (by simp) _, by simpa [World.setCell] using hsz3⟩
        case measure => simp [intOf]; omega
      · have hmI : 0 < (c : Int) % 10000 := by omega
        go_wp2_with (first
          | (at_builtin; refine wpList_append_own _ rfl _ _ 28 rfl (w.heap.size + 1 + 1) 3 i0 (.int .i64 0) 1 8 Tryd.underlying28 hi hz0 hz1 hz2 rfl (by decide) (.slice ao acc.length cv) acc.length (cellsOf .i64 acc) rfl (hown.alloc _) ⟨wr.heap.size, 0, none⟩ 1 1 [_] rfl rfl (cell_one_new _ _ _) (by simp [Value.oneCell']) (by unfold maxLen; omega) (by omega) (by simp; omega) ?_; intro v' w3 hown' hgrow hnil; obtain ⟨g, cv', e1, ho, bb3, hB3, hsz3, hk3⟩ := append_fld (c % 10000) (by omega) (by omega) (by omega) hB bb hown hown' hgrow; have d0 := bb3.c0; have d1 := bb3.f0; subst e1))
        have hl1 : (acc ++ [c % 10000]).length ≤ 100 := HN.out.2.2.1
        have el : (acc ++ [c % 10000]).length = acc.length + 1 := by simp
        go_roundw
        case rel => exact ⟨c / 10000, acc ++ [c % 10000], some ⟨g, 0, none⟩, cv', by simp, by omega, hl1, HN, (hk3 _ _ _ _ (by omega) bR).far (by simp) _, by rw [el]; exact bb3.set0 _, by rw [el] at ho ⊢; exact ho, hB3.setCell (by simp) _, by simpa [World.setCell] using hsz3⟩
        case measure => simp [intOf]; omega

theorem of_c (n : Int) (h1 : -9223372036854775808 ≤ n) (h2 : n ≤ 9223372036854775807) (w : World) :
    Calls Tryd.prog 11 #[.int .i64 n] w fun e w' => ∃ u, e = .returned u ∧ IsBig w' u n ∧ Below w.heap.size w w' := by
  by_cases h : n < 0
  · have e : n = -(n.natAbs : Int) := by omega
    rw [e]
    exact ofNeg_w n.natAbs (by omega) (by omega) w
  · have e : n = (n.natAbs : Int) := by omega
    rw [e]
    exact ofPos_w n.natAbs (by omega) w
end Go.Proofs.YtjmmnpfedhkjbaaDoor
