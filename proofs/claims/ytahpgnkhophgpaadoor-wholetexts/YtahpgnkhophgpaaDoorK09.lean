import Derived.Test.YtahpgnkhophgpaaDoorK08
import Derived.Deep.RegionHeld3
import Derived.Test.YtahpgnkhophgpaaDoorK01
import Derived.Test.YtahpgnkhophgpaaDoorK07
namespace Go.Proofs.YtahpgnkhophgpaaDoor
open Go.RowKit Go.Shelf

/-- Block B has the two cells x and y. -/
def Box2 (W : World) (B : Nat) (t : TypeId) (x y : Value) : Prop := W.heap[B]? = some (.cells #[x, y] t (0, 0))

theorem Box2.lt {W : World} {B : Nat} {t : TypeId} {x y : Value} (h : Box2 W B t x y) : B < W.heap.size := (Array.getElem?_eq_some_iff.1 h).1
theorem Box2.c0 {W : World} {B : Nat} {t : TypeId} {x y : Value} (h : Box2 W B t x y) : W.cell? ⟨B, 0, none⟩ = some x := by simp [World.cell?, show W.heap[B]? = _ from h]
theorem Box2.c1 {W : World} {B : Nat} {t : TypeId} {x y : Value} (h : Box2 W B t x y) : W.cell? ⟨B, 1, none⟩ = some y := by simp [World.cell?, show W.heap[B]? = _ from h]
theorem Box2.f0 {W : World} {B : Nat} {t : TypeId} {x y : Value} (h : Box2 W B t x y) : W.frozen? ⟨B, 0, none⟩ = false := by simp [World.frozen?, show W.heap[B]? = _ from h]
theorem Box2.f1 {W : World} {B : Nat} {t : TypeId} {x y : Value} (h : Box2 W B t x y) : W.frozen? ⟨B, 1, none⟩ = false := by simp [World.frozen?, show W.heap[B]? = _ from h]
theorem Box2.new (W : World) (t : TypeId) (x y : Value) : Box2 (W.alloc (.cells #[x, y] t)) W.heap.size t x y := World.alloc_heap_new W _
theorem Box2.below {W W' : World} {B : Nat} {t : TypeId} {x y : Value} (h : Box2 W B t x y) (hb : Below W.heap.size W W') : Box2 W' B t x y := (hb.block B h.lt).trans h
theorem Box2.alloc {W : World} {B : Nat} {t : TypeId} {x y : Value} (h : Box2 W B t x y) (o : Obj) : Box2 (W.alloc o) B t x y := h.below ((Below.refl _ W).alloc (Nat.le_refl _) o)
theorem Box2.drew {W : World} {B : Nat} {t : TypeId} {x y : Value} (h : Box2 W B t x y) : Box2 W.drew B t x y := h
theorem Box2.set0 {W : World} {B : Nat} {t : TypeId} {x y : Value} (h : Box2 W B t x y) (u : Value) : Box2 (W.setCell ⟨B, 0, none⟩ u) B t u y := by
  obtain ⟨hlt, hk⟩ := Array.getElem?_eq_some_iff.1 h
  show (W.heap.modify B _)[B]? = _
  rw [Array.getElem?_eq_getElem (by rw [Array.size_modify]; exact hlt), Array.getElem_modify_self, hk]
  rfl
theorem Box2.set1 {W : World} {B : Nat} {t : TypeId} {x y : Value} (h : Box2 W B t x y) (u : Value) : Box2 (W.setCell ⟨B, 1, none⟩ u) B t x u := by
  obtain ⟨hlt, hk⟩ := Array.getElem?_eq_some_iff.1 h
  show (W.heap.modify B _)[B]? = _
  rw [Array.getElem?_eq_getElem (by rw [Array.size_modify]; exact hlt), Array.getElem_modify_self, hk]
  rfl
theorem Box2.far {W : World} {B : Nat} {t : TypeId} {x y : Value} (h : Box2 W B t x y) {p : Addr} (hp : B ≠ p.block) (u : Value) : Box2 (W.setCell p u) B t x y := (Below.heap_setCell W p u B hp).trans h

theorem Below.then {w W w1 : World} (h : Below w.heap.size w W) (k : Below W.heap.size W w1) : Below w.heap.size w w1 := h.trans (k.mono h.size)

theorem cell_set_nb {w : World} {b o b' o' : Nat} {u : Value} (h : b ≠ b') : (w.setCell ⟨b', o', none⟩ u).cell? ⟨b, o, none⟩ = w.cell? ⟨b, o, none⟩ :=
  World.cell?_of_block (w := w) (Below.heap_setCell w ⟨b', o', none⟩ u b h)

/-- A value that is no number. -/
def noInt : Value → Bool | .int _ _ => false | _ => true

theorem Row.set {k : IntKind} {W : World} {v : Value} {ds : List Nat} (h : Row k W v ds) {p : Addr} {u0 : Value} (hp : W.cell? p = some u0) (hn : noInt u0 = true) (u : Value) : Row k (W.setCell p u) v ds := by
  obtain ⟨a, cap, e, h1, h2, h2', h3⟩ := h
  refine ⟨a, cap, e, h1, h2, h2', ?_⟩
  rcases h3 with h3 | ⟨b, off, ea, hlt, hc⟩
  · exact Or.inl h3
  · refine Or.inr ⟨b, off, ea, by simpa [World.setCell] using hlt, fun j hj => ?_⟩
    have hc' := hc j hj
    have hne : p ≠ ⟨b, off + j, none⟩ := by
      intro e'
      rw [← e', hp] at hc'
      cases hc'
      simp [noInt] at hn
    exact (World.cell?_setCell_other (h := hne) ..).trans hc'

/-- Behind the two stores of a result of two cells. -/
theorem set2_fin {k : IntKind} {w w2 : World} {R : Nat} {t : TypeId} {u0 u1 : Value} (x0 x1 : Value) {v : Value} {ds : List Nat} (hB : Below w.heap.size w w2) (hR : w.heap.size ≤ R) (q : Box2 w2 R t u0 u1) (n0 : noInt u0 = true) (n1 : noInt u1 = true) (hr : Row k w2 v ds) :
    Row k ((w2.setCell ⟨R, 0, none⟩ x0).setCell ⟨R, 1, none⟩ x1) v ds ∧ Below w.heap.size w ((w2.setCell ⟨R, 0, none⟩ x0).setCell ⟨R, 1, none⟩ x1) :=
  ⟨Row.set (Row.set hr q.c0 n0 _) (u0 := u1) (q.set0 x0).c1 n1 _, (hB.setCell hR _).setCell hR _⟩

theorem RN.below {W W' : World} {v : Value} {n : Nat} (h : RN W v n) (hb : Below W.heap.size W W') : RN W' v n := Row.below h hb

theorem RN.form {W : World} {v : Value} {n : Nat} (h : RN W v n) : ∃ a cap, v = .slice a (limbs 10000 n).length cap := by
  obtain ⟨a, cap, e, _⟩ := h
  exact ⟨a, cap, e⟩

end Go.Proofs.YtahpgnkhophgpaaDoor

namespace Go.Proofs.YtahpgnkhophgpaaDoor
open Go.RowKit Go.Shelf

/-- A number with a sign. -/
def sgn (b : Bool) (n : Nat) : Int := if b then -(n : Int) else n

theorem signed_s (b : Bool) (v : Value) (n : Nat) (w : World) (h : UN w v n) : Calls Tryd.prog 27 #[.bool b, v] w fun e w' => ∃ u, e = .returned u ∧ IsInt w' u (sgn b n) ∧ Below w.heap.size w w' := signed_c b v n w h

/-- What Parse gives of a text that is no number. -/
def noInt0 : Value := .tuple #[.agg #[.bool false, .slice none 0 0], .bool false]

theorem cut_c (s : ByteArray) (w : World) : Calls Tryd.prog 25 #[.string s, .string ⟨#[45]⟩] w fun e w' => e = .returned (.tuple #[.string ⟨(tailOf (wlst s)).toArray⟩, .bool (decide ((wlst s).head? = some 45))]) ∧ w' = w := by
  refine (Tryd.strings_CutPrefix s ⟨#[45]⟩ w).mono ?_
  rintro e w' ⟨rfl, rfl⟩
  have e1 : Lib.hasPrefix s.data.toList [45] = decide ((wlst s).head? = some 45) := by
    unfold wlst Lib.hasPrefix
    cases s.data.toList with
    | nil => rfl
    | cons c l =>
      rw [Bool.eq_iff_iff]
      simp [List.isPrefixOf]
      exact eq_comm
  refine ⟨?_, rfl⟩
  have e2 : Lib.trimPrefix s.data.toList [45] = tailOf (wlst s) := by
    unfold Lib.trimPrefix tailOf
    rw [e1]
    by_cases h : (wlst s).head? = some 45
    · rw [if_pos (decide_eq_true h), if_pos h, List.length_singleton, List.drop_one]; rfl
    · rw [if_neg (by simp [h]), if_neg h]; rfl
  show Ending.returned (.tuple #[.string ⟨(Lib.trimPrefix s.data.toList [45]).toArray⟩, .bool (Lib.hasPrefix s.data.toList [45])]) = _
  rw [e1, e2]

theorem good_num {l : List UInt8} (h : l.length ≤ 2000) : good l = (isNum (tailOf l) && !(decide (l.head? = some 45) && decide (tailOf l = [48]))) := by
  rw [Bool.eq_iff_iff]
  simp only [good, isNum, Bool.and_eq_true, decide_eq_true_eq, Bool.or_eq_true, Bool.not_eq_true', decide_eq_false_iff_not, List.isEmpty_eq_false_iff, Bool.and_eq_false_iff]
  constructor
  · rintro ⟨⟨⟨_, h1⟩, h2⟩, h3⟩
    refine ⟨⟨h3, ?_⟩, ?_⟩
    · rcases h2 with h2 | h2
      · exact Or.inr ⟨h1, h2⟩
      · left; rw [h2]; rfl
    · rcases h2 with h2 | h2
      · right; intro e; apply h2; rw [e]; rfl
      · left; rw [h2]; simp
  · rintro ⟨⟨h3, h4⟩, h5⟩
    have h1 : tailOf l ≠ [] := by
      rcases h4 with h4 | h4
      · rw [h4]; simp
      · exact h4.1
    refine ⟨⟨⟨h, h1⟩, ?_⟩, h3⟩
    rcases h4 with h4 | h4
    · rcases h5 with h5 | h5
      · right
        have : tailOf l = l := by rw [tailOf, if_neg h5]
        rw [← this]; exact h4
      · exact absurd h4 h5
    · exact Or.inl h4.2

/-- What a call of the program's Parse leaves. -/
def ParseI (l : List UInt8) (w : World) (e : Ending) (w' : World) : Prop :=
  (good l = true → ∃ u, e = .returned (.tuple #[u, .bool true]) ∧ IsInt w' u (valZ l)) ∧ (good l = false → e = .returned noInt0) ∧ Below w.heap.size w w'

theorem ParseI.no {l : List UInt8} {w w' : World} (h : good l = false) (hB : Below w.heap.size w w') : ParseI l w (.returned noInt0) w' :=
  ⟨fun h' => (by rw [h] at h'; cases h'), fun _ => rfl, hB⟩

theorem ParseI.yes {l : List UInt8} {w w' : World} {u : Value} (h : good l = true) (hu : IsInt w' u (valZ l)) (hB : Below w.heap.size w w') : ParseI l w (.returned (.tuple #[u, .bool true])) w' :=
  ⟨fun _ => ⟨u, rfl, hu⟩, fun h' => (by rw [h] at h'; cases h'), hB⟩

set_option maxRecDepth 100000 in
set_option maxHeartbeats 1000000 in
theorem iparseA (s : ByteArray) (h0 : 2000 < s.size) (hs : s.size ≤ 140737488351232) (w : World) : Calls Tryd.prog 6 #[.string s] w (ParseI (wlst s) w) := by
  have HN := hidR (show good (wlst s) = false by
    have := wlst_length s
    simp [good]; omega)
  go_enter Tryd.func6, Tryd.ntmps6
  go_wp2_with (first
    | (go_at_call 25; refine (cut_c _ _).mono ?_; rintro e w' ⟨rfl, rfl⟩))
  exact bodyPost_ret (v := noInt0) (by simp [results, Tryd.results6, go_sem, noInt0]) rfl (ParseI.no HN.out ((Below.refl _ _).alloc (Nat.le_refl _) _))

set_option maxRecDepth 100000 in
set_option maxHeartbeats 1000000 in
theorem iparseB (s : ByteArray) (h0 : s.size ≤ 2000) (hn : isNum (tailOf (wlst s)) = false) (w : World) : Calls Tryd.prog 6 #[.string s] w (ParseI (wlst s) w) := by
  have HG := hidR (show good (wlst s) = false by rw [good_num (by rw [wlst_length]; exact h0), hn]; rfl)
  obtain ⟨tb, htb⟩ : ∃ tb : ByteArray, (⟨(tailOf (wlst s)).toArray⟩ : ByteArray) = tb := ⟨_, rfl⟩
  obtain ⟨sg, hsg⟩ : ∃ sg, decide ((wlst s).head? = some 45) = sg := ⟨_, rfl⟩
  have hc := fun V => cut_c s V
  rw [htb, hsg] at hc
  have hw : wlst tb = tailOf (wlst s) := by rw [← htb]; rfl
  have hts : tb.size ≤ 2000 := by
    rw [← wlst_length, hw, tailOf]
    have := wlst_length s
    split
    · rw [List.length_tail]; omega
    · omega
  have HNB := hidR (fun V => isNumber_w tb (by omega) V)
  rw [hw, hn] at HNB
  have HC := hidR hc
  clear hc hw hn htb hsg
  go_enter Tryd.func6, Tryd.ntmps6
  go_wp2_with (first
    | (go_at_call 25; refine (HC.out _).mono ?_; rintro e w' ⟨rfl, rfl⟩)
    | (go_at_call 26; refine (HNB.out _).mono ?_; rintro e w' ⟨rfl, rfl⟩))
  exact bodyPost_ret (v := noInt0) (by simp [results, Tryd.results6, go_sem, noInt0]) rfl (ParseI.no HG.out ((Below.refl _ _).alloc (Nat.le_refl _) _))

set_option maxRecDepth 100000 in
set_option maxHeartbeats 1000000 in
theorem iparseC (s : ByteArray) (h0 : s.size ≤ 2000) (hn : isNum (tailOf (wlst s)) = true) (hm : (wlst s).head? = some 45) (hz : tailOf (wlst s) = [48]) (w : World) : Calls Tryd.prog 6 #[.string s] w (ParseI (wlst s) w) := by
  have HG := hidR (show good (wlst s) = false by rw [good_num (by rw [wlst_length]; exact h0), hn, hz]; simp [hm])
  have hc := fun V => cut_c s V
  rw [hz, decide_eq_true hm] at hc
  have HNB := hidR (fun V => isNumber_w ⟨[48].toArray⟩ (by decide) V)
  have HC := hidR hc
  clear hc hn hm hz
  go_enter Tryd.func6, Tryd.ntmps6
  go_wp2_with (first
    | (go_at_call 25; refine (HC.out _).mono ?_; rintro e w' ⟨rfl, rfl⟩)
    | (go_at_call 26; refine (HNB.out _).mono ?_; rintro e w' ⟨rfl, rfl⟩))
  exact bodyPost_ret (v := noInt0) (by simp [results, Tryd.results6, go_sem, noInt0]) rfl (ParseI.no HG.out ((Below.refl _ _).alloc (Nat.le_refl _) _))

set_option maxRecDepth 100000 in
set_option maxHeartbeats 2000000 in
theorem iparseD (s tb : ByteArray) (sg : Bool) (h0 : s.size ≤ 2000) (HG : Hid (good (wlst s) = true)) (HC : Hid (∀ V, Calls Tryd.prog 25 #[.string s, .string ⟨#[45]⟩] V fun e w' => e = .returned (.tuple #[.string tb, .bool sg]) ∧ w' = V))
    (HNB : Hid (∀ V, Calls Tryd.prog 26 #[.string tb] V fun e w' => e = .returned (.bool true) ∧ w' = V)) (HR : Hid (∀ V, Calls Tryd.prog 28 #[.string tb] V fun e w' => ∃ u, e = .returned u ∧ UN w' u (num (wlst tb)) ∧ Below V.heap.size V w'))
    (hz : sg = true → (tb.toList == [48]) = false) (HV : Hid (valZ (wlst s) = sgn sg (num (wlst tb)))) (w : World) : Calls Tryd.prog 6 #[.string s] w (ParseI (wlst s) w) := by
  have bR := Box2.new w 25 (.bool false) (.slice none 0 0)
  have hB0 : Below w.heap.size w (w.alloc (.cells #[.bool false, .slice none 0 0] 25)) := (Below.refl _ _).alloc (Nat.le_refl _) _
  cases sg
  · clear hz
    go_enter Tryd.func6, Tryd.ntmps6
    go_wp2_with (first
      | (go_at_call 25; refine (HC.out _).mono ?_; rintro e w' ⟨rfl, rfl⟩)
      | (go_at_call 26; refine (HNB.out _).mono ?_; rintro e w' ⟨rfl, rfl⟩)
      | (go_at_call 28; refine (HR.out _).mono ?_; rintro e w1 ⟨u, rfl, hu, hb1⟩; obtain ⟨au, cu, rfl⟩ := hu.form; have bR := bR.below hb1; have hB0 := Below.then hB0 hb1)
      | (go_at_call 27; refine (signed_s _ _ _ _ hu).mono ?_; rintro e w2 ⟨v, rfl, hv, hb2⟩; have bR := bR.below hb2; have hB0 := Below.then hB0 hb2; rw [← HV.out] at hv; obtain ⟨a3, l3, c3, rfl, hr3⟩ := hv; have q0 := bR.c0; have q1 := bR.c1; have f0 := bR.f0; have f1 := bR.f1))
    obtain ⟨hr, hB2⟩ := set2_fin (.bool (decide (valZ (wlst s) < 0))) (.slice a3 l3 c3) hB0 (Nat.le_refl _) bR rfl rfl hr3
    exact bodyPost_ret (v := .tuple #[.agg #[.bool (decide (valZ (wlst s) < 0)), .slice a3 l3 c3], .bool true]) (by simp [results, Tryd.results6, go_sem, q0, q1]) rfl (ParseI.yes HG.out ⟨a3, l3, c3, rfl, hr⟩ hB2)
  · have hz2 := hz rfl
    clear hz
    go_enter Tryd.func6, Tryd.ntmps6
    go_wp2_with (first
      | (go_at_call 25; refine (HC.out _).mono ?_; rintro e w' ⟨rfl, rfl⟩)
      | (go_at_call 26; refine (HNB.out _).mono ?_; rintro e w' ⟨rfl, rfl⟩)
      | (go_at_call 28; refine (HR.out _).mono ?_; rintro e w1 ⟨u, rfl, hu, hb1⟩; obtain ⟨au, cu, rfl⟩ := hu.form; have bR := bR.below hb1; have hB0 := Below.then hB0 hb1)
      | (go_at_call 27; refine (signed_s _ _ _ _ hu).mono ?_; rintro e w2 ⟨v, rfl, hv, hb2⟩; have bR := bR.below hb2; have hB0 := Below.then hB0 hb2; rw [← HV.out] at hv; obtain ⟨a3, l3, c3, rfl, hr3⟩ := hv; have q0 := bR.c0; have q1 := bR.c1; have f0 := bR.f0; have f1 := bR.f1))
    obtain ⟨hr, hB2⟩ := set2_fin (.bool (decide (valZ (wlst s) < 0))) (.slice a3 l3 c3) hB0 (Nat.le_refl _) bR rfl rfl hr3
    exact bodyPost_ret (v := .tuple #[.agg #[.bool (decide (valZ (wlst s) < 0)), .slice a3 l3 c3], .bool true]) (by simp [results, Tryd.results6, go_sem, q0, q1]) rfl (ParseI.yes HG.out ⟨a3, l3, c3, rfl, hr⟩ hB2)

theorem iparse_c (s : ByteArray) (hs : s.size ≤ 140737488351232) (w : World) : Calls Tryd.prog 6 #[.string s] w (ParseI (wlst s) w) := by
  by_cases h0 : 2000 < s.size
  · exact iparseA s h0 hs w
  have h1 : s.size ≤ 2000 := by omega
  cases hn : isNum (tailOf (wlst s))
  · exact iparseB s h1 hn w
  by_cases hc : (wlst s).head? = some 45 ∧ tailOf (wlst s) = [48]
  · exact iparseC s h1 hn hc.1 hc.2 w
  have hg : good (wlst s) = true := by
    rw [good_num (by rw [wlst_length]; exact h1), hn]
    by_cases h2 : (wlst s).head? = some 45
    · have h3 : ¬ tailOf (wlst s) = [48] := fun h => hc ⟨h2, h⟩
      simp [h3]
    · simp [h2]
  have hall : (tailOf (wlst s)).all isD = true := by
    unfold isNum at hn
    rw [Bool.and_eq_true] at hn
    exact hn.1
  have hw : wlst (⟨(tailOf (wlst s)).toArray⟩ : ByteArray) = tailOf (wlst s) := rfl
  have hts : (⟨(tailOf (wlst s)).toArray⟩ : ByteArray).size ≤ 2000 := by
    rw [← wlst_length, hw, tailOf]
    have := wlst_length s
    split
    · rw [List.length_tail]; omega
    · omega
  refine iparseD s ⟨(tailOf (wlst s)).toArray⟩ (decide ((wlst s).head? = some 45)) h1 hg (fun V => cut_c s V) (fun V => ?_) (fun V => ?_) (fun h => ?_) ?_ w
  · have := isNumber_w ⟨(tailOf (wlst s)).toArray⟩ (by omega) V
    rw [hw, hn] at this
    exact this
  · exact read_w ⟨(tailOf (wlst s)).toArray⟩ (by rw [hw]; exact hall) hts V
  · rw [Lib.toList_data]
    exact beq_eq_false_iff_ne.2 (fun h3 => hc ⟨of_decide_eq_true h, h3⟩)
  · show valZ (wlst s) = _
    rw [hw, valZ, sgn]
    by_cases h2 : (wlst s).head? = some 45
    · simp [h2]
    · simp [h2]
end Go.Proofs.YtahpgnkhophgpaaDoor

namespace Go.Proofs.YtahpgnkhophgpaaDoor
open Go.RowKit Go.Shelf

theorem order_n (va vb : Value) (m n : Nat) (w : World) (ha : RN w va m) (hb : RN w vb n) :
    Calls Tryd.prog 39 #[va, vb] w fun e w' => e = .returned (.int .i64 (cmpN m n)) ∧ Below w.heap.size w w' := by
  have h := order_c 10000 (by omega) va vb _ _ w ha hb (dig_limbs (by omega) m) (dig_limbs (by omega) n) (top_limbs (by omega) m) (top_limbs (by omega) n)
  rw [val_limbs (by omega), val_limbs (by omega)] at h
  exact h

theorem below_3 (w : World) (o1 o2 o3 : Obj) : Below w.heap.size w (((w.alloc o1).alloc o2).alloc o3) :=
  (((Below.refl _ w).alloc (Nat.le_refl _) _).alloc (by simp) _).alloc (by simp; omega) _

theorem cmpN_ge {m n : Nat} (h : n ≤ m) : 0 ≤ cmpN m n := by
  rcases Nat.lt_or_ge n m with g | g
  · rw [cmpN_gt g]; omega
  · have : m = n := by omega
    rw [this, cmpN_self]; omega

set_option maxHeartbeats 2000000 in
/-- The sum of two numbers of one sign. -/
theorem sumSame_w (a b : Option Addr) (la lb ca cb m n : Nat) (s : Bool) (w : World) (ra : RN w (.slice a la ca) m) (rb : RN w (.slice b lb cb) n) (hma : (limbs 10000 m).length ≤ 1000000000) (hmb : (limbs 10000 n).length ≤ 1000000000) :
    Calls Tryd.prog 18 #[.agg #[.slice a la ca, .bool s], .agg #[.slice b lb cb, .bool s]] w fun e w' => ∃ c lc cc, e = .returned (.agg #[.slice c lc cc, .bool (s && decide (0 < lc))]) ∧ RN w' (.slice c lc cc) (m + n) ∧ Below w.heap.size w w' := by
  have ne2 : ¬ (w.heap.size = w.heap.size + 1 + 1) := by omega
  go_enter Tryd.func18, Tryd.ntmps18
  go_wp2_with fail
  have hB0 := below_3 w (.cells #[.slice a la ca, .bool s] 30) (.cells #[.slice b lb cb, .bool s] 30) (.cells #[.slice none 0 0, .bool false] 30)
  have b0 := ((Box2.new w 30 (.slice a la ca) (.bool s)).alloc (.cells #[.slice b lb cb, .bool s] 30)).alloc (.cells #[.slice none 0 0, .bool false] 30)
  have b1 := (Box2.new (w.alloc (.cells #[.slice a la ca, .bool s] 30)) 30 (.slice b lb cb) (.bool s)).alloc (.cells #[.slice none 0 0, .bool false] 30)
  have bR := Box2.new ((w.alloc (.cells #[.slice a la ca, .bool s] 30)).alloc (.cells #[.slice b lb cb, .bool s] 30)) 30 (.slice none 0 0) (.bool false)
  simp only [World.size_alloc] at b1 bR
  go_region_held3 (fun w' => w'.cell? ⟨w.heap.size, 0, none⟩ = some (.slice a la ca) ∧ w'.cell? ⟨w.heap.size + 1, 0, none⟩ = some (.slice b lb cb) ∧ w'.cell? ⟨w.heap.size, 1, none⟩ = some (.bool s)) (refine ⟨?_, ?_, ?_⟩ <;> (first | (go_keep; done) | ((repeat rw [cell_set_nb (by omega)]); simp [*]; done)))
    (first
      | (go_at_call 38; refine (plus_c _ _ m n _ ?_ ?_ hma hmb).mono ?_; exact ra.below hB0.drew; exact rb.below hB0.drew; rintro e w1 ⟨u, rfl, hu, hb1⟩; obtain ⟨a', c', rfl⟩ := hu.form; have b0 := b0.drew.below hb1; have b1 := b1.drew.below hb1; have bR := bR.drew.below hb1; have hB0 := Below.then hB0.drew hb1; have k0 := b0.c0; have k1 := b0.c1; have k2 := b1.c0)
      | (go_at_call 37; refine (made_c _ _ _ _ _).mono ?_; rintro e w2 ⟨rfl, hb2⟩; have hu := Row.below hu hb2; have b0 := b0.below hb2; have b1 := b1.below hb2; have bR := bR.below hb2; have hB0 := Below.then hB0 hb2; have k0 := b0.c0; have k1 := b0.c1; have k2 := b1.c0; have r0 := bR.c0; have r1 := bR.c1; have f0 := bR.f0; have f1 := bR.f1))
  all_goals go_wp2_with fail
  obtain ⟨hr, hB2⟩ := set2_fin (.slice a' (limbs 10000 (m + n)).length c') (.bool (s && decide (0 < (limbs 10000 (m + n)).length))) hB0 (by omega) bR rfl rfl hu
  exact bodyPost_ret (v := .agg #[.slice a' (limbs 10000 (m + n)).length c', .bool (s && decide (0 < (limbs 10000 (m + n)).length))]) (by simp [results, Tryd.results18, go_sem, r0, r1]) rfl ⟨_, _, _, rfl, hr, hB2⟩

set_option maxHeartbeats 2000000 in
/-- The sum of two numbers of two signs, the first one not the lesser. -/
theorem sumDiff_w (a b : Option Addr) (la lb ca cb m n : Nat) (s : Bool) (w : World) (ra : RN w (.slice a la ca) m) (rb : RN w (.slice b lb cb) n) (hma : (limbs 10000 m).length ≤ 1000000000) (hmn : n ≤ m) :
    Calls Tryd.prog 18 #[.agg #[.slice a la ca, .bool s], .agg #[.slice b lb cb, .bool (!s)]] w fun e w' => ∃ c lc cc, e = .returned (.agg #[.slice c lc cc, .bool (s && decide (0 < lc))]) ∧ RN w' (.slice c lc cc) (m - n) ∧ Below w.heap.size w w' := by
  have ne2 : ¬ (w.heap.size = w.heap.size + 1 + 1) := by omega
  have hs : (s == !s) = false := by cases s <;> rfl
  have hcmp := cmpN_ge hmn
  have HC : Hid (n ≤ m) := hmn
  clear hmn
  have hB0 := below_3 w (.cells #[.slice a la ca, .bool s] 30) (.cells #[.slice b lb cb, .bool (!s)] 30) (.cells #[.slice none 0 0, .bool false] 30)
  have b0 := ((Box2.new w 30 (.slice a la ca) (.bool s)).alloc (.cells #[.slice b lb cb, .bool (!s)] 30)).alloc (.cells #[.slice none 0 0, .bool false] 30)
  have b1 := (Box2.new (w.alloc (.cells #[.slice a la ca, .bool s] 30)) 30 (.slice b lb cb) (.bool (!s))).alloc (.cells #[.slice none 0 0, .bool false] 30)
  have bR := Box2.new ((w.alloc (.cells #[.slice a la ca, .bool s] 30)).alloc (.cells #[.slice b lb cb, .bool (!s)] 30)) 30 (.slice none 0 0) (.bool false)
  simp only [World.size_alloc] at b1 bR
  go_enter Tryd.func18, Tryd.ntmps18
  go_wp2_with (first
    | (go_at_call 39; refine (order_n _ _ m n _ ?_ ?_).mono ?_; exact ra.below hB0; exact rb.below hB0; rintro e w0 ⟨rfl, hb0⟩; have b0 := b0.below hb0; have b1 := b1.below hb0; have bR := bR.below hb0; have hB0 := Below.then hB0 hb0; have k0 := b0.c0; have k1 := b0.c1; have k2 := b1.c0))
  go_region_held3 (fun w' => w'.cell? ⟨w.heap.size, 0, none⟩ = some (.slice a la ca) ∧ w'.cell? ⟨w.heap.size + 1, 0, none⟩ = some (.slice b lb cb) ∧ w'.cell? ⟨w.heap.size, 1, none⟩ = some (.bool s)) (refine ⟨?_, ?_, ?_⟩ <;> (first | (go_keep; done) | ((repeat rw [cell_set_nb (by omega)]); simp [*]; done)))
    (first
      | (go_at_call 40; refine (minus_c _ _ m n _ ?_ ?_ (Nat.le_of_lt_succ (Nat.lt_succ_of_le HC.out)) hma).mono ?_; exact ra.below hB0.drew; exact rb.below hB0.drew; rintro e w1 ⟨u, rfl, hu, hb1⟩; obtain ⟨a', c', rfl⟩ := hu.form; have b0 := b0.drew.below hb1; have b1 := b1.drew.below hb1; have bR := bR.drew.below hb1; have hB0 := Below.then hB0.drew hb1; have k0 := b0.c0; have k1 := b0.c1; have k2 := b1.c0)
      | (go_at_call 37; refine (made_c _ _ _ _ _).mono ?_; rintro e w2 ⟨rfl, hb2⟩; have hu := Row.below hu hb2; have b0 := b0.below hb2; have b1 := b1.below hb2; have bR := bR.below hb2; have hB0 := Below.then hB0 hb2; have k0 := b0.c0; have k1 := b0.c1; have k2 := b1.c0; have r0 := bR.c0; have r1 := bR.c1; have f0 := bR.f0; have f1 := bR.f1))
  all_goals go_wp2_with fail
  obtain ⟨hr, hB2⟩ := set2_fin (.slice a' (limbs 10000 (m - n)).length c') (.bool (s && decide (0 < (limbs 10000 (m - n)).length))) hB0 (by omega) bR rfl rfl hu
  exact bodyPost_ret (v := .agg #[.slice a' (limbs 10000 (m - n)).length c', .bool (s && decide (0 < (limbs 10000 (m - n)).length))]) (by simp [results, Tryd.results18, go_sem, r0, r1]) rfl ⟨_, _, _, rfl, hr, hB2⟩

set_option maxHeartbeats 2000000 in
/-- The sum of two numbers of two signs, the first one the lesser. -/
theorem sumLess_w (a b : Option Addr) (la lb ca cb m n : Nat) (s : Bool) (w : World) (ra : RN w (.slice a la ca) m) (rb : RN w (.slice b lb cb) n) (hma : (limbs 10000 n).length ≤ 1000000000) (hmn : m < n) :
    Calls Tryd.prog 18 #[.agg #[.slice a la ca, .bool s], .agg #[.slice b lb cb, .bool (!s)]] w fun e w' => ∃ c lc cc, e = .returned (.agg #[.slice c lc cc, .bool ((!s) && decide (0 < lc))]) ∧ RN w' (.slice c lc cc) (n - m) ∧ Below w.heap.size w w' := by
  have ne2 : ¬ (w.heap.size = w.heap.size + 1 + 1) := by omega
  have hs : (s == !s) = false := by cases s <;> rfl
  have hcmp : cmpN m n < 0 := by rw [cmpN_lt hmn]; omega
  have HC : Hid (m < n) := hmn
  clear hmn
  have hB0 := below_3 w (.cells #[.slice a la ca, .bool s] 30) (.cells #[.slice b lb cb, .bool (!s)] 30) (.cells #[.slice none 0 0, .bool false] 30)
  have b0 := ((Box2.new w 30 (.slice a la ca) (.bool s)).alloc (.cells #[.slice b lb cb, .bool (!s)] 30)).alloc (.cells #[.slice none 0 0, .bool false] 30)
  have b1 := (Box2.new (w.alloc (.cells #[.slice a la ca, .bool s] 30)) 30 (.slice b lb cb) (.bool (!s))).alloc (.cells #[.slice none 0 0, .bool false] 30)
  have bR := Box2.new ((w.alloc (.cells #[.slice a la ca, .bool s] 30)).alloc (.cells #[.slice b lb cb, .bool (!s)] 30)) 30 (.slice none 0 0) (.bool false)
  simp only [World.size_alloc] at b1 bR
  go_enter Tryd.func18, Tryd.ntmps18
  go_wp2_with (first
    | (go_at_call 39; refine (order_n _ _ m n _ ?_ ?_).mono ?_; exact ra.below hB0; exact rb.below hB0; rintro e w0 ⟨rfl, hb0⟩; have b0 := b0.below hb0; have b1 := b1.below hb0; have bR := bR.below hb0; have hB0 := Below.then hB0 hb0; have k0 := b0.c0; have k1 := b1.c1; have k2 := b1.c0))
  go_region_held3 (fun w' => w'.cell? ⟨w.heap.size, 0, none⟩ = some (.slice a la ca) ∧ w'.cell? ⟨w.heap.size + 1, 0, none⟩ = some (.slice b lb cb) ∧ w'.cell? ⟨w.heap.size + 1, 1, none⟩ = some (.bool (!s))) (refine ⟨?_, ?_, ?_⟩ <;> (first | (go_keep; done) | ((repeat rw [cell_set_nb (by omega)]); simp [*]; done)))
    (first
      | (go_at_call 40; refine (minus_c _ _ n m _ ?_ ?_ (Nat.le_of_lt_succ (Nat.lt_succ_of_le (Nat.le_of_lt HC.out))) hma).mono ?_; exact rb.below hB0.drew; exact ra.below hB0.drew; rintro e w1 ⟨u, rfl, hu, hb1⟩; obtain ⟨a', c', rfl⟩ := hu.form; have b0 := b0.drew.below hb1; have b1 := b1.drew.below hb1; have bR := bR.drew.below hb1; have hB0 := Below.then hB0.drew hb1; have k0 := b0.c0; have k1 := b1.c1; have k2 := b1.c0)
      | (go_at_call 37; refine (made_c _ _ _ _ _).mono ?_; rintro e w2 ⟨rfl, hb2⟩; have hu := Row.below hu hb2; have b0 := b0.below hb2; have b1 := b1.below hb2; have bR := bR.below hb2; have hB0 := Below.then hB0 hb2; have k0 := b0.c0; have k1 := b1.c1; have k2 := b1.c0; have r0 := bR.c0; have r1 := bR.c1; have f0 := bR.f0; have f1 := bR.f1))
  all_goals go_wp2_with fail
  obtain ⟨hr, hB2⟩ := set2_fin (.slice a' (limbs 10000 (n - m)).length c') (.bool ((!s) && decide (0 < (limbs 10000 (n - m)).length))) hB0 (by omega) bR rfl rfl hu
  exact bodyPost_ret (v := .agg #[.slice a' (limbs 10000 (n - m)).length c', .bool ((!s) && decide (0 < (limbs 10000 (n - m)).length))]) (by simp [results, Tryd.results18, go_sem, r0, r1]) rfl ⟨_, _, _, rfl, hr, hB2⟩
end Go.Proofs.YtahpgnkhophgpaaDoor

namespace Go.Proofs.YtahpgnkhophgpaaDoor
open Go.RowKit Go.Shelf

theorem RN.len {W : World} {a : Option Addr} {l c n : Nat} (h : RN W (.slice a l c) n) : l = (limbs 10000 n).length := by
  obtain ⟨a', cap, e, _⟩ := h
  cases e
  rfl

theorem agg_bool {d : Value} {p q : Bool} (h : p = q) : Value.agg #[d, .bool p] = .agg #[d, .bool q] := by rw [h]

/-- The value v is the reference's number z. -/
def IsBig (W : World) (v : Value) (z : Int) : Prop := ∃ a l cap, v = .agg #[.slice a l cap, .bool (decide (z < 0))] ∧ RN W (.slice a l cap) z.natAbs

theorem IsBig.below {W W' : World} {v : Value} {z : Int} (h : IsBig W v z) (hb : Below W.heap.size W W') : IsBig W' v z := by
  obtain ⟨a, l, cap, e, hr⟩ := h
  exact ⟨a, l, cap, e, hr.below hb⟩

/-- How many digits of base 10000 the number has. -/
def szB (z : Int) : Nat := (limbs 10000 z.natAbs).length

theorem limbs_length_mono {B : Nat} (hB : 2 ≤ B) {m n : Nat} (h : m ≤ n) : (limbs B m).length ≤ (limbs B n).length := by
  rcases Nat.lt_or_ge (limbs B n).length (limbs B m).length with g | g
  · have := limbs_lt_length hB g
    omega
  · exact g

theorem len_pos_iff {n : Nat} : 0 < (limbs 10000 n).length ↔ n ≠ 0 := by
  rw [List.length_pos_iff, Ne, limbs_eq_nil (by omega)]

theorem sum_c (va vb : Value) (x y : Int) (w : World) (ha : IsBig w va x) (hb : IsBig w vb y) (hma : szB x ≤ 1000000000) (hmb : szB y ≤ 1000000000) :
    Calls Tryd.prog 18 #[va, vb] w fun e w' => ∃ u, e = .returned u ∧ IsBig w' u (x + y) ∧ Below w.heap.size w w' := by
  obtain ⟨a, la, ca, rfl, ra⟩ := ha
  obtain ⟨b, lb, cb, rfl, rb⟩ := hb
  unfold szB at hma hmb
  by_cases hs : decide (x < 0) = decide (y < 0)
  · rw [← hs]
    refine (sumSame_w a b la lb ca cb _ _ _ w ra rb hma hmb).mono ?_
    rintro e w' ⟨c, lc, cc, rfl, hr, hB⟩
    have hl := hr.len
    have e1 : x.natAbs + y.natAbs = (x + y).natAbs := by
      have : (x < 0 ↔ y < 0) := by simpa using hs
      omega
    rw [e1] at hr hl
    refine ⟨_, rfl, ⟨c, lc, cc, ?_, hr⟩, hB⟩
    refine agg_bool ?_
    rw [Bool.eq_iff_iff]
    simp only [Bool.and_eq_true, decide_eq_true_eq]
    rw [hl, len_pos_iff]
    have : (x < 0 ↔ y < 0) := by simpa using hs
    omega
  · have hs2 : decide (y < 0) = !decide (x < 0) := by
      cases h1 : decide (x < 0) <;> cases h2 : decide (y < 0) <;> simp_all
    have hs3 : ¬ (x < 0 ↔ y < 0) := by simpa using hs
    rw [hs2]
    by_cases hmn : y.natAbs ≤ x.natAbs
    · refine (sumDiff_w a b la lb ca cb _ _ _ w ra rb hma hmn).mono ?_
      rintro e w' ⟨c, lc, cc, rfl, hr, hB⟩
      have hl := hr.len
      have e1 : x.natAbs - y.natAbs = (x + y).natAbs := by omega
      rw [e1] at hr hl
      refine ⟨_, rfl, ⟨c, lc, cc, ?_, hr⟩, hB⟩
      refine agg_bool ?_
      rw [Bool.eq_iff_iff]
      simp only [Bool.and_eq_true, decide_eq_true_eq]
      rw [hl, len_pos_iff]
      omega
    · refine (sumLess_w a b la lb ca cb _ _ _ w ra rb hmb (by omega)).mono ?_
      rintro e w' ⟨c, lc, cc, rfl, hr, hB⟩
      have hl := hr.len
      have e1 : y.natAbs - x.natAbs = (x + y).natAbs := by omega
      rw [e1] at hr hl
      refine ⟨_, rfl, ⟨c, lc, cc, ?_, hr⟩, hB⟩
      refine agg_bool ?_
      rw [Bool.eq_iff_iff]
      simp only [Bool.and_eq_true, decide_eq_true_eq, Bool.not_eq_true', decide_eq_false_iff_not]
      rw [hl, len_pos_iff]
      omega

theorem below_2 (w : World) (o1 o2 : Obj) : Below w.heap.size w ((w.alloc o1).alloc o2) :=
  ((Below.refl _ w).alloc (Nat.le_refl _) _).alloc (by simp) _

set_option maxHeartbeats 1000000 in
theorem neg_w (a : Option Addr) (la ca m : Nat) (s : Bool) (w : World) (ra : RN w (.slice a la ca) m) :
    Calls Tryd.prog 32 #[.agg #[.slice a la ca, .bool s]] w fun e w' => e = .returned (.agg #[.slice a la ca, .bool (!s && decide (0 < la))]) ∧ RN w' (.slice a la ca) m ∧ Below w.heap.size w w' := by
  have hB0 := below_2 w (.cells #[.slice a la ca, .bool s] 30) (.cells #[.slice none 0 0, .bool false] 30)
  have bR := Box2.new (w.alloc (.cells #[.slice a la ca, .bool s] 30)) 30 (.slice none 0 0) (.bool false)
  simp only [World.size_alloc] at bR
  go_enter Tryd.func32, Tryd.ntmps32
  go_wp2_with (first
    | (go_at_call 37; refine (made_c _ _ _ _ _).mono ?_; rintro e w2 ⟨rfl, hb2⟩; have bR := bR.below hb2; have hB0 := Below.then hB0 hb2; have r0 := bR.c0; have r1 := bR.c1; have f0 := bR.f0; have f1 := bR.f1))
  obtain ⟨hr, hB2⟩ := set2_fin (.slice a la ca) (.bool (!s && decide (0 < la))) hB0 (by omega) bR rfl rfl (ra.below hB0)
  exact bodyPost_ret (v := .agg #[.slice a la ca, .bool (!s && decide (0 < la))]) (by simp [results, Tryd.results32, go_sem, r0, r1]) rfl ⟨rfl, hr, hB2⟩

theorem neg_c (va : Value) (x : Int) (w : World) (ha : IsBig w va x) :
    Calls Tryd.prog 32 #[va] w fun e w' => ∃ u, e = .returned u ∧ IsBig w' u (-x) ∧ Below w.heap.size w w' := by
  obtain ⟨a, la, ca, rfl, ra⟩ := ha
  refine (neg_w a la ca _ _ w ra).mono ?_
  rintro e w' ⟨rfl, hr, hB⟩
  have hl := hr.len
  rw [show x.natAbs = (-x).natAbs from by omega] at hr hl
  refine ⟨_, rfl, ⟨a, la, ca, ?_, hr⟩, hB⟩
  refine agg_bool ?_
  rw [Bool.eq_iff_iff]
  simp only [Bool.and_eq_true, decide_eq_true_eq, Bool.not_eq_true', decide_eq_false_iff_not]
  rw [hl, len_pos_iff]
  omega
end Go.Proofs.YtahpgnkhophgpaaDoor

namespace Go.Proofs.YtahpgnkhophgpaaDoor
open Go.RowKit Go.Shelf

theorem ba_cons (c : UInt8) (l : List UInt8) : (⟨#[c]⟩ : ByteArray) ++ ⟨l.toArray⟩ = ⟨(c :: l).toArray⟩ := by
  apply ByteArray.ext
  simp [ByteArray.data_append]

theorem ba_cons_size (c : UInt8) (s : ByteArray) : ((⟨#[c]⟩ : ByteArray) ++ s).size = 1 + s.size := by
  rw [ByteArray.size_append]; rfl

/-- One byte as a text. -/
theorem conv1 (w : World) (n : Nat) : (convert 55 9 (.slice (some ⟨w.heap.size, 0, none⟩) 1 1)).run Tryd.prog (w.alloc (.cells #[.int .u8 (48 + (n : Int) % 10)] 5)) = .ok (.string ⟨#[chr (n % 10)]⟩) (w.alloc (.cells #[.int .u8 (48 + (n : Int) % 10)] 5)) := by
  have h := run_convert_bytes_back (P := Tryd.prog) (w.alloc (.cells #[.int .u8 (48 + (n : Int) % 10)] 5)) 55 9 5 ⟨w.heap.size, 0, none⟩ 1 [chr (n % 10)] Tryd.underlying55 Tryd.underlying5 Tryd.underlying9 (by
    intro j hj
    have : j = 0 := by simp at hj; omega
    subst this
    have e : (((chr (n % 10)).toNat : Nat) : Int) = 48 + (n : Int) % 10 := by
      have h1 : (chr (n % 10)).toNat = 48 + n % 10 := by
        unfold chr
        rw [UInt8.toNat_ofNat']
        omega
      rw [h1]; omega
    simp only [List.getElem_cons_zero, e]
    go_simp)
  exact h

theorem conv0 (w : World) : (convert 55 9 (.slice (some ⟨w.heap.size, 0, none⟩) 1 1)).run Tryd.prog (w.alloc (.cells #[.int .u8 48] 5)) = .ok (.string ⟨#[chr 0]⟩) (w.alloc (.cells #[.int .u8 48] 5)) := conv1 w 0

set_option maxRecDepth 100000 in
set_option maxHeartbeats 2000000 in
theorem text_w (a : Option Addr) (l ca m : Nat) (s : Bool) (w : World) (ra : RN w (.slice a l ca) m) (hm : m ≠ 0) (hl : l ≤ 1000000000) :
    Calls Tryd.prog 9 #[.agg #[.slice a l ca, .bool s]] w fun e w' => e = .returned (.string ⟨(if s then 45 :: txt (limbs 10 m) else txt (limbs 10 m)).toArray⟩) ∧ Below w.heap.size w w' := by
  have hlen := ra.len
  have hl0 : l ≠ 0 := by rw [hlen]; have := (len_pos_iff (n := m)).2 hm; omega
  obtain ⟨a', ca', e0, hle, hca, _, HA⟩ := Row.open ra
  have xd := dig_limbs (B := 10000) (by omega) m
  have HF : Hid (∀ i k D, TextAt (limbs 10000 m) i k 0 D → i + 1 = (limbs 10000 m).length → D = limbs 10 m) := fun i k D h h2 => by
    have := (h.last h2).2.2.2
    rw [val_limbs (by omega)] at this
    exact this hm (top_limbs (by omega) m)
  have HX : Hid (∀ i n D, TextAt (limbs 10000 m) i 4 n D → D.length = 4 * (i + 1) ∧ Dig 10 D ∧ val 10 D = val 10000 ((limbs 10000 m).take (i + 1))) := fun i n D h => h.next xd
  cases e0
  clear ra hm
  generalize limbs 10000 m = ds at *
  generalize limbs 10 m = dm at *
  have hl00 : ((ds.length : Int) == 0) = false := beq_eq_false_iff_ne.2 (by omega)
  clear hlen
  have bx := Box2.new w 30 (.slice a ds.length ca) (.bool s)
  go_enter Tryd.func9, Tryd.ntmps9
  go_wp2
  go_loopw [3, 4] (fun sv iv wr => ∃ (i : Nat) (D : List Nat) (sb : ByteArray), iv = .int .i64 i ∧ sv = .string sb ∧ i ≤ ds.length ∧ sb.size ≤ 4 * i ∧ Hid (sb = ⟨(txt D).toArray⟩) ∧ Hid ((i < ds.length ∧ D.length = 4 * i ∧ Dig 10 D ∧ val 10 D = val 10000 (ds.take i)) ∨ (i = ds.length ∧ D = dm)) ∧ Box2 wr w.heap.size 30 (.slice a ds.length ca) (.bool s) ∧ Below w.heap.size w wr)
    (fun _ iv _ => ds.length - (intOf iv).toNat)
  case atStart => exact ⟨0, [], ⟨#[]⟩, rfl, rfl, by omega, by show 0 ≤ _; omega, rfl, Or.inl ⟨by omega, rfl, Dig.nil _, by simp [val]⟩, bx, (Below.refl _ _).alloc (Nat.le_refl _) _⟩
  case round =>
    obtain ⟨i, D, sb, rfl, rfl, hi, hsb, HS, HD, bx, hB⟩ := hrel
    have c0 := bx.c0
    have c1 := bx.c1
    by_cases hlt : i < ds.length
    · obtain ⟨b, off, rfl, hb, hc⟩ := HA.out i hlt
      have hq : wr.cell? ⟨b, off + i, none⟩ = some (.int .i64 (ds[i]?.getD 0 : Nat)) := (hB.cell (p := ⟨b, off + i, none⟩) hb).trans hc
      clear hc
      have hT : TextAt ds i 0 (ds[i]?.getD 0) D := by
        rcases HD.out with ⟨_, h1, h2, h3⟩ | ⟨h1, _⟩
        · exact TextAt.start h1 h2 h3
        · omega
      have HT := hide hT
      clear hT HD
      have hx := xd.getD (by omega) i
      generalize ds[i]?.getD 0 = x at hq HT hx
      go_wp2
      go_loopw [3, 5, 6] (fun sv nv kv wr => ∃ (k n : Nat) (D : List Nat) (sb : ByteArray), kv = .int .i64 k ∧ nv = .int .i64 n ∧ sv = .string sb ∧ k ≤ 4 ∧ n < 10000 ∧ sb.size ≤ 4 * i + k ∧ Hid (sb = ⟨(txt D).toArray⟩) ∧ Hid (TextAt ds i k n D) ∧ Box2 wr w.heap.size 30 (.slice (some ⟨b, off, none⟩) ds.length ca) (.bool s) ∧ Below w.heap.size w wr)
        (fun _ _ kv _ => 4 - (intOf kv).toNat)
      case atStart => exact ⟨0, x, D, sb, rfl, rfl, rfl, by omega, hx, by omega, HS, HT, bx, hB⟩
      case round =>
        clear bx c0 c1 hB HS HT hq hsb hx
        obtain ⟨k, n, D, sb, rfl, rfl, rfl, hk4, hn4, hsb, HS, HT, bx, hB⟩ := hrel
        have c0 := bx.c0
        have c1 := bx.c1
        by_cases hk : k < 4
        · have hkI : (k : Int) < 4 := by omega
          by_cases hgo : 0 < n
          · have hcv := conv1 wr n
            have hgI : (0 : Int) < n := by omega
            go_wp2
            refine ⟨⟨k + 1, n / 10, D ++ [n % 10], _, by simp, by simp, rfl, by omega, by omega, by rw [ba_cons_size]; omega, ?_, HT.out.step hk (Or.inl hgo), bx.alloc _, hB.alloc hB.size _⟩, by simp [intOf]; omega⟩
            show _ = _
            rw [HS.out, ba_cons, txt_snoc]
          · by_cases hi2 : i + 1 < ds.length
            · have hn0 : n = 0 := by omega
              subst hn0
              have hcv := conv0 wr
              have hi3 : (i : Int) + 1 < ds.length := by omega
              go_wp2
              refine ⟨⟨k + 1, 0 / 10, D ++ [0 % 10], _, by simp, by simp, rfl, by omega, by omega, by rw [ba_cons_size]; omega, ?_, HT.out.step hk (Or.inr hi2), bx.alloc _, hB.alloc hB.size _⟩, by simp [intOf]; omega⟩
              show _ = _
              rw [HS.out, ba_cons, txt_snoc]
            · have hn0 : n = 0 := by omega
              subst hn0
              have hi3 : decide ((i : Int) + 1 < ds.length) = false := decide_eq_false (by omega)
              have HQ := hide (HF.out i k D HT.out (by omega))
              go_wp2
              go_roundw
              case rel => exact ⟨i + 1, D, sb, by simp, rfl, by omega, by omega, HS, Or.inr ⟨by omega, HQ.out⟩, bx, hB⟩
              case measure => simp [intOf]; omega
        · have hk5 : k = 4 := by omega
          subst hk5
          have HQ : Hid ((i + 1 < ds.length ∧ D.length = 4 * (i + 1) ∧ Dig 10 D ∧ val 10 D = val 10000 (ds.take (i + 1))) ∨ (i + 1 = ds.length ∧ D = dm)) := by
            by_cases hi2 : i + 1 < ds.length
            · exact Or.inl ⟨hi2, HX.out i n D HT.out⟩
            · have hT := HT.out
              have h0 : n = 0 := by
                have h4 := hT.2.2.2.1
                rw [h4]; exact Nat.div_eq_of_lt (by have := xd.getD (by omega) i; simpa using this)
              subst h0
              exact Or.inr ⟨by omega, HF.out i 4 D hT (by omega)⟩
          go_wp2
          go_roundw
          case rel => exact ⟨i + 1, D, sb, by simp, rfl, by omega, by omega, HS, HQ, bx, hB⟩
          case measure => simp [intOf]; omega
    · have e : sb = ⟨(txt dm).toArray⟩ := by
        rcases HD.out with ⟨h, _⟩ | ⟨_, h⟩
        · omega
        · rw [HS.out, h]
      subst e
      cases s
      · go_wp2
        go_ret
        exact ⟨rfl, hB⟩
      · have hz : (txt dm).length ≤ 4 * i := hsb
        go_wp2
        go_ret
        refine ⟨?_, hB⟩
        show Ending.returned (.string (⟨#[45]⟩ ++ ⟨(txt dm).toArray⟩)) = _
        rw [ba_cons]

theorem text_c (v : Value) (z : Int) (w : World) (h : IsBig w v z) (hl : szB z ≤ 1000000000) :
    Calls Tryd.prog 9 #[v] w fun e w' => e = .returned (.string ⟨(decZ z).toArray⟩) ∧ Below w.heap.size w w' := by
  obtain ⟨a, l, cap, rfl, hr⟩ := h
  by_cases hz : z.natAbs = 0
  · have hz0 : z = 0 := by omega
    subst hz0
    have hlen := hr.len
    have hl0 : l = 0 := by rw [hlen]; simp [limbs_zero]
    subst hl0
    clear hr hlen hl
    go_enter Tryd.func9, Tryd.ntmps9
    go_wp2
    go_ret
    exact ⟨rfl, (Below.refl _ _).alloc (Nat.le_refl _) _⟩
  · refine (text_w a l cap _ _ w hr hz (by rw [hr.len]; exact hl)).mono ?_
    rintro e w' ⟨rfl, hB⟩
    refine ⟨?_, hB⟩
    unfold decZ
    rw [decN_pos hz]
    by_cases hn : z < 0
    · simp [hn]
    · simp [hn]
end Go.Proofs.YtahpgnkhophgpaaDoor

namespace Go.Proofs.YtahpgnkhophgpaaDoor
open Go.RowKit Go.Shelf

set_option maxHeartbeats 1000000 in
theorem itext_0 (a : Option Addr) (cap : Nat) (w : World) :
    Calls Tryd.prog 8 #[.agg #[.bool false, .slice a 0 cap]] w fun e w' => e = .returned (.string ⟨#[48]⟩) ∧ Below w.heap.size w w' := by
  have b0 := Box2.new w 25 (.bool false) (.slice a 0 cap)
  have k1 := b0.c1
  go_enter Tryd.func8, Tryd.ntmps8
  go_wp2
  go_ret
  exact ⟨rfl, (Below.refl _ w).alloc (Nat.le_refl _) _⟩

set_option maxHeartbeats 1000000 in
theorem itext_w (s : Bool) (a : Option Addr) (l cap : Nat) (T : ByteArray) (w : World) (hl : 0 < l) (hT : T.size ≤ 100000000000000)
    (HT : ∀ V, Below w.heap.size w V → Calls Tryd.prog 30 #[.slice a l cap] V fun e w' => e = .returned (.string T) ∧ Below V.heap.size V w') :
    Calls Tryd.prog 8 #[.agg #[.bool s, .slice a l cap]] w fun e w' => e = .returned (.string (if s then (⟨#[45]⟩ : ByteArray) ++ T else T)) ∧ Below w.heap.size w w' := by
  have b0 := Box2.new w 25 (.bool s) (.slice a l cap)
  have hB0 : Below w.heap.size w (w.alloc (.cells #[.bool s, .slice a l cap] 25)) := (Below.refl _ w).alloc (Nat.le_refl _) _
  have k0 := b0.c0
  have k1 := b0.c1
  have hl0 : ¬ l = 0 := by omega
  have HTH := hidD HT
  clear HT
  cases s
  all_goals
    go_enter Tryd.func8, Tryd.ntmps8
    go_wp2_with (go_at_call 30; refine (HTH.out _ hB0).mono ?_; rintro e w1 ⟨rfl, hb1⟩)
    go_ret
    exact ⟨by simp, Below.then hB0 hb1⟩

theorem decN_len (n : Nat) : (decN n).length ≤ 20 * (limbs B64 n).length + 1 := by
  unfold decN
  split
  · simp
  · rw [txt_length]
    have h1 : n < B64 ^ (limbs B64 n).length := by
      have := val_lt (dig_limbs two_le_B64 n)
      rwa [val_limbs two_le_B64] at this
    have h2 : B64 ^ (limbs B64 n).length ≤ 10 ^ (20 * (limbs B64 n).length) := by
      rw [Nat.pow_mul]
      exact Nat.pow_le_pow_left (by unfold B64; omega) _
    have := limbs_length_le (B := 10) (by omega) (Nat.lt_of_lt_of_le h1 h2)
    omega

theorem itext_c (v : Value) (z : Int) (w : World) (h : IsInt w v z) (htab : Lib.TabIs Tryd.prog w "internal/strconv.uint64pow10" .u64 Lib.pow10Tab) :
    Calls Tryd.prog 8 #[v] w fun e w' => e = .returned (.string ⟨(decZ z).toArray⟩) ∧ Below w.heap.size w w' := by
  obtain ⟨a, l, cap, rfl, hu⟩ := h
  have hl := hu.len
  by_cases h0 : z.natAbs = 0
  · have hz : z = 0 := by omega
    subst hz
    have hl0 : l = 0 := by rw [hl]; simp [limbs_zero]
    subst hl0
    exact itext_0 a cap w
  · have hlp : 0 < l := by rw [hl]; exact wlen_pos_iff.2 h0
    refine (itext_w _ a l cap ⟨(decN z.natAbs).toArray⟩ w hlp (by
      have h1 := decN_len z.natAbs
      have h2 := (row_fn hu).2.2.2.1
      show (decN z.natAbs).toArray.size ≤ _
      rw [List.size_toArray]; omega) (fun V hV => mtext_w a l cap z.natAbs V (Row.below hu hV) h0 (tab_below htab hV))).mono ?_
    rintro e w' ⟨rfl, hB⟩
    refine ⟨?_, hB⟩
    congr 2
    unfold decZ
    by_cases hz : z < 0
    · simp only [hz, decide_true, if_true]; exact ba_cons _ _
    · simp only [hz, decide_false, if_false, Bool.false_eq_true]
end Go.Proofs.YtahpgnkhophgpaaDoor

