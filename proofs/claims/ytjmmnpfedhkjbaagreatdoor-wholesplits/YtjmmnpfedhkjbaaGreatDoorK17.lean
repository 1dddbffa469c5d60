import Derived.Test.YtjmmnpfedhkjbaaGreatDoorK06
import Derived.Test.YtjmmnpfedhkjbaaGreatDoorK09
import Derived.Test.YtjmmnpfedhkjbaaGreatDoorK16
namespace Go.Proofs.YtjmmnpfedhkjbaaGreatDoor
open Go.RowKit Go.Shelf

attribute [local go_sem] Oper.semAt_some

/-- What the rounds of splitByWord know: the k highest words are divided. -/
def SpWAt (xs : List Nat) (len wd k rest : Nat) (q : List Nat) : Prop :=
  q.length = k ∧ Dig B64 q ∧ rest < wd ∧ val B64 q * wd + rest = val B64 ((xs.take len).drop (len - k))

theorem SpWAt.start {xs : List Nat} {len wd : Nat} (hw : 0 < wd) (hl : len ≤ xs.length) : SpWAt xs len wd 0 0 [] := by
  refine ⟨rfl, Dig.nil _, hw, ?_⟩
  rw [Nat.sub_zero, List.drop_eq_nil_of_le (by rw [List.length_take]; omega)]
  simp [val]

theorem SpWAt.step {xs : List Nat} {len wd k rest : Nat} {q : List Nat} (h : SpWAt xs len wd k rest q) (hk : k < len) (hl : len ≤ xs.length) (hx : xs[len - 1 - k]?.getD 0 < B64) (hw : 0 < wd) :
    SpWAt xs len wd (k + 1) ((rest * B64 + xs[len - 1 - k]?.getD 0) % wd) ((rest * B64 + xs[len - 1 - k]?.getD 0) / wd :: q) := by
  obtain ⟨h1, h2, h3, h4⟩ := h
  have hd : (xs.take len).drop (len - (k + 1)) = xs[len - 1 - k]?.getD 0 :: (xs.take len).drop (len - k) := by
    have hlen : len - 1 - k < (xs.take len).length := by rw [List.length_take]; omega
    rw [show len - (k + 1) = len - 1 - k from by omega, List.drop_eq_getElem_cons hlen, show len - 1 - k + 1 = len - k from by omega]
    congr 1
    rw [List.getElem?_eq_getElem (by omega), List.getElem_take]
    rfl
  have hq : (rest * B64 + xs[len - 1 - k]?.getD 0) / wd < B64 := by
    rw [Nat.div_lt_iff_lt_mul hw]
    have : (rest + 1) * B64 ≤ wd * B64 := Nat.mul_le_mul_right _ h3
    rw [Nat.add_mul, Nat.one_mul] at this
    rw [Nat.mul_comm B64 wd]
    omega
  refine ⟨by simp; omega, Dig.cons hq h2, Nat.mod_lt _ hw, ?_⟩
  rw [hd, val_cons, val_cons, ← h4]
  generalize xs[len - 1 - k]?.getD 0 = x
  have hm := Nat.div_add_mod (rest * B64 + x) wd
  rw [Nat.add_mul, Nat.mul_comm ((rest * B64 + x) / wd) wd, Nat.mul_assoc, Nat.mul_add, Nat.mul_comm B64 rest]
  omega

/-- The block's words while splitByWord goes on. -/
def spMid (xs : List Nat) (len k : Nat) (q : List Nat) : List Nat := xs.take (len - k) ++ (q ++ xs.drop len)

theorem spMid_zero (xs : List Nat) (len : Nat) : spMid xs len 0 [] = xs := by simp [spMid]
theorem spMid_length {xs : List Nat} {len k : Nat} {q : List Nat} (hq : q.length = k) (h : len ≤ xs.length) (hk : k ≤ len) : (spMid xs len k q).length = xs.length := by
  simp only [spMid, List.length_append, List.length_take, List.length_drop]; omega
theorem spMid_get {xs : List Nat} {len k : Nat} {q : List Nat} (h : len ≤ xs.length) (hk : k < len) : (spMid xs len k q)[len - 1 - k]?.getD 0 = xs[len - 1 - k]?.getD 0 := by
  rw [spMid, List.getElem?_append_left (by rw [List.length_take]; omega), List.getElem?_take_of_lt (by omega)]
theorem spMid_set {xs : List Nat} {len k : Nat} {q : List Nat} (h : len ≤ xs.length) (hk : k < len) (d : Nat) : (spMid xs len k q).set (len - 1 - k) d = spMid xs len (k + 1) (d :: q) := by
  have e : xs.take (len - k) = xs.take (len - 1 - k) ++ [xs[len - 1 - k]'(by omega)] := by
    rw [show len - k = len - 1 - k + 1 from by omega, List.take_succ_eq_append_getElem (by omega)]
  have el : (xs.take (len - 1 - k)).length = len - 1 - k := by rw [List.length_take]; omega
  rw [spMid, spMid, e, List.append_assoc, List.set_append_right _ _ (by omega), el, Nat.sub_self, show len - (k + 1) = len - 1 - k from by omega]
  simp

/-- What the rounds of splitByWord keep. -/
def SpI (w : World) (b : Nat) (len cap : Nat) (xs : List Nat) (wd : Nat) (k : Nat) (W : World) : Prop :=
  ((((Boxed W w.heap.size 27 (.slice (some ⟨b, 0, none⟩) len cap) ∧ Boxed W (w.heap.size + 1) 53 (.int .u64 (wd : Nat))) ∧ Boxed W (w.heap.size + 1 + 1 + 1) 27 (.slice (some ⟨b, 0, none⟩) len cap)) ∧ w.grownBy W (some b)) ∧
    ∃ rest q, Boxed W (w.heap.size + 1 + 1) 53 (.int .u64 (rest : Nat)) ∧ Arr W b (spMid xs len k q) ∧ SpWAt xs len wd k rest q)

theorem bcellD {W w1 : World} (hb : Below W.heap.size W w1) : (∀ b o, b < W.heap.size → w1.cell? ⟨b, o, none⟩ = W.cell? ⟨b, o, none⟩) ∧ (∀ b o, b < W.heap.size → w1.frozen? ⟨b, o, none⟩ = W.frozen? ⟨b, o, none⟩) :=
  ⟨fun b o h => hb.cell (p := ⟨b, o, none⟩) h, fun b o h => hb.frozen (p := ⟨b, o, none⟩) h⟩

theorem boxed_below {W W' : World} {B : Nat} {t : TypeId} {v : Value} (h : Boxed W B t v) (hb : Below W.heap.size W W') : Boxed W' B t v := (hb.block B h.lt).trans h

theorem ownFrom_grown {β : Type} {B b : Nat} {w : World} (hB : w.heap.size ≤ B) : OwnFrom B (fun (_ : β) W => w.grownBy W (some b)) := fun _ _ _ row hs hg hr =>
  ⟨hg.os.trans hs.os, hg.tape.trans hs.tape, hg.output.trans hs.output, Nat.le_trans hs.size hg.size, fun k hk hne => (hg.block k (Nat.lt_of_lt_of_le hk hs.size) (fun e => by have := (hr k e.symm).1; omega)).trans (hs.block k hk hne)⟩

theorem boxed_kept {B : Nat} {W W' : World} {row : Option Nat} {X : Nat} {t : TypeId} {v : Value} (h : Boxed W X t v) (hg : W.grownBy W' row) (hr : ∀ r, row = some r → B ≤ r ∧ ∃ o : Obj, W.heap[r]? = some o ∧ o.isCells = false) : Boxed W' X t v :=
  h.kept hg (fun e => by obtain ⟨_, o, ho, hc⟩ := hr X e.symm; rw [show W.heap[X]? = _ from h] at ho; cases ho; cases hc)

theorem arr_kept {B : Nat} {W W' : World} {row : Option Nat} {X : Nat} {xs : List Nat} (h : Arr W X xs) (hg : W.grownBy W' row) (hr : ∀ r, row = some r → B ≤ r ∧ ∃ o : Obj, W.heap[r]? = some o ∧ o.isCells = false) : Arr W' X xs :=
  h.kept hg (fun e => by obtain ⟨_, o, ho, hc⟩ := hr X e.symm; rw [h.other ho] at hc; cases hc)

theorem spI_own (w : World) (b len cap : Nat) (xs : List Nat) (wd : Nat) : OwnFrom (w.heap.size + 1 + 1 + 1 + 1) (SpI w b len cap xs wd) :=
  OwnFrom.and (OwnFrom.and (OwnFrom.and (OwnFrom.and (Own.from (boxed_own _ _ (fun _ => .slice (some ⟨b, 0, none⟩) len cap)) _) (Own.from (boxed_own _ _ (fun _ => .int .u64 (wd : Nat))) _)) (Own.from (boxed_own _ _ (fun _ => .slice (some ⟨b, 0, none⟩) len cap)) _)) (ownFrom_grown (by omega)))
    (fun _ _ _ _ hs hg hr => by obtain ⟨rest, q, h1, h2, h3⟩ := hs; exact ⟨rest, q, boxed_kept h1 hg hr, arr_kept h2 hg hr, h3⟩)


theorem keeps_below {W W' : World} (hb : Below W.heap.size W W') : KeepsOthers W W' := ⟨hb.size, fun k _ hk _ => (hb.block k (Array.getElem?_eq_some_iff.1 hk).1).trans hk⟩

/-- What the memory holds while a round of splitByWord's goes on: e: the word is stored, f: the rest is. -/
structure SpM (w0 W0 : World) (b len cap : Nat) (wd rest dr : Nat) (ol nw : List Nat) (e f : Bool) (W : World) : Prop where
  k : KeepsOthers W0 W
  c0 : Boxed W w0.heap.size 27 (.slice (some ⟨b, 0, none⟩) len cap)
  c1 : Boxed W (w0.heap.size + 1) 53 (.int .u64 (wd : Nat))
  c3 : Boxed W (w0.heap.size + 1 + 1 + 1) 27 (.slice (some ⟨b, 0, none⟩) len cap)
  c2 : Boxed W (w0.heap.size + 1 + 1) 53 (.int .u64 ((bif f then dr else rest : Nat)))
  m : Arr W b (bif e then nw else ol)
  g : w0.grownBy W (some b)

theorem SpM.below {w0 W0 : World} {b len cap wd rest dr : Nat} {ol nw : List Nat} {e f : Bool} {W W' : World} (h : SpM w0 W0 b len cap wd rest dr ol nw e f W) (hb : Below W.heap.size W W') : SpM w0 W0 b len cap wd rest dr ol nw e f W' :=
  ⟨h.k.trans (keeps_below hb), boxed_below h.c0 hb, boxed_below h.c1 hb, boxed_below h.c3 hb, boxed_below h.c2 hb, h.m.below hb, grown_trans h.g (grown_below hb _)⟩

theorem SpM.drew {w0 W0 : World} {b len cap wd rest dr : Nat} {ol nw : List Nat} {e f : Bool} {W : World} (h : SpM w0 W0 b len cap wd rest dr ol nw e f W) : SpM w0 W0 b len cap wd rest dr ol nw e f W.drew :=
  ⟨h.k.trans (KeepsOthers.drew W), h.c0, h.c1, h.c3, h.c2, h.m, ⟨h.g.os, h.g.tape, h.g.output, h.g.size, h.g.block⟩⟩

theorem SpM.word {w0 W0 : World} {b len cap wd rest dr : Nat} {ol nw : List Nat} {f : Bool} {W : World} (h : SpM w0 W0 b len cap wd rest dr ol nw false f W) (hb : b < w0.heap.size) {j v : Nat} (hn : ol.set j v = nw) :
    SpM w0 W0 b len cap wd rest dr ol nw true f (W.setCell ⟨b, j, none⟩ (.int .u64 (v : Nat))) :=
  have gs := grown_set W b j (.int .u64 (v : Nat))
  ⟨h.k.trans (KeepsOthers.setCell _ _ _), h.c0.kept gs (fun e => by injection e; omega), h.c1.kept gs (fun e => by injection e; omega), h.c3.kept gs (fun e => by injection e; omega), h.c2.kept gs (fun e => by injection e; omega), by have := h.m.set j v; rw [cond_false, hn] at this; exact this, grown_trans h.g gs⟩

theorem SpM.rest {w0 W0 : World} {b len cap wd rest dr : Nat} {ol nw : List Nat} {e : Bool} {W : World} (h : SpM w0 W0 b len cap wd rest dr ol nw e false W) (hb : b < w0.heap.size) :
    SpM w0 W0 b len cap wd rest dr ol nw e true (W.setCell ⟨w0.heap.size + 1 + 1, 0, none⟩ (.int .u64 (dr : Nat))) :=
  have gs := grownBy_setCell' W (w0.heap.size + 1 + 1) (.int .u64 (dr : Nat))
  ⟨h.k.trans (KeepsOthers.setCell _ _ _), h.c0.kept gs (fun e => by injection e; omega), h.c1.kept gs (fun e => by injection e; omega), h.c3.kept gs (fun e => by injection e; omega), h.c2.set _, h.m.kept gs (fun e => by injection e; omega),
    h.g.andThen gs (fun j hj => Or.inl (by cases hj; omega))⟩

/-- A round of splitByWord's, by what is done of it. -/
def SpR (w0 W0 : World) (b len cap : Nat) (wd rest x m dq dr : Nat) (ol nw : List Nat) (g : Nat) (D : Nat → Bool) (a : Act) (W : World) : Prop :=
  ∃ t12 t13 t14 t15 t16 t17 t18 t19 t20 t21 : Value,
    a = { tmps := #[.slice (some ⟨b, 0, none⟩) len cap, .int .u64 (wd : Nat), .pointer (some ⟨w0.heap.size, 0, none⟩), .pointer (some ⟨w0.heap.size + 1, 0, none⟩), .int .u64 0, .pointer (some ⟨w0.heap.size + 1 + 1, 0, none⟩), .int .i64 (m : Nat), .int .u64 (x : Nat), .slice (some ⟨b, 0, none⟩) len cap, .func (.func g) #[] #[.pointer (some ⟨w0.heap.size + 1 + 1 + 1, 0, none⟩)], .int .i64 (m : Nat), .int .u64 (x : Nat), t12, t13, t14, t15, t16, t17, t18, t19, t20, t21, undef], defers := [] } ∧
    (D 0 = true → t13 = .slice (some ⟨b, 0, none⟩) len cap) ∧ (D 1 = true → t14 = .int .i64 (m : Nat)) ∧ (D 2 = true → t15 = .int .u64 (rest : Nat)) ∧ (D 3 = true → t16 = .int .u64 (x : Nat)) ∧ (D 4 = true → t17 = .int .u64 (wd : Nat)) ∧
    (D 5 = true → t18 = .tuple #[.int .u64 (dq : Nat), .int .u64 (dr : Nat)]) ∧ (D 6 = true → t12 = .tuple #[.int .u64 (dq : Nat), .int .u64 (dr : Nat)]) ∧ (D 7 = true → t19 = .int .u64 (dq : Nat)) ∧ (D 8 = true → t20 = .int .u64 (dr : Nat)) ∧ (D 9 = true → t21 = .pointer (some ⟨b, m, none⟩)) ∧
    SpM w0 W0 b len cap wd rest dr ol nw (D 10) (D 11) W

set_option maxRecDepth 100000 in
set_option maxHeartbeats 8000000 in
theorem splitByWord_w (b len cap : Nat) (xs : List Nat) (wd : Nat) (w : World) (hA : Arr w b xs) (hx : Dig B64 xs) (hlen : len ≤ xs.length) (hlm : len ≤ 1099511627776) (hw0 : 0 < wd) (hw : wd < B64) :
    Calls Tryz.prog 46 #[.slice (some ⟨b, 0, none⟩) len cap, .int .u64 (wd : Nat)] w fun e w' => ∃ rest q, e = .returned (.int .u64 (rest : Nat)) ∧ SpWAt xs len wd len rest q ∧ Arr w' b (spMid xs len len q) ∧ w.grownBy w' (some b) := by
  have hbw := hA.lt
  refine (callsIn_wide (n := 3)).1 ?_
  refine callsIn_of_wp_marks Tryz.func46 rfl trivial ?_ rfl
  simp only [Tryz.ntmps46, List.size_toArray, List.length_cons, List.length_nil, Nat.reduceAdd, Nat.reduceSub, Array.replicate_succ, Array.replicate_zero, List.push_toArray, List.append_toArray, List.nil_append, List.cons_append]
  gi_wp2_with (refine ⟨trivial, ?_⟩; gi_at_call 50; refine (bwd_in Fence.wide _ trivial rfl _ _ _ _).mono ?_; rintro e w' ⟨rfl, rfl⟩)
  obtain ⟨W0, hW0⟩ : ∃ W0, (((w.alloc (.cells #[.slice (some ⟨b, 0, none⟩) len cap] 27)).alloc (.cells #[.int .u64 (wd : Nat)] 53)).alloc (.cells #[.int .u64 0] 53)).alloc (.cells #[.slice (some ⟨b, 0, none⟩) len cap] 27) = W0 := ⟨_, rfl⟩
  have b0 := (((Boxed.new w 27 (.slice (some ⟨b, 0, none⟩) len cap)).alloc (.cells #[.int .u64 (wd : Nat)] 53)).alloc (.cells #[.int .u64 0] 53)).alloc (.cells #[.slice (some ⟨b, 0, none⟩) len cap] 27)
  have b1 := ((Boxed.new (w.alloc (.cells #[.slice (some ⟨b, 0, none⟩) len cap] 27)) 53 (.int .u64 (wd : Nat))).alloc (.cells #[.int .u64 0] 53)).alloc (.cells #[.slice (some ⟨b, 0, none⟩) len cap] 27)
  have b2 := (Boxed.new ((w.alloc (.cells #[.slice (some ⟨b, 0, none⟩) len cap] 27)).alloc (.cells #[.int .u64 (wd : Nat)] 53)) 53 (.int .u64 0)).alloc (.cells #[.slice (some ⟨b, 0, none⟩) len cap] 27)
  have b3 := Boxed.new (((w.alloc (.cells #[.slice (some ⟨b, 0, none⟩) len cap] 27)).alloc (.cells #[.int .u64 (wd : Nat)] 53)).alloc (.cells #[.int .u64 0] 53)) 27 (.slice (some ⟨b, 0, none⟩) len cap)
  simp only [World.size_alloc] at b1 b2 b3
  have hN : W0.heap.size = w.heap.size + 1 + 1 + 1 + 1 := by rw [← hW0]; simp
  have hA0 : Arr W0 b xs := by rw [← hW0]; exact (((hA.alloc _).alloc _).alloc _).alloc _
  have hB0 : Below w.heap.size w W0 := by rw [← hW0]; exact ((((Below.refl _ w).alloc (Nat.le_refl _) _).alloc (by simp) _).alloc (by simp; omega) _).alloc (by simp; omega) _
  rw [hW0] at b0 b1 b2 b3 ⊢
  clear hW0
  refine wpIn_rangeN rfl (by omega) (gf := 70) (lb := #[.pointer (some ⟨w.heap.size + 1 + 1 + 1, 0, none⟩)]) rfl trivial (enters_of Tryz.func70 (by kernel_rfl) rfl)
    (bwd1_seq Fence.wide _ trivial rfl (by omega) (w.heap.size + 1 + 1 + 1) (some ⟨b, 0, none⟩) len cap (fun j => xs[j]?.getD 0) hlm) (fun _ => rfl)
    (SpI w b len cap xs wd) (fun _ _ _ => False) (by rw [hN]; exact spI_own w b len cap xs wd) (fun c _ _ _ _ h _ _ => h.elim)
    ⟨⟨⟨⟨b0, b1⟩, b3⟩, grown_below hB0 _⟩, 0, [], b2, by rw [spMid_zero]; exact hA0, SpWAt.start hw0 hlen⟩ ?rd
    (fun k => { tmps := #[.slice (some ⟨b, 0, none⟩) len cap, .int .u64 (wd : Nat), .pointer (some ⟨w.heap.size, 0, none⟩), .pointer (some ⟨w.heap.size + 1, 0, none⟩), .int .u64 0, .pointer (some ⟨w.heap.size + 1 + 1, 0, none⟩), .int .i64 ((len : Int) - 1 - k), .int .u64 (xs[len - 1 - k]?.getD 0 : Nat), .slice (some ⟨b, 0, none⟩) len cap, .func (.func 70) #[] #[.pointer (some ⟨w.heap.size + 1 + 1 + 1, 0, none⟩)], .int .i64 ((len : Int) - 1 - k), .int .u64 (xs[len - 1 - k]?.getD 0 : Nat), undef, undef, undef, undef, undef, undef, undef, undef, undef, undef, undef], defers := [] }) ?assign ?body ?done ?stop
  case rd =>
    rintro k W ⟨⟨⟨_, c3⟩, _⟩, rest, q, _, hM, hS⟩
    refine ⟨c3.cell, fun hk => ⟨b, 0, rfl, ?_⟩⟩
    show W.cell? _ = some (.int .u64 (xs[len - 1 - k]?.getD 0 : Nat))
    rw [← spMid_get (q := q) hlen hk, Nat.zero_add]
    exact hM.cell (by rw [spMid_length hS.1 hlen (by omega)]; omega)
  case assign =>
    intro l k W K hK
    unfold bwdArgs
    gi_wp2
    exact hK
  case body =>
    rintro l k W ⟨⟨⟨⟨c0, c1⟩, c3⟩, hg⟩, rest, q, c2, hM, hS⟩ hk hsz
    have HS2 := hS.step hk hlen (hx.getD (by unfold B64; omega) _) hw0
    have hrw := hS.2.2.1
    have hxx : xs[len - 1 - k]?.getD 0 < B64 := hx.getD (by unfold B64; omega) _
    have e1 : ((len : Int) - 1 - k) = ((len - 1 - k : Nat) : Int) := by omega
    have hm : len - 1 - k < len := by omega
    rw [e1]
    have hmx : Tryz.prog.follows .mixedOrders = true := by kernel_rfl
    have hdv := fun (V : World) (n : Nat) => CallsIn.inRound l ((callsIn_wide (n := n)).2 (div64_c rest (xs[len - 1 - k]?.getD 0) wd hrw hxx hw V))
    obtain ⟨dq, hdq⟩ : ∃ dq, dq = (rest * B64 + xs[len - 1 - k]?.getD 0) / wd := ⟨_, rfl⟩
    obtain ⟨dr, hdr⟩ : ∃ dr, dr = (rest * B64 + xs[len - 1 - k]?.getD 0) % wd := ⟨_, rfl⟩
    rw [← hdq, ← hdr] at hdv HS2
    clear hdq hdr
    have HM2 := spMid_set (q := q) hlen hk dq
    have hml : len - 1 - k < (spMid xs len k q).length := by rw [spMid_length hS.1 hlen (by omega)]; omega
    have hfin : ∀ W', SpM w W b len cap wd rest dr (spMid xs len k q) (spMid xs len (k + 1) (dq :: q)) true true W' → KeepsFrom W0.heap.size W W' ∧ SpI w b len cap xs wd (k + 1) W' := fun W' h =>
      ⟨h.k.from _, ⟨⟨⟨h.c0, h.c1⟩, h.c3⟩, h.g⟩, dr, dq :: q, h.c2, h.m, HS2⟩
    have hst : SpM w W b len cap wd rest dr (spMid xs len k q) (spMid xs len (k + 1) (dq :: q)) false false W := ⟨KeepsOthers.refl _, c0, c1, c3, c2, hM, hg⟩
    obtain ⟨x, hxe⟩ : ∃ x, x = xs[len - 1 - k]?.getD 0 := ⟨_, rfl⟩
    obtain ⟨m, hme⟩ : ∃ m, m = len - 1 - k := ⟨_, rfl⟩
    rw [← hxe] at hdv ⊢
    rw [← hme] at hm HM2 hml ⊢
    clear hxe hme e1 hxx HS2
    generalize spMid xs len (k + 1) (dq :: q) = nw at HM2 hfin hst
    generalize spMid xs len k q = ol at HM2 hml hfin hst
    clear c0 c1 c3 c2 hM hg b0 b1 b2 b3 hA hx hA0 hB0 hS hw0 hsz hk hrw
    gi_wp2_with fail
    refine wpIn_region_tab hmx [[], [], [], [], [], [2, 3, 4], [5], [6], [6], [0, 1, 0, 1, 2, 3, 4, 5, 6, 7], [9, 7, 5, 0, 1, 2, 3, 4, 5, 6, 7], [8, 10, 0, 1, 2, 3, 4, 5, 6, 7, 8, 9, 10]] (by kernel_rfl) (by decide)
      (SpR w W b len cap wd rest x m dq dr ol nw 70) ⟨undef, undef, undef, undef, undef, undef, undef, undef, undef, undef, rfl, by simp, by simp, by simp, by simp, by simp, by simp, by simp, by simp, by simp, by simp, hst.drew⟩ ?step ?fin
    case fin =>
      rintro D a V hD ⟨t12, t13, t14, t15, t16, t17, t18, t19, t20, t21, rfl, -, -, -, -, -, -, -, -, -, -, hV⟩
      rw [hD 10 (by decide), hD 11 (by decide)] at hV
      exact hfin V hV
    case step =>
      rintro D a V i ds hcl hi hds hDi ⟨t12, t13, t14, t15, t16, t17, t18, t19, t20, t21, rfl, h0, h1, h2, h3, h4, h5, h6, h7, h8, h9, hV⟩
      have hi12 : i < 12 := (List.getElem?_eq_some_iff.1 hi).1
      obtain rfl | rfl | rfl | rfl | rfl | rfl | rfl | rfl | rfl | rfl | rfl | rfl : i = 0 ∨ i = 1 ∨ i = 2 ∨ i = 3 ∨ i = 4 ∨ i = 5 ∨ i = 6 ∨ i = 7 ∨ i = 8 ∨ i = 9 ∨ i = 10 ∨ i = 11 := by omega
      all_goals
        simp only [List.getElem?_cons_zero, List.getElem?_cons_succ, Option.some.injEq] at hi
        subst hi
      · have d := hV.c0.cell
        refine wpOpIn_step rfl (fun K hK => ?_)
        go_simp
        exact hK _ _ ⟨_, _, _, _, _, _, _, _, _, _, rfl, fun _ => rfl, (by first | exact h1 | exact fun _ => rfl), (by first | exact h2 | exact fun _ => rfl), (by first | exact h3 | exact fun _ => rfl), (by first | exact h4 | exact fun _ => rfl), (by first | exact h5 | exact fun _ => rfl), (by first | exact h6 | exact fun _ => rfl), (by first | exact h7 | exact fun _ => rfl), (by first | exact h8 | exact fun _ => rfl), (by first | exact h9 | exact fun _ => rfl), hV⟩
      · refine wpOpIn_step rfl (fun K hK => ?_)
        go_simp
        exact hK _ _ ⟨_, _, _, _, _, _, _, _, _, _, rfl, (by first | exact h0 | exact fun _ => rfl), fun _ => rfl, (by first | exact h2 | exact fun _ => rfl), (by first | exact h3 | exact fun _ => rfl), (by first | exact h4 | exact fun _ => rfl), (by first | exact h5 | exact fun _ => rfl), (by first | exact h6 | exact fun _ => rfl), (by first | exact h7 | exact fun _ => rfl), (by first | exact h8 | exact fun _ => rfl), (by first | exact h9 | exact fun _ => rfl), hV⟩
      · have hf : D 11 = false := by
          cases h : D 11 with
          | false => rfl
          | true => rw [hcl 11 _ rfl h 2 (by simp)] at hDi; cases hDi
        have d := hV.c2.cell
        rw [hf, cond_false] at d
        refine wpOpIn_step rfl (fun K hK => ?_)
        go_simp
        exact hK _ _ ⟨_, _, _, _, _, _, _, _, _, _, rfl, (by first | exact h0 | exact fun _ => rfl), (by first | exact h1 | exact fun _ => rfl), fun _ => rfl, (by first | exact h3 | exact fun _ => rfl), (by first | exact h4 | exact fun _ => rfl), (by first | exact h5 | exact fun _ => rfl), (by first | exact h6 | exact fun _ => rfl), (by first | exact h7 | exact fun _ => rfl), (by first | exact h8 | exact fun _ => rfl), (by first | exact h9 | exact fun _ => rfl), hV⟩
      · refine wpOpIn_step rfl (fun K hK => ?_)
        go_simp
        exact hK _ _ ⟨_, _, _, _, _, _, _, _, _, _, rfl, (by first | exact h0 | exact fun _ => rfl), (by first | exact h1 | exact fun _ => rfl), (by first | exact h2 | exact fun _ => rfl), fun _ => rfl, (by first | exact h4 | exact fun _ => rfl), (by first | exact h5 | exact fun _ => rfl), (by first | exact h6 | exact fun _ => rfl), (by first | exact h7 | exact fun _ => rfl), (by first | exact h8 | exact fun _ => rfl), (by first | exact h9 | exact fun _ => rfl), hV⟩
      · have d := hV.c1.cell
        refine wpOpIn_step rfl (fun K hK => ?_)
        go_simp
        exact hK _ _ ⟨_, _, _, _, _, _, _, _, _, _, rfl, (by first | exact h0 | exact fun _ => rfl), (by first | exact h1 | exact fun _ => rfl), (by first | exact h2 | exact fun _ => rfl), (by first | exact h3 | exact fun _ => rfl), fun _ => rfl, (by first | exact h5 | exact fun _ => rfl), (by first | exact h6 | exact fun _ => rfl), (by first | exact h7 | exact fun _ => rfl), (by first | exact h8 | exact fun _ => rfl), (by first | exact h9 | exact fun _ => rfl), hV⟩
      · obtain rfl := h2 (hds 2 (by simp))
        obtain rfl := h3 (hds 3 (by simp))
        obtain rfl := h4 (hds 4 (by simp))
        refine wpOpIn_step rfl (fun K hK => ?_)
        go_simp
        gi_wp2_with (refine ⟨trivial, ?_⟩; gi_at_call 68; refine (hdv _ _).mono ?_; rintro e w' ⟨rfl, hb1⟩)
        exact ⟨_, _, _, _, _, _, _, _, _, _, rfl, (by first | exact h0 | exact fun _ => rfl), (by first | exact h1 | exact fun _ => rfl), (by first | exact h2 | exact fun _ => rfl), (by first | exact h3 | exact fun _ => rfl), (by first | exact h4 | exact fun _ => rfl), fun _ => rfl, (by first | exact h6 | exact fun _ => rfl), (by first | exact h7 | exact fun _ => rfl), (by first | exact h8 | exact fun _ => rfl), (by first | exact h9 | exact fun _ => rfl), (hV.below hb1)⟩
      · obtain rfl := h5 (hds 5 (by simp))
        refine wpOpIn_step rfl (fun K hK => ?_)
        go_simp
        exact hK _ _ ⟨_, _, _, _, _, _, _, _, _, _, rfl, (by first | exact h0 | exact fun _ => rfl), (by first | exact h1 | exact fun _ => rfl), (by first | exact h2 | exact fun _ => rfl), (by first | exact h3 | exact fun _ => rfl), (by first | exact h4 | exact fun _ => rfl), (by first | exact h5 | exact fun _ => rfl), fun _ => rfl, (by first | exact h7 | exact fun _ => rfl), (by first | exact h8 | exact fun _ => rfl), (by first | exact h9 | exact fun _ => rfl), hV⟩
      · obtain rfl := h6 (hds 6 (by simp))
        refine wpOpIn_step rfl (fun K hK => ?_)
        go_simp
        exact hK _ _ ⟨_, _, _, _, _, _, _, _, _, _, rfl, (by first | exact h0 | exact fun _ => rfl), (by first | exact h1 | exact fun _ => rfl), (by first | exact h2 | exact fun _ => rfl), (by first | exact h3 | exact fun _ => rfl), (by first | exact h4 | exact fun _ => rfl), (by first | exact h5 | exact fun _ => rfl), (by first | exact h6 | exact fun _ => rfl), fun _ => rfl, (by first | exact h8 | exact fun _ => rfl), (by first | exact h9 | exact fun _ => rfl), hV⟩
      · obtain rfl := h6 (hds 6 (by simp))
        refine wpOpIn_step rfl (fun K hK => ?_)
        go_simp
        exact hK _ _ ⟨_, _, _, _, _, _, _, _, _, _, rfl, (by first | exact h0 | exact fun _ => rfl), (by first | exact h1 | exact fun _ => rfl), (by first | exact h2 | exact fun _ => rfl), (by first | exact h3 | exact fun _ => rfl), (by first | exact h4 | exact fun _ => rfl), (by first | exact h5 | exact fun _ => rfl), (by first | exact h6 | exact fun _ => rfl), (by first | exact h7 | exact fun _ => rfl), fun _ => rfl, (by first | exact h9 | exact fun _ => rfl), hV⟩
      · obtain rfl := h0 (hds 0 (by simp))
        obtain rfl := h1 (hds 1 (by simp))
        refine wpOpIn_step rfl (fun K hK => ?_)
        go_simp
        exact hK _ _ ⟨_, _, _, _, _, _, _, _, _, _, rfl, (by first | exact h0 | exact fun _ => rfl), (by first | exact h1 | exact fun _ => rfl), (by first | exact h2 | exact fun _ => rfl), (by first | exact h3 | exact fun _ => rfl), (by first | exact h4 | exact fun _ => rfl), (by first | exact h5 | exact fun _ => rfl), (by first | exact h6 | exact fun _ => rfl), (by first | exact h7 | exact fun _ => rfl), (by first | exact h8 | exact fun _ => rfl), fun _ => rfl, hV⟩
      · obtain rfl := h7 (hds 7 (by simp))
        obtain rfl := h9 (hds 9 (by simp))
        rw [hDi] at hV
        have d := hV.m.cell hml
        have f := hV.m.frozen m
        refine wpOpIn_step rfl (fun K hK => ?_)
        go_simp
        exact hK _ _ ⟨_, _, _, _, _, _, _, _, _, _, rfl, (by first | exact h0 | exact fun _ => rfl), (by first | exact h1 | exact fun _ => rfl), (by first | exact h2 | exact fun _ => rfl), (by first | exact h3 | exact fun _ => rfl), (by first | exact h4 | exact fun _ => rfl), (by first | exact h5 | exact fun _ => rfl), (by first | exact h6 | exact fun _ => rfl), (by first | exact h7 | exact fun _ => rfl), (by first | exact h8 | exact fun _ => rfl), (by first | exact h9 | exact fun _ => rfl), (hV.word hbw HM2)⟩
      · obtain rfl := h8 (hds 8 (by simp))
        rw [hDi] at hV
        have d := hV.c2.cell
        have f := hV.c2.frozen
        refine wpOpIn_step rfl (fun K hK => ?_)
        go_simp
        exact hK _ _ ⟨_, _, _, _, _, _, _, _, _, _, rfl, (by first | exact h0 | exact fun _ => rfl), (by first | exact h1 | exact fun _ => rfl), (by first | exact h2 | exact fun _ => rfl), (by first | exact h3 | exact fun _ => rfl), (by first | exact h4 | exact fun _ => rfl), (by first | exact h5 | exact fun _ => rfl), (by first | exact h6 | exact fun _ => rfl), (by first | exact h7 | exact fun _ => rfl), (by first | exact h8 | exact fun _ => rfl), (by first | exact h9 | exact fun _ => rfl), (hV.rest hbw)⟩
  case done =>
    rintro D W hD ⟨⟨⟨⟨c0, c1⟩, c3⟩, hg⟩, rest, q, c2, hM, hS⟩ hK
    have d2 := c2.cell
    have HS := hidD hS
    clear hS b0 b1 b2 b3 hA hx hA0 hB0
    gi_wp2
    refine ⟨by simp, .inl ⟨_, _, rfl, run_takeDeferred hK, ?_⟩⟩
    refine ⟨.int .u64 (rest : Nat), by simp [results, Tryz.results46, go_sem], rest, q, rfl, HS.out, ?_, ?_⟩
    · exact hM.kept (grownBy_putObj' _ D (.deferred none)) (fun e => by cases e; have := hM.other hK; cases this)
    · exact hg.andThen (grownBy_putObj' W D (.deferred none)) (fun j hj => by cases hj; exact Or.inl (by omega))
  case stop =>
    rintro D c k W _ _ h _
    exact h.elim
end Go.Proofs.YtjmmnpfedhkjbaaGreatDoor
namespace Go.Proofs.YtjmmnpfedhkjbaaGreatDoor
open Go.RowKit Go.Shelf

theorem up_set {q : List Nat} {i m c d c' : Nat} (hq : q.length = i) : ((q ++ (c :: List.replicate (m + 1) 0)).set i d).set (i + 1) c' = (q ++ [d]) ++ (c' :: List.replicate m 0) := by
  rw [List.set_append_right _ _ (by omega), hq, Nat.sub_self, List.set_cons_zero, List.set_append_right _ _ (by omega), hq, show i + 1 - i = 1 from by omega, List.set_cons_succ, List.replicate_succ, List.set_cons_zero]
  simp

theorem shl_int (x s : Nat) : IntKind.u64.wrap ((x : Int) * 2 ^ s) = ((shl x s : Nat) : Int) := by
  rw [show ((2 : Int) ^ s) = ((2 ^ s : Nat) : Int) from by simp, Mul64.mulN, Mul64.wrapM]
  rfl

theorem shr_int (x s : Nat) : (x : Int) / 2 ^ s = ((shr x s : Nat) : Int) := by
  rw [show ((2 : Int) ^ s) = ((2 ^ s : Nat) : Int) from by simp, ← Int.natCast_ediv]
  rfl

theorem or_int {x y : Nat} (hx : x < B64) (hy : y < B64) : bits .or .u64 (x : Int) (y : Int) = ((x ||| y : Nat) : Int) := u64_or_nat _ _ (by unfold B64 at hx; omega) (by unfold B64 at hy; omega)

set_option maxRecDepth 100000 in
set_option maxHeartbeats 2000000 in
theorem up_w (a : Option Addr) (la ca : Nat) (us : List Nat) (s : Nat) (w : World) (hs : s ≤ 63) (ra : Row .u64 w (.slice a la ca) us) (xu : Dig B64 us) (hla : la < 1099511627776) :
    Calls Tryz.prog 49 #[.slice a la ca, .int .u64 (s : Nat)] w fun e w' => ∃ g Z, e = .returned (.slice (some ⟨g, 0, none⟩) (la + 1) (la + 1)) ∧ (Z.length = la + 1 ∧ Dig B64 Z ∧ val B64 Z = val B64 us * 2 ^ s) ∧ Arr w' g Z ∧ w.heap.size ≤ g ∧ Below w.heap.size w w' := by
  obtain ⟨hl, hc, hm, hk, hf⟩ := row_fn ra
  have hmk := make_row1 la (by omega) w
  obtain ⟨W1, hW1⟩ : ∃ W1, W1 = w.alloc (.cells (cellsOf .u64 (List.replicate (la + 1) 0)).toArray 53) := ⟨_, rfl⟩
  have hB1 : Below w.heap.size w W1 := by rw [hW1]; exact (Below.refl _ w).alloc (Nat.le_refl _) _
  have hA1 : Arr W1 w.heap.size (List.replicate (la + 1) 0) := by rw [hW1]; exact Arr.made (World.alloc_heap_new w _)
  rw [← hW1] at hmk
  have HL := hidD hl
  have HF := hidD hf
  clear hW1 hf hl ra
  go_enter Tryz.func49, Tryz.ntmps49
  go_wp2
  go_loopw [14] (fun iv wr => ∃ (i c : Nat) (q : List Nat), iv = .int .i64 i ∧ i ≤ la ∧ Hid (UpAt us s i q c) ∧ Arr wr w.heap.size (q ++ (c :: List.replicate (la - i) 0)) ∧ W1.grownBy wr (some w.heap.size))
    (fun iv _ => la - (intOf iv).toNat)
  case atStart => exact ⟨0, 0, [], rfl, Nat.zero_le _, UpAt.start _ _, by rw [List.nil_append, Nat.sub_zero, ← List.replicate_succ]; exact hA1, grown_refl _ _⟩
  case round =>
    obtain ⟨i, c, q, rfl, hi, HP, hM, hg⟩ := hrel
    by_cases hlt : i < la
    · obtain ⟨b, off, rfl, hbb, hcl⟩ := HF.out i hlt
      have hq := HP.out.1
      have hcb : wr.cell? ⟨b, off + i, none⟩ = some (.int .u64 (us[i]?.getD 0 : Nat)) := (World.cell?_of_block (w := w) ((hg.block b (by have := hB1.size; omega) (fun e => by cases e; omega)).trans (hB1.block b hbb))).trans hcl
      have hxb := xu.getD (by unfold B64; omega) i
      obtain ⟨m, hm2⟩ : ∃ m, la - i = m + 1 := ⟨la - i - 1, by omega⟩
      rw [hm2] at hM
      have hcz : wr.cell? ⟨w.heap.size, i, none⟩ = some (.int .u64 (c : Nat)) := by
        have := hM.cell (j := i) (by rw [List.length_append, List.length_cons, List.length_replicate]; omega)
        rw [this, List.getElem?_append_right (by omega), hq, Nat.sub_self]; rfl
      have hcz1 : wr.cell? ⟨w.heap.size, i + 1, none⟩ = some (.int .u64 0) := by
        have := hM.cell (j := i + 1) (by rw [List.length_append, List.length_cons, List.length_replicate]; omega)
        rw [this, List.getElem?_append_right (by omega), hq, show i + 1 - i = 1 from by omega]; rfl
      have hf0 := hM.frozen i
      have hf1 := hM.frozen (i + 1)
      obtain ⟨s1, s2, s3, s4⟩ := up_step hs hxb HP.out.2.2.1
      have HS := hidD (HP.out.step s2 s3 s4)
      have HSET := hidD (fun d c' => up_set (q := q) (i := i) (m := m) (c := c) (d := d) (c' := c') hq)
      have HM2 := hidD hm2
      have hcB : c < B64 := by
        have h1 := HP.out.2.2.1
        have h2 : 2 ^ s ≤ 2 ^ 64 := Nat.pow_le_pow_right (by omega) (by omega)
        rw [B64_pow]; omega
      have e3 := or_int hcB (show shl (us[i]?.getD 0) s < B64 by unfold shl; exact Nat.mod_lt _ (by unfold B64; omega))
      rw [s1] at e3
      have e1 := shl_int (us[i]?.getD 0) s
      have e2 := shr_int (us[i]?.getD 0) (64 - s)
      clear hcl hq s1 s2 s3 s4 hm2 hcB
      generalize us[i]?.getD 0 = x at *
      go_wp2_with fail
      refine ⟨⟨i + 1, _, _, by simp, by omega, HS, ?_, grown_trans hg (grown_trans (grown_set _ _ _ _) (grown_set _ _ _ _))⟩, by simp [intOf]; omega⟩
      rw [show la - (i + 1) = m from by have := HM2.out; omega, ← HSET.out]
      exact (hM.set _ _).set _ _
    · obtain rfl : i = la := by omega
      rw [Nat.sub_self, List.replicate_zero] at hM
      have HFIN := hidD HP.out
      go_wp2
      go_ret
      refine ⟨w.heap.size, q ++ [c], rfl, ⟨?_, ?_, ?_⟩, hM, Nat.le_refl _, below_grown hB1 hg (Nat.le_refl _)⟩
      · rw [List.length_append, HFIN.out.1]; rfl
      · refine HFIN.out.2.1.append (Dig.cons ?_ (Dig.nil _))
        have h1 := HFIN.out.2.2.1
        have h2 : 2 ^ s ≤ 2 ^ 64 := Nat.pow_le_pow_right (by omega) (by omega)
        rw [B64_pow]; omega
      · rw [val_snoc, HFIN.out.1, HFIN.out.2.2.2, List.take_of_length_le (by rw [← HL.out]; exact Nat.le_refl _)]
end Go.Proofs.YtjmmnpfedhkjbaaGreatDoor
namespace Go.Proofs.YtjmmnpfedhkjbaaGreatDoor
open Go.RowKit Go.Shelf

attribute [local go_sem] Oper.semAt_some

/-- What the rounds of down know: the k highest words are shifted. -/
def DnAt (us : List Nat) (la s k over : Nat) (q : List Nat) : Prop :=
  q.length = k ∧ Dig B64 q ∧ val B64 q = val B64 (us.drop (la - k)) / 2 ^ s ∧ over = shl (val B64 (us.drop (la - k)) % 2 ^ s) (64 - s)

theorem DnAt.start {us : List Nat} {la s : Nat} (h : la = us.length) : DnAt us la s 0 0 [] := by
  refine ⟨rfl, Dig.nil _, ?_, ?_⟩
  · rw [Nat.sub_zero, List.drop_eq_nil_of_le (by omega)]
    simp [val]
  · rw [Nat.sub_zero, List.drop_eq_nil_of_le (by omega)]
    simp [val, shl]

theorem DnAt.step {us q : List Nat} {la s k over : Nat} (h : DnAt us la s k over q) (hl : la = us.length) (hk : k < la) (hs : s ≤ 63) (hx : us[la - 1 - k]?.getD 0 < B64) :
    over ||| shr (us[la - 1 - k]?.getD 0) s = over + shr (us[la - 1 - k]?.getD 0) s ∧ over < B64 ∧ DnAt us la s (k + 1) (shl (us[la - 1 - k]?.getD 0) (64 - s)) ((over + shr (us[la - 1 - k]?.getD 0) s) :: q) := by
  obtain ⟨h1, h2, h3, h4⟩ := h
  have hd := val_drop_step B64 us (la - 1 - k) (by omega)
  rw [show la - 1 - k + 1 = la - k from by omega] at hd
  obtain ⟨s1, s2, s3, s4⟩ := down_step (P := val B64 (us.drop (la - k))) hs hx
  rw [← h4] at s1 s2 s4
  refine ⟨s1, by omega, by simp; omega, Dig.cons s2 h2, ?_, ?_⟩
  · rw [show la - (k + 1) = la - 1 - k from by omega, hd, s4, val_cons, h3]
  · rw [show la - (k + 1) = la - 1 - k from by omega, hd]
    exact s3

theorem own_below_u {β : Type} {B : Nat} {w : World} (hB : w.heap.size ≤ B) : OwnFrom B (fun (_ : β) W => Below w.heap.size w W) := fun _ _ _ row hs hg hr =>
  ⟨hg.os.trans hs.os, hg.tape.trans hs.tape, hg.output.trans hs.output, Nat.le_trans hs.size hg.size, fun k hk => (hg.block k (Nat.lt_of_lt_of_le hk hs.size) (fun e => by have := (hr k e.symm).1; omega)).trans (hs.block k hk)⟩

/-- A row stays where a list of deferred calls is taken. -/
theorem row_putD {W : World} {D : Nat} {a : Option Addr} {l c : Nat} {ds : List Nat} (h : Row .u64 W (.slice a l c) ds) (hK : W.heap[D]? = some (.deferred (some []))) : Row .u64 (W.putObj D (.deferred none)) (.slice a l c) ds :=
  Row.grown h (grownBy_putObj' W D (.deferred none)) (fun p e h0 hp => by
    obtain ⟨b, off, e2, hlt, hc⟩ := (row_fn h).2.2.2.2 0 h0
    rw [e2] at e
    cases e
    simp only at hp
    subst hp
    simp [World.cell?, hK] at hc)

/-- What the rounds of down keep. -/
def DnI (w : World) (a : Option Addr) (la ca : Nat) (us : List Nat) (s : Nat) (k : Nat) (W : World) : Prop :=
  ((((Boxed W w.heap.size 71 (.int .u64 (s : Nat)) ∧ Boxed W (w.heap.size + 1 + 1) 27 (.slice (some ⟨w.heap.size + 1, 0, none⟩) la la)) ∧ Boxed W (w.heap.size + 1 + 1 + 1 + 1) 27 (.slice a la ca)) ∧ Below w.heap.size w W) ∧
    ∃ over q, Boxed W (w.heap.size + 1 + 1 + 1) 53 (.int .u64 (over : Nat)) ∧ Arr W (w.heap.size + 1) (List.replicate (la - k) 0 ++ q) ∧ DnAt us la s k over q)

theorem dnI_own (w : World) (a : Option Addr) (la ca : Nat) (us : List Nat) (s : Nat) : OwnFrom (w.heap.size + 1 + 1 + 1 + 1 + 1) (DnI w a la ca us s) :=
  OwnFrom.and (OwnFrom.and (OwnFrom.and (OwnFrom.and (Own.from (boxed_own _ _ (fun _ => .int .u64 (s : Nat))) _) (Own.from (boxed_own _ _ (fun _ => .slice (some ⟨w.heap.size + 1, 0, none⟩) la la)) _)) (Own.from (boxed_own _ _ (fun _ => .slice a la ca)) _)) (own_below_u (by omega)))
    (fun _ _ _ _ hs hg hr => by obtain ⟨over, q, h1, h2, h3⟩ := hs; exact ⟨over, q, boxed_kept h1 hg hr, arr_kept h2 hg hr, h3⟩)

theorem dn_set {q : List Nat} {m d : Nat} : (List.replicate (m + 1) 0 ++ q).set m d = List.replicate m 0 ++ (d :: q) := by
  rw [List.replicate_succ', List.append_assoc, List.set_append_right _ _ (by rw [List.length_replicate]; omega), List.length_replicate, Nat.sub_self]
  simp

set_option maxRecDepth 100000 in
set_option maxHeartbeats 8000000 in
theorem down_w (a : Option Addr) (la ca : Nat) (us : List Nat) (s : Nat) (w : World) (hs : s ≤ 63) (ra : Row .u64 w (.slice a la ca) us) (xu : Dig B64 us) :
    Calls Tryz.prog 52 #[.slice a la ca, .int .u64 (s : Nat)] w fun e w' => ∃ u, e = .returned u ∧ UN w' u (val B64 us / 2 ^ s) ∧ Below w.heap.size w w' := by
  obtain ⟨hl, hc, hm, hk, hf⟩ := row_fn ra
  have hmk := make_row la (by omega) (w.alloc (.cells #[.int .u64 (s : Nat)] 71))
  simp only [World.size_alloc] at hmk
  have HL := hidD hl
  have HF := hidD hf
  have HR := hidD ra
  clear hl hf ra
  refine (callsIn_wide (n := 3)).1 ?_
  refine callsIn_of_wp_marks Tryz.func52 rfl trivial ?_ rfl
  simp only [Tryz.ntmps52, List.size_toArray, List.length_cons, List.length_nil, Nat.reduceAdd, Nat.reduceSub, Array.replicate_succ, Array.replicate_zero, List.push_toArray, List.append_toArray, List.nil_append, List.cons_append]
  gi_wp2_with (refine ⟨trivial, ?_⟩; gi_at_call 50; refine (bwd_in Fence.wide _ trivial rfl _ _ _ _).mono ?_; rintro e w' ⟨rfl, rfl⟩)
  obtain ⟨W0, hW0⟩ : ∃ W0, ((((w.alloc (.cells #[.int .u64 (s : Nat)] 71)).alloc (.cells (cellsOf .u64 (List.replicate la 0)).toArray 53)).alloc (.cells #[.slice (some ⟨w.heap.size + 1, 0, none⟩) la la] 27)).alloc (.cells #[.int .u64 0] 53)).alloc (.cells #[.slice a la ca] 27) = W0 := ⟨_, rfl⟩
  have b0 := ((((Boxed.new w 71 (.int .u64 (s : Nat))).alloc (.cells (cellsOf .u64 (List.replicate la 0)).toArray 53)).alloc (.cells #[.slice (some ⟨w.heap.size + 1, 0, none⟩) la la] 27)).alloc (.cells #[.int .u64 0] 53)).alloc (.cells #[.slice a la ca] 27)
  have hA1 : Arr ((w.alloc (.cells #[.int .u64 (s : Nat)] 71)).alloc (.cells (cellsOf .u64 (List.replicate la 0)).toArray 53)) (w.alloc (.cells #[.int .u64 (s : Nat)] 71)).heap.size (List.replicate la 0) := Arr.made (World.alloc_heap_new _ _)
  have hA0 := ((hA1.alloc (.cells #[.slice (some ⟨w.heap.size + 1, 0, none⟩) la la] 27)).alloc (.cells #[.int .u64 0] 53)).alloc (.cells #[.slice a la ca] 27)
  have b2 := ((Boxed.new ((w.alloc (.cells #[.int .u64 (s : Nat)] 71)).alloc (.cells (cellsOf .u64 (List.replicate la 0)).toArray 53)) 27 (.slice (some ⟨w.heap.size + 1, 0, none⟩) la la)).alloc (.cells #[.int .u64 0] 53)).alloc (.cells #[.slice a la ca] 27)
  have b3 := (Boxed.new (((w.alloc (.cells #[.int .u64 (s : Nat)] 71)).alloc (.cells (cellsOf .u64 (List.replicate la 0)).toArray 53)).alloc (.cells #[.slice (some ⟨w.heap.size + 1, 0, none⟩) la la] 27)) 53 (.int .u64 0)).alloc (.cells #[.slice a la ca] 27)
  have b4 := Boxed.new ((((w.alloc (.cells #[.int .u64 (s : Nat)] 71)).alloc (.cells (cellsOf .u64 (List.replicate la 0)).toArray 53)).alloc (.cells #[.slice (some ⟨w.heap.size + 1, 0, none⟩) la la] 27)).alloc (.cells #[.int .u64 0] 53)) 27 (.slice a la ca)
  simp only [World.size_alloc] at b2 b3 b4 hA0
  have hN : W0.heap.size = w.heap.size + 1 + 1 + 1 + 1 + 1 := by rw [← hW0]; simp
  have hB0 : Below w.heap.size w W0 := by rw [← hW0]; exact (((((Below.refl _ w).alloc (Nat.le_refl _) _).alloc (by simp) _).alloc (by simp; omega) _).alloc (by simp; omega) _).alloc (by simp; omega) _
  rw [hW0] at b0 b2 b3 b4 hA0 ⊢
  clear hW0 hA1 hmk
  refine wpIn_rangeN rfl (by omega) (gf := 70) (lb := #[.pointer (some ⟨w.heap.size + 1 + 1 + 1 + 1, 0, none⟩)]) rfl trivial (enters_of Tryz.func70 (by kernel_rfl) rfl)
    (bwd1_seq Fence.wide _ trivial rfl (by omega) (w.heap.size + 1 + 1 + 1 + 1) a la ca (fun j => us[j]?.getD 0) hk) (fun _ => rfl)
    (DnI w a la ca us s) (fun _ _ _ => False) (by rw [hN]; exact dnI_own w a la ca us s) (fun c _ _ _ _ h _ _ => h.elim)
    ⟨⟨⟨⟨b0, b2⟩, b4⟩, hB0⟩, 0, [], b3, by rw [Nat.sub_zero, List.append_nil]; exact hA0, DnAt.start HL.out⟩ ?rd
    (fun k => { tmps := #[.slice a la ca, .int .u64 (s : Nat), undef, .pointer (some ⟨w.heap.size, 0, none⟩), .slice none 0 0, .pointer (some ⟨w.heap.size + 1 + 1, 0, none⟩), .pointer (some ⟨w.heap.size + 1 + 1 + 1, 0, none⟩), .int .i64 ((la : Int) - 1 - k), .int .u64 (us[la - 1 - k]?.getD 0 : Nat), .slice a la ca, .int .i64 (la : Nat), .slice (some ⟨w.heap.size + 1, 0, none⟩) la la, .slice a la ca, .func (.func 70) #[] #[.pointer (some ⟨w.heap.size + 1 + 1 + 1 + 1, 0, none⟩)], .int .i64 ((la : Int) - 1 - k), .int .u64 (us[la - 1 - k]?.getD 0 : Nat), undef, undef, undef, undef, undef, undef, undef, undef, undef, undef, undef, undef, undef, undef], defers := [] }) ?assign ?body ?done ?stop
  case rd =>
    rintro k W ⟨⟨⟨_, c4⟩, hBW⟩, over, q, _, _, _⟩
    refine ⟨c4.cell, fun hk => ?_⟩
    obtain ⟨b, off, e, hlt, hcl⟩ := HF.out (la - 1 - k) (by omega)
    exact ⟨b, off, e, (hBW.cell (p := ⟨b, off + (la - 1 - k), none⟩) hlt).trans hcl⟩
  case assign =>
    intro l k W K hK
    unfold bwdArgs
    gi_wp2
    exact hK
  case body =>
    rintro l k W ⟨⟨⟨⟨c0, c2⟩, c4⟩, hBW⟩, over, q, c3, hM, hS⟩ hkl hsz
    have hxx : us[la - 1 - k]?.getD 0 < B64 := xu.getD (by unfold B64; omega) _
    obtain ⟨s1, s2, s3⟩ := hS.step HL.out hkl hs hxx
    have HS3 := hidD s3
    have e1 : ((la : Int) - 1 - k) = ((la - 1 - k : Nat) : Int) := by omega
    have hml : la - 1 - k < la := by omega
    rw [e1]
    have hk1 : la - k = la - 1 - k + 1 := by omega
    rw [hk1] at hM
    have HK2 := hidD (show la - (k + 1) = la - 1 - k by omega)
    have HLEN := hidD (show List.replicate (la - 1 - k + 1) 0 ++ q = List.replicate (la - 1 - k + 1) 0 ++ q ∧ q.length = k from ⟨rfl, hS.1⟩)
    clear s3 hS e1 hk1
    generalize us[la - 1 - k]?.getD 0 = x at *
    generalize la - 1 - k = m at *
    have hcz : W.cell? ⟨w.heap.size + 1, m, none⟩ = some (.int .u64 0) := by
      have := hM.cell (j := m) (by rw [List.length_append, List.length_replicate]; omega)
      rw [this, List.getElem?_append_left (by rw [List.length_replicate]; omega), List.getElem?_replicate_of_lt (by omega)]; rfl
    have hfz := hM.frozen m
    have d0 := c0.cell
    have d2 := c2.cell
    have d3 := c3.cell
    have f3 := c3.frozen
    have o1 := shr_int x s
    have o2 := or_int s2 (show shr x s < B64 from Nat.lt_of_le_of_lt (Nat.div_le_self _ _) hxx)
    rw [s1] at o2
    have o3 := shl_int x (64 - s)
    have hne : ¬ (w.heap.size + 1 = w.heap.size + 1 + 1 + 1) := by omega
    have hne2 : ¬ (w.heap.size + 1 = w.heap.size) := by omega
    have hne3 : ¬ (w.heap.size = w.heap.size + 1) := by omega
    have hne4 : ¬ (w.heap.size + 1 + 1 + 1 = w.heap.size + 1) := by omega
    clear s1 b0 b2 b3 b4 hA0 hB0
    gi_wp2
    have hcast : ((over : Int) + ((shr x s : Nat) : Int)) = ((over + shr x s : Nat) : Int) := by omega
    rw [hcast]
    have gs1 := grown_set W (w.heap.size + 1) m (.int .u64 ((over + shr x s : Nat) : Int))
    have gs2 := grownBy_setCell' (W.setCell ⟨w.heap.size + 1, m, none⟩ (.int .u64 ((over + shr x s : Nat) : Int))) (w.heap.size + 1 + 1 + 1) (.int .u64 ((shl x (64 - s) : Nat) : Int))
    refine ⟨((KeepsOthers.setCell _ _ _).trans (KeepsOthers.setCell _ _ _)).from _, ⟨⟨⟨?_, ?_⟩, ?_⟩, ?_⟩, _, _, (c3.kept gs1 (fun e => by injection e; omega)).set _, ?_, HS3.out⟩
    · exact (c0.kept gs1 (fun e => by injection e; omega)).kept gs2 (fun e => by injection e; omega)
    · exact (c2.kept gs1 (fun e => by injection e; omega)).kept gs2 (fun e => by injection e; omega)
    · exact (c4.kept gs1 (fun e => by injection e; omega)).kept gs2 (fun e => by injection e; omega)
    · exact (hBW.setCell (p := ⟨w.heap.size + 1, m, none⟩) (by simp only; omega) _).setCell (p := ⟨w.heap.size + 1 + 1 + 1, 0, none⟩) (by simp only; omega) _
    · rw [HK2.out, ← dn_set]
      exact (hM.set m _).kept gs2 (fun e => by injection e; omega)
  case done =>
    rintro D W hD ⟨⟨⟨⟨c0, c2⟩, c4⟩, hBW⟩, over, q, c3, hM, hS⟩ hK
    have d2 := c2.cell
    rw [Nat.sub_self, List.replicate_zero, List.nil_append] at hM
    have hql := hS.1
    have hrow : Row .u64 W (.slice (some ⟨w.heap.size + 1, 0, none⟩) la la) q := by
      have h1 := hM.row 0 la la (by omega) (Nat.le_refl _) (by omega) hk
      rwa [List.drop_zero, List.take_of_length_le (by omega)] at h1
    have HV := hidD (show trimL q = limbs B64 (val B64 us / 2 ^ s) by
      rw [← limbs_val two_le_B64 hS.2.1, hS.2.2.1, Nat.sub_self, List.drop_zero])
    have hT := fun n => (callsIn_wide (n := n)).2 (trimmed_c _ q _ hrow)
    rw [HV.out] at hT
    have HT := hidD hT
    clear hS b0 b2 b3 b4 hA0 hB0 hM hT hrow c0 c2 c3 c4
    gi_wp2_with (refine ⟨trivial, ?_⟩; gi_at_call 47; refine (HT.out _).mono ?_; rintro e w5 ⟨u, rfl, hu, hb5⟩; obtain ⟨ua, uc, rfl⟩ := UN.form hu)
    have hDlt := (Array.getElem?_eq_some_iff.1 hK).1
    have hK5 : w5.heap[D]? = some (.deferred (some [])) := (hb5.block D hDlt).trans hK
    refine ⟨by simp, .inl ⟨_, _, rfl, run_takeDeferred hK5, ?_⟩⟩
    refine ⟨.slice ua (limbs B64 (val B64 us / 2 ^ s)).length uc, by simp [results, Tryz.results52, go_sem], _, rfl, row_putD hu hK5, ?_⟩
    exact below_grown (hBW.trans (hb5.mono hBW.size)) (grownBy_putObj' _ D (.deferred none)) (by omega)
  case stop =>
    rintro D c k W _ _ h _
    exact h.elim
end Go.Proofs.YtjmmnpfedhkjbaaGreatDoor
namespace Go.Proofs.YtjmmnpfedhkjbaaGreatDoor
open Go.RowKit Go.Shelf

set_option maxRecDepth 100000 in
set_option maxHeartbeats 2000000 in
theorem msplit_a (a : Option Addr) (la ca : Nat) (b : Option Addr) (lb cb m n : Nat) (w : World) (ra : Row .u64 w (.slice a la ca) (limbs B64 m)) (rb : Row .u64 w (.slice b lb cb) (limbs B64 n)) (h : la < lb) :
    Calls Tryz.prog 25 #[.slice a la ca, .slice b lb cb] w fun e w' => ∃ u v, e = .returned (.tuple #[u, v]) ∧ UN w' u (m / n) ∧ UN w' v (m % n) ∧ Below w.heap.size w w' := by
  have hl1 := (row_fn ra).1
  have hl2 := (row_fn rb).1
  have hmn : m < n := limbs_lt_length two_le_B64 (by omega)
  have HD := hidD (Nat.div_eq_of_lt hmn)
  have HM := hidD (Nat.mod_eq_of_lt hmn)
  have hbx := (Boxed.new w 27 (.slice b lb cb)).cell
  have HC := hidD (clone_un a la ca _ (w.alloc (.cells #[.slice b lb cb] 27)) (Row.below ra ((Below.refl _ w).alloc (Nat.le_refl _) _)))
  clear ra rb hl1 hl2 hmn
  refine (callsIn_wide (n := 3)).1 ?_
  refine callsIn_of_wp_marks Tryz.func25 rfl trivial ?_ rfl
  simp only [Tryz.ntmps25, List.size_toArray, List.length_cons, List.length_nil, Nat.reduceAdd, Nat.reduceSub, Array.replicate_succ, Array.replicate_zero, List.push_toArray, List.append_toArray, List.nil_append, List.cons_append]
  refine wpIn_wide.2 ?_
  go_wp2_with (go_at_call 45; refine HC.out.mono ?_; rintro e w1 ⟨za, zc, rfl, hz, hb1⟩)
  refine ⟨.tuple #[.slice none 0 0, .slice za la zc], by simp [results, Tryz.results25, go_sem], _, _, rfl, ?_, ?_, ?_⟩
  · rw [HD.out]; unfold UN; rw [limbs_zero]; exact Row.nil _ _
  · rw [HM.out]; exact hz
  · exact ((Below.refl _ w).alloc (Nat.le_refl _) _).trans (hb1.mono (by simp))

theorem limbs_single {n : Nat} (h : (limbs B64 n).length = 1) : limbs B64 n = [n] ∧ 0 < n ∧ n < B64 := by
  have hn : n ≠ 0 := fun e => by rw [e, limbs_zero] at h; cases h
  have h1 := limbs_pos two_le_B64 hn
  rw [h1, List.length_cons] at h
  have h2 : limbs B64 (n / B64) = [] := List.eq_nil_of_length_eq_zero (by omega)
  have h3 := (limbs_eq_nil two_le_B64).1 h2
  have h4 : n < B64 := by
    rcases Nat.lt_or_ge n B64 with h | h
    · exact h
    · have := Nat.div_pos h (by unfold B64; omega); omega
  exact ⟨by rw [h1, h2, Nat.mod_eq_of_lt h4], by omega, h4⟩

theorem limbs_word {x : Nat} (h : x < B64) : limbs B64 x = trimL [x] := by
  have := limbs_val (B := B64) two_le_B64 (ds := [x]) (Dig.cons h (Dig.nil _))
  rw [val_cons, val_nil, Nat.mul_zero, Nat.add_zero] at this
  exact this

theorem SpWAt.fin {us q : List Nat} {la n m rest : Nat} (h : SpWAt us la n la rest q) (hl : la = us.length) (hu : us = limbs B64 m) : trimL q = limbs B64 (m / n) ∧ rest = m % n := by
  obtain ⟨h1, h2, h3, h4⟩ := h
  rw [Nat.sub_self, List.drop_zero, List.take_of_length_le (by omega), hu, val_limbs two_le_B64, Nat.mul_comm, Nat.add_comm] at h4
  rw [← limbs_val two_le_B64 h2, ← h4]
  exact ⟨by rw [Nat.add_mul_div_left _ _ (by omega), Nat.div_eq_of_lt h3, Nat.zero_add], by rw [Nat.add_mul_mod_self_left, Nat.mod_eq_of_lt h3]⟩

set_option maxRecDepth 100000 in
set_option maxHeartbeats 2000000 in
theorem msplit_b (a : Option Addr) (la ca : Nat) (b : Option Addr) (cb m n : Nat) (w : World) (ra : Row .u64 w (.slice a la ca) (limbs B64 m)) (rb : Row .u64 w (.slice b 1 cb) (limbs B64 n)) (h : 1 ≤ la) :
    Calls Tryz.prog 25 #[.slice a la ca, .slice b 1 cb] w fun e w' => ∃ u v, e = .returned (.tuple #[u, v]) ∧ UN w' u (m / n) ∧ UN w' v (m % n) ∧ Below w.heap.size w w' := by
  obtain ⟨hl1, hc1, hm1, hk1, hf1⟩ := row_fn ra
  obtain ⟨hl2, hc2, hm2, hk2, hf2⟩ := row_fn rb
  obtain ⟨hn1, hn2, hn3⟩ := limbs_single hl2.symm
  obtain ⟨bb, bo, rfl, hbb, kb⟩ := hf2 0 (by omega)
  rw [hn1] at kb
  have kb : w.cell? ⟨bb, bo, none⟩ = some (.int .u64 (n : Nat)) := kb
  have hB0 : Below w.heap.size w (w.alloc (.cells #[.slice (some ⟨bb, bo, none⟩) 1 cb] 27)) := (Below.refl _ w).alloc (Nat.le_refl _) _
  have hbx := Boxed.new w 27 (.slice (some ⟨bb, bo, none⟩) 1 cb)
  have HC := hidD (clone_arr a la ca _ _ (Row.below ra hB0) (by omega))
  obtain ⟨W0, hW0⟩ : ∃ W0, w.alloc (.cells #[.slice (some ⟨bb, bo, none⟩) 1 cb] 27) = W0 := ⟨_, rfl⟩
  have hN0 : W0.heap.size = w.heap.size + 1 := by rw [← hW0]; simp
  have hbc := hbx.cell
  have hkb0 : W0.cell? ⟨bb, bo, none⟩ = some (.int .u64 (n : Nat)) := by rw [← hW0]; exact (hB0.cell (p := ⟨bb, bo, none⟩) hbb).trans kb
  rw [hW0] at HC hB0 hbx hbc
  have HW0 := hidD hW0
  have HL1 := hidD hl1
  have HXD := hidD (dig_limbs two_le_B64 m)
  clear ra rb hl1 hl2 hf1 hf2 hW0 hn1 kb
  refine (callsIn_wide (n := 3)).1 ?_
  refine callsIn_of_wp_marks Tryz.func25 rfl trivial ?_ rfl
  simp only [Tryz.ntmps25, List.size_toArray, List.length_cons, List.length_nil, Nat.reduceAdd, Nat.reduceSub, Array.replicate_succ, Array.replicate_zero, List.push_toArray, List.append_toArray, List.nil_append, List.cons_append]
  refine wpIn_wide.2 ?_
  go_upto_region 1 with fail
  rw [HW0.out]
  go_upto_region 5 with (go_at_call 45; refine HC.out.mono ?_; rintro e w1 ⟨g, zc, rfl, hA1, hg1, ⟨hz1, hz2⟩, hb1⟩)
  have hbx1 := boxed_below hbx hb1
  have hbc1 := hbx1.cell
  have hkb1 := (hb1.cell (p := ⟨bb, bo, none⟩) (show bb < W0.heap.size by omega)).trans hkb0
  have HSP := hidD (splitByWord_w g la zc (limbs B64 m) n w1 hA1 HXD.out (by rw [← HL1.out]; exact Nat.le_refl _) hk1 hn2 hn3)
  have hB1 : Below w.heap.size w w1 := hB0.trans (hb1.mono hB0.size)
  clear hA1
  go_upto_region 6 with (go_at_call 46; refine HSP.out.mono ?_; rintro e w2 ⟨rest, q, rfl, hq, hA2, hg2⟩)
  obtain ⟨hf1, hf2⟩ := hq.fin HL1.out rfl
  have HF1 := hidD hf1
  have hq1 := hq.1
  have hrB : rest < B64 := by have := hq.2.2.1; omega
  have HRW := hidD (show trimL [rest] = limbs B64 (m % n) by rw [← hf2]; exact (limbs_word hrB).symm)
  have hrow : Row .u64 w2 (.slice (some ⟨g, 0, none⟩) la zc) q := by
    have h1 := hA2.row 0 la zc (by rw [spMid_length hq1 (by rw [← HL1.out]; exact Nat.le_refl _) (Nat.le_refl _), ← HL1.out]; omega) hz1 hz2 hk1
    have e1 : ((spMid (limbs B64 m) la la q).drop 0).take la = q := by
      rw [List.drop_zero, spMid, Nat.sub_self, List.take_zero, List.nil_append, List.take_append_of_le_length (by omega), List.take_of_length_le (by omega)]
    rwa [e1] at h1
  have HT1 := hidD (trimmed_c _ q _ hrow)
  have HT2 := hidD (fun (V : World) => trimmed_c (.slice (some ⟨V.heap.size, 0, none⟩) 1 1) [rest] (V.alloc (.cells #[.int .u64 (rest : Nat)] 53)) (by
    have h1 := (Arr.made (xs := [rest]) (World.alloc_heap_new V (.cells #[.int .u64 (rest : Nat)] 53))).row 0 1 1 (by simp) (by omega) (by omega) (by omega)
    exact h1))
  have hB2 : Below w.heap.size w w2 := below_grown hB1 hg2 (by omega)
  clear hq hf1 hf2 hA2 hg2 hrow hbx hbx1 HSP HC hb1 kb hbc hkb0
  go_wp2_with (first
    | (go_at_call 47; refine HT1.out.mono ?_; clear HT1; rintro e w3 ⟨u, rfl, hu, hb3⟩; rw [HF1.out] at hu; obtain ⟨ua, uc, rfl⟩ := UN.form hu)
    | (go_at_call 47; refine (HT2.out _).mono ?_; clear HT2; rintro e w4 ⟨v, rfl, hv, hb4⟩; rw [HRW.out] at hv; obtain ⟨va, vc, rfl⟩ := UN.form hv))
  have hb34 : Below w3.heap.size w3 w4 := ((Below.refl _ w3).alloc (Nat.le_refl _) _).trans (hb4.mono (by simp))
  refine ⟨.tuple #[.slice ua (limbs B64 (m / n)).length uc, .slice va (limbs B64 (m % n)).length vc], by simp [results, Tryz.results25, go_sem], _, _, rfl, ?_, hv, ?_⟩
  · exact UN.below hu hb34
  · exact (hB2.trans (hb3.mono hB2.size)).trans (hb34.mono (hB2.trans (hb3.mono hB2.size)).size)
end Go.Proofs.YtjmmnpfedhkjbaaGreatDoor
