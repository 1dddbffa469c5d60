import Derived.Test.YtjmmnpfedhkjbaaDoorK06
import Derived.Test.YtjmmnpfedhkjbaaDoorK09
namespace Go.Proofs.YtjmmnpfedhkjbaaDoor
open Go.RowKit Go.Shelf

attribute [local go_sem] Oper.semAt_some

/-- What the rounds of splitByWord know: the k highest words are divided. -/
def SpWAt (xs : List Nat) (len wd k rest : Nat) (q : List Nat) : Prop :=
  q.length = k ∧ Dig B64 q ∧ rest < wd ∧ val B64 q * wd + rest = val B64 ((xs.take len).drop (len - k))

theorem SpWAt.start {xs : List Nat} {len wd : Nat} (hw : 0 < wd) (hl : len ≤ xs.length) : SpWAt xs len wd 0 0 [] := by
  refine ⟨rfl, Dig.nil _, hw, ?_⟩
  rw [Nat.sub_zero, List.drop_eq_nil_of_le (by rw [List.length_take]; omega)]
  simp [val]

theorem SpWAt.step {xs : List Nat} {len wd k rest : Nat} {q : List Nat} (h : SpWAt xs len wd k rest q) (hk : k < len) (hl : len ≤ xs.length) (hx : xs[len - 1 - k]?.getD 0 < B64) (hw : 0 < wd) :
    SpWAt xs len wd (k + 1) ((rest * B64 + xs[len - 1 - k]?.getD 0) % wd) ((rest * B64 + xs[len - 1 - k]?.getD 0) / wd :: q) := by
  obtain ⟨h1, h2, h3, h4⟩ := h
  have hd : (xs.take len).drop (len - (k + 1)) = xs[len - 1 - k]?.getD 0 :: (xs.take len).drop (len - k) := by
    have hlen : len - 1 - k < (xs.take len).length := by rw [List.length_take]; omega
    rw [show len - (k + 1) = len - 1 - k from by omega, List.drop_eq_getElem_cons hlen, show len - 1 - k + 1 = len - k from by omega]
    congr 1
    rw [List.getElem?_eq_getElem (by omega), List.getElem_take]
    rfl
  have hq : (rest * B64 + xs[len - 1 - k]?.getD 0) / wd < B64 := by
    rw [Nat.div_lt_iff_lt_mul hw]
    have : (rest + 1) * B64 ≤ wd * B64 := Nat.mul_le_mul_right _ h3
    rw [Nat.add_mul, Nat.one_mul] at this
    rw [Nat.mul_comm B64 wd]
    omega
  refine ⟨by simp; omega, Dig.cons hq h2, Nat.mod_lt _ hw, ?_⟩
  rw [hd, val_cons, val_cons, ← h4]
  generalize xs[len - 1 - k]?.getD 0 = x
  have hm := Nat.div_add_mod (rest * B64 + x) wd
  rw [Nat.add_mul, Nat.mul_comm ((rest * B64 + x) / wd) wd, Nat.mul_assoc, Nat.mul_add, Nat.mul_comm B64 rest]
  omega

/-- The block's words while splitByWord goes on. -/
def spMid (xs : List Nat) (len k : Nat) (q : List Nat) : List Nat := xs.take (len - k) ++ (q ++ xs.drop len)

theorem spMid_zero (xs : List Nat) (len : Nat) : spMid xs len 0 [] = xs := by simp [spMid]
theorem spMid_length {xs : List Nat} {len k : Nat} {q : List Nat} (hq : q.length = k) (h : len ≤ xs.length) (hk : k ≤ len) : (spMid xs len k q).length = xs.length := by
  simp only [spMid, List.length_append, List.length_take, List.length_drop]; omega
theorem spMid_get {xs : List Nat} {len k : Nat} {q : List Nat} (h : len ≤ xs.length) (hk : k < len) : (spMid xs len k q)[len - 1 - k]?.getD 0 = xs[len - 1 - k]?.getD 0 := by
  rw [spMid, List.getElem?_append_left (by rw [List.length_take]; omega), List.getElem?_take_of_lt (by omega)]
theorem spMid_set {xs : List Nat} {len k : Nat} {q : List Nat} (h : len ≤ xs.length) (hk : k < len) (d : Nat) : (spMid xs len k q).set (len - 1 - k) d = spMid xs len (k + 1) (d :: q) := by
  have e : xs.take (len - k) = xs.take (len - 1 - k) ++ [xs[len - 1 - k]'(by omega)] := by
    rw [show len - k = len - 1 - k + 1 from by omega, List.take_succ_eq_append_getElem (by omega)]
  have el : (xs.take (len - 1 - k)).length = len - 1 - k := by rw [List.length_take]; omega
  rw [spMid, spMid, e, List.append_assoc, List.set_append_right _ _ (by omega), el, Nat.sub_self, show len - (k + 1) = len - 1 - k from by omega]
  simp

/-- What the rounds of splitByWord keep. -/
def SpI (w : World) (b : Nat) (len cap : Nat) (xs : List Nat) (wd : Nat) (k : Nat) (W : World) : Prop :=
  ((((Boxed W w.heap.size 23 (.slice (some ⟨b, 0, none⟩) len cap) ∧ Boxed W (w.heap.size + 1) 56 (.int .u64 (wd : Nat))) ∧ Boxed W (w.heap.size + 1 + 1 + 1) 23 (.slice (some ⟨b, 0, none⟩) len cap)) ∧ w.grownBy W (some b)) ∧
    ∃ rest q, Boxed W (w.heap.size + 1 + 1) 56 (.int .u64 (rest : Nat)) ∧ Arr W b (spMid xs len k q) ∧ SpWAt xs len wd k rest q)

theorem bcellD {W w1 : World} (hb : Below W.heap.size W w1) : (∀ b o, b < W.heap.size → w1.cell? ⟨b, o, none⟩ = W.cell? ⟨b, o, none⟩) ∧ (∀ b o, b < W.heap.size → w1.frozen? ⟨b, o, none⟩ = W.frozen? ⟨b, o, none⟩) :=
  ⟨fun b o h => hb.cell (p := ⟨b, o, none⟩) h, fun b o h => hb.frozen (p := ⟨b, o, none⟩) h⟩

theorem boxed_below {W W' : World} {B : Nat} {t : TypeId} {v : Value} (h : Boxed W B t v) (hb : Below W.heap.size W W') : Boxed W' B t v := (hb.block B h.lt).trans h

theorem ownFrom_grown {β : Type} {B b : Nat} {w : World} (hB : w.heap.size ≤ B) : OwnFrom B (fun (_ : β) W => w.grownBy W (some b)) := fun _ _ _ row hs hg hr =>
  ⟨hg.os.trans hs.os, hg.tape.trans hs.tape, hg.output.trans hs.output, Nat.le_trans hs.size hg.size, fun k hk hne => (hg.block k (Nat.lt_of_lt_of_le hk hs.size) (fun e => by have := (hr k e.symm).1; omega)).trans (hs.block k hk hne)⟩

theorem boxed_kept {B : Nat} {W W' : World} {row : Option Nat} {X : Nat} {t : TypeId} {v : Value} (h : Boxed W X t v) (hg : W.grownBy W' row) (hr : ∀ r, row = some r → B ≤ r ∧ ∃ o : Obj, W.heap[r]? = some o ∧ o.isCells = false) : Boxed W' X t v :=
  h.kept hg (fun e => by obtain ⟨_, o, ho, hc⟩ := hr X e.symm; rw [show W.heap[X]? = _ from h] at ho; cases ho; cases hc)

theorem arr_kept {B : Nat} {W W' : World} {row : Option Nat} {X : Nat} {xs : List Nat} (h : Arr W X xs) (hg : W.grownBy W' row) (hr : ∀ r, row = some r → B ≤ r ∧ ∃ o : Obj, W.heap[r]? = some o ∧ o.isCells = false) : Arr W' X xs :=
  h.kept hg (fun e => by obtain ⟨_, o, ho, hc⟩ := hr X e.symm; rw [h.other ho] at hc; cases hc)

theorem spI_own (w : World) (b len cap : Nat) (xs : List Nat) (wd : Nat) : OwnFrom (w.heap.size + 1 + 1 + 1 + 1) (SpI w b len cap xs wd) :=
  OwnFrom.and (OwnFrom.and (OwnFrom.and (OwnFrom.and (Own.from (boxed_own _ _ (fun _ => .slice (some ⟨b, 0, none⟩) len cap)) _) (Own.from (boxed_own _ _ (fun _ => .int .u64 (wd : Nat))) _)) (Own.from (boxed_own _ _ (fun _ => .slice (some ⟨b, 0, none⟩) len cap)) _)) (ownFrom_grown (by omega)))
    (fun _ _ _ _ hs hg hr => by obtain ⟨rest, q, h1, h2, h3⟩ := hs; exact ⟨rest, q, boxed_kept h1 hg hr, arr_kept h2 hg hr, h3⟩)


theorem keeps_below {W W' : World} (hb : Below W.heap.size W W') : KeepsOthers W W' := ⟨hb.size, fun k _ hk _ => (hb.block k (Array.getElem?_eq_some_iff.1 hk).1).trans hk⟩

/-- What the memory holds while a round of splitByWord's goes on: e: the word is stored, f: the rest is. -/
structure SpM (w0 W0 : World) (b len cap : Nat) (wd rest dr : Nat) (ol nw : List Nat) (e f : Bool) (W : World) : Prop where
  k : KeepsOthers W0 W
  c0 : Boxed W w0.heap.size 23 (.slice (some ⟨b, 0, none⟩) len cap)
  c1 : Boxed W (w0.heap.size + 1) 56 (.int .u64 (wd : Nat))
  c3 : Boxed W (w0.heap.size + 1 + 1 + 1) 23 (.slice (some ⟨b, 0, none⟩) len cap)
  c2 : Boxed W (w0.heap.size + 1 + 1) 56 (.int .u64 ((bif f then dr else rest : Nat)))
  m : Arr W b (bif e then nw else ol)
  g : w0.grownBy W (some b)

theorem SpM.below {w0 W0 : World} {b len cap wd rest dr : Nat} {ol nw : List Nat} {e f : Bool} {W W' : World} (h : SpM w0 W0 b len cap wd rest dr ol nw e f W) (hb : Below W.heap.size W W') : SpM w0 W0 b len cap wd rest dr ol nw e f W' :=
  ⟨h.k.trans (keeps_below hb), boxed_below h.c0 hb, boxed_below h.c1 hb, boxed_below h.c3 hb, boxed_below h.c2 hb, h.m.below hb, grown_trans h.g (grown_below hb _)⟩

theorem SpM.drew {w0 W0 : World} {b len cap wd rest dr : Nat} {ol nw : List Nat} {e f : Bool} {W : World} (h : SpM w0 W0 b len cap wd rest dr ol nw e f W) : SpM w0 W0 b len cap wd rest dr ol nw e f W.drew :=
  ⟨h.k.trans (KeepsOthers.drew W), h.c0, h.c1, h.c3, h.c2, h.m, ⟨h.g.os, h.g.tape, h.g.output, h.g.size, h.g.block⟩⟩

theorem SpM.word {w0 W0 : World} {b len cap wd rest dr : Nat} {ol nw : List Nat} {f : Bool} {W : World} (h : SpM w0 W0 b len cap wd rest dr ol nw false f W) (hb : b < w0.heap.size) {j v : Nat} (hn : ol.set j v = nw) :
    SpM w0 W0 b len cap wd rest dr ol nw true f (W.setCell ⟨b, j, none⟩ (.int .u64 (v : Nat))) :=
  have gs := grown_set W b j (.int .u64 (v : Nat))
  ⟨h.k.trans (KeepsOthers.setCell _ _ _), h.c0.kept gs (fun e => by injection e; omega), h.c1.kept gs (fun e => by injection e; omega), h.c3.kept gs (fun e => by injection e; omega), h.c2.kept gs (fun e => by injection e; omega), by have := h.m.set j v; rw [cond_false, hn] at this; exact this, grown_trans h.g gs⟩

theorem SpM.rest {w0 W0 : World} {b len cap wd rest dr : Nat} {ol nw : List Nat} {e : Bool} {W : World} (h : SpM w0 W0 b len cap wd rest dr ol nw e false W) (hb : b < w0.heap.size) :
    SpM w0 W0 b len cap wd rest dr ol nw e true (W.setCell ⟨w0.heap.size + 1 + 1, 0, none⟩ (.int .u64 (dr : Nat))) :=
  have gs := grownBy_setCell' W (w0.heap.size + 1 + 1) (.int .u64 (dr : Nat))
  ⟨h.k.trans (KeepsOthers.setCell _ _ _), h.c0.kept gs (fun e => by injection e; omega), h.c1.kept gs (fun e => by injection e; omega), h.c3.kept gs (fun e => by injection e; omega), h.c2.set _, h.m.kept gs (fun e => by injection e; omega),
    h.g.andThen gs (fun j hj => Or.inl (by cases hj; omega))⟩

/-- A round of splitByWord's, by what is done of it. -/
def SpR (w0 W0 : World) (b len cap : Nat) (wd rest x m dq dr : Nat) (ol nw : List Nat) (g : Nat) (D : Nat → Bool) (a : Act) (W : World) : Prop :=
  ∃ t12 t13 t14 t15 t16 t17 t18 t19 t20 t21 : Value,
    a = { tmps := #[.slice (some ⟨b, 0, none⟩) len cap, .int .u64 (wd : Nat), .pointer (some ⟨w0.heap.size, 0, none⟩), .pointer (some ⟨w0.heap.size + 1, 0, none⟩), .int .u64 0, .pointer (some ⟨w0.heap.size + 1 + 1, 0, none⟩), .int .i64 (m : Nat), .int .u64 (x : Nat), .slice (some ⟨b, 0, none⟩) len cap, .func (.func g) #[] #[.pointer (some ⟨w0.heap.size + 1 + 1 + 1, 0, none⟩)], .int .i64 (m : Nat), .int .u64 (x : Nat), t12, t13, t14, t15, t16, t17, t18, t19, t20, t21, undef], defers := [] } ∧
    (D 0 = true → t13 = .slice (some ⟨b, 0, none⟩) len cap) ∧ (D 1 = true → t14 = .int .i64 (m : Nat)) ∧ (D 2 = true → t15 = .int .u64 (rest : Nat)) ∧ (D 3 = true → t16 = .int .u64 (x : Nat)) ∧ (D 4 = true → t17 = .int .u64 (wd : Nat)) ∧
    (D 5 = true → t18 = .tuple #[.int .u64 (dq : Nat), .int .u64 (dr : Nat)]) ∧ (D 6 = true → t12 = .tuple #[.int .u64 (dq : Nat), .int .u64 (dr : Nat)]) ∧ (D 7 = true → t19 = .int .u64 (dq : Nat)) ∧ (D 8 = true → t20 = .int .u64 (dr : Nat)) ∧ (D 9 = true → t21 = .pointer (some ⟨b, m, none⟩)) ∧
    SpM w0 W0 b len cap wd rest dr ol nw (D 10) (D 11) W

set_option maxRecDepth 100000 in
set_option maxHeartbeats 8000000 in
theorem splitByWord_w (b len cap : Nat) (xs : List Nat) (wd : Nat) (w : World) (hA : Arr w b xs) (hx : Dig B64 xs) (hlen : len ≤ xs.length) (hlm : len ≤ 1099511627776) (hw0 : 0 < wd) (hw : wd < B64) :
    Calls Tryd.prog 47 #[.slice (some ⟨b, 0, none⟩) len cap, .int .u64 (wd : Nat)] w fun e w' => ∃ rest q, e = .returned (.int .u64 (rest : Nat)) ∧ SpWAt xs len wd len rest q ∧ Arr w' b (spMid xs len len q) ∧ w.grownBy w' (some b) := by
  have hbw := hA.lt
  refine (callsIn_wide (n := 3)).1 ?_
  refine callsIn_of_wp_marks Tryd.func47 rfl trivial ?_ rfl
  simp only [Tryd.ntmps47, List.size_toArray, List.length_cons, List.length_nil, Nat.reduceAdd, Nat.reduceSub, Array.replicate_succ, Array.replicate_zero, List.push_toArray, List.append_toArray, List.nil_append, List.cons_append]
  gi_wp2_with (refine ⟨trivial, ?_⟩; gi_at_call 53; refine (bwd_in Fence.wide _ trivial rfl _ _ _ _).mono ?_; rintro e w' ⟨rfl, rfl⟩)
  obtain ⟨W0, hW0⟩ : ∃ W0, (((w.alloc (.cells #[.slice (some ⟨b, 0, none⟩) len cap] 23)).alloc (.cells #[.int .u64 (wd : Nat)] 56)).alloc (.cells #[.int .u64 0] 56)).alloc (.cells #[.slice (some ⟨b, 0, none⟩) len cap] 23) = W0 := ⟨_, rfl⟩
  have b0 := (((Boxed.new w 23 (.slice (some ⟨b, 0, none⟩) len cap)).alloc (.cells #[.int .u64 (wd : Nat)] 56)).alloc (.cells #[.int .u64 0] 56)).alloc (.cells #[.slice (some ⟨b, 0, none⟩) len cap] 23)
  have b1 := ((Boxed.new (w.alloc (.cells #[.slice (some ⟨b, 0, none⟩) len cap] 23)) 56 (.int .u64 (wd : Nat))).alloc (.cells #[.int .u64 0] 56)).alloc (.cells #[.slice (some ⟨b, 0, none⟩) len cap] 23)
  have b2 := (Boxed.new ((w.alloc (.cells #[.slice (some ⟨b, 0, none⟩) len cap] 23)).alloc (.cells #[.int .u64 (wd : Nat)] 56)) 56 (.int .u64 0)).alloc (.cells #[.slice (some ⟨b, 0, none⟩) len cap] 23)
  have b3 := Boxed.new (((w.alloc (.cells #[.slice (some ⟨b, 0, none⟩) len cap] 23)).alloc (.cells #[.int .u64 (wd : Nat)] 56)).alloc (.cells #[.int .u64 0] 56)) 23 (.slice (some ⟨b, 0, none⟩) len cap)
  simp only [World.size_alloc] at b1 b2 b3
  have hN : W0.heap.size = w.heap.size + 1 + 1 + 1 + 1 := by rw [← hW0]; simp
  have hA0 : Arr W0 b xs := by rw [← hW0]; exact (((hA.alloc _).alloc _).alloc _).alloc _
  have hB0 : Below w.heap.size w W0 := by rw [← hW0]; exact ((((Below.refl _ w).alloc (Nat.le_refl _) _).alloc (by simp) _).alloc (by simp; omega) _).alloc (by simp; omega) _
  rw [hW0] at b0 b1 b2 b3 ⊢
  clear hW0
  refine wpIn_rangeN rfl (by omega) (gf := 71) (lb := #[.pointer (some ⟨w.heap.size + 1 + 1 + 1, 0, none⟩)]) rfl trivial (enters_of Tryd.func71 (by kernel_rfl) rfl)
    (bwd1_seq Fence.wide _ trivial rfl (by omega) (w.heap.size + 1 + 1 + 1) (some ⟨b, 0, none⟩) len cap (fun j => xs[j]?.getD 0) hlm) (fun _ => rfl)
    (SpI w b len cap xs wd) (fun _ _ _ => False) (by rw [hN]; exact spI_own w b len cap xs wd) (fun c _ _ _ _ h _ _ => h.elim)
    ⟨⟨⟨⟨b0, b1⟩, b3⟩, grown_below hB0 _⟩, 0, [], b2, by rw [spMid_zero]; exact hA0, SpWAt.start hw0 hlen⟩ ?rd
    (fun k => { tmps := #[.slice (some ⟨b, 0, none⟩) len cap, .int .u64 (wd : Nat), .pointer (some ⟨w.heap.size, 0, none⟩), .pointer (some ⟨w.heap.size + 1, 0, none⟩), .int .u64 0, .pointer (some ⟨w.heap.size + 1 + 1, 0, none⟩), .int .i64 ((len : Int) - 1 - k), .int .u64 (xs[len - 1 - k]?.getD 0 : Nat), .slice (some ⟨b, 0, none⟩) len cap, .func (.func 71) #[] #[.pointer (some ⟨w.heap.size + 1 + 1 + 1, 0, none⟩)], .int .i64 ((len : Int) - 1 - k), .int .u64 (xs[len - 1 - k]?.getD 0 : Nat), undef, undef, undef, undef, undef, undef, undef, undef, undef, undef, undef], defers := [] }) ?assign ?body ?done ?stop
  case rd =>
    rintro k W ⟨⟨⟨_, c3⟩, _⟩, rest, q, _, hM, hS⟩
    refine ⟨c3.cell, fun hk => ⟨b, 0, rfl, ?_⟩⟩
    show W.cell? _ = some (.int .u64 (xs[len - 1 - k]?.getD 0 : Nat))
    rw [← spMid_get (q := q) hlen hk, Nat.zero_add]
    exact hM.cell (by rw [spMid_length hS.1 hlen (by omega)]; omega)
  case assign =>
    intro l k W K hK
    unfold bwdArgs
    gi_wp2
    exact hK
  case body =>
    rintro l k W ⟨⟨⟨⟨c0, c1⟩, c3⟩, hg⟩, rest, q, c2, hM, hS⟩ hk hsz
    have HS2 := hS.step hk hlen (hx.getD (by unfold B64; omega) _) hw0
    have hrw := hS.2.2.1
    have hxx : xs[len - 1 - k]?.getD 0 < B64 := hx.getD (by unfold B64; omega) _
    have e1 : ((len : Int) - 1 - k) = ((len - 1 - k : Nat) : Int) := by omega
    have hm : len - 1 - k < len := by omega
    rw [e1]
    have hmx : Tryd.prog.follows .mixedOrders = true := by kernel_rfl
    have hdv := fun (V : World) (n : Nat) => CallsIn.inRound l ((callsIn_wide (n := n)).2 (div64_c rest (xs[len - 1 - k]?.getD 0) wd hrw hxx hw V))
    obtain ⟨dq, hdq⟩ : ∃ dq, dq = (rest * B64 + xs[len - 1 - k]?.getD 0) / wd := ⟨_, rfl⟩
    obtain ⟨dr, hdr⟩ : ∃ dr, dr = (rest * B64 + xs[len - 1 - k]?.getD 0) % wd := ⟨_, rfl⟩
    rw [← hdq, ← hdr] at hdv HS2
    clear hdq hdr
    have HM2 := spMid_set (q := q) hlen hk dq
    have hml : len - 1 - k < (spMid xs len k q).length := by rw [spMid_length hS.1 hlen (by omega)]; omega
    have hfin : ∀ W', SpM w W b len cap wd rest dr (spMid xs len k q) (spMid xs len (k + 1) (dq :: q)) true true W' → KeepsFrom W0.heap.size W W' ∧ SpI w b len cap xs wd (k + 1) W' := fun W' h =>
      ⟨h.k.from _, ⟨⟨⟨h.c0, h.c1⟩, h.c3⟩, h.g⟩, dr, dq :: q, h.c2, h.m, HS2⟩
    have hst : SpM w W b len cap wd rest dr (spMid xs len k q) (spMid xs len (k + 1) (dq :: q)) false false W := ⟨KeepsOthers.refl _, c0, c1, c3, c2, hM, hg⟩
    obtain ⟨x, hxe⟩ : ∃ x, x = xs[len - 1 - k]?.getD 0 := ⟨_, rfl⟩
    obtain ⟨m, hme⟩ : ∃ m, m = len - 1 - k := ⟨_, rfl⟩
    rw [← hxe] at hdv ⊢
    rw [← hme] at hm HM2 hml ⊢
    clear hxe hme e1 hxx HS2
    generalize spMid xs len (k + 1) (dq :: q) = nw at HM2 hfin hst
    generalize spMid xs len k q = ol at HM2 hml hfin hst
    clear c0 c1 c3 c2 hM hg b0 b1 b2 b3 hA hx hA0 hB0 hS hw0 hsz hk hrw
    gi_wp2_with fail
    refine wpIn_region_tab hmx [[], [], [], [], [], [2, 3, 4], [5], [6], [6], [0, 1, 0, 1, 2, 3, 4, 5, 6, 7], [9, 7, 5, 0, 1, 2, 3, 4, 5, 6, 7], [8, 10, 0, 1, 2, 3, 4, 5, 6, 7, 8, 9, 10]] (by kernel_rfl) (by decide)
      (SpR w W b len cap wd rest x m dq dr ol nw 71) ⟨undef, undef, undef, undef, undef, undef, undef, undef, undef, undef, rfl, by simp, by simp, by simp, by simp, by simp, by simp, by simp, by simp, by simp, by simp, hst.drew⟩ ?step ?fin
    case fin =>
      rintro D a V hD ⟨t12, t13, t14, t15, t16, t17, t18, t19, t20, t21, rfl, -, -, -, -, -, -, -, -, -, -, hV⟩
      rw [hD 10 (by decide), hD 11 (by decide)] at hV
      exact hfin V hV
    case step =>
      rintro D a V i ds hcl hi hds hDi ⟨t12, t13, t14, t15, t16, t17, t18, t19, t20, t21, rfl, h0, h1, h2, h3, h4, h5, h6, h7, h8, h9, hV⟩
      have hi12 : i < 12 := (List.getElem?_eq_some_iff.1 hi).1
      obtain rfl | rfl | rfl | rfl | rfl | rfl | rfl | rfl | rfl | rfl | rfl | rfl : i = 0 ∨ i = 1 ∨ i = 2 ∨ i = 3 ∨ i = 4 ∨ i = 5 ∨ i = 6 ∨ i = 7 ∨ i = 8 ∨ i = 9 ∨ i = 10 ∨ i = 11 := by omega
      all_goals
        simp only [List.getElem?_cons_zero, List.getElem?_cons_succ, Option.some.injEq] at hi
        subst hi
      · have d := hV.c0.cell
        refine wpOpIn_step rfl (fun K hK => ?_)
        go_simp
        exact hK _ _ ⟨_, _, _, _, _, _, _, _, _, _, rfl, fun _ => rfl, (by first | exact h1 | exact fun _ => rfl), (by first | exact h2 | exact fun _ => rfl), (by first | exact h3 | exact fun _ => rfl), (by first | exact h4 | exact fun _ => rfl), (by first | exact h5 | exact fun _ => rfl), (by first | exact h6 | exact fun _ => rfl), (by first | exact h7 | exact fun _ => rfl), (by first | exact h8 | exact fun _ => rfl), (by first | exact h9 | exact fun _ => rfl), hV⟩
      · refine wpOpIn_step rfl (fun K hK => ?_)
        go_simp
        exact hK _ _ ⟨_, _, _, _, _, _, _, _, _, _, rfl, (by first | exact h0 | exact fun _ => rfl), fun _ => rfl, (by first | exact h2 | exact fun _ => rfl), (by first | exact h3 | exact fun _ => rfl), (by first | exact h4 | exact fun _ => rfl), (by first | exact h5 | exact fun _ => rfl), (by first | exact h6 | exact fun _ => rfl), (by first | exact h7 | exact fun _ => rfl), (by first | exact h8 | exact fun _ => rfl), (by first | exact h9 | exact fun _ => rfl), hV⟩
      · have hf : D 11 = false := by
          cases h : D 11 with
          | false => rfl
          | true => rw [hcl 11 _ rfl h 2 (by simp)] at hDi; cases hDi
        have d := hV.c2.cell
        rw [hf, cond_false] at d
        refine wpOpIn_step rfl (fun K hK => ?_)
        go_simp
        exact hK _ _ ⟨_, _, _, _, _, _, _, _, _, _, rfl, (by first | exact h0 | exact fun _ => rfl), (by first | exact h1 | exact fun _ => rfl), fun _ => rfl, (by first | exact h3 | exact fun _ => rfl), (by first | exact h4 | exact fun _ => rfl), (by first | exact h5 | exact fun _ => rfl), (by first | exact h6 | exact fun _ => rfl), (by first | exact h7 | exact fun _ => rfl), (by first | exact h8 | exact fun _ => rfl), (by first | exact h9 | exact fun _ => rfl), hV⟩
      · refine wpOpIn_step rfl (fun K hK => ?_)
        go_simp
        exact hK _ _ ⟨_, _, _, _, _, _, _, _, _, _, rfl, (by first | exact h0 | exact fun _ => rfl), (by first | exact h1 | exact fun _ => rfl), (by first | exact h2 | exact fun _ => rfl), fun _ => rfl, (by first | exact h4 | exact fun _ => rfl), (by first | exact h5 | exact fun _ => rfl), (by first | exact h6 | exact fun _ => rfl), (by first | exact h7 | exact fun _ => rfl), (by first | exact h8 | exact fun _ => rfl), (by first | exact h9 | exact fun _ => rfl), hV⟩
      · have d := hV.c1.cell
        refine wpOpIn_step rfl (fun K hK => ?_)
        go_simp
        exact hK _ _ ⟨_, _, _, _, _, _, _, _, _, _, rfl, (by first | exact h0 | exact fun _ => rfl), (by first | exact h1 | exact fun _ => rfl), (by first | exact h2 | exact fun _ => rfl), (by first | exact h3 | exact fun _ => rfl), fun _ => rfl, (by first | exact h5 | exact fun _ => rfl), (by first | exact h6 | exact fun _ => rfl), (by first | exact h7 | exact fun _ => rfl), (by first | exact h8 | exact fun _ => rfl), (by first | exact h9 | exact fun _ => rfl), hV⟩
      · obtain rfl := h2 (hds 2 (by simp))
        obtain rfl := h3 (hds 3 (by simp))
        obtain rfl := h4 (hds 4 (by simp))
        refine wpOpIn_step rfl (fun K hK => ?_)
        go_simp
        gi_wp2_with (refine ⟨trivial, ?_⟩; gi_at_call 63; refine (hdv _ _).mono ?_; rintro e w' ⟨rfl, hb1⟩)
        exact ⟨_, _, _, _, _, _, _, _, _, _, rfl, (by first | exact h0 | exact fun _ => rfl), (by first | exact h1 | exact fun _ => rfl), (by first | exact h2 | exact fun _ => rfl), (by first | exact h3 | exact fun _ => rfl), (by first | exact h4 | exact fun _ => rfl), fun _ => rfl, (by first | exact h6 | exact fun _ => rfl), (by first | exact h7 | exact fun _ => rfl), (by first | exact h8 | exact fun _ => rfl), (by first | exact h9 | exact fun _ => rfl), (hV.below hb1)⟩
      · obtain rfl := h5 (hds 5 (by simp))
        refine wpOpIn_step rfl (fun K hK => ?_)
        go_simp
        exact hK _ _ ⟨_, _, _, _, _, _, _, _, _, _, rfl, (by first | exact h0 | exact fun _ => rfl), (by first | exact h1 | exact fun _ => rfl), (by first | exact h2 | exact fun _ => rfl), (by first | exact h3 | exact fun _ => rfl), (by first | exact h4 | exact fun _ => rfl), (by first | exact h5 | exact fun _ => rfl), fun _ => rfl, (by first | exact h7 | exact fun _ => rfl), (by first | exact h8 | exact fun _ => rfl), (by first | exact h9 | exact fun _ => rfl), hV⟩
      · obtain rfl := h6 (hds 6 (by simp))
        refine wpOpIn_step rfl (fun K hK => ?_)
        go_simp
        exact hK _ _ ⟨_, _, _, _, _, _, _, _, _, _, rfl, (by first | exact h0 | exact fun _ => rfl), (by first | exact h1 | exact fun _ => rfl), (by first | exact h2 | exact fun _ => rfl), (by first | exact h3 | exact fun _ => rfl), (by first | exact h4 | exact fun _ => rfl), (by first | exact h5 | exact fun _ => rfl), (by first | exact h6 | exact fun _ => rfl), fun _ => rfl, (by first | exact h8 | exact fun _ => rfl), (by first | exact h9 | exact fun _ => rfl), hV⟩
      · obtain rfl := h6 (hds 6 (by simp))
        refine wpOpIn_step rfl (fun K hK => ?_)
        go_simp
        exact hK _ _ ⟨_, _, _, _, _, _, _, _, _, _, rfl, (by first | exact h0 | exact fun _ => rfl), (by first | exact h1 | exact fun _ => rfl), (by first | exact h2 | exact fun _ => rfl), (by first | exact h3 | exact fun _ => rfl), (by first | exact h4 | exact fun _ => rfl), (by first | exact h5 | exact fun _ => rfl), (by first | exact h6 | exact fun _ => rfl), (by first | exact h7 | exact fun _ => rfl), fun _ => rfl, (by first | exact h9 | exact fun _ => rfl), hV⟩
      · obtain rfl := h0 (hds 0 (by simp))
        obtain rfl := h1 (hds 1 (by simp))
        refine wpOpIn_step rfl (fun K hK => ?_)
        go_simp
        exact hK _ _ ⟨_, _, _, _, _, _, _, _, _, _, rfl, (by first | exact h0 | exact fun _ => rfl), (by first | exact h1 | exact fun _ => rfl), (by first | exact h2 | exact fun _ => rfl), (by first | exact h3 | exact fun _ => rfl), (by first | exact h4 | exact fun _ => rfl), (by first | exact h5 | exact fun _ => rfl), (by first | exact h6 | exact fun _ => rfl), (by first | exact h7 | exact fun _ => rfl), (by first | exact h8 | exact fun _ => rfl), fun _ => rfl, hV⟩
      · obtain rfl := h7 (hds 7 (by simp))
        obtain rfl := h9 (hds 9 (by simp))
        rw [hDi] at hV
        have d := hV.m.cell hml
        have f := hV.m.frozen m
        refine wpOpIn_step rfl (fun K hK => ?_)
        go_simp
        exact hK _ _ ⟨_, _, _, _, _, _, _, _, _, _, rfl, (by first | exact h0 | exact fun _ => rfl), (by first | exact h1 | exact fun _ => rfl), (by first | exact h2 | exact fun _ => rfl), (by first | exact h3 | exact fun _ => rfl), (by first | exact h4 | exact fun _ => rfl), (by first | exact h5 | exact fun _ => rfl), (by first | exact h6 | exact fun _ => rfl), (by first | exact h7 | exact fun _ => rfl), (by first | exact h8 | exact fun _ => rfl), (by first | exact h9 | exact fun _ => rfl), (hV.word hbw HM2)⟩
      · obtain rfl := h8 (hds 8 (by simp))
        rw [hDi] at hV
        have d := hV.c2.cell
        have f := hV.c2.frozen
        refine wpOpIn_step rfl (fun K hK => ?_)
        go_simp
        exact hK _ _ ⟨_, _, _, _, _, _, _, _, _, _, rfl, (by first | exact h0 | exact fun _ => rfl), (by first | exact h1 | exact fun _ => rfl), (by first | exact h2 | exact fun _ => rfl), (by first | exact h3 | exact fun _ => rfl), (by first | exact h4 | exact fun _ => rfl), (by first | exact h5 | exact fun _ => rfl), (by first | exact h6 | exact fun _ => rfl), (by first | exact h7 | exact fun _ => rfl), (by first | exact h8 | exact fun _ => rfl), (by first | exact h9 | exact fun _ => rfl), (hV.rest hbw)⟩
  case done =>
    rintro D W hD ⟨⟨⟨⟨c0, c1⟩, c3⟩, hg⟩, rest, q, c2, hM, hS⟩ hK
    have d2 := c2.cell
    have HS := hidD hS
    clear hS b0 b1 b2 b3 hA hx hA0 hB0
    gi_wp2
    refine ⟨by simp, .inl ⟨_, _, rfl, run_takeDeferred hK, ?_⟩⟩
    refine ⟨.int .u64 (rest : Nat), by simp [results, Tryd.results47, go_sem], rest, q, rfl, HS.out, ?_, ?_⟩
    · exact hM.kept (grownBy_putObj' _ D (.deferred none)) (fun e => by cases e; have := hM.other hK; cases this)
    · exact hg.andThen (grownBy_putObj' W D (.deferred none)) (fun j hj => by cases hj; exact Or.inl (by omega))
  case stop =>
    rintro D c k W _ _ h _
    exact h.elim
end Go.Proofs.YtjmmnpfedhkjbaaDoor
