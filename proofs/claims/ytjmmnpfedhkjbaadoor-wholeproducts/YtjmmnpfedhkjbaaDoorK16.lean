import Derived.Test.YtjmmnpfedhkjbaaDoorK07
import Derived.Test.YtjmmnpfedhkjbaaDoorK06
import Derived.Deep.DeepCutAuto
import Derived.Deep.RegionHeld3
import Derived.Deep.RegionWith
import Derived.Deep.OwnRows
import Derived.Test.YtjmmnpfedhkjbaaDoorK15
namespace Go.Proofs.YtjmmnpfedhkjbaaDoor
open Go.RowKit Go.Shelf Go.Deep

theorem hidR {p : Prop} (h : p) : Hid p := h

theorem parseM_num (l : List UInt8) (acc : Nat) (h : l.all isD = true) (hb : num l + 10 ^ l.length * acc < 18446744073709551616) : Lib.parseUintM (2 ^ 64 - 1) acc l = .ok (num l + 10 ^ l.length * acc) := by
  induction l generalizing acc with
  | nil => simp [Lib.parseUintM, num, dgs, val]
  | cons c l ih =>
    have hc : isD c = true := List.all_eq_true.1 h c (List.mem_cons_self ..)
    have hl : l.all isD = true := by rw [List.all_cons, hc, Bool.true_and] at h; exact h
    have hcb := isD_bounds hc
    have e : num (c :: l) = num l + 10 ^ l.length * (c.toNat - 48) := by
      have := num_append [c] l
      rw [List.singleton_append] at this
      rw [this]
      congr 2
    have e2 : num (c :: l) + 10 ^ (c :: l).length * acc = num l + 10 ^ l.length * (acc * 10 + (c.toNat - 48)) := by
      rw [e, List.length_cons, Nat.pow_succ, Nat.mul_add, Nat.mul_assoc, Nat.mul_comm 10 acc]
      omega
    rw [e2] at hb ⊢
    have hp : 1 ≤ 10 ^ l.length := Nat.one_le_pow _ _ (by omega)
    have h1 : acc * 10 + (c.toNat - 48) ≤ 10 ^ l.length * (acc * 10 + (c.toNat - 48)) := Nat.le_mul_of_pos_left _ (by omega)
    rw [Lib.parseUintM, if_pos ⟨hcb.1, hcb.2⟩, if_neg (by omega), if_neg (by omega)]
    exact ih _ hl hb

theorem num_lt {l : List UInt8} (h : l.all isD = true) : num l < 10 ^ l.length := by
  have := val_lt (dig_dgs h)
  rwa [dgs_length] at this

theorem parseUint_num {l : List UInt8} (h : l.all isD = true) (h0 : l ≠ []) (h19 : l.length ≤ 19) : Lib.parseUintB 64 l = .ok (num l) := by
  have h1 := num_lt h
  have h2 : (10 : Nat) ^ l.length ≤ 10 ^ 19 := Nat.pow_le_pow_right (by omega) h19
  have h3 : (10 : Nat) ^ 19 < 18446744073709551616 := by decide
  rw [Lib.parseUintB, if_neg h0, parseM_num l 0 h (by omega)]
  simp

theorem bytesWorld_below (w : World) (e : TypeId) (s : ByteArray) : Below w.heap.size w (Lib.bytesWorld w e s) := by
  unfold Lib.bytesWorld
  refine ⟨rfl, rfl, rfl, ?_, fun k hk => ?_⟩
  · simp [World.freeze]
  · show (Array.modify _ _ _)[k]? = _
    rw [Array.getElem?_modify, if_neg (show ¬ w.heap.size = k by omega)]
    exact Below.heap_alloc w.drew _ k hk

theorem lst_take {s : ByteArray} {n : Nat} : wlst (s.extract 0 n) = (wlst s).take n := by
  unfold wlst
  rw [Lib.extract_data]
  simp

theorem lst_drop {s : ByteArray} {n : Nat} : wlst (s.extract n s.size) = (wlst s).drop n := by
  unfold wlst
  rw [Lib.extract_data, List.take_of_length_le]
  have := wlst_length s
  unfold wlst at this
  rw [List.length_drop, this]
  omega

theorem parseUint_c (s : ByteArray) (h : (wlst s).all isD = true) (h0 : 0 < s.size) (h19 : s.size ≤ 19) (w : World) :
    Calls Tryd.prog 44 #[.string s, .int .i64 10, .int .i64 64] w fun e w' => e = .returned (.tuple #[.int .u64 (num (wlst s) : Nat), .nilIface]) ∧ Below w.heap.size w w' := by
  have hl := wlst_length s
  refine (Tryd.strconv_ParseUint_10_at64_ok s (by omega) _ (parseUint_num (l := wlst s) h (by intro e; rw [e] at hl; simp at hl; omega) (by omega)) w).mono ?_
  rintro e w' ⟨rfl, rfl | rfl⟩
  · exact ⟨rfl, Below.refl _ _⟩
  · exact ⟨rfl, bytesWorld_below _ _ _⟩

/-- A text's length. -/
def strSz : Value → Nat | .string s => s.size | _ => 0

theorem num_length {l : List UInt8} (h : l.all isD = true) : (limbs B64 (num l)).length ≤ l.length := by
  refine limbs_length_le two_le_B64 (Nat.lt_of_lt_of_le (num_lt h) (Nat.pow_le_pow_left ?_ _))
  unfold B64; omega

theorem read_next {sb : ByteArray} {dn : List UInt8} {c n : Nat} (hc : c = num (wlst (sb.extract 0 n))) (hn : n = (sb.size - 1) % 19 + 1) (hn1 : n ≤ sb.size) (hd : dn = [] ∨ sb.size % 19 = 0) (h0 : 0 < sb.size) : c + num dn * 10000000000000000000 = num (dn ++ wlst (sb.extract 0 n)) := by
  have hl : (wlst (sb.extract 0 n)).length = n := by rw [wlst_length, ByteArray.size_extract]; omega
  rw [num_append, hl, ← hc]
  rcases hd with rfl | hd
  · simp [num, dgs, val]
  · have : n = 19 := by omega
    rw [this, Nat.mul_comm]

/-- One step of reading. -/
theorem read_step {c m l over : Nat} {q : List Nat} (hc : c < B64) (hl : l = (limbs B64 m).length) (h : AddTAt (c :: List.replicate l 0) (limbs B64 m) 0 10000000000000000000 l over q) :
    (c :: List.replicate l 0)[l]?.getD 0 + over < B64 ∧ trimL (q ++ [(c :: List.replicate l 0)[l]?.getD 0 + over]) = limbs B64 (c + m * 10000000000000000000) := by
  obtain ⟨h1, h2, h3, h4⟩ := h
  have hv : val B64 (limbs B64 m) = m := val_limbs two_le_B64 m
  rw [List.drop_zero] at h4
  have hz : ∀ k, val B64 (List.replicate k 0) = 0 := by
    intro k
    induction k with
    | zero => rfl
    | succ k ih => rw [List.replicate_succ, val_cons, ih]; rfl
  have htk : (limbs B64 m).take l = limbs B64 m := List.take_of_length_le (by omega)
  rw [htk, hv] at h4
  have key : (c :: List.replicate l 0)[l]?.getD 0 + over < B64 ∧ val B64 (q ++ [(c :: List.replicate l 0)[l]?.getD 0 + over]) = c + m * 10000000000000000000 := by
    cases l with
    | zero =>
      have hm : m = 0 := by
        have : limbs B64 m = [] := List.eq_nil_of_length_eq_zero hl.symm
        exact (limbs_eq_nil two_le_B64).1 this
      subst hm
      have hq : q = [] := List.eq_nil_of_length_eq_zero h1
      subst hq
      simp [val] at h4
      subst h4
      simp [val]
      exact hc
    | succ l =>
      have e1 : (c :: List.replicate (l + 1) 0)[l + 1]?.getD 0 = 0 := by simp
      rw [e1, Nat.zero_add]
      refine ⟨h3, ?_⟩
      rw [val_snoc, h1, h4, List.take_succ_cons, val_cons, List.take_replicate, hz]
      omega
  refine ⟨key.1, ?_⟩
  rw [← limbs_val two_le_B64 (h2.append (Dig.cons key.1 (Dig.nil _))), key.2]

theorem add_wrapR {r d : Nat} (h : r + d < B64) : IntKind.u64.wrap ((r : Int) + d) = ((r + d : Nat) : Int) := by
  unfold B64 at h
  rw [IntKind.wrap_u64]; omega

theorem read_mid {w4 : World} {nb c l : Nat} {q : List Nat} (hA : Arr w4 nb (mid (c :: List.replicate l 0) 0 l q)) (hq : q.length = l) :
    w4.cell? ⟨nb, l, none⟩ = some (.int .u64 ((c :: List.replicate l 0)[l]?.getD 0 : Nat)) ∧ w4.frozen? ⟨nb, l, none⟩ = false ∧ ∀ v, Arr (w4.setCell ⟨nb, l, none⟩ (.int .u64 (v : Nat))) nb (q ++ [v]) := by
  have e0 : mid (c :: List.replicate l 0) 0 l q = q ++ [(c :: List.replicate l 0)[l]?.getD 0] := by
    have hl : l < (c :: List.replicate l 0).length := by simp
    rw [mid, List.take_zero, List.nil_append, Nat.zero_add, List.drop_eq_getElem_cons hl, List.drop_eq_nil_of_le (by simp), List.getElem?_eq_getElem hl]
    rfl
  have hc := hA.cell (j := l) (by rw [e0]; simp; omega)
  rw [e0, List.getElem?_append_right (by omega), hq, Nat.sub_self] at hc
  refine ⟨hc, hA.frozen l, fun v => ?_⟩
  have := hA.set l v
  rw [e0, List.set_append_right _ _ (by omega), hq, Nat.sub_self] at this
  exact this

set_option maxRecDepth 100000 in
set_option maxHeartbeats 2000000 in
theorem read_w (s : ByteArray) (hd : (wlst s).all isD = true) (hs : s.size ≤ 2000) (w : World) :
    Calls Tryd.prog 28 #[.string s] w fun e w' => ∃ u, e = .returned u ∧ UN w' u (num (wlst s)) ∧ Below w.heap.size w w' := by
  have HD := hidR hd
  clear hd
  go_enter Tryd.func28, Tryd.ntmps28
  go_wp2
  go_loopw [0, 3] (fun dv rv wr => ∃ (sb : ByteArray) (dn : List UInt8) (a : Option Addr) (l cap : Nat), dv = .string sb ∧ rv = .slice a l cap ∧ sb.size ≤ 2000 ∧ l ≤ 2000 ∧ UN wr (.slice a l cap) (num dn) ∧ Hid (wlst s = dn ++ wlst sb ∧ (dn = [] ∨ sb.size % 19 = 0)) ∧ Below w.heap.size w wr) (fun dv _ _ => strSz dv)
  case atStart => exact ⟨s, [], none, 0, 0, rfl, rfl, hs, by omega, by unfold UN; simp [num, dgs, val, limbs_zero]; exact Row.nil _ _, ⟨by simp, Or.inl rfl⟩, Below.refl _ _⟩
  case round =>
    obtain ⟨sb, dn, a, l, cap, rfl, rfl, hsb, hl, hU, HI, hB⟩ := hrel
    by_cases h0 : sb.size = 0
    · have hsb0 : wlst sb = [] := List.eq_nil_of_length_eq_zero (by rw [wlst_length]; exact h0)
      have e : dn = wlst s := by rw [HI.out.1, hsb0, List.append_nil]
      have HE := hidR e
      have hz : sb.size ≤ 0 := by omega
      clear e hsb0 h0
      go_wp2
      go_ret
      exact ⟨_, rfl, by rw [← HE.out]; exact hU, hB⟩
    · have h0' : 0 < sb.size := by omega
      obtain ⟨n, hn⟩ : ∃ n, n = (sb.size - 1) % 19 + 1 := ⟨_, rfl⟩
      have En := hidR (show (((sb.size : Int) - 1) % 19 + 1) = (n : Int) by omega)
      have hn1 : n ≤ sb.size := by omega
      have HN := hidR hn
      clear hn
      go_upto_region 4 with fail
      rw [En.out]
      have hall : (wlst (sb.extract 0 n)).all isD = true := by
        have h1 := HD.out
        rw [HI.out.1, List.all_append, Bool.and_eq_true] at h1
        rw [lst_take, List.all_eq_true]
        intro c hc
        exact List.all_eq_true.1 h1.2 c (List.mem_of_mem_take hc)
      have hsz : (sb.extract 0 n).size = n := by rw [ByteArray.size_extract]; omega
      have hcl : num (wlst (sb.extract 0 n)) < 10000000000000000000 := by
        have h1 := num_lt hall
        rw [wlst_length, hsz] at h1
        have h2 : (10 : Nat) ^ n ≤ 10 ^ 19 := Nat.pow_le_pow_right (by omega) (by have := HN.out; omega)
        have h3 : (10 : Nat) ^ 19 = 10000000000000000000 := by decide
        omega
      have HPU := hidR (fun V => parseUint_c (sb.extract 0 n) hall (by rw [hsz]; have := HN.out; omega) (by rw [hsz]; have := HN.out; omega) V)
      obtain ⟨c, hc⟩ : ∃ c, c = num (wlst (sb.extract 0 n)) := ⟨_, rfl⟩
      rw [← hc] at hcl HPU
      have HCC := hidR hc
      have HCL := hidR hcl
      clear hall hsz hc hcl
      have hnp : 0 < n := by have := HN.out; omega
      have HNX : Hid (wlst s = (dn ++ wlst (sb.extract 0 n)) ++ wlst (sb.extract n sb.size) ∧ (dn ++ wlst (sb.extract 0 n) = [] ∨ (sb.extract n sb.size).size % 19 = 0)) := by
        refine ⟨?_, Or.inr ?_⟩
        · rw [List.append_assoc, lst_take, lst_drop, List.take_append_drop]
          exact HI.out.1
        · rw [ByteArray.size_extract]
          have := HN.out
          omega
      have HLN : Hid ((limbs B64 (num (dn ++ wlst (sb.extract 0 n)))).length ≤ 2000) := by
        have h1 := HD.out
        rw [HNX.out.1, List.all_append, Bool.and_eq_true] at h1
        have h2 := num_length h1.1
        have h3 := congrArg List.length HNX.out.1
        rw [List.length_append, wlst_length] at h3
        exact Nat.le_trans h2 (by omega)
      have hmk := make_row1 l (by omega)
      go_upto_region 7 with (first | (go_at_call 44; refine (HPU.out _).mono ?_; rintro e w1 ⟨rfl, hb1⟩))
      obtain ⟨W2, hW2⟩ : ∃ W2, w1.alloc (.cells (cellsOf .u64 (List.replicate (l + 1) 0)).toArray 56) = W2 := ⟨_, rfl⟩
      have hA2 : Arr W2 w1.heap.size (List.replicate (l + 1) 0) := Arr.made (by rw [← hW2]; exact World.alloc_heap_new w1 _)
      have hB1 : Below w.heap.size w w1 := hB.trans (hb1.mono hB.size)
      have hB2 : Below w.heap.size w W2 := by rw [← hW2]; exact hB1.alloc hB1.size _
      have hU2 : UN W2 (.slice a l cap) (num dn) := by rw [← hW2]; exact Row.below (Row.below hU hb1) ((Below.refl _ _).alloc (Nat.le_refl _) _)
      have hnb : w.heap.size ≤ w1.heap.size := hB1.size
      have hrb : Hid (∀ p, a = some p → 0 < l → p.block ≠ w1.heap.size) := by
        intro p ep hl0
        obtain ⟨_, _, _, _, hcs⟩ := row_fn hU
        obtain ⟨b', off', ea, hlt, _⟩ := hcs 0 hl0
        rw [ep] at ea
        cases ea
        have := hb1.size
        simp only
        omega
      have hll := hU.len
      have HLL := hidR hll
      rw [hW2]
      clear hW2 hmk hb1 hB1 hU hll HPU hB
      generalize w1.heap.size = nb at *
      have z0 := hA2.cell (j := 0) (by simp)
      have z1 := hA2.frozen 0
      go_upto_region 8 with fail
      obtain ⟨W3, hW3⟩ : ∃ W3, W2.setCell ⟨nb, 0, none⟩ (.int .u64 (c : Nat)) = W3 := ⟨_, rfl⟩
      have hA3 : Arr W3 nb (c :: List.replicate l 0) := by rw [← hW3]; have := hA2.set 0 c; simpa [List.replicate_succ] using this
      have hB3 : Below w.heap.size w W3 := by rw [← hW3]; exact hB2.setCell hnb _
      have hU3 : UN W3 (.slice a l cap) (num dn) := by rw [← hW3]; exact Row.grown hU2 (grown_set _ _ _ _) hrb.out
      rw [hW3]
      clear hW3 hA2 hB2 hU2 z0 z1
      have hl0 := hA3.cell (j := l) (by simp)
      have hf0 := hA3.frozen l
      obtain ⟨y, hy⟩ : ∃ y, y = (c :: List.replicate l 0)[l]?.getD 0 := ⟨_, rfl⟩
      rw [← hy] at hl0
      have HY := hidR hy
      clear hy
      have HAT := hidR (fun V (hV : Below W3.heap.size W3 V) => addTimes_w nb 0 l (l + 1) (c :: List.replicate l 0) a cap (limbs B64 (num dn)) 10000000000000000000 V (hA3.below hV) (Dig.cons (by have := HCL.out; unfold B64; omega) (fun d hd => by rw [List.eq_of_mem_replicate hd]; unfold B64; omega)) (by simp) (by omega) (Row.below hU3 hV) (dig_limbs two_le_B64 _) hrb.out (by unfold B64; omega))
      have i0 : (0 : Int) ≤ (l : Int) := by omega
      have i1 : (l : Int) < (l : Int) + 1 := by omega
      have i2 : (l : Int) ≤ (l : Int) + 1 := by omega
      go_region_with (first
          | (go_at_call 45; refine (HAT.out _ ?_).mono ?_; exact (Below.refl _ _).drew; rintro e w4 ⟨over, q, rfl, hP, hA4, hg4⟩; obtain ⟨k1, k2, k3⟩ := read_mid hA4 hP.1; rw [← HY.out] at k1; have hst := read_step (by have := HCL.out; unfold B64; omega) HLL.out hP; rw [← HY.out] at hst; have ewr : IntKind.u64.wrap ((y : Int) + over) = ((y + over : Nat) : Int) := add_wrapR hst.1; have HST := hidR hst.2; have HQL := hidR hP.1; clear hst hP))
      all_goals go_wp2_with fail
      all_goals
        have hA5 : Arr (w4.setCell ⟨nb, l, none⟩ (.int .u64 ((y : Int) + over))) nb (q ++ [y + over]) := by
          have := k3 (y + over)
          rwa [Int.natCast_add] at this
        have hql : q.length = l := HQL.out
        have hrow := hA5.row 0 (l + 1) (l + 1) (by simp; omega) (by omega) (by omega) (by omega)
        rw [List.drop_zero, List.take_of_length_le (by simp; omega)] at hrow
        refine (trimmed_c _ _ _ hrow).mono ?_
        rintro e w6 ⟨u, rfl, hu, hb6⟩
        rw [HST.out, read_next HCC.out HN.out hn1 HI.out.2 h0'] at hu
        have hB6 : Below w.heap.size w w6 := ((below_grown hB3.drew hg4 hnb).setCell hnb _).trans (hb6.mono (by have h1 := hB3.size; have h2 := hg4.size; simp [World.setCell] at h2 ⊢; omega))
        obtain ⟨au, cu, eu⟩ := UN.form hu
        subst eu
        go_wp2
        go_roundw
        case rel => exact ⟨sb.extract n sb.size, dn ++ wlst (sb.extract 0 n), au, _, cu, rfl, rfl, by rw [ByteArray.size_extract]; omega, HLN.out, hu, HNX.out, hB6⟩
        case measure =>
          show (sb.extract n sb.size).size < sb.size
          rw [ByteArray.size_extract]; omega
end Go.Proofs.YtjmmnpfedhkjbaaDoor
namespace Go.Proofs.YtjmmnpfedhkjbaaDoor
open Go.RowKit Go.Shelf

/-- A number with a sign. -/
def sgn (b : Bool) (n : Nat) : Int := if b then -(n : Int) else n

theorem signed_s (b : Bool) (v : Value) (n : Nat) (w : World) (h : UN w v n) : Calls Tryd.prog 27 #[.bool b, v] w fun e w' => ∃ u, e = .returned u ∧ IsInt w' u (sgn b n) ∧ Below w.heap.size w w' := signed_c b v n w h

/-- What Parse gives of a text that is no number. -/
def noInt0 : Value := .tuple #[.agg #[.bool false, .slice none 0 0], .bool false]

theorem cut_c (s : ByteArray) (w : World) : Calls Tryd.prog 25 #[.string s, .string ⟨#[45]⟩] w fun e w' => e = .returned (.tuple #[.string ⟨(tailOf (wlst s)).toArray⟩, .bool (decide ((wlst s).head? = some 45))]) ∧ w' = w := by
  refine (Tryd.strings_CutPrefix s ⟨#[45]⟩ w).mono ?_
  rintro e w' ⟨rfl, rfl⟩
  have e1 : Lib.hasPrefix s.data.toList [45] = decide ((wlst s).head? = some 45) := by
    unfold wlst Lib.hasPrefix
    cases s.data.toList with
    | nil => rfl
    | cons c l =>
      rw [Bool.eq_iff_iff]
      simp [List.isPrefixOf]
      exact eq_comm
  refine ⟨?_, rfl⟩
  have e2 : Lib.trimPrefix s.data.toList [45] = tailOf (wlst s) := by
    unfold Lib.trimPrefix tailOf
    rw [e1]
    by_cases h : (wlst s).head? = some 45
    · rw [if_pos (decide_eq_true h), if_pos h, List.length_singleton, List.drop_one]; rfl
    · rw [if_neg (by simp [h]), if_neg h]; rfl
  show Ending.returned (.tuple #[.string ⟨(Lib.trimPrefix s.data.toList [45]).toArray⟩, .bool (Lib.hasPrefix s.data.toList [45])]) = _
  rw [e1, e2]

theorem good_num {l : List UInt8} (h : l.length ≤ 2000) : good l = (isNum (tailOf l) && !(decide (l.head? = some 45) && decide (tailOf l = [48]))) := by
  rw [Bool.eq_iff_iff]
  simp only [good, isNum, Bool.and_eq_true, decide_eq_true_eq, Bool.or_eq_true, Bool.not_eq_true', decide_eq_false_iff_not, List.isEmpty_eq_false_iff, Bool.and_eq_false_iff]
  constructor
  · rintro ⟨⟨⟨_, h1⟩, h2⟩, h3⟩
    refine ⟨⟨h3, ?_⟩, ?_⟩
    · rcases h2 with h2 | h2
      · exact Or.inr ⟨h1, h2⟩
      · left; rw [h2]; rfl
    · rcases h2 with h2 | h2
      · right; intro e; apply h2; rw [e]; rfl
      · left; rw [h2]; simp
  · rintro ⟨⟨h3, h4⟩, h5⟩
    have h1 : tailOf l ≠ [] := by
      rcases h4 with h4 | h4
      · rw [h4]; simp
      · exact h4.1
    refine ⟨⟨⟨h, h1⟩, ?_⟩, h3⟩
    rcases h4 with h4 | h4
    · rcases h5 with h5 | h5
      · right
        have : tailOf l = l := by rw [tailOf, if_neg h5]
        rw [← this]; exact h4
      · exact absurd h4 h5
    · exact Or.inl h4.2

/-- What a call of the program's Parse leaves. -/
def ParseI (l : List UInt8) (w : World) (e : Ending) (w' : World) : Prop :=
  (good l = true → ∃ u, e = .returned (.tuple #[u, .bool true]) ∧ IsInt w' u (valZ l)) ∧ (good l = false → e = .returned noInt0) ∧ Below w.heap.size w w'

theorem ParseI.no {l : List UInt8} {w w' : World} (h : good l = false) (hB : Below w.heap.size w w') : ParseI l w (.returned noInt0) w' :=
  ⟨fun h' => (by rw [h] at h'; cases h'), fun _ => rfl, hB⟩

theorem ParseI.yes {l : List UInt8} {w w' : World} {u : Value} (h : good l = true) (hu : IsInt w' u (valZ l)) (hB : Below w.heap.size w w') : ParseI l w (.returned (.tuple #[u, .bool true])) w' :=
  ⟨fun _ => ⟨u, rfl, hu⟩, fun h' => (by rw [h] at h'; cases h'), hB⟩

set_option maxRecDepth 100000 in
set_option maxHeartbeats 1000000 in
theorem iparseA (s : ByteArray) (h0 : 2000 < s.size) (hs : s.size ≤ 140737488351232) (w : World) : Calls Tryd.prog 6 #[.string s] w (ParseI (wlst s) w) := by
  have HN := hidR (show good (wlst s) = false by
    have := wlst_length s
    simp [good]; omega)
  go_enter Tryd.func6, Tryd.ntmps6
  go_wp2_with (first
    | (go_at_call 25; refine (cut_c _ _).mono ?_; rintro e w' ⟨rfl, rfl⟩))
  exact bodyPost_ret (v := noInt0) (by simp [results, Tryd.results6, go_sem, noInt0]) rfl (ParseI.no HN.out ((Below.refl _ _).alloc (Nat.le_refl _) _))

set_option maxRecDepth 100000 in
set_option maxHeartbeats 1000000 in
theorem iparseB (s : ByteArray) (h0 : s.size ≤ 2000) (hn : isNum (tailOf (wlst s)) = false) (w : World) : Calls Tryd.prog 6 #[.string s] w (ParseI (wlst s) w) := by
  have HG := hidR (show good (wlst s) = false by rw [good_num (by rw [wlst_length]; exact h0), hn]; rfl)
  obtain ⟨tb, htb⟩ : ∃ tb : ByteArray, (⟨(tailOf (wlst s)).toArray⟩ : ByteArray) = tb := ⟨_, rfl⟩
  obtain ⟨sg, hsg⟩ : ∃ sg, decide ((wlst s).head? = some 45) = sg := ⟨_, rfl⟩
  have hc := fun V => cut_c s V
  rw [htb, hsg] at hc
  have hw : wlst tb = tailOf (wlst s) := by rw [← htb]; rfl
  have hts : tb.size ≤ 2000 := by
    rw [← wlst_length, hw, tailOf]
    have := wlst_length s
    split
    · rw [List.length_tail]; omega
    · omega
  have HNB := hidR (fun V => isNumber_w tb (by omega) V)
  rw [hw, hn] at HNB
  have HC := hidR hc
  clear hc hw hn htb hsg
  go_enter Tryd.func6, Tryd.ntmps6
  go_wp2_with (first
    | (go_at_call 25; refine (HC.out _).mono ?_; rintro e w' ⟨rfl, rfl⟩)
    | (go_at_call 26; refine (HNB.out _).mono ?_; rintro e w' ⟨rfl, rfl⟩))
  exact bodyPost_ret (v := noInt0) (by simp [results, Tryd.results6, go_sem, noInt0]) rfl (ParseI.no HG.out ((Below.refl _ _).alloc (Nat.le_refl _) _))

set_option maxRecDepth 100000 in
set_option maxHeartbeats 1000000 in
theorem iparseC (s : ByteArray) (h0 : s.size ≤ 2000) (hn : isNum (tailOf (wlst s)) = true) (hm : (wlst s).head? = some 45) (hz : tailOf (wlst s) = [48]) (w : World) : Calls Tryd.prog 6 #[.string s] w (ParseI (wlst s) w) := by
  have HG := hidR (show good (wlst s) = false by rw [good_num (by rw [wlst_length]; exact h0), hn, hz]; simp [hm])
  have hc := fun V => cut_c s V
  rw [hz, decide_eq_true hm] at hc
  have HNB := hidR (fun V => isNumber_w ⟨[48].toArray⟩ (by decide) V)
  have HC := hidR hc
  clear hc hn hm hz
  go_enter Tryd.func6, Tryd.ntmps6
  go_wp2_with (first
    | (go_at_call 25; refine (HC.out _).mono ?_; rintro e w' ⟨rfl, rfl⟩)
    | (go_at_call 26; refine (HNB.out _).mono ?_; rintro e w' ⟨rfl, rfl⟩))
  exact bodyPost_ret (v := noInt0) (by simp [results, Tryd.results6, go_sem, noInt0]) rfl (ParseI.no HG.out ((Below.refl _ _).alloc (Nat.le_refl _) _))

set_option maxRecDepth 100000 in
set_option maxHeartbeats 2000000 in
theorem iparseD (s tb : ByteArray) (sg : Bool) (h0 : s.size ≤ 2000) (HG : Hid (good (wlst s) = true)) (HC : Hid (∀ V, Calls Tryd.prog 25 #[.string s, .string ⟨#[45]⟩] V fun e w' => e = .returned (.tuple #[.string tb, .bool sg]) ∧ w' = V))
    (HNB : Hid (∀ V, Calls Tryd.prog 26 #[.string tb] V fun e w' => e = .returned (.bool true) ∧ w' = V)) (HR : Hid (∀ V, Calls Tryd.prog 28 #[.string tb] V fun e w' => ∃ u, e = .returned u ∧ UN w' u (num (wlst tb)) ∧ Below V.heap.size V w'))
    (hz : sg = true → (tb.toList == [48]) = false) (HV : Hid (valZ (wlst s) = sgn sg (num (wlst tb)))) (w : World) : Calls Tryd.prog 6 #[.string s] w (ParseI (wlst s) w) := by
  have bR := Box2.new w 25 (.bool false) (.slice none 0 0)
  have hB0 : Below w.heap.size w (w.alloc (.cells #[.bool false, .slice none 0 0] 25)) := (Below.refl _ _).alloc (Nat.le_refl _) _
  cases sg
  · clear hz
    go_enter Tryd.func6, Tryd.ntmps6
    go_wp2_with (first
      | (go_at_call 25; refine (HC.out _).mono ?_; rintro e w' ⟨rfl, rfl⟩)
      | (go_at_call 26; refine (HNB.out _).mono ?_; rintro e w' ⟨rfl, rfl⟩)
      | (go_at_call 28; refine (HR.out _).mono ?_; rintro e w1 ⟨u, rfl, hu, hb1⟩; obtain ⟨au, cu, rfl⟩ := hu.form; have bR := bR.below hb1; have hB0 := Below.then hB0 hb1)
      | (go_at_call 27; refine (signed_s _ _ _ _ hu).mono ?_; rintro e w2 ⟨v, rfl, hv, hb2⟩; have bR := bR.below hb2; have hB0 := Below.then hB0 hb2; rw [← HV.out] at hv; obtain ⟨a3, l3, c3, rfl, hr3⟩ := hv; have q0 := bR.c0; have q1 := bR.c1; have f0 := bR.f0; have f1 := bR.f1))
    obtain ⟨hr, hB2⟩ := set2_fin (.bool (decide (valZ (wlst s) < 0))) (.slice a3 l3 c3) hB0 (Nat.le_refl _) bR rfl rfl hr3
    exact bodyPost_ret (v := .tuple #[.agg #[.bool (decide (valZ (wlst s) < 0)), .slice a3 l3 c3], .bool true]) (by simp [results, Tryd.results6, go_sem, q0, q1]) rfl (ParseI.yes HG.out ⟨a3, l3, c3, rfl, hr⟩ hB2)
  · have hz2 := hz rfl
    clear hz
    go_enter Tryd.func6, Tryd.ntmps6
    go_wp2_with (first
      | (go_at_call 25; refine (HC.out _).mono ?_; rintro e w' ⟨rfl, rfl⟩)
      | (go_at_call 26; refine (HNB.out _).mono ?_; rintro e w' ⟨rfl, rfl⟩)
      | (go_at_call 28; refine (HR.out _).mono ?_; rintro e w1 ⟨u, rfl, hu, hb1⟩; obtain ⟨au, cu, rfl⟩ := hu.form; have bR := bR.below hb1; have hB0 := Below.then hB0 hb1)
      | (go_at_call 27; refine (signed_s _ _ _ _ hu).mono ?_; rintro e w2 ⟨v, rfl, hv, hb2⟩; have bR := bR.below hb2; have hB0 := Below.then hB0 hb2; rw [← HV.out] at hv; obtain ⟨a3, l3, c3, rfl, hr3⟩ := hv; have q0 := bR.c0; have q1 := bR.c1; have f0 := bR.f0; have f1 := bR.f1))
    obtain ⟨hr, hB2⟩ := set2_fin (.bool (decide (valZ (wlst s) < 0))) (.slice a3 l3 c3) hB0 (Nat.le_refl _) bR rfl rfl hr3
    exact bodyPost_ret (v := .tuple #[.agg #[.bool (decide (valZ (wlst s) < 0)), .slice a3 l3 c3], .bool true]) (by simp [results, Tryd.results6, go_sem, q0, q1]) rfl (ParseI.yes HG.out ⟨a3, l3, c3, rfl, hr⟩ hB2)

theorem iparse_c (s : ByteArray) (hs : s.size ≤ 140737488351232) (w : World) : Calls Tryd.prog 6 #[.string s] w (ParseI (wlst s) w) := by
  by_cases h0 : 2000 < s.size
  · exact iparseA s h0 hs w
  have h1 : s.size ≤ 2000 := by omega
  cases hn : isNum (tailOf (wlst s))
  · exact iparseB s h1 hn w
  by_cases hc : (wlst s).head? = some 45 ∧ tailOf (wlst s) = [48]
  · exact iparseC s h1 hn hc.1 hc.2 w
  have hg : good (wlst s) = true := by
    rw [good_num (by rw [wlst_length]; exact h1), hn]
    by_cases h2 : (wlst s).head? = some 45
    · have h3 : ¬ tailOf (wlst s) = [48] := fun h => hc ⟨h2, h⟩
      simp [h3]
    · simp [h2]
  have hall : (tailOf (wlst s)).all isD = true := by
    unfold isNum at hn
    rw [Bool.and_eq_true] at hn
    exact hn.1
  have hw : wlst (⟨(tailOf (wlst s)).toArray⟩ : ByteArray) = tailOf (wlst s) := rfl
  have hts : (⟨(tailOf (wlst s)).toArray⟩ : ByteArray).size ≤ 2000 := by
    rw [← wlst_length, hw, tailOf]
    have := wlst_length s
    split
    · rw [List.length_tail]; omega
    · omega
  refine iparseD s ⟨(tailOf (wlst s)).toArray⟩ (decide ((wlst s).head? = some 45)) h1 hg (fun V => cut_c s V) (fun V => ?_) (fun V => ?_) (fun h => ?_) ?_ w
  · have := isNumber_w ⟨(tailOf (wlst s)).toArray⟩ (by omega) V
    rw [hw, hn] at this
    exact this
  · exact read_w ⟨(tailOf (wlst s)).toArray⟩ (by rw [hw]; exact hall) hts V
  · rw [Lib.toList_data]
    exact beq_eq_false_iff_ne.2 (fun h3 => hc ⟨of_decide_eq_true h, h3⟩)
  · show valZ (wlst s) = _
    rw [hw, valZ, sgn]
    by_cases h2 : (wlst s).head? = some 45
    · simp [h2]
    · simp [h2]
end Go.Proofs.YtjmmnpfedhkjbaaDoor
namespace Go.Proofs.YtjmmnpfedhkjbaaDoor
open Go.RowKit Go.Shelf

/-- A new block of one word as a row. -/
theorem row_one (W : World) (v : Nat) : Row .u64 (W.alloc (.cells #[.int .u64 (v : Nat)] 56)) (.slice (some ⟨W.heap.size, 0, none⟩) 1 1) [v] := by
  refine ⟨_, 1, rfl, by simp, by omega, by simp, Or.inr ⟨W.heap.size, 0, rfl, by simp, fun j hj => ?_⟩⟩
  have : j = 0 := by simp at hj; omega
  subst this
  exact (Boxed.new W 56 (.int .u64 (v : Nat))).cell

theorem limbs_one {n : Nat} (h0 : n ≠ 0) (h : n < B64) : limbs B64 n = [n] := by
  rw [limbs_pos two_le_B64 h0, Nat.mod_eq_of_lt h, Nat.div_eq_of_lt h, limbs_zero]

theorem trim_one {n : Nat} (h : n < B64) : trimL [n] = limbs B64 n := by
  have := limbs_val two_le_B64 (ds := [n]) (Dig.cons h (Dig.nil _))
  rw [← this]
  simp [val]

set_option maxRecDepth 100000 in
set_option maxHeartbeats 1000000 in
theorem iofPos (N : Nat) (hN : N ≤ 9223372036854775807) (w : World) : Calls Tryd.prog 10 #[.int .i64 (N : Int)] w fun e w' => ∃ u, e = .returned u ∧ IsInt w' u N ∧ Below w.heap.size w w' := by
  have hg : ¬ ((N : Int) < 0) := by omega
  have ec : IntKind.u64.wrap (N : Int) = (N : Int) := by rw [IntKind.wrap_u64]; omega
  have HT := hidR (trim_one (n := N) (by unfold B64; omega))
  have bR := (Box2.new w 25 (.bool false) (.slice none 0 0)).alloc (.cells #[.int .u64 (N : Nat)] 56)
  have hB0 : Below w.heap.size w ((w.alloc (.cells #[.bool false, .slice none 0 0] 25)).alloc (.cells #[.int .u64 (N : Nat)] 56)) := ((Below.refl _ _).alloc (Nat.le_refl _) _).alloc (by simp) _
  have hrow := row_one (w.alloc (.cells #[.bool false, .slice none 0 0] 25)) N
  rw [World.size_alloc] at hrow
  have e0 : (N : Int) = sgn false N := rfl
  have HE := hidR e0
  clear e0
  go_enter Tryd.func10, Tryd.ntmps10
  go_wp2_with (first
    | (go_at_call 31; refine (trimmed_c _ _ _ hrow).mono ?_; rintro e w1 ⟨u, rfl, hu, hb1⟩; rw [HT.out] at hu; obtain ⟨au, cu, rfl⟩ := UN.form hu; have bR := bR.below hb1; have hB0 := Below.then hB0 hb1)
    | (go_at_call 27; refine (signed_s _ _ _ _ hu).mono ?_; rintro e w2 ⟨v, rfl, hv, hb2⟩; have bR := bR.below hb2; have hB0 := Below.then hB0 hb2; rw [← HE.out] at hv; obtain ⟨a3, l3, c3, rfl, hr3⟩ := hv; have q0 := bR.c0; have q1 := bR.c1; have f0 := bR.f0; have f1 := bR.f1))
  obtain ⟨hr, hB2⟩ := set2_fin (.bool (decide ((N : Int) < 0))) (.slice a3 l3 c3) hB0 (Nat.le_refl _) bR rfl rfl hr3
  exact bodyPost_ret (v := .agg #[.bool (decide ((N : Int) < 0)), .slice a3 l3 c3]) (by simp [results, Tryd.results10, go_sem, q0, q1]) rfl ⟨_, rfl, ⟨a3, l3, c3, rfl, hr⟩, hB2⟩

set_option maxRecDepth 100000 in
set_option maxHeartbeats 1000000 in
theorem iofNeg (N : Nat) (h0 : 1 ≤ N) (hN : N ≤ 9223372036854775808) (w : World) : Calls Tryd.prog 10 #[.int .i64 (-(N : Int))] w fun e w' => ∃ u, e = .returned u ∧ IsInt w' u (-(N : Int)) ∧ Below w.heap.size w w' := by
  have hg : -(N : Int) < 0 := by omega
  have ec : IntKind.u64.wrap (-(IntKind.u64.wrap (-(N : Int)))) = (N : Int) := by simp only [IntKind.wrap_u64]; omega
  have HT := hidR (limbs_one (n := N) (by omega) (by unfold B64; omega))
  have bR := (Box2.new w 25 (.bool false) (.slice none 0 0)).alloc (.cells #[.int .u64 (N : Nat)] 56)
  have hB0 : Below w.heap.size w ((w.alloc (.cells #[.bool false, .slice none 0 0] 25)).alloc (.cells #[.int .u64 (N : Nat)] 56)) := ((Below.refl _ _).alloc (Nat.le_refl _) _).alloc (by simp) _
  have hrow := row_one (w.alloc (.cells #[.bool false, .slice none 0 0] 25)) N
  rw [World.size_alloc, ← HT.out] at hrow
  have hrow : UN ((w.alloc (.cells #[.bool false, .slice none 0 0] 25)).alloc (.cells #[.int .u64 (N : Nat)] 56)) (.slice (some ⟨w.heap.size + 1, 0, none⟩) 1 1) N := hrow
  have e0 : -(N : Int) = sgn true N := rfl
  have HE := hidR e0
  clear e0
  go_enter Tryd.func10, Tryd.ntmps10
  go_wp2_with (first
    | (go_at_call 27; refine (signed_s _ _ _ _ hrow).mono ?_; rintro e w2 ⟨v, rfl, hv, hb2⟩; have bR := bR.below hb2; have hB0 := Below.then hB0 hb2; rw [← HE.out] at hv; obtain ⟨a3, l3, c3, rfl, hr3⟩ := hv; have q0 := bR.c0; have q1 := bR.c1; have f0 := bR.f0; have f1 := bR.f1))
  obtain ⟨hr, hB2⟩ := set2_fin (.bool true) (.slice a3 l3 c3) hB0 (Nat.le_refl _) bR rfl rfl hr3
  exact bodyPost_ret (v := .agg #[.bool true, .slice a3 l3 c3]) (by simp [results, Tryd.results10, go_sem, q0, q1]) rfl ⟨_, rfl, ⟨a3, l3, c3, by rw [show decide (-(N : Int) < 0) = true from decide_eq_true hg], hr⟩, hB2⟩

theorem iof_c (n : Int) (h1 : -9223372036854775808 ≤ n) (h2 : n ≤ 9223372036854775807) (w : World) : Calls Tryd.prog 10 #[.int .i64 n] w fun e w' => ∃ u, e = .returned u ∧ IsInt w' u n ∧ Below w.heap.size w w' := by
  by_cases h : n < 0
  · have e : n = -(n.natAbs : Int) := by omega
    rw [e]
    exact iofNeg n.natAbs (by omega) (by omega) w
  · have e : n = (n.natAbs : Int) := by omega
    rw [e]
    exact iofPos n.natAbs (by omega) w
end Go.Proofs.YtjmmnpfedhkjbaaDoor
