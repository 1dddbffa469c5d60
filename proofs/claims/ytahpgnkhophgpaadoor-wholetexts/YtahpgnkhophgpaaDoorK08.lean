import Derived.Test.YtahpgnkhophgpaaDoorK03
import Derived.Deep.DeepCutAuto
import Derived.Deep.RegionHeld3
import Derived.Deep.RegionWith
import Derived.Deep.OwnRows
import Derived.Test.YtahpgnkhophgpaaDoorK01
namespace Go.Proofs.YtahpgnkhophgpaaDoor
open Go.RowKit Go.Shelf Go.Deep

theorem hidR {p : Prop} (h : p) : Hid p := h

theorem parseM_num (l : List UInt8) (acc : Nat) (h : l.all isD = true) (hb : num l + 10 ^ l.length * acc < 18446744073709551616) : Lib.parseUintM (2 ^ 64 - 1) acc l = .ok (num l + 10 ^ l.length * acc) := by
  induction l generalizing acc with
  | nil => simp [Lib.parseUintM, num, dgs, val]
  | cons c l ih =>
    have hc : isD c = true := List.all_eq_true.1 h c (List.mem_cons_self ..)
    have hl : l.all isD = true := by rw [List.all_cons, hc, Bool.true_and] at h; exact h
    have hcb := isD_bounds hc
    have e : num (c :: l) = num l + 10 ^ l.length * (c.toNat - 48) := by
      have := num_append [c] l
      rw [List.singleton_append] at this
      rw [this]
      congr 2
    have e2 : num (c :: l) + 10 ^ (c :: l).length * acc = num l + 10 ^ l.length * (acc * 10 + (c.toNat - 48)) := by
      rw [e, List.length_cons, Nat.pow_succ, Nat.mul_add, Nat.mul_assoc, Nat.mul_comm 10 acc]
      omega
    rw [e2] at hb ⊢
    have hp : 1 ≤ 10 ^ l.length := Nat.one_le_pow _ _ (by omega)
    have h1 : acc * 10 + (c.toNat - 48) ≤ 10 ^ l.length * (acc * 10 + (c.toNat - 48)) := Nat.le_mul_of_pos_left _ (by omega)
    rw [Lib.parseUintM, if_pos ⟨hcb.1, hcb.2⟩, if_neg (by omega), if_neg (by omega)]
    exact ih _ hl hb

theorem num_lt {l : List UInt8} (h : l.all isD = true) : num l < 10 ^ l.length := by
  have := val_lt (dig_dgs h)
  rwa [dgs_length] at this

theorem parseUint_num {l : List UInt8} (h : l.all isD = true) (h0 : l ≠ []) (h19 : l.length ≤ 19) : Lib.parseUintB 64 l = .ok (num l) := by
  have h1 := num_lt h
  have h2 : (10 : Nat) ^ l.length ≤ 10 ^ 19 := Nat.pow_le_pow_right (by omega) h19
  have h3 : (10 : Nat) ^ 19 < 18446744073709551616 := by decide
  rw [Lib.parseUintB, if_neg h0, parseM_num l 0 h (by omega)]
  simp

theorem bytesWorld_below (w : World) (e : TypeId) (s : ByteArray) : Below w.heap.size w (Lib.bytesWorld w e s) := by
  unfold Lib.bytesWorld
  refine ⟨rfl, rfl, rfl, ?_, fun k hk => ?_⟩
  · simp [World.freeze]
  · show (Array.modify _ _ _)[k]? = _
    rw [Array.getElem?_modify, if_neg (show ¬ w.heap.size = k by omega)]
    exact Below.heap_alloc w.drew _ k hk

theorem lst_take {s : ByteArray} {n : Nat} : wlst (s.extract 0 n) = (wlst s).take n := by
  unfold wlst
  rw [Lib.extract_data]
  simp

theorem lst_drop {s : ByteArray} {n : Nat} : wlst (s.extract n s.size) = (wlst s).drop n := by
  unfold wlst
  rw [Lib.extract_data, List.take_of_length_le]
  have := wlst_length s
  unfold wlst at this
  rw [List.length_drop, this]
  omega

theorem parseUint_c (s : ByteArray) (h : (wlst s).all isD = true) (h0 : 0 < s.size) (h19 : s.size ≤ 19) (w : World) :
    Calls Tryd.prog 44 #[.string s, .int .i64 10, .int .i64 64] w fun e w' => e = .returned (.tuple #[.int .u64 (num (wlst s) : Nat), .nilIface]) ∧ Below w.heap.size w w' := by
  have hl := wlst_length s
  refine (Tryd.strconv_ParseUint_10_at64_ok s (by omega) _ (parseUint_num (l := wlst s) h (by intro e; rw [e] at hl; simp at hl; omega) (by omega)) w).mono ?_
  rintro e w' ⟨rfl, rfl | rfl⟩
  · exact ⟨rfl, Below.refl _ _⟩
  · exact ⟨rfl, bytesWorld_below _ _ _⟩

/-- A text's length. -/
def strSz : Value → Nat | .string s => s.size | _ => 0

theorem num_length {l : List UInt8} (h : l.all isD = true) : (limbs B64 (num l)).length ≤ l.length := by
  refine limbs_length_le two_le_B64 (Nat.lt_of_lt_of_le (num_lt h) (Nat.pow_le_pow_left ?_ _))
  unfold B64; omega

theorem read_next {sb : ByteArray} {dn : List UInt8} {c n : Nat} (hc : c = num (wlst (sb.extract 0 n))) (hn : n = (sb.size - 1) % 19 + 1) (hn1 : n ≤ sb.size) (hd : dn = [] ∨ sb.size % 19 = 0) (h0 : 0 < sb.size) : c + num dn * 10000000000000000000 = num (dn ++ wlst (sb.extract 0 n)) := by
  have hl : (wlst (sb.extract 0 n)).length = n := by rw [wlst_length, ByteArray.size_extract]; omega
  rw [num_append, hl, ← hc]
  rcases hd with rfl | hd
  · simp [num, dgs, val]
  · have : n = 19 := by omega
    rw [this, Nat.mul_comm]

/-- One step of reading. -/
theorem read_step {c m l over : Nat} {q : List Nat} (hc : c < B64) (hl : l = (limbs B64 m).length) (h : AddTAt (c :: List.replicate l 0) (limbs B64 m) 0 10000000000000000000 l over q) :
    (c :: List.replicate l 0)[l]?.getD 0 + over < B64 ∧ trimL (q ++ [(c :: List.replicate l 0)[l]?.getD 0 + over]) = limbs B64 (c + m * 10000000000000000000) := by
  obtain ⟨h1, h2, h3, h4⟩ := h
  have hv : val B64 (limbs B64 m) = m := val_limbs two_le_B64 m
  rw [List.drop_zero] at h4
  have hz : ∀ k, val B64 (List.replicate k 0) = 0 := by
    intro k
    induction k with
    | zero => rfl
    | succ k ih => rw [List.replicate_succ, val_cons, ih]; rfl
  have htk : (limbs B64 m).take l = limbs B64 m := List.take_of_length_le (by omega)
  rw [htk, hv] at h4
  have key : (c :: List.replicate l 0)[l]?.getD 0 + over < B64 ∧ val B64 (q ++ [(c :: List.replicate l 0)[l]?.getD 0 + over]) = c + m * 10000000000000000000 := by
    cases l with
    | zero =>
      have hm : m = 0 := by
        have : limbs B64 m = [] := List.eq_nil_of_length_eq_zero hl.symm
        exact (limbs_eq_nil two_le_B64).1 this
      subst hm
      have hq : q = [] := List.eq_nil_of_length_eq_zero h1
      subst hq
      simp [val] at h4
      subst h4
      simp [val]
      exact hc
    | succ l =>
      have e1 : (c :: List.replicate (l + 1) 0)[l + 1]?.getD 0 = 0 := by simp
      rw [e1, Nat.zero_add]
      refine ⟨h3, ?_⟩
      rw [val_snoc, h1, h4, List.take_succ_cons, val_cons, List.take_replicate, hz]
      omega
  refine ⟨key.1, ?_⟩
  rw [← limbs_val two_le_B64 (h2.append (Dig.cons key.1 (Dig.nil _))), key.2]

theorem add_wrapR {r d : Nat} (h : r + d < B64) : IntKind.u64.wrap ((r : Int) + d) = ((r + d : Nat) : Int) := by
  unfold B64 at h
  rw [IntKind.wrap_u64]; omega

theorem read_mid {w4 : World} {nb c l : Nat} {q : List Nat} (hA : Arr w4 nb (mid (c :: List.replicate l 0) 0 l q)) (hq : q.length = l) :
    w4.cell? ⟨nb, l, none⟩ = some (.int .u64 ((c :: List.replicate l 0)[l]?.getD 0 : Nat)) ∧ w4.frozen? ⟨nb, l, none⟩ = false ∧ ∀ v, Arr (w4.setCell ⟨nb, l, none⟩ (.int .u64 (v : Nat))) nb (q ++ [v]) := by
  have e0 : mid (c :: List.replicate l 0) 0 l q = q ++ [(c :: List.replicate l 0)[l]?.getD 0] := by
    have hl : l < (c :: List.replicate l 0).length := by simp
    rw [mid, List.take_zero, List.nil_append, Nat.zero_add, List.drop_eq_getElem_cons hl, List.drop_eq_nil_of_le (by simp), List.getElem?_eq_getElem hl]
    rfl
  have hc := hA.cell (j := l) (by rw [e0]; simp; omega)
  rw [e0, List.getElem?_append_right (by omega), hq, Nat.sub_self] at hc
  refine ⟨hc, hA.frozen l, fun v => ?_⟩
  have := hA.set l v
  rw [e0, List.set_append_right _ _ (by omega), hq, Nat.sub_self] at this
  exact this

set_option maxRecDepth 100000 in
set_option maxHeartbeats 2000000 in
theorem read_w (s : ByteArray) (hd : (wlst s).all isD = true) (hs : s.size ≤ 2000) (w : World) :
    Calls Tryd.prog 28 #[.string s] w fun e w' => ∃ u, e = .returned u ∧ UN w' u (num (wlst s)) ∧ Below w.heap.size w w' := by
  have HD := hidR hd
  clear hd
  go_enter Tryd.func28, Tryd.ntmps28
  go_wp2
  go_loopw [0, 3] (fun dv rv wr => ∃ (sb : ByteArray) (dn : List UInt8) (a : Option Addr) (l cap : Nat), dv = .string sb ∧ rv = .slice a l cap ∧ sb.size ≤ 2000 ∧ l ≤ 2000 ∧ UN wr (.slice a l cap) (num dn) ∧ Hid (wlst s = dn ++ wlst sb ∧ (dn = [] ∨ sb.size % 19 = 0)) ∧ Below w.heap.size w wr) (fun dv _ _ => strSz dv)
  case atStart => exact ⟨s, [], none, 0, 0, rfl, rfl, hs, by omega, by unfold UN; simp [num, dgs, val, limbs_zero]; exact Row.nil _ _, ⟨by simp, Or.inl rfl⟩, Below.refl _ _⟩
  case round =>
    obtain ⟨sb, dn, a, l, cap, rfl, rfl, hsb, hl, hU, HI, hB⟩ := hrel
    by_cases h0 : sb.size = 0
    · have hsb0 : wlst sb = [] := List.eq_nil_of_length_eq_zero (by rw [wlst_length]; exact h0)
      have e : dn = wlst s := by rw [HI.out.1, hsb0, List.append_nil]
      have HE := hidR e
      have hz : sb.size ≤ 0 := by omega
      clear e hsb0 h0
      go_wp2
      go_ret
      exact ⟨_, rfl, by rw [← HE.out]; exact hU, hB⟩
    · have h0' : 0 < sb.size := by omega
      obtain ⟨n, hn⟩ : ∃ n, n = (sb.size - 1) % 19 + 1 := ⟨_, rfl⟩
      have En := hidR (show (((sb.size : Int) - 1) % 19 + 1) = (n : Int) by omega)
      have hn1 : n ≤ sb.size := by omega
      have HN := hidR hn
      clear hn
      go_upto_region 4 with fail
      rw [En.out]
      have hall : (wlst (sb.extract 0 n)).all isD = true := by
        have h1 := HD.out
        rw [HI.out.1, List.all_append, Bool.and_eq_true] at h1
        rw [lst_take, List.all_eq_true]
        intro c hc
        exact List.all_eq_true.1 h1.2 c (List.mem_of_mem_take hc)
      have hsz : (sb.extract 0 n).size = n := by rw [ByteArray.size_extract]; omega
      have hcl : num (wlst (sb.extract 0 n)) < 10000000000000000000 := by
        have h1 := num_lt hall
        rw [wlst_length, hsz] at h1
        have h2 : (10 : Nat) ^ n ≤ 10 ^ 19 := Nat.pow_le_pow_right (by omega) (by have := HN.out; omega)
        have h3 : (10 : Nat) ^ 19 = 10000000000000000000 := by decide
        omega
      have HPU := hidR (fun V => parseUint_c (sb.extract 0 n) hall (by rw [hsz]; have := HN.out; omega) (by rw [hsz]; have := HN.out; omega) V)
      obtain ⟨c, hc⟩ : ∃ c, c = num (wlst (sb.extract 0 n)) := ⟨_, rfl⟩
      rw [← hc] at hcl HPU
      have HCC := hidR hc
      have HCL := hidR hcl
      clear hall hsz hc hcl
      have hnp : 0 < n := by have := HN.out; omega
      have HNX : Hid (wlst s = (dn ++ wlst (sb.extract 0 n)) ++ wlst (sb.extract n sb.size) ∧ (dn ++ wlst (sb.extract 0 n) = [] ∨ (sb.extract n sb.size).size % 19 = 0)) := by
        refine ⟨?_, Or.inr ?_⟩
        · rw [List.append_assoc, lst_take, lst_drop, List.take_append_drop]
          exact HI.out.1
        · rw [ByteArray.size_extract]
          have := HN.out
          omega
      have HLN : Hid ((limbs B64 (num (dn ++ wlst (sb.extract 0 n)))).length ≤ 2000) := by
        have h1 := HD.out
        rw [HNX.out.1, List.all_append, Bool.and_eq_true] at h1
        have h2 := num_length h1.1
        have h3 := congrArg List.length HNX.out.1
        rw [List.length_append, wlst_length] at h3
        exact Nat.le_trans h2 (by omega)
      have hmk := make_row1 l (by omega)
      go_upto_region 7 with (first | (go_at_call 44; refine (HPU.out _).mono ?_; rintro e w1 ⟨rfl, hb1⟩))
      obtain ⟨W2, hW2⟩ : ∃ W2, w1.alloc (.cells (cellsOf .u64 (List.replicate (l + 1) 0)).toArray 56) = W2 := ⟨_, rfl⟩
      have hA2 : Arr W2 w1.heap.size (List.replicate (l + 1) 0) := Arr.made (by rw [← hW2]; exact World.alloc_heap_new w1 _)
      have hB1 : Below w.heap.size w w1 := hB.trans (hb1.mono hB.size)
      have hB2 : Below w.heap.size w W2 := by rw [← hW2]; exact hB1.alloc hB1.size _
      have hU2 : UN W2 (.slice a l cap) (num dn) := by rw [← hW2]; exact Row.below (Row.below hU hb1) ((Below.refl _ _).alloc (Nat.le_refl _) _)
      have hnb : w.heap.size ≤ w1.heap.size := hB1.size
      have hrb : Hid (∀ p, a = some p → 0 < l → p.block ≠ w1.heap.size) := by
        intro p ep hl0
        obtain ⟨_, _, _, _, hcs⟩ := row_fn hU
        obtain ⟨b', off', ea, hlt, _⟩ := hcs 0 hl0
        rw [ep] at ea
        cases ea
        have := hb1.size
        simp only
        omega
      have hll := hU.len
      have HLL := hidR hll
      rw [hW2]
      clear hW2 hmk hb1 hB1 hU hll HPU hB
      generalize w1.heap.size = nb at *
      have z0 := hA2.cell (j := 0) (by simp)
      have z1 := hA2.frozen 0
      go_upto_region 8 with fail
      obtain ⟨W3, hW3⟩ : ∃ W3, W2.setCell ⟨nb, 0, none⟩ (.int .u64 (c : Nat)) = W3 := ⟨_, rfl⟩
      have hA3 : Arr W3 nb (c :: List.replicate l 0) := by rw [← hW3]; have := hA2.set 0 c; simpa [List.replicate_succ] using this
      have hB3 : Below w.heap.size w W3 := by rw [← hW3]; exact hB2.setCell hnb _
      have hU3 : UN W3 (.slice a l cap) (num dn) := by rw [← hW3]; exact Row.grown hU2 (grown_set _ _ _ _) hrb.out
      rw [hW3]
      clear hW3 hA2 hB2 hU2 z0 z1
      have hl0 := hA3.cell (j := l) (by simp)
      have hf0 := hA3.frozen l
      obtain ⟨y, hy⟩ : ∃ y, y = (c :: List.replicate l 0)[l]?.getD 0 := ⟨_, rfl⟩
      rw [← hy] at hl0
      have HY := hidR hy
      clear hy
      have HAT := hidR (fun V (hV : Below W3.heap.size W3 V) => addTimes_w nb 0 l (l + 1) (c :: List.replicate l 0) a cap (limbs B64 (num dn)) 10000000000000000000 V (hA3.below hV) (Dig.cons (by have := HCL.out; unfold B64; omega) (fun d hd => by rw [List.eq_of_mem_replicate hd]; unfold B64; omega)) (by simp) (by omega) (Row.below hU3 hV) (dig_limbs two_le_B64 _) hrb.out (by unfold B64; omega))
      have i0 : (0 : Int) ≤ (l : Int) := by omega
      have i1 : (l : Int) < (l : Int) + 1 := by omega
      have i2 : (l : Int) ≤ (l : Int) + 1 := by omega
      go_region_with (first
          | (go_at_call 45; refine (HAT.out _ ?_).mono ?_; exact (Below.refl _ _).drew; rintro e w4 ⟨over, q, rfl, hP, hA4, hg4⟩; obtain ⟨k1, k2, k3⟩ := read_mid hA4 hP.1; rw [← HY.out] at k1; have hst := read_step (by have := HCL.out; unfold B64; omega) HLL.out hP; rw [← HY.out] at hst; have ewr : IntKind.u64.wrap ((y : Int) + over) = ((y + over : Nat) : Int) := add_wrapR hst.1; have HST := hidR hst.2; have HQL := hidR hP.1; clear hst hP))
      all_goals go_wp2_with fail
      all_goals
        have hA5 : Arr (w4.setCell ⟨nb, l, none⟩ (.int .u64 ((y : Int) + over))) nb (q ++ [y + over]) := by
          have := k3 (y + over)
          rwa [Int.natCast_add] at this
        have hql : q.length = l := HQL.out
        have hrow := hA5.row 0 (l + 1) (l + 1) (by simp; omega) (by omega) (by omega) (by omega)
        rw [List.drop_zero, List.take_of_length_le (by simp; omega)] at hrow
        refine (trimmed_c _ _ _ hrow).mono ?_
        rintro e w6 ⟨u, rfl, hu, hb6⟩
        rw [HST.out, read_next HCC.out HN.out hn1 HI.out.2 h0'] at hu
        have hB6 : Below w.heap.size w w6 := ((below_grown hB3.drew hg4 hnb).setCell hnb _).trans (hb6.mono (by have h1 := hB3.size; have h2 := hg4.size; simp [World.setCell] at h2 ⊢; omega))
        obtain ⟨au, cu, eu⟩ := UN.form hu
        subst eu
        go_wp2
        go_roundw
        case rel => exact ⟨sb.extract n sb.size, dn ++ wlst (sb.extract 0 n), au, _, cu, rfl, rfl, by rw [ByteArray.size_extract]; omega, HLN.out, hu, HNX.out, hB6⟩
        case measure =>
          show (sb.extract n sb.size).size < sb.size
          rw [ByteArray.size_extract]; omega
end Go.Proofs.YtahpgnkhophgpaaDoor

namespace Go.Proofs.YtahpgnkhophgpaaDoor
open Go.RowKit Go.Shelf

set_option maxHeartbeats 400000 in
theorem made_c (a : Option Addr) (len cap : Nat) (m : Bool) (w : World) : Calls Tryd.prog 37 #[.slice a len cap, .bool m] w fun e w' => e = .returned (.agg #[.slice a len cap, .bool (m && decide (0 < len))]) ∧ Below w.heap.size w w' := by
  cases m
  · go_enter Tryd.func37, Tryd.ntmps37
    go_wp2
    exact bodyPost_ret (v := .agg #[.slice a len cap, .bool false]) (by simp [results, Tryd.results37, go_sem]) rfl ⟨by simp, (Below.refl _ _).alloc (Nat.le_refl _) _⟩
  · go_enter Tryd.func37, Tryd.ntmps37
    go_wp2
    exact bodyPost_ret (v := .agg #[.slice a len cap, .bool (decide (0 < len))]) (by simp [results, Tryd.results37, go_sem]) rfl ⟨by simp, (Below.refl _ _).alloc (Nat.le_refl _) _⟩

/-- The length of a slice value. -/
def lenV : Value → Nat | .slice _ k _ => k | _ => 0

set_option maxHeartbeats 400000 in
theorem trim_c (v : Value) (ds : List Nat) (w : World) (h : Row .i64 w v ds) : Calls Tryd.prog 29 #[v] w fun e w' => ∃ u, e = .returned u ∧ Row .i64 w u (trimL ds) ∧ w' = w := by
  obtain ⟨a, cap, rfl, hlc, hcap, hlm, hcs⟩ := h
  have HC : Hid (ds = [] ∨ ∃ b off, a = some ⟨b, off, none⟩ ∧ b < w.heap.size ∧ ∀ j, j < ds.length → w.cell? ⟨b, off + j, none⟩ = some (.int .i64 (ds[j]?.getD 0 : Nat))) := hcs
  clear hcs
  go_enter Tryd.func29, Tryd.ntmps29
  go_wp2
  go_loop [0] (fun d => ∃ k : Nat, k ≤ ds.length ∧ d = .slice a k cap ∧ Hid (trimL (ds.take k) = trimL ds)) (fun d => lenV d)
  case atStart => exact ⟨ds.length, Nat.le_refl _, rfl, by rw [List.take_length]; exact rfl⟩
  case round =>
    obtain ⟨k, hk, rfl, ht⟩ := hrel
    cases k with
    | zero =>
      go_wp2
      go_ret
      refine ⟨_, rfl, ?_, rfl⟩
      have : trimL ds = [] := by rw [← ht.out]; simp [trimL]
      rw [this]
      exact ⟨a, cap, rfl, by simp, hcap, by simp, Or.inl rfl⟩
    | succ k =>
      rcases HC.out with hd | ⟨b, off, ea, hb, hc⟩
      · rw [hd] at hk; simp at hk
      · subst ea
        have hck := hc k (by omega)
        have HH : Hid (∀ j, j < ds.length → w.cell? ⟨b, off + j, none⟩ = some (.int .i64 (ds[j]?.getD 0 : Nat))) := hc
        have HT : Hid (ds.take (k + 1) = ds.take k ++ [ds[k]?.getD 0]) := by
          show ds.take (k + 1) = _
          rw [List.take_succ_eq_append_getElem (by omega), List.getElem?_eq_getElem (by omega)]; rfl
        clear hc HC
        generalize ds[k]?.getD 0 = x at hck HT
        by_cases hx0 : x = 0
        · subst hx0
          go_wp2
          go_round
          case rel =>
            refine ⟨k, by omega, by simp, ?_⟩
            show trimL (ds.take k) = trimL ds
            rw [← ht.out, HT.out, trimL_snoc_zero]
          case measure => simp [lenV]
        · have hx1 : ((x : Int) == 0) = false := by simp; exact hx0
          go_wp2
          go_ret
          refine ⟨.slice (some ⟨b, off, none⟩) (k + 1) cap, rfl, ?_, rfl⟩
          have e : trimL ds = ds.take (k + 1) := by rw [← ht.out, HT.out, trimL_snoc_ne _ hx0]
          have el : (ds.take (k + 1)).length = k + 1 := by rw [List.length_take]; omega
          rw [e]
          refine ⟨_, cap, by rw [el], by omega, hcap, by omega, Or.inr ⟨b, off, rfl, hb, fun j hj => ?_⟩⟩
          rw [el] at hj
          rw [HH.out j (by omega), List.getElem?_take_of_lt hj]
end Go.Proofs.YtahpgnkhophgpaaDoor

namespace Go.Proofs.YtahpgnkhophgpaaDoor
open Go.RowKit Go.Shelf

set_option maxHeartbeats 1000000 in
theorem order_c (B : Nat) (hB : 2 ≤ B) (va vb : Value) (da db : List Nat) (w : World) (ha : Row .i64 w va da) (hb : Row .i64 w vb db) (xa : Dig B da) (xb : Dig B db) (ta : Top da) (tb : Top db) :
    Calls Tryd.prog 39 #[va, vb] w fun e w' => e = .returned (.int .i64 (cmpN (val B da) (val B db))) ∧ Below w.heap.size w w' := by
  obtain ⟨a, ca, rfl, hla, hca, hma, HA⟩ := ha.open
  obtain ⟨b, cb, rfl, hlb, hcb, hmb, HB⟩ := hb.open
  by_cases hl : da.length = db.length
  · have HL : Hid (da.length = db.length) := hl
    rw [← hl]
    rw [← hl] at hlb
    clear hl
    go_enter Tryd.func39, Tryd.ntmps39
    go_wp2
    go_loopw [5] (fun i wr => ∃ k : Nat, k ≤ da.length ∧ i = .int .i64 ((k : Int) - 1) ∧ Hid (da.drop k = db.drop k) ∧ Below w.heap.size w wr) (fun i _ => (intOf i + 1).toNat)
    case atStart => exact ⟨da.length, Nat.le_refl _, rfl, by show da.drop _ = db.drop _; rw [List.drop_eq_nil_of_le (Nat.le_refl _), List.drop_eq_nil_of_le (by rw [HL.out]; exact Nat.le_refl _)], Below.refl _ _⟩
    case round =>
      obtain ⟨k, hk, rfl, hd, hB⟩ := hrel
      cases k with
      | zero =>
        go_wp2
        go_ret
        have e : da = db := by have := hd.out; simpa using this
        exact ⟨ret_int (by rw [e, cmpN_self]), hB⟩
      | succ k =>
        obtain ⟨ba, oa, rfl, hba, hc1⟩ := HA.out k (by omega)
        obtain ⟨bb, ob, rfl, hbb, hc2⟩ := HB.out k (by have := HL.out; omega)
        have hq1 : wr.cell? ⟨ba, oa + k, none⟩ = some (.int .i64 (da[k]?.getD 0 : Nat)) := (hB.cell (p := ⟨ba, oa + k, none⟩) hba).trans hc1
        have hq2 : wr.cell? ⟨bb, ob + k, none⟩ = some (.int .i64 (db[k]?.getD 0 : Nat)) := (hB.cell (p := ⟨bb, ob + k, none⟩) hbb).trans hc2
        clear hc1 hc2
        have HX := Hid.out (p := Hid ((da[k]?.getD 0 = db[k]?.getD 0 ∧ da.drop k = db.drop k) ∨ (da[k]?.getD 0 < db[k]?.getD 0 ∧ val B da < val B db) ∨ (db[k]?.getD 0 < da[k]?.getD 0 ∧ val B db < val B da))) (by
          rcases Nat.lt_trichotomy (da[k]?.getD 0) (db[k]?.getD 0) with h | h | h
          · exact Or.inr (Or.inl ⟨h, val_lt_at xa HL.out k (by omega) hd.out h⟩)
          · exact Or.inl ⟨h, drop_eq_step HL.out k (by omega) hd.out h⟩
          · exact Or.inr (Or.inr ⟨h, val_lt_at xb HL.out.symm k (by have := HL.out; omega) hd.out.symm h⟩))
        generalize da[k]?.getD 0 = x at hq1 HX
        generalize db[k]?.getD 0 = y at hq2 HX
        rcases Nat.lt_trichotomy x y with h | h | h
        · have g1 : ((x : Int) != y) = true := by rw [bne_iff_ne]; omega
          go_wp2
          go_quiet (fail)
          go_wp2
          go_quiet (fail)
          go_wp2
          go_ret
          refine ⟨ret_int ?_, below_drewN (below_drewN hB _) _⟩
          rcases HX.out with ⟨g, _⟩ | ⟨_, g⟩ | ⟨g, _⟩
          · omega
          · rw [cmpN_lt g]
          · omega
        · subst h
          have g1 : ((x : Int) != x) = false := by simp
          go_wp2
          go_quiet (fail)
          go_wp2
          go_roundw
          case rel =>
            refine ⟨k, by omega, by simp, ?_, below_drewN hB _⟩
            rcases HX.out with ⟨_, g⟩ | ⟨g, _⟩ | ⟨g, _⟩
            · exact g
            · omega
            · omega
          case measure => simp [intOf]
        · have g1 : ((x : Int) != y) = true := by rw [bne_iff_ne]; omega
          have g2 : decide ((x : Int) < y) = false := decide_eq_false (by omega)
          go_wp2
          go_quiet (fail)
          go_wp2
          go_quiet (fail)
          go_wp2
          go_ret
          refine ⟨ret_int ?_, below_drewN (below_drewN hB _) _⟩
          rcases HX.out with ⟨g, _⟩ | ⟨g, _⟩ | ⟨_, g⟩
          · omega
          · omega
          · rw [cmpN_gt g]
  · have hl1 : ((da.length : Int) != db.length) = true := by rw [bne_iff_ne]; omega
    clear HA HB
    by_cases h : da.length < db.length
    · have g := val_lt_of_length hB xa xb ta tb h
      have G : Hid (val B da < val B db) := g
      clear g
      go_enter Tryd.func39, Tryd.ntmps39
      go_wp2
      go_ret
      exact ⟨ret_int (by rw [cmpN_lt G.out]), Below.refl _ _⟩
    · have g := val_lt_of_length hB xb xa tb ta (by omega)
      have G : Hid (val B db < val B da) := g
      clear g
      have h' : db.length < da.length := by omega
      go_enter Tryd.func39, Tryd.ntmps39
      go_wp2
      go_ret
      exact ⟨ret_int (by rw [cmpN_gt G.out]), Below.refl _ _⟩
end Go.Proofs.YtahpgnkhophgpaaDoor

namespace Go.Proofs.YtahpgnkhophgpaaDoor
open Go.RowKit Go.Shelf

/-- The slice value v holds the digits of base 10000 of n. -/
def RN (W : World) (v : Value) (n : Nat) : Prop := Row .i64 W v (limbs 10000 n)

/-- A fact, hidden from the walk. -/
theorem hide {p : Prop} (h : p) : Hid p := h

/-- What a sum's loop knows. -/
def PlusAt (da db : List Nat) (k c : Nat) (acc : List Nat) : Prop :=
  acc.length = k ∧ Dig 10000 acc ∧ c ≤ 1 ∧ val 10000 acc + 10000 ^ k * c = val 10000 (da.take k) + val 10000 (db.take k) ∧
    (k ≤ max da.length db.length ∨ (k = max da.length db.length + 1 ∧ c = 0 ∧ 10000 ^ (k - 1) ≤ val 10000 acc))

theorem PlusAt.start (da db : List Nat) : PlusAt da db 0 0 [] := ⟨rfl, Dig.nil _, by omega, by simp [val], Or.inl (by omega)⟩

theorem PlusAt.step {da db : List Nat} {k c : Nat} {acc : List Nat} (h : PlusAt da db k c acc) (xa : Dig 10000 da) (xb : Dig 10000 db) (hgo : k < da.length ∨ k < db.length ∨ 0 < c) :
    PlusAt da db (k + 1) ((c + (da[k]?.getD 0 + db[k]?.getD 0)) / 10000) (acc ++ [(c + (da[k]?.getD 0 + db[k]?.getD 0)) % 10000]) := by
  obtain ⟨hl, hd, hc, hv, hk⟩ := h
  have h1 := xa.getD (by omega) k
  have h2 := xb.getD (by omega) k
  subst hl
  refine ⟨by simp, hd.append (Dig.cons (Nat.mod_lt _ (by omega)) (Dig.nil _)), by omega, ?_, ?_⟩
  · rw [sum_step acc c _ _ hv, val_take_succ, val_take_succ, Nat.mul_add]
    omega
  · rcases hk with hk | ⟨hk, h0, _⟩
    · by_cases hk2 : acc.length < max da.length db.length
      · exact Or.inl (by omega)
      · have e1 : da[acc.length]?.getD 0 = 0 := by rw [List.getElem?_eq_none (by omega)]; rfl
        have e2 : db[acc.length]?.getD 0 = 0 := by rw [List.getElem?_eq_none (by omega)]; rfl
        have e3 : c = 1 := by omega
        rw [e1, e2, e3]
        refine Or.inr ⟨by omega, by omega, ?_⟩
        rw [val_snoc]
        simp
    · omega

theorem PlusAt.done {m n k : Nat} {acc : List Nat} (h : PlusAt (limbs 10000 m) (limbs 10000 n) k 0 acc) (h1 : (limbs 10000 m).length ≤ k) (h2 : (limbs 10000 n).length ≤ k) : acc = limbs 10000 (m + n) := by
  obtain ⟨hl, hd, hc, hv, hk⟩ := h
  rw [List.take_of_length_le h1, List.take_of_length_le h2, val_limbs (by omega), val_limbs (by omega)] at hv
  refine sum_done (by omega) hd (by omega) ?_ (by omega)
  rcases hk with hk | ⟨_, _, hk⟩
  · exact Or.inl (by omega)
  · exact Or.inr (by rw [hl]; exact hk)

set_option maxHeartbeats 2000000 in
theorem plus_c (va vb : Value) (m n : Nat) (w : World) (ha : RN w va m) (hb : RN w vb n) (hma : (limbs 10000 m).length ≤ 1000000000) (hmb : (limbs 10000 n).length ≤ 1000000000) :
    Calls Tryd.prog 38 #[va, vb] w fun e w' => ∃ u, e = .returned u ∧ RN w' u (m + n) ∧ Below w.heap.size w w' := by
  obtain ⟨a, ca, rfl, hla, hca, _, HA⟩ := Row.open ha
  obtain ⟨b, cb, rfl, hlb, hcb, _, HB⟩ := Row.open hb
  have xa := dig_limbs (B := 10000) (by omega) m
  have xb := dig_limbs (B := 10000) (by omega) n
  have HF : Hid (∀ k acc, PlusAt (limbs 10000 m) (limbs 10000 n) k 0 acc → (limbs 10000 m).length ≤ k → (limbs 10000 n).length ≤ k → acc = limbs 10000 (m + n)) := fun k acc h h1 h2 => h.done h1 h2
  obtain ⟨i0, hi, hz0, hz1, hz2⟩ := info_parts Tryd.infoInt
  unfold RN
  clear ha hb
  generalize limbs 10000 m = da at *
  generalize limbs 10000 n = db at *
  generalize limbs 10000 (m + n) = dc at *
  go_enter Tryd.func38, Tryd.ntmps38
  go_wp2
  go_loopw [5, 6, 7] (fun d c i wr => ∃ (k cc : Nat) (acc : List Nat) (ao : Option Addr) (cv : Nat), i = .int .i64 k ∧ c = .int .i64 cc ∧ d = .slice ao acc.length cv ∧ PlusAt da db k cc acc ∧ wr.ownsRow w.heap.size 3 1 d acc.length (cellsOf .i64 acc) ∧ Below w.heap.size w wr)
    (fun _ _ i _ => 1000000002 - (intOf i).toNat)
  case atStart => exact ⟨0, 0, [], none, 0, rfl, rfl, rfl, PlusAt.start da db, World.ownsRow_nil _ _ _ _, Below.refl _ _⟩
  case round =>
    obtain ⟨k, cc, acc, ao, cv, rfl, rfl, rfl, hP, hown, hB⟩ := hrel
    have hsize := hB.size
    have hkl := hP.1
    have hc1 := hP.2.2.1
    have hkm : k ≤ 1000000001 := by rcases hP.2.2.2.2 with h | ⟨h, _⟩ <;> omega
    have hst := hP.step xa xb
    have HP : Hid (PlusAt da db k cc acc) := hP
    clear hP
    by_cases h1 : k < da.length
    · obtain ⟨ba, oa, rfl, hba, hq1⟩ := HA.out k h1
      have hq1 : wr.cell? ⟨ba, oa + k, none⟩ = some (.int .i64 (da[k]?.getD 0 : Nat)) := (hB.cell (p := ⟨ba, oa + k, none⟩) hba).trans hq1
      by_cases h2 : k < db.length
      · obtain ⟨bb, ob, rfl, hbb, hq2⟩ := HB.out k h2
        have hq2 : wr.cell? ⟨bb, ob + k, none⟩ = some (.int .i64 (db[k]?.getD 0 : Nat)) := (hB.cell (p := ⟨bb, ob + k, none⟩) hbb).trans hq2
        have HS := hide (hst (Or.inl h1))
        clear hst
        have hx := xa.getD (by omega) k
        have hy := xb.getD (by omega) k
        generalize da[k]?.getD 0 = x at *
        generalize db[k]?.getD 0 = y at *
        go_wp2_with (first
          | (at_builtin; refine wpList_append_own _ rfl _ _ 28 rfl w.heap.size 3 i0 (.int .i64 0) 1 8 Tryd.underlying28 hi hz0 hz1 hz2 rfl (by decide) (.slice ao acc.length cv) acc.length (cellsOf .i64 acc) rfl (hown.alloc _) ⟨wr.heap.size, 0, none⟩ 1 1 [_] rfl rfl (cell_one_new _ _ _) (by simp [Value.oneCell']) (by unfold maxLen; omega) (by omega) (by simp; omega) ?_; intro v' w3 hown' hgrow hnil))
        obtain ⟨g, cv', e1, ho, hB3⟩ := append_end ((cc + (x + y)) % 10000) (by omega) hB hown hown' hgrow
        go_roundw
        case rel => exact ⟨k + 1, (cc + (x + y)) / 10000, _, _, _, by simp, by go_num, e1, HS.out, ho, hB3⟩
        case measure => simp [intOf]; omega
      · have ey : db[k]?.getD 0 = 0 := by rw [List.getElem?_eq_none (by omega)]; rfl
        have HS := hide (hst (Or.inl h1))
        clear hst
        have hx := xa.getD (by omega) k
        rw [ey] at HS
        clear ey
        generalize da[k]?.getD 0 = x at *
        go_wp2_with (first
          | (at_builtin; refine wpList_append_own _ rfl _ _ 28 rfl w.heap.size 3 i0 (.int .i64 0) 1 8 Tryd.underlying28 hi hz0 hz1 hz2 rfl (by decide) (.slice ao acc.length cv) acc.length (cellsOf .i64 acc) rfl (hown.alloc _) ⟨wr.heap.size, 0, none⟩ 1 1 [_] rfl rfl (cell_one_new _ _ _) (by simp [Value.oneCell']) (by unfold maxLen; omega) (by omega) (by simp; omega) ?_; intro v' w3 hown' hgrow hnil))
        obtain ⟨g, cv', e1, ho, hB3⟩ := append_end ((cc + (x + 0)) % 10000) (by omega) hB hown hown' hgrow
        go_roundw
        case rel => exact ⟨k + 1, (cc + (x + 0)) / 10000, _, _, _, by simp, by go_num, e1, HS.out, ho, hB3⟩
        case measure => simp [intOf]; omega
    · have ex : da[k]?.getD 0 = 0 := by rw [List.getElem?_eq_none (by omega)]; rfl
      by_cases h2 : k < db.length
      · obtain ⟨bb, ob, rfl, hbb, hq2⟩ := HB.out k h2
        have hq2 : wr.cell? ⟨bb, ob + k, none⟩ = some (.int .i64 (db[k]?.getD 0 : Nat)) := (hB.cell (p := ⟨bb, ob + k, none⟩) hbb).trans hq2
        have HS := hide (hst (Or.inr (Or.inl h2)))
        clear hst
        have hy := xb.getD (by omega) k
        rw [ex] at HS
        clear ex
        generalize db[k]?.getD 0 = y at *
        go_wp2_with (first
          | (at_builtin; refine wpList_append_own _ rfl _ _ 28 rfl w.heap.size 3 i0 (.int .i64 0) 1 8 Tryd.underlying28 hi hz0 hz1 hz2 rfl (by decide) (.slice ao acc.length cv) acc.length (cellsOf .i64 acc) rfl (hown.alloc _) ⟨wr.heap.size, 0, none⟩ 1 1 [_] rfl rfl (cell_one_new _ _ _) (by simp [Value.oneCell']) (by unfold maxLen; omega) (by omega) (by simp; omega) ?_; intro v' w3 hown' hgrow hnil))
        obtain ⟨g, cv', e1, ho, hB3⟩ := append_end ((cc + (0 + y)) % 10000) (by omega) hB hown hown' hgrow
        go_roundw
        case rel => exact ⟨k + 1, (cc + (0 + y)) / 10000, _, _, _, by simp, by go_num, e1, HS.out, ho, hB3⟩
        case measure => simp [intOf]; omega
      · have ey : db[k]?.getD 0 = 0 := by rw [List.getElem?_eq_none (by omega)]; rfl
        rw [ex, ey] at hst
        clear ex ey
        by_cases h3 : cc = 0
        · subst h3
          clear hst
          go_wp2
          go_ret
          have e := HF.out k acc HP.out (by omega) (by omega)
          subst e
          exact ⟨_, rfl, Row.of_owns hown (by omega), hB⟩
        · have h4 : cc = 1 := by omega
          have HS := hide (hst (Or.inr (Or.inr (by omega))))
          clear hst h3
          subst h4
          go_wp2_with (first
            | (at_builtin; refine wpList_append_own _ rfl _ _ 28 rfl w.heap.size 3 i0 (.int .i64 0) 1 8 Tryd.underlying28 hi hz0 hz1 hz2 rfl (by decide) (.slice ao acc.length cv) acc.length (cellsOf .i64 acc) rfl (hown.alloc _) ⟨wr.heap.size, 0, none⟩ 1 1 [_] rfl rfl (cell_one_new _ _ _) (by simp [Value.oneCell']) (by unfold maxLen; omega) (by omega) (by simp; omega) ?_; intro v' w3 hown' hgrow hnil))
          obtain ⟨g, cv', e1, ho, hB3⟩ := append_end ((1 + (0 + 0)) % 10000) (by omega) hB hown hown' hgrow
          go_roundw
          case rel => exact ⟨k + 1, (1 + (0 + 0)) / 10000, _, _, _, by simp, by go_num, e1, HS.out, ho, hB3⟩
          case measure => simp [intOf]; omega
end Go.Proofs.YtahpgnkhophgpaaDoor

namespace Go.Proofs.YtahpgnkhophgpaaDoor
open Go.RowKit Go.Shelf

/-- What a difference's loop knows. -/
def MinusAt (da db : List Nat) (k : Nat) (c : Int) (acc : List Nat) : Prop :=
  acc.length = k ∧ Dig 10000 acc ∧ (c = 0 ∨ c = -1) ∧ (val 10000 acc : Int) + val 10000 (db.take k) = val 10000 (da.take k) - (10000 ^ k : Nat) * c

theorem MinusAt.start (da db : List Nat) : MinusAt da db 0 0 [] := ⟨rfl, Dig.nil _, Or.inl rfl, by simp [val]⟩

theorem MinusAt.step {da db : List Nat} {k : Nat} {c : Int} {acc : List Nat} (h : MinusAt da db k c acc) (xa : Dig 10000 da) (xb : Dig 10000 db) (c' : Int) (d : Nat) (hd : (d : Int) = c + da[k]?.getD 0 - db[k]?.getD 0 - 10000 * c') (hd2 : d < 10000) :
    MinusAt da db (k + 1) c' (acc ++ [d]) := by
  obtain ⟨hl, hg, hc, hv⟩ := h
  have h1 := xa.getD (by omega) k
  have h2 := xb.getD (by omega) k
  subst hl
  refine ⟨by simp, hg.append (Dig.cons hd2 (Dig.nil _)), by omega, ?_⟩
  rw [val_snoc, val_take_succ, val_take_succ]
  generalize hq : (10000 ^ acc.length : Nat) = q at hv ⊢
  have e : (10000 ^ (acc.length + 1) : Nat) = q * 10000 := by rw [Nat.pow_succ, hq]
  rw [e]
  have e2 : ((q * d : Nat) : Int) = (q : Int) * c + q * (da[acc.length]?.getD 0 : Nat) - q * (db[acc.length]?.getD 0 : Nat) - q * (10000 * c') := by
    rw [Int.natCast_mul, hd, Int.mul_sub, Int.mul_sub, Int.mul_add]
  have e3 : ((q * 10000 : Nat) : Int) * c' = q * (10000 * c') := by rw [Int.natCast_mul, Int.mul_assoc]; rfl
  rw [e3]
  generalize (q : Int) * (10000 * c') = z at *
  simp only [Int.natCast_add, Int.natCast_mul] at *
  omega

theorem MinusAt.done {m n : Nat} {c : Int} {acc : List Nat} (hmn : n ≤ m) (h : MinusAt (limbs 10000 m) (limbs 10000 n) (limbs 10000 m).length c acc) : trimL acc = limbs 10000 (m - n) := by
  obtain ⟨hl, hd, hc, hv⟩ := h
  have hle : (limbs 10000 n).length ≤ (limbs 10000 m).length := by
    rcases Nat.lt_or_ge (limbs 10000 m).length (limbs 10000 n).length with g | g
    · have := limbs_lt_length (by omega) g
      omega
    · exact g
  rw [List.take_of_length_le (Nat.le_refl _), List.take_of_length_le hle, val_limbs (by omega), val_limbs (by omega)] at hv
  have h1 := val_lt hd
  rw [hl] at h1
  have hv2 : val 10000 acc = m - n := by
    rcases hc with rfl | rfl
    · omega
    · generalize (10000 ^ (limbs 10000 m).length : Nat) = q at hv h1
      omega
  rw [← limbs_val (by omega) hd, hv2]

set_option maxHeartbeats 2000000 in
theorem minus_c (va vb : Value) (m n : Nat) (w : World) (ha : RN w va m) (hb : RN w vb n) (hmn : n ≤ m) (hma : (limbs 10000 m).length ≤ 1000000000) :
    Calls Tryd.prog 40 #[va, vb] w fun e w' => ∃ u, e = .returned u ∧ RN w' u (m - n) ∧ Below w.heap.size w w' := by
  obtain ⟨a, ca, rfl, hla, hca, _, HA⟩ := Row.open ha
  obtain ⟨b, cb, rfl, hlb, hcb, _, HB⟩ := Row.open hb
  have xa := dig_limbs (B := 10000) (by omega) m
  have xb := dig_limbs (B := 10000) (by omega) n
  have HF : Hid (∀ c acc, MinusAt (limbs 10000 m) (limbs 10000 n) (limbs 10000 m).length c acc → trimL acc = limbs 10000 (m - n)) := fun c acc h => h.done hmn
  have HM : Hid (n ≤ m) := hmn
  obtain ⟨i0, hi, hz0, hz1, hz2⟩ := info_parts Tryd.infoInt
  unfold RN
  clear ha hb hmn HM
  generalize limbs 10000 m = da at *
  generalize limbs 10000 n = db at *
  generalize limbs 10000 (m - n) = dc at *
  go_enter Tryd.func40, Tryd.ntmps40
  go_wp2
  go_loopw [5, 6, 7] (fun d c i wr => ∃ (k : Nat) (cc : Int) (acc : List Nat) (ao : Option Addr) (cv : Nat), i = .int .i64 k ∧ c = .int .i64 cc ∧ d = .slice ao acc.length cv ∧ k ≤ da.length ∧ MinusAt da db k cc acc ∧ wr.ownsRow w.heap.size 3 1 d acc.length (cellsOf .i64 acc) ∧ Below w.heap.size w wr)
    (fun _ _ i _ => 1000000002 - (intOf i).toNat)
  case atStart => exact ⟨0, 0, [], none, 0, rfl, rfl, rfl, Nat.zero_le _, MinusAt.start da db, World.ownsRow_nil _ _ _ _, Below.refl _ _⟩
  case round =>
    obtain ⟨k, cc, acc, ao, cv, rfl, rfl, rfl, hk, hP, hown, hB⟩ := hrel
    have hsize := hB.size
    have hkl := hP.1
    have hc1 : -1 ≤ cc := by rcases hP.2.2.1 with h | h <;> omega
    have hc2 : cc ≤ 0 := by rcases hP.2.2.1 with h | h <;> omega
    by_cases h1 : k < da.length
    · obtain ⟨ba, oa, rfl, hba, hq1⟩ := HA.out k h1
      have hq1 : wr.cell? ⟨ba, oa + k, none⟩ = some (.int .i64 (da[k]?.getD 0 : Nat)) := (hB.cell (p := ⟨ba, oa + k, none⟩) hba).trans hq1
      have HS := hide (hP.step xa xb)
      have hx := xa.getD (by omega) k
      have hy := xb.getD (by omega) k
      clear hP
      by_cases h2 : k < db.length
      · obtain ⟨bb, ob, rfl, hbb, hq2⟩ := HB.out k h2
        have hq2 : wr.cell? ⟨bb, ob + k, none⟩ = some (.int .i64 (db[k]?.getD 0 : Nat)) := (hB.cell (p := ⟨bb, ob + k, none⟩) hbb).trans hq2
        generalize da[k]?.getD 0 = x at *
        generalize db[k]?.getD 0 = y at *
        by_cases ht : cc + x - y < 0
        · go_wp2_with (first
            | (at_builtin; refine wpList_append_own _ rfl _ _ 28 rfl w.heap.size 3 i0 (.int .i64 0) 1 8 Tryd.underlying28 hi hz0 hz1 hz2 rfl (by decide) (.slice ao acc.length cv) acc.length (cellsOf .i64 acc) rfl (hown.alloc _) ⟨wr.heap.size, 0, none⟩ 1 1 [_] rfl rfl (cell_one_new _ _ _) (by simp [Value.oneCell']) (by unfold maxLen; omega) (by omega) (by simp; omega) ?_; intro v' w3 hown' hgrow hnil))
          obtain ⟨g, cv', e1, ho, hB3⟩ := append_end ((cc + x - y + 10000).toNat) (by omega) hB hown hown' hgrow
          go_roundw
          case rel => exact ⟨k + 1, -1, _, _, _, by simp, rfl, e1, by omega, HS.out (-1) _ (by omega) (by omega), ho, hB3⟩
          case measure => simp [intOf]; omega
        · go_wp2_with (first
            | (at_builtin; refine wpList_append_own _ rfl _ _ 28 rfl w.heap.size 3 i0 (.int .i64 0) 1 8 Tryd.underlying28 hi hz0 hz1 hz2 rfl (by decide) (.slice ao acc.length cv) acc.length (cellsOf .i64 acc) rfl (hown.alloc _) ⟨wr.heap.size, 0, none⟩ 1 1 [_] rfl rfl (cell_one_new _ _ _) (by simp [Value.oneCell']) (by unfold maxLen; omega) (by omega) (by simp; omega) ?_; intro v' w3 hown' hgrow hnil))
          obtain ⟨g, cv', e1, ho, hB3⟩ := append_end ((cc + x - y).toNat) (by omega) hB hown hown' hgrow
          go_roundw
          case rel => exact ⟨k + 1, 0, _, _, _, by simp, rfl, e1, by omega, HS.out 0 _ (by omega) (by omega), ho, hB3⟩
          case measure => simp [intOf]; omega
      · have ey : db[k]?.getD 0 = 0 := by rw [List.getElem?_eq_none (by omega)]; rfl
        rw [ey] at HS
        clear ey hy
        generalize da[k]?.getD 0 = x at *
        by_cases ht : cc + x < 0
        · go_wp2_with (first
            | (at_builtin; refine wpList_append_own _ rfl _ _ 28 rfl w.heap.size 3 i0 (.int .i64 0) 1 8 Tryd.underlying28 hi hz0 hz1 hz2 rfl (by decide) (.slice ao acc.length cv) acc.length (cellsOf .i64 acc) rfl (hown.alloc _) ⟨wr.heap.size, 0, none⟩ 1 1 [_] rfl rfl (cell_one_new _ _ _) (by simp [Value.oneCell']) (by unfold maxLen; omega) (by omega) (by simp; omega) ?_; intro v' w3 hown' hgrow hnil))
          obtain ⟨g, cv', e1, ho, hB3⟩ := append_end ((cc + x + 10000).toNat) (by omega) hB hown hown' hgrow
          go_roundw
          case rel => exact ⟨k + 1, -1, _, _, _, by simp, rfl, e1, by omega, HS.out (-1) _ (by omega) (by omega), ho, hB3⟩
          case measure => simp [intOf]; omega
        · go_wp2_with (first
            | (at_builtin; refine wpList_append_own _ rfl _ _ 28 rfl w.heap.size 3 i0 (.int .i64 0) 1 8 Tryd.underlying28 hi hz0 hz1 hz2 rfl (by decide) (.slice ao acc.length cv) acc.length (cellsOf .i64 acc) rfl (hown.alloc _) ⟨wr.heap.size, 0, none⟩ 1 1 [_] rfl rfl (cell_one_new _ _ _) (by simp [Value.oneCell']) (by unfold maxLen; omega) (by omega) (by simp; omega) ?_; intro v' w3 hown' hgrow hnil))
          obtain ⟨g, cv', e1, ho, hB3⟩ := append_end ((cc + x).toNat) (by omega) hB hown hown' hgrow
          go_roundw
          case rel => exact ⟨k + 1, 0, _, _, _, by simp, rfl, e1, by omega, HS.out 0 _ (by omega) (by omega), ho, hB3⟩
          case measure => simp [intOf]; omega
    · have hkk : k = da.length := by omega
      have hP2 : MinusAt da db da.length cc acc := by rw [← hkk]; exact hP
      have HQ := hide (HF.out cc acc hP2)
      have hlen : acc.length ≤ 1099511627776 := by omega
      have hrow := Row.of_owns hown hlen
      clear hP hP2 hkk hkl
      go_wp2_with (first
        | (go_at_call 29; refine (trim_c _ _ _ hrow).mono ?_; rintro e w' ⟨u, rfl, hu, rfl⟩))
      go_ret
      rw [HQ.out] at hu
      exact ⟨_, rfl, hu, hB⟩
end Go.Proofs.YtahpgnkhophgpaaDoor

