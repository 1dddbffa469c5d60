import Derived.Test.YtjmmnpfedhkjbaaDoorK05
import Derived.Laws.CopyOwn
import Derived.Deep.OwnRows
import Derived.Lib.SliceRun
namespace Go.Proofs.YtjmmnpfedhkjbaaDoor
open Go.RowKit Go.Shelf

theorem madeCells_u64 (n : Nat) : madeCells #[.int .u64 0] n = (cellsOf .u64 (List.replicate n 0)).toArray := by
  apply Array.ext
  · simp [madeCells, cellsOf]
  · intro i h1 h2
    simp [madeCells, cellsOf, Nat.mod_one]

theorem make_row (n : Nat) (h : n ≤ 2199023255552) (w : World) : (Instr.makeSlice 23 (.int .i64 (n : Int)) (.int .i64 (n : Int))).run Tryd.prog w = .ok (.slice (some ⟨w.heap.size, 0, none⟩) n n) (w.alloc (.cells (cellsOf .u64 (List.replicate n 0)).toArray 56)) := by
  rw [← madeCells_u64]
  exact run_make_row' 23 56 (.int .u64 0) 8 Tryd.underlying23 Tryd.infoU64 rfl .i64 .i64 n (by omega) (by omega) w

theorem make_row1 (l : Nat) (h : l ≤ 2199023255551) (w : World) : (Instr.makeSlice 23 (.int .i64 ((l : Int) + 1)) (.int .i64 ((l : Int) + 1))).run Tryd.prog w = .ok (.slice (some ⟨w.heap.size, 0, none⟩) (l + 1) (l + 1)) (w.alloc (.cells (cellsOf .u64 (List.replicate (l + 1) 0)).toArray 56)) :=
  make_row (l + 1) (by omega) w

theorem addr_plain (b o j : Nat) : (⟨b, o, none⟩ : Addr).add j = ⟨b, o + j, none⟩ := by simp [Addr.add]

theorem wlimbs_mono {m n : Nat} (h : n ≤ m) : (limbs B64 n).length ≤ (limbs B64 m).length := by
  rcases Nat.lt_or_ge (limbs B64 m).length (limbs B64 n).length with h1 | h1
  · have := limbs_lt_length two_le_B64 h1; omega
  · exact h1

theorem row_src {w W : World} {a : Option Addr} {l c : Nat} {ds : List Nat} {p : Addr} (h : Row .u64 w (.slice a l c) ds) (hb : Below w.heap.size w W) (e : a = some p) (_h0 : 0 < l) (j : Nat) (v : Value) (hv : (cellsOf .u64 ds)[j]? = some v) : W.cell? (p.add j) = some v := by
  obtain ⟨hl, _, _, _, hc⟩ := row_fn h
  have hj : j < ds.length := by
    rcases Nat.lt_or_ge j ds.length with h' | h'
    · exact h'
    · rw [List.getElem?_eq_none (by simpa [cellsOf] using h')] at hv; cases hv
  obtain ⟨b, off, e2, hlt, hcell⟩ := hc j (by omega)
  rw [e2] at e
  cases e
  rw [addr_plain]
  rw [(hb.cell (p := ⟨b, off + j, none⟩) hlt), hcell]
  simp only [cellsOf, List.getElem?_map, List.getElem?_eq_getElem hj, Option.map_some, Option.some.injEq] at hv
  rw [← hv, List.getElem?_eq_getElem hj]
  rfl

theorem row_lt {w : World} {a : Option Addr} {l c : Nat} {ds : List Nat} {p : Addr} (h : Row .u64 w (.slice a l c) ds) (e : a = some p) (h0 : 0 < l) : p.block < w.heap.size := by
  obtain ⟨b, off, e2, hlt, _⟩ := (row_fn h).2.2.2.2 0 h0
  rw [e2] at e
  cases e
  exact hlt

theorem row_some {w : World} {a : Option Addr} {l c : Nat} {ds : List Nat} (h : Row .u64 w (.slice a l c) ds) (h0 : 0 < l) : ∃ p, a = some p := by
  obtain ⟨b, off, e2, hlt, _⟩ := (row_fn h).2.2.2.2 0 h0
  exact ⟨_, e2⟩

theorem sub_val {xs bs q : List Nat} {len c m n : Nat} (h : SubAt xs bs 0 len c q) (hx : xs = limbs B64 m) (hb : bs = limbs B64 n) (hl : len = xs.length) (hlb : bs.length ≤ len) (hmn : n ≤ m) : trimL q = limbs B64 (m - n) := by
  obtain ⟨h1, h2, h3, h4⟩ := h
  rw [List.drop_zero, List.take_of_length_le (show xs.length ≤ len by omega), List.take_of_length_le hlb, hx, hb, val_limbs two_le_B64, val_limbs two_le_B64] at h4
  have h5 := val_lt h2
  rw [h1] at h5
  have h6 : c = 0 := by
    rcases Nat.lt_or_ge 0 c with h' | h'
    · have := Nat.mul_le_mul_left (B64 ^ len) h'
      omega
    · omega
  subst h6
  rw [← limbs_val two_le_B64 h2]
  congr 1
  omega

/-- The words of one row, behind a copy into a longer one. -/
theorem splice_words (xs : List Nat) (n : Nat) : splice (cellsOf .u64 (List.replicate (xs.length + n) 0)) 0 (cellsOf .u64 xs) = cellsOf .u64 (xs ++ List.replicate n 0) := by
  simp [splice, cellsOf]

theorem copy_into (g dl dc : Nat) (a : Option Addr) (la ca : Nat) (xs : List Nat) (w W1 : World) (hm : Row .u64 w (.slice a la ca) xs) (hb : Below w.heap.size w W1) (hg : w.heap.size ≤ g) (hA : W1.heap[g]? = some (.cells (cellsOf .u64 (List.replicate dl 0)).toArray 56 (0, 0))) (hl : la ≤ dl) :
    ∃ W2, (Builtin.copy_ #[23, 23] 3 #[.slice (some ⟨g, 0, none⟩) dl dc, .slice a la ca]).run Tryd.prog W1 = .ok (.int .i64 (la : Nat)) W2 ∧ Arr W2 g (xs ++ List.replicate (dl - la) 0) ∧ Below w.heap.size w W2 := by
  obtain ⟨hx, _⟩ := row_fn hm
  have hsz : (Tryd.prog.info? 56).map (·.size) = some 1 := by kernel_rfl
  have hfin : (cellsOf .u64 xs) ++ (cellsOf .u64 (List.replicate dl 0)).drop la = cellsOf .u64 (xs ++ List.replicate (dl - la) 0) := by simp [cellsOf]
  by_cases h0 : la = 0
  · subst h0
    refine ⟨W1, run_copy_none (P := Tryd.prog) W1 23 23 3 56 (some ⟨g, 0, none⟩) a dl dc 0 ca Tryd.underlying23 hsz (Nat.zero_min dl), Arr.made ?_, hb⟩
    obtain rfl : xs = [] := List.eq_nil_of_length_eq_zero hx.symm
    rw [List.nil_append, Nat.sub_zero]; exact hA
  · obtain ⟨p, hp⟩ := row_some hm (by omega)
    subst hp
    have hlen : (cellsOf .u64 xs).length = la := by simp [cellsOf, hx]
    have h1 := run_copy_row (P := Tryd.prog) W1 23 23 3 56 g 0 dl dc p la ca _ 56 (cellsOf .u64 xs) Tryd.underlying23 hsz hA (by rw [hlen]; exact (Nat.min_eq_left hl).symm) (fun j v hv => row_src hm hb rfl (by omega) j v hv) (by rw [hlen]; simp [cellsOf]; exact hl) (fun v hv => by
      rw [cellsOf, List.mem_map] at hv
      obtain ⟨_, _, rfl⟩ := hv
      rfl)
    rw [hlen, List.take_zero, List.nil_append, Nat.zero_add, hfin] at h1
    exact ⟨_, h1, Arr.made (setRow_heap W1 g _ _ _ _ hA), below_setRow hb hg _⟩

set_option maxRecDepth 100000 in
set_option maxHeartbeats 2000000 in
theorem rminus_w (a : Option Addr) (la ca : Nat) (b : Option Addr) (lb cb m n : Nat) (w : World) (hm : Row .u64 w (.slice a la ca) (limbs B64 m)) (hn : Row .u64 w (.slice b lb cb) (limbs B64 n)) (h : n ≤ m) :
    Calls Tryd.prog 35 #[.slice a la ca, .slice b lb cb] w fun e w' => ∃ u, e = .returned u ∧ UN w' u (m - n) ∧ Below w.heap.size w w' := by
  obtain ⟨hl, hlc2, hcm, hlm, hc⟩ := row_fn hm
  obtain ⟨hl2, hlc22, hcm2, hlm2, hc2⟩ := row_fn hn
  have hll : lb ≤ la := by rw [hl, hl2]; exact wlimbs_mono h
  have HL := hidD hl
  have HN := hidD hn
  have hmk := make_row la (by omega) w
  obtain ⟨W1, hW1⟩ : ∃ W1, W1 = w.alloc (.cells (cellsOf .u64 (List.replicate la 0)).toArray 56) := ⟨_, rfl⟩
  have hB1 : Below w.heap.size w W1 := by rw [hW1]; exact (Below.refl _ w).alloc (Nat.le_refl _) _
  have hA1 : W1.heap[w.heap.size]? = some (.cells (cellsOf .u64 (List.replicate la 0)).toArray 56 (0, 0)) := by rw [hW1]; exact World.alloc_heap_new w _
  rw [← hW1] at hmk
  obtain ⟨w2, hcp, hA2, hb2⟩ := copy_into w.heap.size la la a la ca (limbs B64 m) w W1 hm hB1 (Nat.le_refl _) hA1 (Nat.le_refl _)
  rw [Nat.sub_self, List.replicate_zero, List.append_nil] at hA2
  have hS2 := hA2.lt
  clear hc hl hc2 hl2 hm hn hW1 hB1 hA1
  go_enter Tryd.func35, Tryd.ntmps35
  go_wp2_with (go_at_call 55; refine (takeOff_w w.heap.size 0 la la (limbs B64 m) b lb cb (limbs B64 n) _ hA2 (dig_limbs two_le_B64 m) (by rw [Nat.zero_add, ← HL.out]; exact Nat.le_refl _) (Nat.le_refl _) (by omega) hll (Row.below HN.out hb2) (dig_limbs two_le_B64 n) (fun p e h0 => by have := row_lt HN.out e h0; omega)).mono ?_)
  rintro e w3 ⟨c, q, rfl, hq, hA3, hg3⟩
  have hq1 := hq.1
  have hrow : Row .u64 w3 (.slice (some ⟨w.heap.size, 0, none⟩) la la) q := by
    have h1 := hA3.row 0 la la (by rw [mid_length hq1 (by rw [← HL.out]; omega), ← HL.out]; omega) (Nat.le_refl _) (by omega) hlm
    have e1 : ((mid (limbs B64 m) 0 la q).drop 0).take la = q := by
      rw [List.drop_zero, mid, List.take_zero, List.nil_append, List.take_append_of_le_length (by omega), List.take_of_length_le (by omega)]
    rwa [e1] at h1
  have HV := hidD (sub_val hq rfl rfl HL.out (by have := row_fn HN.out; omega) h)
  have hb3 : Below w.heap.size w w3 := below_grown hb2 hg3 (Nat.le_refl _)
  clear hq hA3 hg3
  go_wp2_with (go_at_call 31; refine (trimmed_c _ q _ hrow).mono ?_)
  rintro e w4 ⟨u, rfl, hu, hb4⟩
  rw [HV.out] at hu
  obtain ⟨ua, uc, rfl⟩ := UN.form hu
  go_wp2
  go_ret
  exact ⟨_, rfl, hu, hb3.trans (hb4.mono hb3.size)⟩

theorem add_val {xs bs q : List Nat} {len c m n : Nat} (h : AddAt (xs ++ [0]) bs 0 len c q) (hx : xs = limbs B64 m) (hb : bs = limbs B64 n) (hl : len = xs.length + 1) (hlb : bs.length ≤ xs.length) : trimL q = limbs B64 (m + n) := by
  obtain ⟨h1, h2, h3, h4⟩ := h
  have hm : m < B64 ^ xs.length := by
    have := val_lt (dig_limbs two_le_B64 m)
    rwa [val_limbs two_le_B64, ← hx] at this
  have hn : n < B64 ^ xs.length := by
    have := val_lt (dig_limbs two_le_B64 n)
    rw [val_limbs two_le_B64, ← hb] at this
    exact Nat.lt_of_lt_of_le this (Nat.pow_le_pow_right (by unfold B64; omega) hlb)
  rw [List.drop_zero, List.take_of_length_le (show (xs ++ [0]).length ≤ len by simp; omega), List.take_of_length_le (show bs.length ≤ len by omega), val_snoc, Nat.mul_zero, Nat.add_zero, hb, val_limbs two_le_B64] at h4
  have h7 : val B64 xs = m := by rw [hx, val_limbs two_le_B64]
  rw [h7] at h4
  have h8 : B64 ^ len = B64 ^ xs.length * B64 := by rw [hl, Nat.pow_succ]
  have h9 : B64 ^ xs.length * 2 ≤ B64 ^ len := by rw [h8]; exact Nat.mul_le_mul_left _ two_le_B64
  have h6 : c = 0 := by
    rcases Nat.lt_or_ge 0 c with h' | h'
    · have := Nat.mul_le_mul_left (B64 ^ len) h'
      omega
    · omega
  subst h6
  rw [← limbs_val two_le_B64 h2]
  congr 1

set_option maxRecDepth 100000 in
set_option maxHeartbeats 2000000 in
theorem rplus_w (a : Option Addr) (la ca : Nat) (b : Option Addr) (lb cb m n : Nat) (w : World) (hm : Row .u64 w (.slice a la ca) (limbs B64 m)) (hn : Row .u64 w (.slice b lb cb) (limbs B64 n)) (hla : la < 1099511627776) (hlb : lb < 1099511627776) :
    Calls Tryd.prog 33 #[.slice a la ca, .slice b lb cb] w fun e w' => ∃ u, e = .returned u ∧ UN w' u (m + n) ∧ Below w.heap.size w w' := by
  by_cases hll : la < lb
  · obtain ⟨hl, hlc2, hcm, hlm, hc⟩ := row_fn hn
    obtain ⟨hl2, hlc22, hcm2, hlm2, hc2⟩ := row_fn hm
    have HL := hidD hl
    have HN := hidD hm
    have HL2 := hidD hl2
    have hmk := make_row1 lb (by omega) w
    obtain ⟨W1, hW1⟩ : ∃ W1, W1 = w.alloc (.cells (cellsOf .u64 (List.replicate (lb + 1) 0)).toArray 56) := ⟨_, rfl⟩
    have hB1 : Below w.heap.size w W1 := by rw [hW1]; exact (Below.refl _ w).alloc (Nat.le_refl _) _
    have hA1 : W1.heap[w.heap.size]? = some (.cells (cellsOf .u64 (List.replicate (lb + 1) 0)).toArray 56 (0, 0)) := by rw [hW1]; exact World.alloc_heap_new w _
    rw [← hW1] at hmk
    obtain ⟨w2, hcp, hA2, hb2⟩ := copy_into w.heap.size (lb + 1) (lb + 1) b lb cb (limbs B64 n) w W1 hn hB1 (Nat.le_refl _) hA1 (by omega)
    rw [show lb + 1 - lb = 1 from by omega, List.replicate_one] at hA2
    have hS2 := hA2.lt
    have HD := hidD (show Dig B64 (limbs B64 n ++ [0]) from (dig_limbs two_le_B64 n).append (Dig.cons (by unfold B64; omega) (Dig.nil _)))
    have HXL := hidD (show (limbs B64 n ++ [0]).length = lb + 1 by rw [List.length_append, ← hl]; rfl)
    clear hc hl hc2 hl2 hm hn hW1 hB1 hA1
    go_enter Tryd.func33, Tryd.ntmps33
    go_wp2_with (go_at_call 54; refine (add_w w.heap.size 0 (lb + 1) (lb + 1) (limbs B64 n ++ [0]) a la ca (limbs B64 m) _ hA2 HD.out (by rw [Nat.zero_add, HXL.out]; exact Nat.le_refl _) (Nat.le_refl _) (by omega) (by omega) (Row.below HN.out hb2) (dig_limbs two_le_B64 m) (fun p e h0 => by have := row_lt HN.out e h0; omega)).mono ?_)
    rintro e w3 ⟨c, q, rfl, hq, hA3, hg3⟩
    have hq1 := hq.1
    have hrow : Row .u64 w3 (.slice (some ⟨w.heap.size, 0, none⟩) (lb + 1) (lb + 1)) q := by
      have h1 := hA3.row 0 (lb + 1) (lb + 1) (by rw [mid_length hq1 (by rw [HXL.out]; omega), HXL.out]; omega) (Nat.le_refl _) (by omega) (by omega)
      have e1 : ((mid (limbs B64 n ++ [0]) 0 (lb + 1) q).drop 0).take (lb + 1) = q := by
        rw [List.drop_zero, mid, List.take_zero, List.nil_append, List.take_append_of_le_length (by omega), List.take_of_length_le (by omega)]
      rwa [e1] at h1
    have HV := hidD (add_val hq rfl rfl (by rw [← HL.out]) (by rw [← HL.out, ← HL2.out]; omega))
    have hb3 : Below w.heap.size w w3 := below_grown hb2 hg3 (Nat.le_refl _)
    clear hq hA3 hg3
    go_wp2_with (go_at_call 31; refine (trimmed_c _ q _ hrow).mono ?_)
    rintro e w4 ⟨u, rfl, hu, hb4⟩
    rw [HV.out] at hu
    obtain ⟨ua, uc, rfl⟩ := UN.form hu
    go_wp2
    go_ret
    exact ⟨_, rfl, by rw [Nat.add_comm m n]; exact hu, hb3.trans (hb4.mono hb3.size)⟩
  · obtain ⟨hl, hlc2, hcm, hlm, hc⟩ := row_fn hm
    obtain ⟨hl2, hlc22, hcm2, hlm2, hc2⟩ := row_fn hn
    have HL := hidD hl
    have HN := hidD hn
    have HL2 := hidD hl2
    have hmk := make_row1 la (by omega) w
    obtain ⟨W1, hW1⟩ : ∃ W1, W1 = w.alloc (.cells (cellsOf .u64 (List.replicate (la + 1) 0)).toArray 56) := ⟨_, rfl⟩
    have hB1 : Below w.heap.size w W1 := by rw [hW1]; exact (Below.refl _ w).alloc (Nat.le_refl _) _
    have hA1 : W1.heap[w.heap.size]? = some (.cells (cellsOf .u64 (List.replicate (la + 1) 0)).toArray 56 (0, 0)) := by rw [hW1]; exact World.alloc_heap_new w _
    rw [← hW1] at hmk
    obtain ⟨w2, hcp, hA2, hb2⟩ := copy_into w.heap.size (la + 1) (la + 1) a la ca (limbs B64 m) w W1 hm hB1 (Nat.le_refl _) hA1 (by omega)
    rw [show la + 1 - la = 1 from by omega, List.replicate_one] at hA2
    have hS2 := hA2.lt
    have HD := hidD (show Dig B64 (limbs B64 m ++ [0]) from (dig_limbs two_le_B64 m).append (Dig.cons (by unfold B64; omega) (Dig.nil _)))
    have HXL := hidD (show (limbs B64 m ++ [0]).length = la + 1 by rw [List.length_append, ← hl]; rfl)
    clear hc hl hc2 hl2 hm hn hW1 hB1 hA1
    go_enter Tryd.func33, Tryd.ntmps33
    go_wp2_with (go_at_call 54; refine (add_w w.heap.size 0 (la + 1) (la + 1) (limbs B64 m ++ [0]) b lb cb (limbs B64 n) _ hA2 HD.out (by rw [Nat.zero_add, HXL.out]; exact Nat.le_refl _) (Nat.le_refl _) (by omega) (by omega) (Row.below HN.out hb2) (dig_limbs two_le_B64 n) (fun p e h0 => by have := row_lt HN.out e h0; omega)).mono ?_)
    rintro e w3 ⟨c, q, rfl, hq, hA3, hg3⟩
    have hq1 := hq.1
    have hrow : Row .u64 w3 (.slice (some ⟨w.heap.size, 0, none⟩) (la + 1) (la + 1)) q := by
      have h1 := hA3.row 0 (la + 1) (la + 1) (by rw [mid_length hq1 (by rw [HXL.out]; omega), HXL.out]; omega) (Nat.le_refl _) (by omega) (by omega)
      have e1 : ((mid (limbs B64 m ++ [0]) 0 (la + 1) q).drop 0).take (la + 1) = q := by
        rw [List.drop_zero, mid, List.take_zero, List.nil_append, List.take_append_of_le_length (by omega), List.take_of_length_le (by omega)]
      rwa [e1] at h1
    have HV := hidD (add_val hq rfl rfl (by rw [← HL.out]) (by rw [← HL.out, ← HL2.out]; omega))
    have hb3 : Below w.heap.size w w3 := below_grown hb2 hg3 (Nat.le_refl _)
    clear hq hA3 hg3
    go_wp2_with (go_at_call 31; refine (trimmed_c _ q _ hrow).mono ?_)
    rintro e w4 ⟨u, rfl, hu, hb4⟩
    rw [HV.out] at hu
    obtain ⟨ua, uc, rfl⟩ := UN.form hu
    go_wp2
    go_ret
    exact ⟨_, rfl, hu, hb3.trans (hb4.mono hb3.size)⟩
end Go.Proofs.YtjmmnpfedhkjbaaDoor
namespace Go.Proofs.YtjmmnpfedhkjbaaDoor
open Go.RowKit Go.Shelf

/-- How many operations are not listed yet. -/
def notListed (listed : Array Bool) : Nat := listed.toList.countP (fun b => !b)

theorem notListed_set {listed : Array Bool} {i : Nat} (hi : i < listed.size) (h : listed.getD i true = false) : notListed (listed.setIfInBounds i true) + 1 = notListed listed := by
  obtain ⟨l⟩ := listed
  simp only [List.size_toArray] at hi
  simp only [Array.getD, List.size_toArray, hi, dif_pos, Array.getInternal_eq_getElem, List.getElem_toArray] at h
  simp only [notListed, List.setIfInBounds_toArray]
  induction l generalizing i with
  | nil => simp at hi
  | cons x l ih =>
    cases i with
    | zero => simp at h; subst h; simp
    | succ i =>
      simp only [List.length_cons] at hi
      simp only [List.getElem_cons_succ] at h
      have := ih (by omega) h
      simp only [List.set_cons_succ, List.countP_cons]
      omega

/-- A region that draws its order, by one assertion for all that may be listed: also within a round. -/
theorem wpAnyIn_held {F : Fence} {n : Nat} {P : Program} {md : Region.Mode} {ops : Array Oper} {Q : Exit → Act → World → Prop} (I : Array Bool → Act → World → Prop)
    (step : ∀ listed a w i, listed.size = ops.size → I listed a w → i ∈ Region.ready md ops listed → wpOpIn F n P ops Q i (I (listed.setIfInBounds i true)) a w)
    (fin : ∀ listed a w, listed.size = ops.size → I listed a w → Region.ready md ops listed = [] → Q .normal a w) :
    ∀ (fuel : Nat) (listed : Array Bool) (a : Act) (w : World), listed.size = ops.size → notListed listed ≤ fuel → I listed a w → wpAnyIn F n P md ops Q fuel listed a w := by
  intro fuel
  have hmem : ∀ {listed : Array Bool} {i : Nat}, i ∈ Region.ready md ops listed → i < ops.size ∧ listed.getD i true = false := by
    intro listed i hi
    simp only [Region.ready, List.mem_filter, List.mem_range, Bool.and_eq_true, Bool.not_eq_true'] at hi
    exact ⟨hi.1, hi.2.1⟩
  induction fuel with
  | zero =>
    intro listed a w hs hf hI
    have hn : Region.ready md ops listed = [] := by
      cases hr : Region.ready md ops listed with
      | nil => rfl
      | cons i l =>
        obtain ⟨h1, h2⟩ := hmem (show i ∈ Region.ready md ops listed by rw [hr]; exact List.mem_cons_self)
        have := notListed_set (i := i) (by omega) h2
        omega
    exact ⟨hn, fin _ _ _ hs hI hn⟩
  | succ fuel ih =>
    intro listed a w hs hf hI
    refine ⟨fin _ _ _ hs hI, fun i hi => ?_⟩
    obtain ⟨h1, h2⟩ := hmem hi
    have := notListed_set (i := i) (by omega) h2
    exact wpOpIn_mono (fun a' w' h => ih _ a' w' (by simp [hs]) (by omega) h) (step listed a w i hs hI hi)

theorem wpIn_region_held {F : Fence} {n : Nat} {P : Program} {ops : Array Oper} {Q : Exit → Act → World → Prop} {id : Nat} {a : Act} {w : World} (hm : P.follows .mixedOrders = true) (I : Array Bool → Act → World → Prop)
    (start : I (Array.replicate ops.size false) a w.drew)
    (step : ∀ listed a w i, listed.size = ops.size → I listed a w → i ∈ Region.ready .any ops listed → wpOpIn F n P ops Q i (I (listed.setIfInBounds i true)) a w)
    (fin : ∀ listed a w, listed.size = ops.size → I listed a w → Region.ready .any ops listed = [] → Q .normal a w) :
    (Code.region id ops true).wpIn F n P Q a w :=
  wpIn_region_any hm (wpAnyIn_held I step fin _ _ _ _ (by simp) (by rw [notListed]; exact Nat.le_trans List.countP_le_length (by simp)) start)

/-- Each waits only on elder ones. -/
def tabOrdered (tab : List (List Nat)) : Bool := tab.zipIdx.all fun p => p.1.all (· < p.2)

theorem tabOrdered_lt {tab : List (List Nat)} (h : tabOrdered tab = true) {i : Nat} {ds : List Nat} (hi : tab[i]? = some ds) {j : Nat} (hj : j ∈ ds) : j < i := by
  simp only [tabOrdered, List.all_eq_true, decide_eq_true_eq] at h
  exact h (ds, i) (List.mk_mem_zipIdx_iff_getElem?.2 hi) j hj

theorem mem_ready {md : Region.Mode} {ops : Array Oper} {listed : Array Bool} {i : Nat} {tab : List (List Nat)} (ht : Region.tabAfter md ops = tab) :
    i ∈ Region.ready md ops listed ↔ listed.getD i true = false ∧ ∃ ds, tab[i]? = some ds ∧ ∀ j ∈ ds, listed.getD j false = true := by
  subst ht
  simp only [Region.ready, List.mem_filter, List.mem_range, Bool.and_eq_true, Bool.not_eq_true', Region.tabAfter, List.getElem?_map, Array.getElem?_toList]
  constructor
  · rintro ⟨h1, h2, h3⟩
    rw [Array.getElem?_eq_getElem h1] at h3 ⊢
    simp only [Option.map_some, Option.getD_some, Array.all_eq_true', Bool.or_eq_true, Bool.not_eq_true'] at h3
    refine ⟨h2, _, rfl, fun j hj => ?_⟩
    simp only [List.mem_map, List.mem_filter] at hj
    obtain ⟨e, ⟨he, hb⟩, rfl⟩ := hj
    rcases h3 e (by simpa using he) with h | h
    · rw [hb] at h; cases h
    · exact h
  · rintro ⟨h2, ds, hds, h3⟩
    cases ho : ops[i]? with
    | none => rw [ho] at hds; simp at hds
    | some o =>
      rw [ho] at hds
      simp only [Option.map_some, Option.some.injEq] at hds
      subst hds
      have h1 : i < ops.size := by
        rcases Nat.lt_or_ge i ops.size with h | h
        · exact h
        · rw [Array.getElem?_eq_none h] at ho; cases ho
      refine ⟨h1, h2, ?_⟩
      simp only [Option.map_some, Option.getD_some, Array.all_eq_true', Bool.or_eq_true, Bool.not_eq_true']
      intro e he
      cases hb : Region.binds md e with
      | false => exact Or.inl rfl
      | true => exact Or.inr (h3 e.on (by simp only [List.mem_map, List.mem_filter]; exact ⟨e, ⟨by simpa using he, hb⟩, rfl⟩))

/-- The same, with a table of who waits on whom; what is done is closed under it. -/
theorem wpIn_region_tab {F : Fence} {n : Nat} {P : Program} {ops : Array Oper} {Q : Exit → Act → World → Prop} {id : Nat} {a : Act} {w : World} (hm : P.follows .mixedOrders = true)
    (tab : List (List Nat)) (ht : Region.tabAfter .any ops = tab) (hlt : tabOrdered tab = true) (I : (Nat → Bool) → Act → World → Prop)
    (start : I (fun _ => false) a w.drew)
    (step : ∀ (D : Nat → Bool) a w i ds, (∀ i ds, tab[i]? = some ds → D i = true → ∀ j ∈ ds, D j = true) → tab[i]? = some ds → (∀ j ∈ ds, D j = true) → D i = false → I D a w → wpOpIn F n P ops Q i (I (fun j => j == i || D j)) a w)
    (fin : ∀ (D : Nat → Bool) a w, (∀ i, i < tab.length → D i = true) → I D a w → Q .normal a w) :
    (Code.region id ops true).wpIn F n P Q a w := by
  have hlen : tab.length = ops.size := by rw [← ht]; simp [Region.tabAfter]
  refine wpIn_region_held hm (fun listed a w => (∀ i ds, tab[i]? = some ds → listed.getD i false = true → ∀ j ∈ ds, listed.getD j false = true) ∧ I (fun j => listed.getD j false) a w) ⟨fun i ds _ h => ?_, ?_⟩ ?_ ?_
  · simp only [Array.getD, Array.size_replicate] at h
    split at h <;> simp at h
  · have e : (fun j => (Array.replicate ops.size false).getD j false) = fun _ => false := by
      funext j; simp only [Array.getD, Array.size_replicate]; split <;> simp
    rw [e]; exact start
  · rintro listed a w i hs ⟨hcl, hI⟩ hi
    obtain ⟨h2, ds, hds, h3⟩ := (mem_ready ht).1 hi
    have hil : i < listed.size := by
      rw [hs, ← hlen]
      rcases Nat.lt_or_ge i tab.length with h | h
      · exact h
      · rw [List.getElem?_eq_none h] at hds; cases hds
    have hf : listed.getD i false = false := by
      simp only [Array.getD, hil, dif_pos] at h2 ⊢; exact h2
    have e : ∀ j, (listed.setIfInBounds i true).getD j false = (j == i || listed.getD j false) := by
      intro j
      rw [Array.getD_eq_getD_getElem?, Array.getD_eq_getD_getElem?, Array.getElem?_setIfInBounds]
      by_cases hji : i = j
      · subst hji; simp [hil]
      · simp [hji, Ne.symm hji]
    refine wpOpIn_mono (fun a' w' h => ⟨fun i' ds' hi' hd j hj => ?_, ?_⟩) (step _ a w i ds hcl hds h3 hf hI)
    · rw [e] at hd ⊢
      simp only [Bool.or_eq_true, beq_iff_eq] at hd ⊢
      rcases hd with rfl | hd
      · rw [hds] at hi'; cases hi'; exact Or.inr (h3 j hj)
      · exact Or.inr (hcl i' ds' hi' hd j hj)
    · rw [show (fun j => (listed.setIfInBounds i true).getD j false) = fun j => (j == i || listed.getD j false) from funext e]; exact h
  · rintro listed a w hs ⟨hcl, hI⟩ hn
    refine fin _ a w (fun i => ?_) hI
    induction i using Nat.strongRecOn with
    | _ i ih =>
      intro hi
      cases hd : listed.getD i false with
      | true => rfl
      | false =>
        exfalso
        have hds : tab[i]? = some tab[i] := List.getElem?_eq_getElem hi
        have : i ∈ Region.ready .any ops listed := (mem_ready ht).2 ⟨by
          have hil : i < listed.size := by omega
          simp only [Array.getD, hil, dif_pos] at hd ⊢; exact hd, _, hds, fun j hj => ih j (tabOrdered_lt hlt hds hj) (by have := tabOrdered_lt hlt hds hj; omega)⟩
        rw [hn] at this; cases this
end Go.Proofs.YtjmmnpfedhkjbaaDoor
namespace Go.Proofs.YtjmmnpfedhkjbaaDoor
open Go.RowKit Go.Shelf

attribute [local go_sem] Oper.semAt_some

/-- What the rounds of order keep. -/
def OrdI (w : World) (a : Option Addr) (len ca : Nat) (b : Option Addr) (lb cb : Nat) (xs ys : List Nat) (k : Nat) (W : World) : Prop :=
  (((Boxed W w.heap.size 23 (.slice b lb cb) ∧ Boxed W (w.heap.size + 1) 3 (.int .i64 0)) ∧ Boxed W (w.heap.size + 1 + 1) 23 (.slice a len ca)) ∧ Below w.heap.size w W) ∧ xs.drop (len - k) = ys.drop (len - k)

/-- What a round of order leaves that returns. -/
def OrdX (w : World) (xs ys : List Nat) (c : Code) (_k : Nat) (W : World) : Prop :=
  (Boxed W (w.heap.size + 1) 3 (.int .i64 (cmpN (val B64 xs) (val B64 ys))) ∧ Below w.heap.size w W) ∧ c = .ret

theorem ordI_own (w : World) (a : Option Addr) (len ca : Nat) (b : Option Addr) (lb cb : Nat) (xs ys : List Nat) : OwnFrom (w.heap.size + 1 + 1 + 1) (OrdI w a len ca b lb cb xs ys) :=
  OwnFrom.and (OwnFrom.and (OwnFrom.and (OwnFrom.and (Own.from (boxed_own _ _ (fun _ => .slice b lb cb)) _) (Own.from (boxed_own _ _ (fun _ => .int .i64 0)) _)) (Own.from (boxed_own _ _ (fun _ => .slice a len ca)) _)) (ownFrom_below (Nat.le_refl _) (by omega))) (ownFrom_pure _ _)

theorem ordX_own (w : World) (xs ys : List Nat) (c : Code) : OwnFrom (w.heap.size + 1 + 1 + 1) (OrdX w xs ys c) :=
  OwnFrom.and (OwnFrom.and (Own.from (boxed_own _ _ (fun _ => .int .i64 (cmpN (val B64 xs) (val B64 ys)))) _) (ownFrom_below (Nat.le_refl _) (by omega))) (ownFrom_pure _ _)

theorem sgn_cmp {m n : Nat} {c : Bool} (h : m ≠ n) (hc : c = decide (n < m)) : (if c then 1 else -1 : Int) = cmpN m n := by
  subst hc
  rcases Nat.lt_or_gt_of_ne h with h | h
  · rw [cmpN_lt h, if_neg (by simp; omega)]
  · rw [cmpN_gt h, if_pos (by simp; omega)]

set_option maxRecDepth 100000 in
set_option maxHeartbeats 2000000 in
theorem order_ne (a : Option Addr) (la ca : Nat) (b : Option Addr) (lb cb : Nat) (w : World) (m n : Nat) (hne : la ≠ lb) (hmn : la < lb ↔ m < n) (hne' : m ≠ n) :
    Calls Tryd.prog 34 #[.slice a la ca, .slice b lb cb] w fun e w' => e = .returned (.int .i64 (cmpN m n)) ∧ Below w.heap.size w w' := by
  have h1 : (((la : Nat) : Int) != (lb : Int)) = true := by rw [bne_iff_ne]; omega
  have H2 := hidD (show (if decide ((lb : Int) < (la : Int)) = true then 1 else -1 : Int) = cmpN m n from sgn_cmp hne' (by congr 1; apply propext; omega))
  clear hmn hne' hne
  refine (callsIn_wide (n := 3)).1 ?_
  refine callsIn_of_wp_marks Tryd.func34 rfl trivial ?_ rfl
  simp only [Tryd.ntmps34, List.size_toArray, List.length_cons, List.length_nil, Nat.reduceAdd, Nat.reduceSub, Array.replicate_succ, Array.replicate_zero, List.push_toArray, List.append_toArray, List.nil_append, List.cons_append]
  gi_wp2_with (refine ⟨trivial, ?_⟩; gi_at_call 36; refine ((callsIn_wide (n := _)).2 (sign_c _ _)).mono ?_; rintro e w' ⟨rfl, rfl⟩)
  · have hv : cmpN m n = 1 := by rw [← H2.out, if_pos (by simp; omega)]
    have q := (Boxed.new (w.alloc (.cells #[.slice b lb cb] 23)) 3 (.int .i64 1)).cell
    simp only [World.size_alloc] at q
    refine ⟨.int .i64 1, by simp [results, Tryd.results34, go_sem, q], by rw [hv], ?_⟩
    exact ((Below.refl _ w).alloc (Nat.le_refl _) _).alloc (by simp) _
  · have hv : cmpN m n = -1 := by rw [← H2.out, if_neg (by simp; omega)]
    have q := (Boxed.new (w.alloc (.cells #[.slice b lb cb] 23)) 3 (.int .i64 (-1))).cell
    simp only [World.size_alloc] at q
    refine ⟨.int .i64 (-1), by simp [results, Tryd.results34, go_sem, q], by rw [hv], ?_⟩
    exact ((Below.refl _ w).alloc (Nat.le_refl _) _).alloc (by simp) _

set_option maxRecDepth 100000 in
set_option maxHeartbeats 2000000 in
theorem order_eq (a : Option Addr) (len ca : Nat) (b : Option Addr) (cb : Nat) (xs ys : List Nat) (w : World) (ha : Row .u64 w (.slice a len ca) xs) (hb : Row .u64 w (.slice b len cb) ys) (xa : Dig B64 xs) (xb : Dig B64 ys) :
    Calls Tryd.prog 34 #[.slice a len ca, .slice b len cb] w fun e w' => e = .returned (.int .i64 (cmpN (val B64 xs) (val B64 ys))) ∧ Below w.heap.size w w' := by
  obtain ⟨hl, hcap, hcm, hlm, hc⟩ := row_fn ha
  obtain ⟨hl2, hcap2, hcm2, hlm2, hc2⟩ := row_fn hb
  have HL := hidD hl
  have HL2 := hidD hl2
  have HC := hidD hc
  have HC2 := hidD hc2
  clear hc hc2 hl hl2 ha hb
  refine (callsIn_wide (n := 3)).1 ?_
  refine callsIn_of_wp_marks Tryd.func34 rfl trivial ?_ rfl
  simp only [Tryd.ntmps34, List.size_toArray, List.length_cons, List.length_nil, Nat.reduceAdd, Nat.reduceSub, Array.replicate_succ, Array.replicate_zero, List.push_toArray, List.append_toArray, List.nil_append, List.cons_append]
  gi_wp2_with (refine ⟨trivial, ?_⟩; gi_at_call 53; refine (bwd_in Fence.wide _ trivial rfl _ _ _ _).mono ?_; rintro e w' ⟨rfl, rfl⟩)
  obtain ⟨W0, hW0⟩ : ∃ W0, ((w.alloc (.cells #[.slice b len cb] 23)).alloc (.cells #[.int .i64 0] 3)).alloc (.cells #[.slice a len ca] 23) = W0 := ⟨_, rfl⟩
  have b0 := ((Boxed.new w 23 (.slice b len cb)).alloc (.cells #[.int .i64 0] 3)).alloc (.cells #[.slice a len ca] 23)
  have b1 := (Boxed.new (w.alloc (.cells #[.slice b len cb] 23)) 3 (.int .i64 0)).alloc (.cells #[.slice a len ca] 23)
  have b2 := Boxed.new ((w.alloc (.cells #[.slice b len cb] 23)).alloc (.cells #[.int .i64 0] 3)) 23 (.slice a len ca)
  simp only [World.size_alloc] at b1 b2
  have hN : W0.heap.size = w.heap.size + 1 + 1 + 1 := by rw [← hW0]; simp
  have hB0 : Below w.heap.size w W0 := by rw [← hW0]; exact (((Below.refl _ w).alloc (Nat.le_refl _) _).alloc (by simp) _).alloc (by simp; omega) _
  rw [hW0] at b0 b1 b2 ⊢
  clear hW0
  refine wpIn_rangeN rfl (by omega) (gf := 71) (lb := #[.pointer (some ⟨w.heap.size + 1 + 1, 0, none⟩)]) rfl trivial (enters_of Tryd.func71 (by kernel_rfl) rfl)
    (bwd1_seq Fence.wide _ trivial rfl (by omega) (w.heap.size + 1 + 1) a len ca (fun j => xs[j]?.getD 0) hlm) (fun _ => rfl)
    (OrdI w a len ca b len cb xs ys) (OrdX w xs ys) (by rw [hN]; exact ordI_own w a len ca b len cb xs ys) (fun c => by rw [hN]; exact ordX_own w xs ys c)
    ⟨⟨⟨⟨b0, b1⟩, b2⟩, hB0⟩, by rw [Nat.sub_zero, List.drop_eq_nil_of_le (by rw [HL.out]; exact Nat.le_refl _), List.drop_eq_nil_of_le (by rw [HL2.out]; exact Nat.le_refl _)]⟩ ?rd
    (fun k => { tmps := #[.slice a len ca, .slice b len cb, undef, .pointer (some ⟨w.heap.size, 0, none⟩), .pointer (some ⟨w.heap.size + 1, 0, none⟩), .int .i64 ((len : Int) - 1 - k), .int .u64 (xs[len - 1 - k]?.getD 0 : Nat), .slice a len ca, .int .i64 (len : Nat), .slice b len cb, .int .i64 (len : Nat), .bool false, undef, undef, undef, undef, undef, undef, .slice a len ca, .func (.func 71) #[] #[.pointer (some ⟨w.heap.size + 1 + 1, 0, none⟩)], .int .i64 ((len : Int) - 1 - k), .int .u64 (xs[len - 1 - k]?.getD 0 : Nat), undef, undef, undef, undef, undef, undef, undef, undef, undef, undef, undef, undef, undef], defers := [] }) ?assign ?body ?done ?stop
  case rd =>
    rintro k W ⟨⟨⟨_, c2⟩, hB⟩, _⟩
    refine ⟨c2.cell, fun hk => ?_⟩
    obtain ⟨bb, off, ea, hbb, hc⟩ := HC.out (len - 1 - k) (by omega)
    exact ⟨bb, off, ea, (hB.cell (p := ⟨bb, off + (len - 1 - k), none⟩) hbb).trans hc⟩
  case assign =>
    intro l k W K hK
    unfold bwdArgs
    gi_wp2
    exact hK
  case body =>
    rintro l k W ⟨⟨⟨⟨c0, c1⟩, c2⟩, hB⟩, hz⟩ hk hsz
    have d0 := c0.cell
    have d1 := c1.cell
    have f1 := c1.frozen
    obtain ⟨bb, off, rfl, hbb, hcy⟩ := HC2.out (len - 1 - k) (by omega)
    have dy := (hB.cell (p := ⟨bb, off + (len - 1 - k), none⟩) hbb).trans hcy
    clear hcy
    have e1 : ((len : Int) - 1 - k) = ((len - 1 - k : Nat) : Int) := by omega
    rw [e1]
    have hm : len - 1 - k < len := by omega
    have es : len - 1 - k + 1 = len - k := by omega
    have hz1 : xs.drop (len - 1 - k + 1) = ys.drop (len - 1 - k + 1) := by rw [es]; exact hz
    have hlx : xs.length = ys.length := HL.out.symm.trans HL2.out
    have HD := hidD (fun (h : xs[len - 1 - k]?.getD 0 = ys[len - 1 - k]?.getD 0) => drop_eq_step hlx (len - 1 - k) (by rw [← HL.out]; exact hm) hz1 h)
    have HE := hidD (show xs[len - 1 - k]?.getD 0 ≠ ys[len - 1 - k]?.getD 0 → cmpN (val B64 xs) (val B64 ys) = cmpN (xs[len - 1 - k]?.getD 0) (ys[len - 1 - k]?.getD 0) from fun h => by
      rcases Nat.lt_or_gt_of_ne h with h | h
      · rw [cmpN_lt h, cmpN_lt (val_lt_at xa hlx (len - 1 - k) (by rw [← HL.out]; exact hm) hz1 h)]
      · rw [cmpN_gt h, cmpN_gt (val_lt_at xb hlx.symm (len - 1 - k) (by rw [← HL2.out]; exact hm) hz1.symm h)])
    have HK := hidD (show len - (k + 1) = len - 1 - k by omega)
    clear e1 es hz1 hz hlx
    generalize xs[len - 1 - k]?.getD 0 = x at HD HE ⊢
    generalize ys[len - 1 - k]?.getD 0 = y at HD HE dy
    generalize len - 1 - k = m at HD hm HK dy ⊢
    have hcb : len ≤ cb := hcap2
    by_cases hxy : x = y
    · subst hxy
      gi_wp2_with fail
      refine ⟨KeepsFrom.refl _ _, ⟨⟨⟨c0, c1⟩, c2⟩, hB⟩, ?_⟩
      rw [HK.out]; exact HD.out (by simp)
    · have hx2 : (((x : Nat) : Int) != (y : Int)) = true := by rw [bne_iff_ne]; omega
      have HX := hidD hxy
      clear hxy
      gi_wp2_with (refine ⟨trivial, ?_⟩; gi_at_call 36; refine (CallsIn.inRound l ((callsIn_wide (n := _)).2 (sign_c _ _))).mono ?_; rintro e w' ⟨rfl, rfl⟩)
      · refine ⟨(KeepsOthers.setCell _ _ _).from _, ⟨?_, hB.setCell (p := ⟨w.heap.size + 1, 0, none⟩) (by simp) _⟩, rfl⟩
        rw [HE.out HX.out, cmpN_gt ‹y < x›]
        exact c1.set _
      · refine ⟨(KeepsOthers.setCell _ _ _).from _, ⟨?_, hB.setCell (p := ⟨w.heap.size + 1, 0, none⟩) (by simp) _⟩, rfl⟩
        rw [HE.out HX.out, cmpN_lt (by have := HX.out; omega)]
        exact c1.set _
  case done =>
    rintro D W hD ⟨⟨⟨⟨c0, c1⟩, c2⟩, hB⟩, hz⟩ hK
    have d1 := c1.cell
    have f1 := c1.frozen
    have HZ := hidD hz
    clear hz
    gi_wp2
    have hK2 : (W.setCell ⟨w.heap.size + 1, 0, none⟩ (.int .i64 0)).heap[D]? = some (.deferred (some [])) := (KeepsOthers.setCell W ⟨w.heap.size + 1, 0, none⟩ (.int .i64 0)).same D _ hK rfl
    refine ⟨by simp, .inl ⟨_, _, rfl, run_takeDeferred hK2, ?_⟩⟩
    have b1' := (c1.set (.int .i64 0)).kept (grownBy_putObj' _ D (.deferred none)) (fun e => by cases e; rw [show (W.setCell ⟨w.heap.size + 1, 0, none⟩ (.int .i64 0)).heap[w.heap.size + 1]? = _ from c1.set (.int .i64 0)] at hK2; cases hK2)
    have q := b1'.cell
    have hv : cmpN (val B64 xs) (val B64 ys) = 0 := by
      have := HZ.out
      rw [Nat.sub_self, List.drop_zero, List.drop_zero] at this
      rw [this, cmpN_self]
    refine ⟨.int .i64 0, by simp [results, Tryd.results34, go_sem, q], by rw [hv], ?_⟩
    exact (hB.setCell (p := ⟨w.heap.size + 1, 0, none⟩) (by simp) _).trans (belowK_b (w := w) (Nat.le_refl _) _ D _ _ (by omega) hK2 rfl rfl)
  case stop =>
    rintro D c k W hD hk ⟨⟨c1, hB⟩, rfl⟩ hK
    have d1 := c1.cell
    gi_wp2
    refine ⟨by simp, .inl ⟨_, _, rfl, run_takeDeferred hK, ?_⟩⟩
    have b1' := c1.kept (grownBy_putObj' _ D (.deferred none)) (fun e => by cases e; rw [show W.heap[w.heap.size + 1]? = _ from c1] at hK; cases hK)
    have q := b1'.cell
    refine ⟨.int .i64 (cmpN (val B64 xs) (val B64 ys)), by simp [results, Tryd.results34, go_sem, q], rfl, ?_⟩
    exact hB.trans (belowK_b (w := w) (Nat.le_refl _) _ D _ _ (by omega) hK rfl rfl)

theorem morder_c (va vb : Value) (xs ys : List Nat) (w : World) (ha : Row .u64 w va xs) (hb : Row .u64 w vb ys) (xa : Dig B64 xs) (xb : Dig B64 ys) (ta : Top xs) (tb : Top ys) :
    Calls Tryd.prog 34 #[va, vb] w fun e w' => e = .returned (.int .i64 (cmpN (val B64 xs) (val B64 ys))) ∧ Below w.heap.size w w' := by
  obtain ⟨a, ca, rfl, h1⟩ := id ha
  obtain ⟨b, cb, rfl, h2⟩ := id hb
  have hB : 2 ≤ B64 := by unfold B64; omega
  by_cases hl : xs.length = ys.length
  · rw [← hl] at hb ⊢
    exact order_eq a xs.length ca b cb xs ys w ha hb xa xb
  · refine order_ne a _ ca b _ cb w _ _ hl ?_ ?_
    · constructor
      · exact fun h => val_lt_of_length hB xa xb ta tb h
      · intro h
        rcases Nat.lt_or_gt_of_ne hl with h' | h'
        · exact h'
        · have := val_lt_of_length hB xb xa tb ta h'; omega
    · rcases Nat.lt_or_gt_of_ne hl with h' | h'
      · have := val_lt_of_length hB xa xb ta tb h'; omega
      · have := val_lt_of_length hB xb xa tb ta h'; omega
end Go.Proofs.YtjmmnpfedhkjbaaDoor
namespace Go.Proofs.YtjmmnpfedhkjbaaDoor
open Go.RowKit Go.Shelf

set_option maxRecDepth 100000 in
set_option maxHeartbeats 2000000 in
theorem clone_nil (n c : Nat) (w : World) : Calls Tryd.prog 46 #[.slice none n c] w fun e w' => e = .returned (.slice none 0 0) ∧ w' = w := by
  have q22 : ∀ (w : World) (a : Option Addr) (n c n' c' : Nat), (binOp .eql 23 (.slice a n c) (.slice none n' c')).run Tryd.prog w = .ok (.bool a.isNone) w := fun w a n c n' c' => Lib.run_eql_slice_nil w _ _ a n c n' c' Tryd.underlying23
  go_enter Tryd.func46, Tryd.ntmps46
  go_wp2
  go_ret
  exact ⟨rfl, rfl⟩

set_option maxRecDepth 100000 in
set_option maxHeartbeats 2000000 in
theorem clone_some (p : Addr) (c : Nat) (xs : List Nat) (w : World) (hl : xs.length ≤ 1099511627776) (hc : ∀ j, j < xs.length → w.cell? (p.add j) = some (.int .u64 (xs[j]?.getD 0 : Nat))) :
    Calls Tryd.prog 46 #[.slice (some p) xs.length c] w fun e w' => ∃ v', e = .returned v' ∧ w'.ownsRow w.heap.size 56 1 v' xs.length (cellsOf .u64 xs) ∧ Below w.heap.size w w' := by
  obtain ⟨i0, hi, hz0, hz1, hz2⟩ := info_parts Tryd.infoU64
  have q22 : ∀ (w : World) (a : Option Addr) (n c n' c' : Nat), (binOp .eql 23 (.slice a n c) (.slice none n' c')).run Tryd.prog w = .ok (.bool a.isNone) w := fun w a n c n' c' => Lib.run_eql_slice_nil w _ _ a n c n' c' Tryd.underlying23
  have A := hidD hc
  clear hc
  go_enter Tryd.func46, Tryd.ntmps46
  go_wp2_with (at_builtin; refine wpList_append_own _ rfl _ _ 23 rfl w.heap.size 56 i0 (.int .u64 0) 1 8 Tryd.underlying23 hi hz0 hz1 hz2 rfl (by decide) _ _ _ rfl (World.ownsRow_made w #[] 0 (Nat.le_refl _) (Nat.zero_le _) rfl) p xs.length c (cellsOf .u64 xs) rfl ?qc1 ?qc2 ?qc3 ?qc4 ?qc5 ?qc6 ?_)
  case qc1 => simp [cellsOf]
  case qc2 =>
    intro j u hj
    have hjn : j < xs.length := by
      have := (List.getElem?_eq_some_iff.1 hj).1
      simpa [cellsOf] using this
    refine Lib.cell?_alloc_some _ ?_
    rw [A.out j hjn]
    simp only [cellsOf, List.getElem?_map, List.getElem?_eq_getElem hjn, Option.map_some, Option.getD_some] at hj ⊢
    exact hj
  case qc3 => intro u hu; obtain ⟨x, _, rfl⟩ := List.mem_map.1 hu; rfl
  case qc4 => unfold maxLen; omega
  case qc5 => omega
  case qc6 => simp
  intro v' w1 hown hgrow hnil
  go_wp2
  go_ret
  refine ⟨v', rfl, by simpa using hown, ?_⟩
  exact ((Below.refl _ w).alloc (Nat.le_refl _) _).grown hgrow (by simp) (by intro k hk; simp [Value.ownBlock] at hk; omega)
end Go.Proofs.YtjmmnpfedhkjbaaDoor
namespace Go.Proofs.YtjmmnpfedhkjbaaDoor
open Go.RowKit Go.Shelf

/-- A region that draws its order, by one assertion for all that may be listed. -/
theorem wpAny_held {P : Program} {md : Region.Mode} {ops : Array Oper} {Q : Exit → Act → World → Prop} (I : Array Bool → Act → World → Prop)
    (step : ∀ listed a w i, listed.size = ops.size → I listed a w → i ∈ Region.ready md ops listed → wpOp P ops Q i (I (listed.setIfInBounds i true)) a w)
    (fin : ∀ listed a w, listed.size = ops.size → I listed a w → Region.ready md ops listed = [] → Q .normal a w) :
    ∀ (fuel : Nat) (listed : Array Bool) (a : Act) (w : World), listed.size = ops.size → notListed listed ≤ fuel → I listed a w → wpAny P md ops Q fuel listed a w := by
  intro fuel
  have hmem : ∀ {listed : Array Bool} {i : Nat}, i ∈ Region.ready md ops listed → i < ops.size ∧ listed.getD i true = false := by
    intro listed i hi
    simp only [Region.ready, List.mem_filter, List.mem_range, Bool.and_eq_true, Bool.not_eq_true'] at hi
    exact ⟨hi.1, hi.2.1⟩
  induction fuel with
  | zero =>
    intro listed a w hs hf hI
    have hn : Region.ready md ops listed = [] := by
      cases hr : Region.ready md ops listed with
      | nil => rfl
      | cons i l =>
        obtain ⟨h1, h2⟩ := hmem (show i ∈ Region.ready md ops listed by rw [hr]; exact List.mem_cons_self)
        have := notListed_set (i := i) (by omega) h2
        omega
    exact ⟨hn, fin _ _ _ hs hI hn⟩
  | succ fuel ih =>
    intro listed a w hs hf hI
    refine ⟨fin _ _ _ hs hI, fun i hi => ?_⟩
    obtain ⟨h1, h2⟩ := hmem hi
    have := notListed_set (i := i) (by omega) h2
    exact wpOp_mono (fun a' w' h => ih _ a' w' (by simp [hs]) (by omega) h) (step listed a w i hs hI hi)

theorem wp_region_held {P : Program} {ops : Array Oper} {Q : Exit → Act → World → Prop} {id : Nat} {a : Act} {w : World} (hm : P.follows .mixedOrders = true) (I : Array Bool → Act → World → Prop)
    (start : I (Array.replicate ops.size false) a w.drew)
    (step : ∀ listed a w i, listed.size = ops.size → I listed a w → i ∈ Region.ready .any ops listed → wpOp P ops Q i (I (listed.setIfInBounds i true)) a w)
    (fin : ∀ listed a w, listed.size = ops.size → I listed a w → Region.ready .any ops listed = [] → Q .normal a w) :
    (Code.region id ops true).wp P Q a w :=
  wp_region_any hm (wpAny_held I step fin _ _ _ _ (by simp) (by rw [notListed]; exact Nat.le_trans List.countP_le_length (by simp)) start)

/-- The same, with a table of who waits on whom; what is done is closed under it. -/
theorem wp_region_tab {P : Program} {ops : Array Oper} {Q : Exit → Act → World → Prop} {id : Nat} {a : Act} {w : World} (hm : P.follows .mixedOrders = true)
    (tab : List (List Nat)) (ht : Region.tabAfter .any ops = tab) (hlt : tabOrdered tab = true) (I : (Nat → Bool) → Act → World → Prop)
    (start : I (fun _ => false) a w.drew)
    (step : ∀ (D : Nat → Bool) a w i ds, (∀ i ds, tab[i]? = some ds → D i = true → ∀ j ∈ ds, D j = true) → tab[i]? = some ds → (∀ j ∈ ds, D j = true) → D i = false → I D a w → wpOp P ops Q i (I (fun j => j == i || D j)) a w)
    (fin : ∀ (D : Nat → Bool) a w, (∀ i, i < tab.length → D i = true) → I D a w → Q .normal a w) :
    (Code.region id ops true).wp P Q a w := by
  have hlen : tab.length = ops.size := by rw [← ht]; simp [Region.tabAfter]
  refine wp_region_held hm (fun listed a w => (∀ i ds, tab[i]? = some ds → listed.getD i false = true → ∀ j ∈ ds, listed.getD j false = true) ∧ I (fun j => listed.getD j false) a w) ⟨fun i ds _ h => ?_, ?_⟩ ?_ ?_
  · simp only [Array.getD, Array.size_replicate] at h
    split at h <;> simp at h
  · have e : (fun j => (Array.replicate ops.size false).getD j false) = fun _ => false := by
      funext j; simp only [Array.getD, Array.size_replicate]; split <;> simp
    rw [e]; exact start
  · rintro listed a w i hs ⟨hcl, hI⟩ hi
    obtain ⟨h2, ds, hds, h3⟩ := (mem_ready ht).1 hi
    have hil : i < listed.size := by
      rw [hs, ← hlen]
      rcases Nat.lt_or_ge i tab.length with h | h
      · exact h
      · rw [List.getElem?_eq_none h] at hds; cases hds
    have hf : listed.getD i false = false := by
      simp only [Array.getD, hil, dif_pos] at h2 ⊢; exact h2
    have e : ∀ j, (listed.setIfInBounds i true).getD j false = (j == i || listed.getD j false) := by
      intro j
      rw [Array.getD_eq_getD_getElem?, Array.getD_eq_getD_getElem?, Array.getElem?_setIfInBounds]
      by_cases hji : i = j
      · subst hji; simp [hil]
      · simp [hji, Ne.symm hji]
    refine wpOp_mono (fun a' w' h => ⟨fun i' ds' hi' hd j hj => ?_, ?_⟩) (step _ a w i ds hcl hds h3 hf hI)
    · rw [e] at hd ⊢
      simp only [Bool.or_eq_true, beq_iff_eq] at hd ⊢
      rcases hd with rfl | hd
      · rw [hds] at hi'; cases hi'; exact Or.inr (h3 j hj)
      · exact Or.inr (hcl i' ds' hi' hd j hj)
    · rw [show (fun j => (listed.setIfInBounds i true).getD j false) = fun j => (j == i || listed.getD j false) from funext e]; exact h
  · rintro listed a w hs ⟨hcl, hI⟩ hn
    refine fin _ a w (fun i => ?_) hI
    induction i using Nat.strongRecOn with
    | _ i ih =>
      intro hi
      cases hd : listed.getD i false with
      | true => rfl
      | false =>
        exfalso
        have hds : tab[i]? = some tab[i] := List.getElem?_eq_getElem hi
        have : i ∈ Region.ready .any ops listed := (mem_ready ht).2 ⟨by
          have hil : i < listed.size := by omega
          simp only [Array.getD, hil, dif_pos] at hd ⊢; exact hd, _, hds, fun j hj => ih j (tabOrdered_lt hlt hds hj) (by have := tabOrdered_lt hlt hds hj; omega)⟩
        rw [hn] at this; cases this
end Go.Proofs.YtjmmnpfedhkjbaaDoor
