import Derived.Test.YtahpgnkhophgpaaDoorTko
import Derived.Laws.CopyOwn
import Derived.Deep.OwnRows
import Derived.Lib.SliceRun
namespace Go.Proofs.YtahpgnkhophgpaaDoor
open Go.RowKit Go.Shelf

theorem madeCells_u64 (n : Nat) : madeCells #[.int .u64 0] n = (cellsOf .u64 (List.replicate n 0)).toArray := by
  apply Array.ext
  · simp [madeCells, cellsOf]
  · intro i h1 h2
    simp [madeCells, cellsOf, Nat.mod_one]

theorem make_row (n : Nat) (h : n ≤ 2199023255552) (w : World) : (Instr.makeSlice 23 (.int .i64 (n : Int)) (.int .i64 (n : Int))).run Tryd.prog w = .ok (.slice (some ⟨w.heap.size, 0, none⟩) n n) (w.alloc (.cells (cellsOf .u64 (List.replicate n 0)).toArray 56)) := by
  rw [← madeCells_u64]
  exact run_make_row' 23 56 (.int .u64 0) 8 Tryd.underlying23 Tryd.infoU64 rfl .i64 .i64 n (by omega) (by omega) w

theorem make_row1 (l : Nat) (h : l ≤ 2199023255551) (w : World) : (Instr.makeSlice 23 (.int .i64 ((l : Int) + 1)) (.int .i64 ((l : Int) + 1))).run Tryd.prog w = .ok (.slice (some ⟨w.heap.size, 0, none⟩) (l + 1) (l + 1)) (w.alloc (.cells (cellsOf .u64 (List.replicate (l + 1) 0)).toArray 56)) :=
  make_row (l + 1) (by omega) w

theorem addr_plain (b o j : Nat) : (⟨b, o, none⟩ : Addr).add j = ⟨b, o + j, none⟩ := by simp [Addr.add]

theorem wlimbs_mono {m n : Nat} (h : n ≤ m) : (limbs B64 n).length ≤ (limbs B64 m).length := by
  rcases Nat.lt_or_ge (limbs B64 m).length (limbs B64 n).length with h1 | h1
  · have := limbs_lt_length two_le_B64 h1; omega
  · exact h1

theorem row_src {w W : World} {a : Option Addr} {l c : Nat} {ds : List Nat} {p : Addr} (h : Row .u64 w (.slice a l c) ds) (hb : Below w.heap.size w W) (e : a = some p) (_h0 : 0 < l) (j : Nat) (v : Value) (hv : (cellsOf .u64 ds)[j]? = some v) : W.cell? (p.add j) = some v := by
  obtain ⟨hl, _, _, _, hc⟩ := row_fn h
  have hj : j < ds.length := by
    rcases Nat.lt_or_ge j ds.length with h' | h'
    · exact h'
    · rw [List.getElem?_eq_none (by simpa [cellsOf] using h')] at hv; cases hv
  obtain ⟨b, off, e2, hlt, hcell⟩ := hc j (by omega)
  rw [e2] at e
  cases e
  rw [addr_plain]
  rw [(hb.cell (p := ⟨b, off + j, none⟩) hlt), hcell]
  simp only [cellsOf, List.getElem?_map, List.getElem?_eq_getElem hj, Option.map_some, Option.some.injEq] at hv
  rw [← hv, List.getElem?_eq_getElem hj]
  rfl

theorem row_lt {w : World} {a : Option Addr} {l c : Nat} {ds : List Nat} {p : Addr} (h : Row .u64 w (.slice a l c) ds) (e : a = some p) (h0 : 0 < l) : p.block < w.heap.size := by
  obtain ⟨b, off, e2, hlt, _⟩ := (row_fn h).2.2.2.2 0 h0
  rw [e2] at e
  cases e
  exact hlt

theorem row_some {w : World} {a : Option Addr} {l c : Nat} {ds : List Nat} (h : Row .u64 w (.slice a l c) ds) (h0 : 0 < l) : ∃ p, a = some p := by
  obtain ⟨b, off, e2, hlt, _⟩ := (row_fn h).2.2.2.2 0 h0
  exact ⟨_, e2⟩

theorem sub_val {xs bs q : List Nat} {len c m n : Nat} (h : SubAt xs bs 0 len c q) (hx : xs = limbs B64 m) (hb : bs = limbs B64 n) (hl : len = xs.length) (hlb : bs.length ≤ len) (hmn : n ≤ m) : trimL q = limbs B64 (m - n) := by
  obtain ⟨h1, h2, h3, h4⟩ := h
  rw [List.drop_zero, List.take_of_length_le (show xs.length ≤ len by omega), List.take_of_length_le hlb, hx, hb, val_limbs two_le_B64, val_limbs two_le_B64] at h4
  have h5 := val_lt h2
  rw [h1] at h5
  have h6 : c = 0 := by
    rcases Nat.lt_or_ge 0 c with h' | h'
    · have := Nat.mul_le_mul_left (B64 ^ len) h'
      omega
    · omega
  subst h6
  rw [← limbs_val two_le_B64 h2]
  congr 1
  omega

/-- The words of one row, behind a copy into a longer one. -/
theorem splice_words (xs : List Nat) (n : Nat) : splice (cellsOf .u64 (List.replicate (xs.length + n) 0)) 0 (cellsOf .u64 xs) = cellsOf .u64 (xs ++ List.replicate n 0) := by
  simp [splice, cellsOf]

theorem copy_into (g dl dc : Nat) (a : Option Addr) (la ca : Nat) (xs : List Nat) (w W1 : World) (hm : Row .u64 w (.slice a la ca) xs) (hb : Below w.heap.size w W1) (hg : w.heap.size ≤ g) (hA : W1.heap[g]? = some (.cells (cellsOf .u64 (List.replicate dl 0)).toArray 56 (0, 0))) (hl : la ≤ dl) :
    ∃ W2, (Builtin.copy_ #[23, 23] 3 #[.slice (some ⟨g, 0, none⟩) dl dc, .slice a la ca]).run Tryd.prog W1 = .ok (.int .i64 (la : Nat)) W2 ∧ Arr W2 g (xs ++ List.replicate (dl - la) 0) ∧ Below w.heap.size w W2 := by
  obtain ⟨hx, _⟩ := row_fn hm
  have hsz : (Tryd.prog.info? 56).map (·.size) = some 1 := by kernel_rfl
  have hfin : (cellsOf .u64 xs) ++ (cellsOf .u64 (List.replicate dl 0)).drop la = cellsOf .u64 (xs ++ List.replicate (dl - la) 0) := by simp [cellsOf]
  by_cases h0 : la = 0
  · subst h0
    refine ⟨W1, run_copy_none (P := Tryd.prog) W1 23 23 3 56 (some ⟨g, 0, none⟩) a dl dc 0 ca Tryd.underlying23 hsz (Nat.zero_min dl), Arr.made ?_, hb⟩
    obtain rfl : xs = [] := List.eq_nil_of_length_eq_zero hx.symm
    rw [List.nil_append, Nat.sub_zero]; exact hA
  · obtain ⟨p, hp⟩ := row_some hm (by omega)
    subst hp
    have hlen : (cellsOf .u64 xs).length = la := by simp [cellsOf, hx]
    have h1 := run_copy_row (P := Tryd.prog) W1 23 23 3 56 g 0 dl dc p la ca _ 56 (cellsOf .u64 xs) Tryd.underlying23 hsz hA (by rw [hlen]; exact (Nat.min_eq_left hl).symm) (fun j v hv => row_src hm hb rfl (by omega) j v hv) (by rw [hlen]; simp [cellsOf]; exact hl) (fun v hv => by
      rw [cellsOf, List.mem_map] at hv
      obtain ⟨_, _, rfl⟩ := hv
      rfl)
    rw [hlen, List.take_zero, List.nil_append, Nat.zero_add, hfin] at h1
    exact ⟨_, h1, Arr.made (setRow_heap W1 g _ _ _ _ hA), below_setRow hb hg _⟩

set_option maxRecDepth 100000 in
set_option maxHeartbeats 2000000 in
theorem rminus_w (a : Option Addr) (la ca : Nat) (b : Option Addr) (lb cb m n : Nat) (w : World) (hm : Row .u64 w (.slice a la ca) (limbs B64 m)) (hn : Row .u64 w (.slice b lb cb) (limbs B64 n)) (h : n ≤ m) :
    Calls Tryd.prog 35 #[.slice a la ca, .slice b lb cb] w fun e w' => ∃ u, e = .returned u ∧ UN w' u (m - n) ∧ Below w.heap.size w w' := by
  obtain ⟨hl, hlc2, hcm, hlm, hc⟩ := row_fn hm
  obtain ⟨hl2, hlc22, hcm2, hlm2, hc2⟩ := row_fn hn
  have hll : lb ≤ la := by rw [hl, hl2]; exact wlimbs_mono h
  have HL := hidD hl
  have HN := hidD hn
  have hmk := make_row la (by omega) w
  obtain ⟨W1, hW1⟩ : ∃ W1, W1 = w.alloc (.cells (cellsOf .u64 (List.replicate la 0)).toArray 56) := ⟨_, rfl⟩
  have hB1 : Below w.heap.size w W1 := by rw [hW1]; exact (Below.refl _ w).alloc (Nat.le_refl _) _
  have hA1 : W1.heap[w.heap.size]? = some (.cells (cellsOf .u64 (List.replicate la 0)).toArray 56 (0, 0)) := by rw [hW1]; exact World.alloc_heap_new w _
  rw [← hW1] at hmk
  obtain ⟨w2, hcp, hA2, hb2⟩ := copy_into w.heap.size la la a la ca (limbs B64 m) w W1 hm hB1 (Nat.le_refl _) hA1 (Nat.le_refl _)
  rw [Nat.sub_self, List.replicate_zero, List.append_nil] at hA2
  have hS2 := hA2.lt
  clear hc hl hc2 hl2 hm hn hW1 hB1 hA1
  go_enter Tryd.func35, Tryd.ntmps35
  go_wp2_with (go_at_call 55; refine (takeOff_w w.heap.size 0 la la (limbs B64 m) b lb cb (limbs B64 n) _ hA2 (dig_limbs two_le_B64 m) (by rw [Nat.zero_add, ← HL.out]; exact Nat.le_refl _) (Nat.le_refl _) (by omega) hll (Row.below HN.out hb2) (dig_limbs two_le_B64 n) (fun p e h0 => by have := row_lt HN.out e h0; omega)).mono ?_)
  rintro e w3 ⟨c, q, rfl, hq, hA3, hg3⟩
  have hq1 := hq.1
  have hrow : Row .u64 w3 (.slice (some ⟨w.heap.size, 0, none⟩) la la) q := by
    have h1 := hA3.row 0 la la (by rw [mid_length hq1 (by rw [← HL.out]; omega), ← HL.out]; omega) (Nat.le_refl _) (by omega) hlm
    have e1 : ((mid (limbs B64 m) 0 la q).drop 0).take la = q := by
      rw [List.drop_zero, mid, List.take_zero, List.nil_append, List.take_append_of_le_length (by omega), List.take_of_length_le (by omega)]
    rwa [e1] at h1
  have HV := hidD (sub_val hq rfl rfl HL.out (by have := row_fn HN.out; omega) h)
  have hb3 : Below w.heap.size w w3 := below_grown hb2 hg3 (Nat.le_refl _)
  clear hq hA3 hg3
  go_wp2_with (go_at_call 31; refine (trimmed_c _ q _ hrow).mono ?_)
  rintro e w4 ⟨u, rfl, hu, hb4⟩
  rw [HV.out] at hu
  obtain ⟨ua, uc, rfl⟩ := UN.form hu
  go_wp2
  go_ret
  exact ⟨_, rfl, hu, hb3.trans (hb4.mono hb3.size)⟩

theorem add_val {xs bs q : List Nat} {len c m n : Nat} (h : AddAt (xs ++ [0]) bs 0 len c q) (hx : xs = limbs B64 m) (hb : bs = limbs B64 n) (hl : len = xs.length + 1) (hlb : bs.length ≤ xs.length) : trimL q = limbs B64 (m + n) := by
  obtain ⟨h1, h2, h3, h4⟩ := h
  have hm : m < B64 ^ xs.length := by
    have := val_lt (dig_limbs two_le_B64 m)
    rwa [val_limbs two_le_B64, ← hx] at this
  have hn : n < B64 ^ xs.length := by
    have := val_lt (dig_limbs two_le_B64 n)
    rw [val_limbs two_le_B64, ← hb] at this
    exact Nat.lt_of_lt_of_le this (Nat.pow_le_pow_right (by unfold B64; omega) hlb)
  rw [List.drop_zero, List.take_of_length_le (show (xs ++ [0]).length ≤ len by simp; omega), List.take_of_length_le (show bs.length ≤ len by omega), val_snoc, Nat.mul_zero, Nat.add_zero, hb, val_limbs two_le_B64] at h4
  have h7 : val B64 xs = m := by rw [hx, val_limbs two_le_B64]
  rw [h7] at h4
  have h8 : B64 ^ len = B64 ^ xs.length * B64 := by rw [hl, Nat.pow_succ]
  have h9 : B64 ^ xs.length * 2 ≤ B64 ^ len := by rw [h8]; exact Nat.mul_le_mul_left _ two_le_B64
  have h6 : c = 0 := by
    rcases Nat.lt_or_ge 0 c with h' | h'
    · have := Nat.mul_le_mul_left (B64 ^ len) h'
      omega
    · omega
  subst h6
  rw [← limbs_val two_le_B64 h2]
  congr 1

set_option maxRecDepth 100000 in
set_option maxHeartbeats 2000000 in
theorem rplus_w (a : Option Addr) (la ca : Nat) (b : Option Addr) (lb cb m n : Nat) (w : World) (hm : Row .u64 w (.slice a la ca) (limbs B64 m)) (hn : Row .u64 w (.slice b lb cb) (limbs B64 n)) (hla : la < 1099511627776) (hlb : lb < 1099511627776) :
    Calls Tryd.prog 33 #[.slice a la ca, .slice b lb cb] w fun e w' => ∃ u, e = .returned u ∧ UN w' u (m + n) ∧ Below w.heap.size w w' := by
  by_cases hll : la < lb
  · obtain ⟨hl, hlc2, hcm, hlm, hc⟩ := row_fn hn
    obtain ⟨hl2, hlc22, hcm2, hlm2, hc2⟩ := row_fn hm
    have HL := hidD hl
    have HN := hidD hm
    have HL2 := hidD hl2
    have hmk := make_row1 lb (by omega) w
    obtain ⟨W1, hW1⟩ : ∃ W1, W1 = w.alloc (.cells (cellsOf .u64 (List.replicate (lb + 1) 0)).toArray 56) := ⟨_, rfl⟩
    have hB1 : Below w.heap.size w W1 := by rw [hW1]; exact (Below.refl _ w).alloc (Nat.le_refl _) _
    have hA1 : W1.heap[w.heap.size]? = some (.cells (cellsOf .u64 (List.replicate (lb + 1) 0)).toArray 56 (0, 0)) := by rw [hW1]; exact World.alloc_heap_new w _
    rw [← hW1] at hmk
    obtain ⟨w2, hcp, hA2, hb2⟩ := copy_into w.heap.size (lb + 1) (lb + 1) b lb cb (limbs B64 n) w W1 hn hB1 (Nat.le_refl _) hA1 (by omega)
    rw [show lb + 1 - lb = 1 from by omega, List.replicate_one] at hA2
    have hS2 := hA2.lt
    have HD := hidD (show Dig B64 (limbs B64 n ++ [0]) from (dig_limbs two_le_B64 n).append (Dig.cons (by unfold B64; omega) (Dig.nil _)))
    have HXL := hidD (show (limbs B64 n ++ [0]).length = lb + 1 by rw [List.length_append, ← hl]; rfl)
    clear hc hl hc2 hl2 hm hn hW1 hB1 hA1
    go_enter Tryd.func33, Tryd.ntmps33
    go_wp2_with (go_at_call 54; refine (add_w w.heap.size 0 (lb + 1) (lb + 1) (limbs B64 n ++ [0]) a la ca (limbs B64 m) _ hA2 HD.out (by rw [Nat.zero_add, HXL.out]; exact Nat.le_refl _) (Nat.le_refl _) (by omega) (by omega) (Row.below HN.out hb2) (dig_limbs two_le_B64 m) (fun p e h0 => by have := row_lt HN.out e h0; omega)).mono ?_)
    rintro e w3 ⟨c, q, rfl, hq, hA3, hg3⟩
    have hq1 := hq.1
    have hrow : Row .u64 w3 (.slice (some ⟨w.heap.size, 0, none⟩) (lb + 1) (lb + 1)) q := by
      have h1 := hA3.row 0 (lb + 1) (lb + 1) (by rw [mid_length hq1 (by rw [HXL.out]; omega), HXL.out]; omega) (Nat.le_refl _) (by omega) (by omega)
      have e1 : ((mid (limbs B64 n ++ [0]) 0 (lb + 1) q).drop 0).take (lb + 1) = q := by
        rw [List.drop_zero, mid, List.take_zero, List.nil_append, List.take_append_of_le_length (by omega), List.take_of_length_le (by omega)]
      rwa [e1] at h1
    have HV := hidD (add_val hq rfl rfl (by rw [← HL.out]) (by rw [← HL.out, ← HL2.out]; omega))
    have hb3 : Below w.heap.size w w3 := below_grown hb2 hg3 (Nat.le_refl _)
    clear hq hA3 hg3
    go_wp2_with (go_at_call 31; refine (trimmed_c _ q _ hrow).mono ?_)
    rintro e w4 ⟨u, rfl, hu, hb4⟩
    rw [HV.out] at hu
    obtain ⟨ua, uc, rfl⟩ := UN.form hu
    go_wp2
    go_ret
    exact ⟨_, rfl, by rw [Nat.add_comm m n]; exact hu, hb3.trans (hb4.mono hb3.size)⟩
  · obtain ⟨hl, hlc2, hcm, hlm, hc⟩ := row_fn hm
    obtain ⟨hl2, hlc22, hcm2, hlm2, hc2⟩ := row_fn hn
    have HL := hidD hl
    have HN := hidD hn
    have HL2 := hidD hl2
    have hmk := make_row1 la (by omega) w
    obtain ⟨W1, hW1⟩ : ∃ W1, W1 = w.alloc (.cells (cellsOf .u64 (List.replicate (la + 1) 0)).toArray 56) := ⟨_, rfl⟩
    have hB1 : Below w.heap.size w W1 := by rw [hW1]; exact (Below.refl _ w).alloc (Nat.le_refl _) _
    have hA1 : W1.heap[w.heap.size]? = some (.cells (cellsOf .u64 (List.replicate (la + 1) 0)).toArray 56 (0, 0)) := by rw [hW1]; exact World.alloc_heap_new w _
    rw [← hW1] at hmk
    obtain ⟨w2, hcp, hA2, hb2⟩ := copy_into w.heap.size (la + 1) (la + 1) a la ca (limbs B64 m) w W1 hm hB1 (Nat.le_refl _) hA1 (by omega)
    rw [show la + 1 - la = 1 from by omega, List.replicate_one] at hA2
    have hS2 := hA2.lt
    have HD := hidD (show Dig B64 (limbs B64 m ++ [0]) from (dig_limbs two_le_B64 m).append (Dig.cons (by unfold B64; omega) (Dig.nil _)))
    have HXL := hidD (show (limbs B64 m ++ [0]).length = la + 1 by rw [List.length_append, ← hl]; rfl)
    clear hc hl hc2 hl2 hm hn hW1 hB1 hA1
    go_enter Tryd.func33, Tryd.ntmps33
    go_wp2_with (go_at_call 54; refine (add_w w.heap.size 0 (la + 1) (la + 1) (limbs B64 m ++ [0]) b lb cb (limbs B64 n) _ hA2 HD.out (by rw [Nat.zero_add, HXL.out]; exact Nat.le_refl _) (Nat.le_refl _) (by omega) (by omega) (Row.below HN.out hb2) (dig_limbs two_le_B64 n) (fun p e h0 => by have := row_lt HN.out e h0; omega)).mono ?_)
    rintro e w3 ⟨c, q, rfl, hq, hA3, hg3⟩
    have hq1 := hq.1
    have hrow : Row .u64 w3 (.slice (some ⟨w.heap.size, 0, none⟩) (la + 1) (la + 1)) q := by
      have h1 := hA3.row 0 (la + 1) (la + 1) (by rw [mid_length hq1 (by rw [HXL.out]; omega), HXL.out]; omega) (Nat.le_refl _) (by omega) (by omega)
      have e1 : ((mid (limbs B64 m ++ [0]) 0 (la + 1) q).drop 0).take (la + 1) = q := by
        rw [List.drop_zero, mid, List.take_zero, List.nil_append, List.take_append_of_le_length (by omega), List.take_of_length_le (by omega)]
      rwa [e1] at h1
    have HV := hidD (add_val hq rfl rfl (by rw [← HL.out]) (by rw [← HL.out, ← HL2.out]; omega))
    have hb3 : Below w.heap.size w w3 := below_grown hb2 hg3 (Nat.le_refl _)
    clear hq hA3 hg3
    go_wp2_with (go_at_call 31; refine (trimmed_c _ q _ hrow).mono ?_)
    rintro e w4 ⟨u, rfl, hu, hb4⟩
    rw [HV.out] at hu
    obtain ⟨ua, uc, rfl⟩ := UN.form hu
    go_wp2
    go_ret
    exact ⟨_, rfl, hu, hb3.trans (hb4.mono hb3.size)⟩
end Go.Proofs.YtahpgnkhophgpaaDoor
