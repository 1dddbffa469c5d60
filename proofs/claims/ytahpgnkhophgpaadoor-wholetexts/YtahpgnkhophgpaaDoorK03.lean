import Derived.Test.YtahpgnkhophgpaaDoorK02
import Derived.Laws.CopyOwn
import Derived.Deep.OwnRows
import Derived.Lib.SliceRun
import Derived.Test.YtahpgnkhophgpaaDoorShelf
namespace Go.Proofs.YtahpgnkhophgpaaDoor
open Go.RowKit Go.Shelf

theorem sub64_z (x : Nat) (w : World) : (callFunc 72 #[.int .u64 (x : Nat), .int .u64 0, .int .u64 1]).run Tryd.prog w =
    .ok (.value (.tuple #[.int .u64 (subLo x 0 1 : Nat), .int .u64 (subHi x 0 1 : Nat)])) w := sub64_r x 0 1 (by omega) w
theorem add64_z (x : Nat) (w : World) : (callFunc 62 #[.int .u64 (x : Nat), .int .u64 0, .int .u64 1]).run Tryd.prog w =
    .ok (.value (.tuple #[.int .u64 (addLo x 0 1 : Nat), .int .u64 (addHi x 0 1 : Nat)])) w := add64_r x 0 1 (by omega) w

set_option maxRecDepth 100000 in
set_option maxHeartbeats 2000000 in
theorem takeOff_w (br ro len cap : Nat) (xs : List Nat) (a : Option Addr) (lb cb : Nat) (bs : List Nat) (w : World)
    (hA : Arr w br xs) (hx : Dig B64 xs) (hro : ro + len ≤ xs.length) (hlc : len ≤ cap) (hlm : len ≤ 2199023255552) (hlb : lb ≤ len) (hb : Row .u64 w (.slice a lb cb) bs) (hbs : Dig B64 bs) (hne : ∀ p, a = some p → 0 < lb → p.block ≠ br) :
    Calls Tryd.prog 55 #[.slice (some ⟨br, ro, none⟩) len cap, .slice a lb cb] w fun e w' =>
      ∃ c q, e = .returned (.int .u64 (c : Nat)) ∧ SubAt xs bs ro len c q ∧ Arr w' br (mid xs ro len q) ∧ w.grownBy w' (some br) := by
  obtain ⟨hl, hlc2, hcm, hlm2, hc⟩ := row_fn hb
  have HL := hidD hl
  have HC := hidD hc
  have HN := hidD hne
  clear hc hl hne hb
  go_enter Tryd.func55, Tryd.ntmps55
  go_wp2
  go_loopw [5, 11] (fun ov iv wr => ∃ (i c : Nat) (q : List Nat), iv = .int .i64 i ∧ ov = .int .u64 (c : Nat) ∧ i ≤ lb ∧ c ≤ 1 ∧ Hid (SubAt xs bs ro i c q) ∧ Arr wr br (mid xs ro i q) ∧ w.grownBy wr (some br))
    (fun _ iv _ => lb - (intOf iv).toNat)
  case atStart => exact ⟨0, 0, [], rfl, rfl, Nat.zero_le _, by omega, SubAt.start _ _ _, by rw [mid_zero]; exact hA, grown_refl _ _⟩
  case round =>
    obtain ⟨i, c, q, rfl, rfl, hi, ho, HP, hM, hg⟩ := hrel
    by_cases hlt : i < lb
    · obtain ⟨b, off, rfl, hbb, hc⟩ := HC.out i hlt
      have hbn := HN.out _ rfl (by omega)
      have hq := HP.out.1
      have hcb : wr.cell? ⟨b, off + i, none⟩ = some (.int .u64 (bs[i]?.getD 0 : Nat)) := (World.cell?_of_block (w := w) (hg.block b hbb (fun e => hbn (by cases e; rfl)))).trans hc
      have hcr : wr.cell? ⟨br, ro + i, none⟩ = some (.int .u64 (xs[ro + i]?.getD 0 : Nat)) := by rw [← mid_get hq (by omega)]; exact hM.cell (by rw [mid_length hq (by omega)]; omega)
      have hfr := hM.frozen (ro + i)
      have hxb := hbs.getD (by unfold B64; omega) i
      have hxr := hx.getD (by unfold B64; omega) (ro + i)
      obtain ⟨s1, s2, s3⟩ := sub_step hxr hxb ho
      have HS := hidD (HP.out.step _ _ s1 s2 s3)
      have HM2 := hidD (show ∀ d, (mid xs ro i q).set (ro + i) d = mid xs ro (i + 1) (q ++ [d]) from fun d => mid_set hq (by omega) d)
      clear hc hq s3
      generalize bs[i]?.getD 0 = x at *
      generalize xs[ro + i]?.getD 0 = r at *
      have a1 := sub64_r r x c ho
      go_wp2
      exact ⟨⟨i + 1, subHi r x c, q ++ [subLo r x c], by simp, by simp, by omega, HS.out.2.2.1, HS, by rw [← HM2.out]; exact hM.set _ _, grown_trans hg (grown_set _ _ _ _)⟩, by simp [intOf]; omega⟩
    · obtain rfl : i = lb := by omega
      go_wp2
      go_loopw [5, 8] (fun ov iv wr => ∃ (j c : Nat) (q : List Nat), iv = .int .i64 j ∧ ov = .int .u64 (c : Nat) ∧ i ≤ j ∧ j ≤ len ∧ c ≤ 1 ∧ Hid (SubAt xs bs ro j c q) ∧ Arr wr br (mid xs ro j q) ∧ w.grownBy wr (some br))
        (fun _ iv _ => len - (intOf iv).toNat)
      case atStart => exact ⟨i, c, q, rfl, rfl, Nat.le_refl _, hlb, ho, HP, hM, hg⟩
      case round =>
        obtain ⟨j, c, q, rfl, rfl, hij, hj, ho, HP, hM, hg⟩ := hrel
        by_cases hjl : j < len
        · obtain rfl | rfl : c = 0 ∨ c = 1 := by omega
          · have HR := hidD (HP.out.rest hx (by rw [← HL.out]; exact hij) hj hro)
            have HM2 := hidD (mid_rest (xs := xs) (ro := ro) (q := q) hj)
            go_wp2
            go_ret
            exact ⟨0, _, rfl, HR.out, by rw [← HM2.out]; exact hM, hg⟩
          · have hq := HP.out.1
            have hcr : wr.cell? ⟨br, ro + j, none⟩ = some (.int .u64 (xs[ro + j]?.getD 0 : Nat)) := by rw [← mid_get hq (by omega)]; exact hM.cell (by rw [mid_length hq (by omega)]; omega)
            have hfr := hM.frozen (ro + j)
            have hxr := hx.getD (by unfold B64; omega) (ro + j)
            have hb0 : bs[j]?.getD 0 = 0 := by rw [List.getElem?_eq_none (by rw [← HL.out]; exact hij)]; rfl
            obtain ⟨s1, s2, s3⟩ := sub_step hxr (show (0 : Nat) < B64 by unfold B64; omega) ho
            have HS := hidD (HP.out.step _ _ s1 s2 (by rw [hb0]; exact s3))
            have HM2 := hidD (show ∀ d, (mid xs ro j q).set (ro + j) d = mid xs ro (j + 1) (q ++ [d]) from fun d => mid_set hq (by omega) d)
            clear hq s3 hb0
            generalize xs[ro + j]?.getD 0 = r at *
            have a1 := sub64_z r
            go_wp2
            exact ⟨⟨j + 1, subHi r 0 1, q ++ [subLo r 0 1], by simp, by simp, by omega, by omega, HS.out.2.2.1, HS, by rw [← HM2.out]; exact hM.set _ _, grown_trans hg (grown_set _ _ _ _)⟩, by simp [intOf]; omega⟩
        · obtain rfl : j = len := by omega
          go_wp2
          go_ret
          exact ⟨c, q, rfl, HP.out, hM, hg⟩

set_option maxRecDepth 100000 in
set_option maxHeartbeats 2000000 in
theorem add_w (br ro len cap : Nat) (xs : List Nat) (a : Option Addr) (lb cb : Nat) (bs : List Nat) (w : World)
    (hA : Arr w br xs) (hx : Dig B64 xs) (hro : ro + len ≤ xs.length) (hlc : len ≤ cap) (hlm : len ≤ 2199023255552) (hlb : lb ≤ len) (hb : Row .u64 w (.slice a lb cb) bs) (hbs : Dig B64 bs) (hne : ∀ p, a = some p → 0 < lb → p.block ≠ br) :
    Calls Tryd.prog 54 #[.slice (some ⟨br, ro, none⟩) len cap, .slice a lb cb] w fun e w' =>
      ∃ c q, e = .returned (.int .u64 (c : Nat)) ∧ AddAt xs bs ro len c q ∧ Arr w' br (mid xs ro len q) ∧ w.grownBy w' (some br) := by
  obtain ⟨hl, hlc2, hcm, hlm2, hc⟩ := row_fn hb
  have HL := hidD hl
  have HC := hidD hc
  have HN := hidD hne
  clear hc hl hne hb
  go_enter Tryd.func54, Tryd.ntmps54
  go_wp2
  go_loopw [5, 11] (fun ov iv wr => ∃ (i c : Nat) (q : List Nat), iv = .int .i64 i ∧ ov = .int .u64 (c : Nat) ∧ i ≤ lb ∧ c ≤ 1 ∧ Hid (AddAt xs bs ro i c q) ∧ Arr wr br (mid xs ro i q) ∧ w.grownBy wr (some br))
    (fun _ iv _ => lb - (intOf iv).toNat)
  case atStart => exact ⟨0, 0, [], rfl, rfl, Nat.zero_le _, by omega, AddAt.start _ _ _, by rw [mid_zero]; exact hA, grown_refl _ _⟩
  case round =>
    obtain ⟨i, c, q, rfl, rfl, hi, ho, HP, hM, hg⟩ := hrel
    by_cases hlt : i < lb
    · obtain ⟨b, off, rfl, hbb, hc⟩ := HC.out i hlt
      have hbn := HN.out _ rfl (by omega)
      have hq := HP.out.1
      have hcb : wr.cell? ⟨b, off + i, none⟩ = some (.int .u64 (bs[i]?.getD 0 : Nat)) := (World.cell?_of_block (w := w) (hg.block b hbb (fun e => hbn (by cases e; rfl)))).trans hc
      have hcr : wr.cell? ⟨br, ro + i, none⟩ = some (.int .u64 (xs[ro + i]?.getD 0 : Nat)) := by rw [← mid_get hq (by omega)]; exact hM.cell (by rw [mid_length hq (by omega)]; omega)
      have hfr := hM.frozen (ro + i)
      have hxb := hbs.getD (by unfold B64; omega) i
      have hxr := hx.getD (by unfold B64; omega) (ro + i)
      obtain ⟨s1, s2, s3⟩ := add_step hxr hxb ho
      have HS := hidD (HP.out.step _ _ s1 s2 s3)
      have HM2 := hidD (show ∀ d, (mid xs ro i q).set (ro + i) d = mid xs ro (i + 1) (q ++ [d]) from fun d => mid_set hq (by omega) d)
      clear hc hq s3
      generalize bs[i]?.getD 0 = x at *
      generalize xs[ro + i]?.getD 0 = r at *
      have a1 := add64_r r x c ho
      go_wp2
      exact ⟨⟨i + 1, addHi r x c, q ++ [addLo r x c], by simp, by simp, by omega, HS.out.2.2.1, HS, by rw [← HM2.out]; exact hM.set _ _, grown_trans hg (grown_set _ _ _ _)⟩, by simp [intOf]; omega⟩
    · obtain rfl : i = lb := by omega
      go_wp2
      go_loopw [5, 8] (fun ov iv wr => ∃ (j c : Nat) (q : List Nat), iv = .int .i64 j ∧ ov = .int .u64 (c : Nat) ∧ i ≤ j ∧ j ≤ len ∧ c ≤ 1 ∧ Hid (AddAt xs bs ro j c q) ∧ Arr wr br (mid xs ro j q) ∧ w.grownBy wr (some br))
        (fun _ iv _ => len - (intOf iv).toNat)
      case atStart => exact ⟨i, c, q, rfl, rfl, Nat.le_refl _, hlb, ho, HP, hM, hg⟩
      case round =>
        obtain ⟨j, c, q, rfl, rfl, hij, hj, ho, HP, hM, hg⟩ := hrel
        by_cases hjl : j < len
        · obtain rfl | rfl : c = 0 ∨ c = 1 := by omega
          · have HR := hidD (HP.out.rest hx (by rw [← HL.out]; exact hij) hj hro)
            have HM2 := hidD (mid_rest (xs := xs) (ro := ro) (q := q) hj)
            go_wp2
            go_ret
            exact ⟨0, _, rfl, HR.out, by rw [← HM2.out]; exact hM, hg⟩
          · have hq := HP.out.1
            have hcr : wr.cell? ⟨br, ro + j, none⟩ = some (.int .u64 (xs[ro + j]?.getD 0 : Nat)) := by rw [← mid_get hq (by omega)]; exact hM.cell (by rw [mid_length hq (by omega)]; omega)
            have hfr := hM.frozen (ro + j)
            have hxr := hx.getD (by unfold B64; omega) (ro + j)
            have hb0 : bs[j]?.getD 0 = 0 := by rw [List.getElem?_eq_none (by rw [← HL.out]; exact hij)]; rfl
            obtain ⟨s1, s2, s3⟩ := add_step hxr (show (0 : Nat) < B64 by unfold B64; omega) ho
            have HS := hidD (HP.out.step _ _ s1 s2 (by rw [hb0]; exact s3))
            have HM2 := hidD (show ∀ d, (mid xs ro j q).set (ro + j) d = mid xs ro (j + 1) (q ++ [d]) from fun d => mid_set hq (by omega) d)
            clear hq s3 hb0
            generalize xs[ro + j]?.getD 0 = r at *
            have a1 := add64_z r
            go_wp2
            exact ⟨⟨j + 1, addHi r 0 1, q ++ [addLo r 0 1], by simp, by simp, by omega, by omega, HS.out.2.2.1, HS, by rw [← HM2.out]; exact hM.set _ _, grown_trans hg (grown_set _ _ _ _)⟩, by simp [intOf]; omega⟩
        · obtain rfl : j = len := by omega
          go_wp2
          go_ret
          exact ⟨c, q, rfl, HP.out, hM, hg⟩
end Go.Proofs.YtahpgnkhophgpaaDoor

namespace Go.Proofs.YtahpgnkhophgpaaDoor
open Go.RowKit Go.Shelf

theorem madeCells_u64 (n : Nat) : madeCells #[.int .u64 0] n = (cellsOf .u64 (List.replicate n 0)).toArray := by
  apply Array.ext
  · simp [madeCells, cellsOf]
  · intro i h1 h2
    simp [madeCells, cellsOf, Nat.mod_one]

theorem make_row (n : Nat) (h : n ≤ 2199023255552) (w : World) : (Instr.makeSlice 23 (.int .i64 (n : Int)) (.int .i64 (n : Int))).run Tryd.prog w = .ok (.slice (some ⟨w.heap.size, 0, none⟩) n n) (w.alloc (.cells (cellsOf .u64 (List.replicate n 0)).toArray 56)) := by
  rw [← madeCells_u64]
  exact run_make_row' 23 56 (.int .u64 0) 8 Tryd.underlying23 Tryd.infoU64 rfl .i64 .i64 n (by omega) (by omega) w

theorem make_row1 (l : Nat) (h : l ≤ 2199023255551) (w : World) : (Instr.makeSlice 23 (.int .i64 ((l : Int) + 1)) (.int .i64 ((l : Int) + 1))).run Tryd.prog w = .ok (.slice (some ⟨w.heap.size, 0, none⟩) (l + 1) (l + 1)) (w.alloc (.cells (cellsOf .u64 (List.replicate (l + 1) 0)).toArray 56)) :=
  make_row (l + 1) (by omega) w

theorem addr_plain (b o j : Nat) : (⟨b, o, none⟩ : Addr).add j = ⟨b, o + j, none⟩ := by simp [Addr.add]

theorem wlimbs_mono {m n : Nat} (h : n ≤ m) : (limbs B64 n).length ≤ (limbs B64 m).length := by
  rcases Nat.lt_or_ge (limbs B64 m).length (limbs B64 n).length with h1 | h1
  · have := limbs_lt_length two_le_B64 h1; omega
  · exact h1

theorem row_src {w W : World} {a : Option Addr} {l c : Nat} {ds : List Nat} {p : Addr} (h : Row .u64 w (.slice a l c) ds) (hb : Below w.heap.size w W) (e : a = some p) (_h0 : 0 < l) (j : Nat) (v : Value) (hv : (cellsOf .u64 ds)[j]? = some v) : W.cell? (p.add j) = some v := by
  obtain ⟨hl, _, _, _, hc⟩ := row_fn h
  have hj : j < ds.length := by
    rcases Nat.lt_or_ge j ds.length with h' | h'
    · exact h'
    · rw [List.getElem?_eq_none (by simpa [cellsOf] using h')] at hv; cases hv
  obtain ⟨b, off, e2, hlt, hcell⟩ := hc j (by omega)
  rw [e2] at e
  cases e
  rw [addr_plain]
  rw [(hb.cell (p := ⟨b, off + j, none⟩) hlt), hcell]
  simp only [cellsOf, List.getElem?_map, List.getElem?_eq_getElem hj, Option.map_some, Option.some.injEq] at hv
  rw [← hv, List.getElem?_eq_getElem hj]
  rfl

theorem row_lt {w : World} {a : Option Addr} {l c : Nat} {ds : List Nat} {p : Addr} (h : Row .u64 w (.slice a l c) ds) (e : a = some p) (h0 : 0 < l) : p.block < w.heap.size := by
  obtain ⟨b, off, e2, hlt, _⟩ := (row_fn h).2.2.2.2 0 h0
  rw [e2] at e
  cases e
  exact hlt

theorem row_some {w : World} {a : Option Addr} {l c : Nat} {ds : List Nat} (h : Row .u64 w (.slice a l c) ds) (h0 : 0 < l) : ∃ p, a = some p := by
  obtain ⟨b, off, e2, hlt, _⟩ := (row_fn h).2.2.2.2 0 h0
  exact ⟨_, e2⟩

theorem sub_val {xs bs q : List Nat} {len c m n : Nat} (h : SubAt xs bs 0 len c q) (hx : xs = limbs B64 m) (hb : bs = limbs B64 n) (hl : len = xs.length) (hlb : bs.length ≤ len) (hmn : n ≤ m) : trimL q = limbs B64 (m - n) := by
  obtain ⟨h1, h2, h3, h4⟩ := h
  rw [List.drop_zero, List.take_of_length_le (show xs.length ≤ len by omega), List.take_of_length_le hlb, hx, hb, val_limbs two_le_B64, val_limbs two_le_B64] at h4
  have h5 := val_lt h2
  rw [h1] at h5
  have h6 : c = 0 := by
    rcases Nat.lt_or_ge 0 c with h' | h'
    · have := Nat.mul_le_mul_left (B64 ^ len) h'
      omega
    · omega
  subst h6
  rw [← limbs_val two_le_B64 h2]
  congr 1
  omega

/-- The words of one row, behind a copy into a longer one. -/
theorem splice_words (xs : List Nat) (n : Nat) : splice (cellsOf .u64 (List.replicate (xs.length + n) 0)) 0 (cellsOf .u64 xs) = cellsOf .u64 (xs ++ List.replicate n 0) := by
  simp [splice, cellsOf]

theorem copy_into (g dl dc : Nat) (a : Option Addr) (la ca : Nat) (xs : List Nat) (w W1 : World) (hm : Row .u64 w (.slice a la ca) xs) (hb : Below w.heap.size w W1) (hg : w.heap.size ≤ g) (hA : W1.heap[g]? = some (.cells (cellsOf .u64 (List.replicate dl 0)).toArray 56 (0, 0))) (hl : la ≤ dl) :
    ∃ W2, (Builtin.copy_ #[23, 23] 3 #[.slice (some ⟨g, 0, none⟩) dl dc, .slice a la ca]).run Tryd.prog W1 = .ok (.int .i64 (la : Nat)) W2 ∧ Arr W2 g (xs ++ List.replicate (dl - la) 0) ∧ Below w.heap.size w W2 := by
  obtain ⟨hx, _⟩ := row_fn hm
  have hsz : (Tryd.prog.info? 56).map (·.size) = some 1 := by kernel_rfl
  have hfin : (cellsOf .u64 xs) ++ (cellsOf .u64 (List.replicate dl 0)).drop la = cellsOf .u64 (xs ++ List.replicate (dl - la) 0) := by simp [cellsOf]
  by_cases h0 : la = 0
  · subst h0
    refine ⟨W1, run_copy_none (P := Tryd.prog) W1 23 23 3 56 (some ⟨g, 0, none⟩) a dl dc 0 ca Tryd.underlying23 hsz (Nat.zero_min dl), Arr.made ?_, hb⟩
    obtain rfl : xs = [] := List.eq_nil_of_length_eq_zero hx.symm
    rw [List.nil_append, Nat.sub_zero]; exact hA
  · obtain ⟨p, hp⟩ := row_some hm (by omega)
    subst hp
    have hlen : (cellsOf .u64 xs).length = la := by simp [cellsOf, hx]
    have h1 := run_copy_row (P := Tryd.prog) W1 23 23 3 56 g 0 dl dc p la ca _ 56 (cellsOf .u64 xs) Tryd.underlying23 hsz hA (by rw [hlen]; exact (Nat.min_eq_left hl).symm) (fun j v hv => row_src hm hb rfl (by omega) j v hv) (by rw [hlen]; simp [cellsOf]; exact hl) (fun v hv => by
      rw [cellsOf, List.mem_map] at hv
      obtain ⟨_, _, rfl⟩ := hv
      rfl)
    rw [hlen, List.take_zero, List.nil_append, Nat.zero_add, hfin] at h1
    exact ⟨_, h1, Arr.made (setRow_heap W1 g _ _ _ _ hA), below_setRow hb hg _⟩

set_option maxRecDepth 100000 in
set_option maxHeartbeats 2000000 in
theorem rminus_w (a : Option Addr) (la ca : Nat) (b : Option Addr) (lb cb m n : Nat) (w : World) (hm : Row .u64 w (.slice a la ca) (limbs B64 m)) (hn : Row .u64 w (.slice b lb cb) (limbs B64 n)) (h : n ≤ m) :
    Calls Tryd.prog 35 #[.slice a la ca, .slice b lb cb] w fun e w' => ∃ u, e = .returned u ∧ UN w' u (m - n) ∧ Below w.heap.size w w' := by
  obtain ⟨hl, hlc2, hcm, hlm, hc⟩ := row_fn hm
  obtain ⟨hl2, hlc22, hcm2, hlm2, hc2⟩ := row_fn hn
  have hll : lb ≤ la := by rw [hl, hl2]; exact wlimbs_mono h
  have HL := hidD hl
  have HN := hidD hn
  have hmk := make_row la (by omega) w
  obtain ⟨W1, hW1⟩ : ∃ W1, W1 = w.alloc (.cells (cellsOf .u64 (List.replicate la 0)).toArray 56) := ⟨_, rfl⟩
  have hB1 : Below w.heap.size w W1 := by rw [hW1]; exact (Below.refl _ w).alloc (Nat.le_refl _) _
  have hA1 : W1.heap[w.heap.size]? = some (.cells (cellsOf .u64 (List.replicate la 0)).toArray 56 (0, 0)) := by rw [hW1]; exact World.alloc_heap_new w _
  rw [← hW1] at hmk
  obtain ⟨w2, hcp, hA2, hb2⟩ := copy_into w.heap.size la la a la ca (limbs B64 m) w W1 hm hB1 (Nat.le_refl _) hA1 (Nat.le_refl _)
  rw [Nat.sub_self, List.replicate_zero, List.append_nil] at hA2
  have hS2 := hA2.lt
  clear hc hl hc2 hl2 hm hn hW1 hB1 hA1
  go_enter Tryd.func35, Tryd.ntmps35
  go_wp2_with (go_at_call 55; refine (takeOff_w w.heap.size 0 la la (limbs B64 m) b lb cb (limbs B64 n) _ hA2 (dig_limbs two_le_B64 m) (by rw [Nat.zero_add, ← HL.out]; exact Nat.le_refl _) (Nat.le_refl _) (by omega) hll (Row.below HN.out hb2) (dig_limbs two_le_B64 n) (fun p e h0 => by have := row_lt HN.out e h0; omega)).mono ?_)
  rintro e w3 ⟨c, q, rfl, hq, hA3, hg3⟩
  have hq1 := hq.1
  have hrow : Row .u64 w3 (.slice (some ⟨w.heap.size, 0, none⟩) la la) q := by
    have h1 := hA3.row 0 la la (by rw [mid_length hq1 (by rw [← HL.out]; omega), ← HL.out]; omega) (Nat.le_refl _) (by omega) hlm
    have e1 : ((mid (limbs B64 m) 0 la q).drop 0).take la = q := by
      rw [List.drop_zero, mid, List.take_zero, List.nil_append, List.take_append_of_le_length (by omega), List.take_of_length_le (by omega)]
    rwa [e1] at h1
  have HV := hidD (sub_val hq rfl rfl HL.out (by have := row_fn HN.out; omega) h)
  have hb3 : Below w.heap.size w w3 := below_grown hb2 hg3 (Nat.le_refl _)
  clear hq hA3 hg3
  go_wp2_with (go_at_call 31; refine (trimmed_c _ q _ hrow).mono ?_)
  rintro e w4 ⟨u, rfl, hu, hb4⟩
  rw [HV.out] at hu
  obtain ⟨ua, uc, rfl⟩ := UN.form hu
  go_wp2
  go_ret
  exact ⟨_, rfl, hu, hb3.trans (hb4.mono hb3.size)⟩

theorem add_val {xs bs q : List Nat} {len c m n : Nat} (h : AddAt (xs ++ [0]) bs 0 len c q) (hx : xs = limbs B64 m) (hb : bs = limbs B64 n) (hl : len = xs.length + 1) (hlb : bs.length ≤ xs.length) : trimL q = limbs B64 (m + n) := by
  obtain ⟨h1, h2, h3, h4⟩ := h
  have hm : m < B64 ^ xs.length := by
    have := val_lt (dig_limbs two_le_B64 m)
    rwa [val_limbs two_le_B64, ← hx] at this
  have hn : n < B64 ^ xs.length := by
    have := val_lt (dig_limbs two_le_B64 n)
    rw [val_limbs two_le_B64, ← hb] at this
    exact Nat.lt_of_lt_of_le this (Nat.pow_le_pow_right (by unfold B64; omega) hlb)
  rw [List.drop_zero, List.take_of_length_le (show (xs ++ [0]).length ≤ len by simp; omega), List.take_of_length_le (show bs.length ≤ len by omega), val_snoc, Nat.mul_zero, Nat.add_zero, hb, val_limbs two_le_B64] at h4
  have h7 : val B64 xs = m := by rw [hx, val_limbs two_le_B64]
  rw [h7] at h4
  have h8 : B64 ^ len = B64 ^ xs.length * B64 := by rw [hl, Nat.pow_succ]
  have h9 : B64 ^ xs.length * 2 ≤ B64 ^ len := by rw [h8]; exact Nat.mul_le_mul_left _ two_le_B64
  have h6 : c = 0 := by
    rcases Nat.lt_or_ge 0 c with h' | h'
    · have := Nat.mul_le_mul_left (B64 ^ len) h'
      omega
    · omega
  subst h6
  rw [← limbs_val two_le_B64 h2]
  congr 1

set_option maxRecDepth 100000 in
set_option maxHeartbeats 2000000 in
theorem rplus_w (a : Option Addr) (la ca : Nat) (b : Option Addr) (lb cb m n : Nat) (w : World) (hm : Row .u64 w (.slice a la ca) (limbs B64 m)) (hn : Row .u64 w (.slice b lb cb) (limbs B64 n)) (hla : la < 1099511627776) (hlb : lb < 1099511627776) :
    Calls Tryd.prog 33 #[.slice a la ca, .slice b lb cb] w fun e w' => ∃ u, e = .returned u ∧ UN w' u (m + n) ∧ Below w.heap.size w w' := by
  by_cases hll : la < lb
  · obtain ⟨hl, hlc2, hcm, hlm, hc⟩ := row_fn hn
    obtain ⟨hl2, hlc22, hcm2, hlm2, hc2⟩ := row_fn hm
    have HL := hidD hl
    have HN := hidD hm
    have HL2 := hidD hl2
    have hmk := make_row1 lb (by omega) w
    obtain ⟨W1, hW1⟩ : ∃ W1, W1 = w.alloc (.cells (cellsOf .u64 (List.replicate (lb + 1) 0)).toArray 56) := ⟨_, rfl⟩
    have hB1 : Below w.heap.size w W1 := by rw [hW1]; exact (Below.refl _ w).alloc (Nat.le_refl _) _
    have hA1 : W1.heap[w.heap.size]? = some (.cells (cellsOf .u64 (List.replicate (lb + 1) 0)).toArray 56 (0, 0)) := by rw [hW1]; exact World.alloc_heap_new w _
    rw [← hW1] at hmk
    obtain ⟨w2, hcp, hA2, hb2⟩ := copy_into w.heap.size (lb + 1) (lb + 1) b lb cb (limbs B64 n) w W1 hn hB1 (Nat.le_refl _) hA1 (by omega)
    rw [show lb + 1 - lb = 1 from by omega, List.replicate_one] at hA2
    have hS2 := hA2.lt
    have HD := hidD (show Dig B64 (limbs B64 n ++ [0]) from (dig_limbs two_le_B64 n).append (Dig.cons (by unfold B64; omega) (Dig.nil _)))
    have HXL := hidD (show (limbs B64 n ++ [0]).length = lb + 1 by rw [List.length_append, ← hl]; rfl)
    clear hc hl hc2 hl2 hm hn hW1 hB1 hA1
    go_enter Tryd.func33, Tryd.ntmps33
    go_wp2_with (go_at_call 54; refine (add_w w.heap.size 0 (lb + 1) (lb + 1) (limbs B64 n ++ [0]) a la ca (limbs B64 m) _ hA2 HD.out (by rw [Nat.zero_add, HXL.out]; exact Nat.le_refl _) (Nat.le_refl _) (by omega) (by omega) (Row.below HN.out hb2) (dig_limbs two_le_B64 m) (fun p e h0 => by have := row_lt HN.out e h0; omega)).mono ?_)
    rintro e w3 ⟨c, q, rfl, hq, hA3, hg3⟩
    have hq1 := hq.1
    have hrow : Row .u64 w3 (.slice (some ⟨w.heap.size, 0, none⟩) (lb + 1) (lb + 1)) q := by
      have h1 := hA3.row 0 (lb + 1) (lb + 1) (by rw [mid_length hq1 (by rw [HXL.out]; omega), HXL.out]; omega) (Nat.le_refl _) (by omega) (by omega)
      have e1 : ((mid (limbs B64 n ++ [0]) 0 (lb + 1) q).drop 0).take (lb + 1) = q := by
        rw [List.drop_zero, mid, List.take_zero, List.nil_append, List.take_append_of_le_length (by omega), List.take_of_length_le (by omega)]
      rwa [e1] at h1
    have HV := hidD (add_val hq rfl rfl (by rw [← HL.out]) (by rw [← HL.out, ← HL2.out]; omega))
    have hb3 : Below w.heap.size w w3 := below_grown hb2 hg3 (Nat.le_refl _)
    clear hq hA3 hg3
    go_wp2_with (go_at_call 31; refine (trimmed_c _ q _ hrow).mono ?_)
    rintro e w4 ⟨u, rfl, hu, hb4⟩
    rw [HV.out] at hu
    obtain ⟨ua, uc, rfl⟩ := UN.form hu
    go_wp2
    go_ret
    exact ⟨_, rfl, by rw [Nat.add_comm m n]; exact hu, hb3.trans (hb4.mono hb3.size)⟩
  · obtain ⟨hl, hlc2, hcm, hlm, hc⟩ := row_fn hm
    obtain ⟨hl2, hlc22, hcm2, hlm2, hc2⟩ := row_fn hn
    have HL := hidD hl
    have HN := hidD hn
    have HL2 := hidD hl2
    have hmk := make_row1 la (by omega) w
    obtain ⟨W1, hW1⟩ : ∃ W1, W1 = w.alloc (.cells (cellsOf .u64 (List.replicate (la + 1) 0)).toArray 56) := ⟨_, rfl⟩
    have hB1 : Below w.heap.size w W1 := by rw [hW1]; exact (Below.refl _ w).alloc (Nat.le_refl _) _
    have hA1 : W1.heap[w.heap.size]? = some (.cells (cellsOf .u64 (List.replicate (la + 1) 0)).toArray 56 (0, 0)) := by rw [hW1]; exact World.alloc_heap_new w _
    rw [← hW1] at hmk
    obtain ⟨w2, hcp, hA2, hb2⟩ := copy_into w.heap.size (la + 1) (la + 1) a la ca (limbs B64 m) w W1 hm hB1 (Nat.le_refl _) hA1 (by omega)
    rw [show la + 1 - la = 1 from by omega, List.replicate_one] at hA2
    have hS2 := hA2.lt
    have HD := hidD (show Dig B64 (limbs B64 m ++ [0]) from (dig_limbs two_le_B64 m).append (Dig.cons (by unfold B64; omega) (Dig.nil _)))
    have HXL := hidD (show (limbs B64 m ++ [0]).length = la + 1 by rw [List.length_append, ← hl]; rfl)
    clear hc hl hc2 hl2 hm hn hW1 hB1 hA1
    go_enter Tryd.func33, Tryd.ntmps33
    go_wp2_with (go_at_call 54; refine (add_w w.heap.size 0 (la + 1) (la + 1) (limbs B64 m ++ [0]) b lb cb (limbs B64 n) _ hA2 HD.out (by rw [Nat.zero_add, HXL.out]; exact Nat.le_refl _) (Nat.le_refl _) (by omega) (by omega) (Row.below HN.out hb2) (dig_limbs two_le_B64 n) (fun p e h0 => by have := row_lt HN.out e h0; omega)).mono ?_)
    rintro e w3 ⟨c, q, rfl, hq, hA3, hg3⟩
    have hq1 := hq.1
    have hrow : Row .u64 w3 (.slice (some ⟨w.heap.size, 0, none⟩) (la + 1) (la + 1)) q := by
      have h1 := hA3.row 0 (la + 1) (la + 1) (by rw [mid_length hq1 (by rw [HXL.out]; omega), HXL.out]; omega) (Nat.le_refl _) (by omega) (by omega)
      have e1 : ((mid (limbs B64 m ++ [0]) 0 (la + 1) q).drop 0).take (la + 1) = q := by
        rw [List.drop_zero, mid, List.take_zero, List.nil_append, List.take_append_of_le_length (by omega), List.take_of_length_le (by omega)]
      rwa [e1] at h1
    have HV := hidD (add_val hq rfl rfl (by rw [← HL.out]) (by rw [← HL.out, ← HL2.out]; omega))
    have hb3 : Below w.heap.size w w3 := below_grown hb2 hg3 (Nat.le_refl _)
    clear hq hA3 hg3
    go_wp2_with (go_at_call 31; refine (trimmed_c _ q _ hrow).mono ?_)
    rintro e w4 ⟨u, rfl, hu, hb4⟩
    rw [HV.out] at hu
    obtain ⟨ua, uc, rfl⟩ := UN.form hu
    go_wp2
    go_ret
    exact ⟨_, rfl, hu, hb3.trans (hb4.mono hb3.size)⟩
end Go.Proofs.YtahpgnkhophgpaaDoor

namespace Go.Proofs.YtahpgnkhophgpaaDoor
open Go.RowKit Go.Shelf

/-- How many operations are not listed yet. -/
def notListed (listed : Array Bool) : Nat := listed.toList.countP (fun b => !b)

theorem notListed_set {listed : Array Bool} {i : Nat} (hi : i < listed.size) (h : listed.getD i true = false) : notListed (listed.setIfInBounds i true) + 1 = notListed listed := by
  obtain ⟨l⟩ := listed
  simp only [List.size_toArray] at hi
  simp only [Array.getD, List.size_toArray, hi, dif_pos, Array.getInternal_eq_getElem, List.getElem_toArray] at h
  simp only [notListed, List.setIfInBounds_toArray]
  induction l generalizing i with
  | nil => simp at hi
  | cons x l ih =>
    cases i with
    | zero => simp at h; subst h; simp
    | succ i =>
      simp only [List.length_cons] at hi
      simp only [List.getElem_cons_succ] at h
      have := ih (by omega) h
      simp only [List.set_cons_succ, List.countP_cons]
      omega

/-- A region that draws its order, by one assertion for all that may be listed: also within a round. -/
theorem wpAnyIn_held {F : Fence} {n : Nat} {P : Program} {md : Region.Mode} {ops : Array Oper} {Q : Exit → Act → World → Prop} (I : Array Bool → Act → World → Prop)
    (step : ∀ listed a w i, listed.size = ops.size → I listed a w → i ∈ Region.ready md ops listed → wpOpIn F n P ops Q i (I (listed.setIfInBounds i true)) a w)
    (fin : ∀ listed a w, listed.size = ops.size → I listed a w → Region.ready md ops listed = [] → Q .normal a w) :
    ∀ (fuel : Nat) (listed : Array Bool) (a : Act) (w : World), listed.size = ops.size → notListed listed ≤ fuel → I listed a w → wpAnyIn F n P md ops Q fuel listed a w := by
  intro fuel
  have hmem : ∀ {listed : Array Bool} {i : Nat}, i ∈ Region.ready md ops listed → i < ops.size ∧ listed.getD i true = false := by
    intro listed i hi
    simp only [Region.ready, List.mem_filter, List.mem_range, Bool.and_eq_true, Bool.not_eq_true'] at hi
    exact ⟨hi.1, hi.2.1⟩
  induction fuel with
  | zero =>
    intro listed a w hs hf hI
    have hn : Region.ready md ops listed = [] := by
      cases hr : Region.ready md ops listed with
      | nil => rfl
      | cons i l =>
        obtain ⟨h1, h2⟩ := hmem (show i ∈ Region.ready md ops listed by rw [hr]; exact List.mem_cons_self)
        have := notListed_set (i := i) (by omega) h2
        omega
    exact ⟨hn, fin _ _ _ hs hI hn⟩
  | succ fuel ih =>
    intro listed a w hs hf hI
    refine ⟨fin _ _ _ hs hI, fun i hi => ?_⟩
    obtain ⟨h1, h2⟩ := hmem hi
    have := notListed_set (i := i) (by omega) h2
    exact wpOpIn_mono (fun a' w' h => ih _ a' w' (by simp [hs]) (by omega) h) (step listed a w i hs hI hi)

theorem wpIn_region_held {F : Fence} {n : Nat} {P : Program} {ops : Array Oper} {Q : Exit → Act → World → Prop} {id : Nat} {a : Act} {w : World} (hm : P.follows .mixedOrders = true) (I : Array Bool → Act → World → Prop)
    (start : I (Array.replicate ops.size false) a w.drew)
    (step : ∀ listed a w i, listed.size = ops.size → I listed a w → i ∈ Region.ready .any ops listed → wpOpIn F n P ops Q i (I (listed.setIfInBounds i true)) a w)
    (fin : ∀ listed a w, listed.size = ops.size → I listed a w → Region.ready .any ops listed = [] → Q .normal a w) :
    (Code.region id ops true).wpIn F n P Q a w :=
  wpIn_region_any hm (wpAnyIn_held I step fin _ _ _ _ (by simp) (by rw [notListed]; exact Nat.le_trans List.countP_le_length (by simp)) start)

/-- Each waits only on elder ones. -/
def tabOrdered (tab : List (List Nat)) : Bool := tab.zipIdx.all fun p => p.1.all (· < p.2)

theorem tabOrdered_lt {tab : List (List Nat)} (h : tabOrdered tab = true) {i : Nat} {ds : List Nat} (hi : tab[i]? = some ds) {j : Nat} (hj : j ∈ ds) : j < i := by
  simp only [tabOrdered, List.all_eq_true, decide_eq_true_eq] at h
  exact h (ds, i) (List.mk_mem_zipIdx_iff_getElem?.2 hi) j hj

theorem mem_ready {md : Region.Mode} {ops : Array Oper} {listed : Array Bool} {i : Nat} {tab : List (List Nat)} (ht : Region.tabAfter md ops = tab) :
    i ∈ Region.ready md ops listed ↔ listed.getD i true = false ∧ ∃ ds, tab[i]? = some ds ∧ ∀ j ∈ ds, listed.getD j false = true := by
  subst ht
  simp only [Region.ready, List.mem_filter, List.mem_range, Bool.and_eq_true, Bool.not_eq_true', Region.tabAfter, List.getElem?_map, Array.getElem?_toList]
  constructor
  · rintro ⟨h1, h2, h3⟩
    rw [Array.getElem?_eq_getElem h1] at h3 ⊢
    simp only [Option.map_some, Option.getD_some, Array.all_eq_true', Bool.or_eq_true, Bool.not_eq_true'] at h3
    refine ⟨h2, _, rfl, fun j hj => ?_⟩
    simp only [List.mem_map, List.mem_filter] at hj
    obtain ⟨e, ⟨he, hb⟩, rfl⟩ := hj
    rcases h3 e (by simpa using he) with h | h
    · rw [hb] at h; cases h
    · exact h
  · rintro ⟨h2, ds, hds, h3⟩
    cases ho : ops[i]? with
    | none => rw [ho] at hds; simp at hds
    | some o =>
      rw [ho] at hds
      simp only [Option.map_some, Option.some.injEq] at hds
      subst hds
      have h1 : i < ops.size := by
        rcases Nat.lt_or_ge i ops.size with h | h
        · exact h
        · rw [Array.getElem?_eq_none h] at ho; cases ho
      refine ⟨h1, h2, ?_⟩
      simp only [Option.map_some, Option.getD_some, Array.all_eq_true', Bool.or_eq_true, Bool.not_eq_true']
      intro e he
      cases hb : Region.binds md e with
      | false => exact Or.inl rfl
      | true => exact Or.inr (h3 e.on (by simp only [List.mem_map, List.mem_filter]; exact ⟨e, ⟨by simpa using he, hb⟩, rfl⟩))

/-- The same, with a table of who waits on whom; what is done is closed under it. -/
theorem wpIn_region_tab {F : Fence} {n : Nat} {P : Program} {ops : Array Oper} {Q : Exit → Act → World → Prop} {id : Nat} {a : Act} {w : World} (hm : P.follows .mixedOrders = true)
    (tab : List (List Nat)) (ht : Region.tabAfter .any ops = tab) (hlt : tabOrdered tab = true) (I : (Nat → Bool) → Act → World → Prop)
    (start : I (fun _ => false) a w.drew)
    (step : ∀ (D : Nat → Bool) a w i ds, (∀ i ds, tab[i]? = some ds → D i = true → ∀ j ∈ ds, D j = true) → tab[i]? = some ds → (∀ j ∈ ds, D j = true) → D i = false → I D a w → wpOpIn F n P ops Q i (I (fun j => j == i || D j)) a w)
    (fin : ∀ (D : Nat → Bool) a w, (∀ i, i < tab.length → D i = true) → I D a w → Q .normal a w) :
    (Code.region id ops true).wpIn F n P Q a w := by
  have hlen : tab.length = ops.size := by rw [← ht]; simp [Region.tabAfter]
  refine wpIn_region_held hm (fun listed a w => (∀ i ds, tab[i]? = some ds → listed.getD i false = true → ∀ j ∈ ds, listed.getD j false = true) ∧ I (fun j => listed.getD j false) a w) ⟨fun i ds _ h => ?_, ?_⟩ ?_ ?_
  · simp only [Array.getD, Array.size_replicate] at h
    split at h <;> simp at h
  · have e : (fun j => (Array.replicate ops.size false).getD j false) = fun _ => false := by
      funext j; simp only [Array.getD, Array.size_replicate]; split <;> simp
    rw [e]; exact start
  · rintro listed a w i hs ⟨hcl, hI⟩ hi
    obtain ⟨h2, ds, hds, h3⟩ := (mem_ready ht).1 hi
    have hil : i < listed.size := by
      rw [hs, ← hlen]
      rcases Nat.lt_or_ge i tab.length with h | h
      · exact h
      · rw [List.getElem?_eq_none h] at hds; cases hds
    have hf : listed.getD i false = false := by
      simp only [Array.getD, hil, dif_pos] at h2 ⊢; exact h2
    have e : ∀ j, (listed.setIfInBounds i true).getD j false = (j == i || listed.getD j false) := by
      intro j
      rw [Array.getD_eq_getD_getElem?, Array.getD_eq_getD_getElem?, Array.getElem?_setIfInBounds]
      by_cases hji : i = j
      · subst hji; simp [hil]
      · simp [hji, Ne.symm hji]
    refine wpOpIn_mono (fun a' w' h => ⟨fun i' ds' hi' hd j hj => ?_, ?_⟩) (step _ a w i ds hcl hds h3 hf hI)
    · rw [e] at hd ⊢
      simp only [Bool.or_eq_true, beq_iff_eq] at hd ⊢
      rcases hd with rfl | hd
      · rw [hds] at hi'; cases hi'; exact Or.inr (h3 j hj)
      · exact Or.inr (hcl i' ds' hi' hd j hj)
    · rw [show (fun j => (listed.setIfInBounds i true).getD j false) = fun j => (j == i || listed.getD j false) from funext e]; exact h
  · rintro listed a w hs ⟨hcl, hI⟩ hn
    refine fin _ a w (fun i => ?_) hI
    induction i using Nat.strongRecOn with
    | _ i ih =>
      intro hi
      cases hd : listed.getD i false with
      | true => rfl
      | false =>
        exfalso
        have hds : tab[i]? = some tab[i] := List.getElem?_eq_getElem hi
        have : i ∈ Region.ready .any ops listed := (mem_ready ht).2 ⟨by
          have hil : i < listed.size := by omega
          simp only [Array.getD, hil, dif_pos] at hd ⊢; exact hd, _, hds, fun j hj => ih j (tabOrdered_lt hlt hds hj) (by have := tabOrdered_lt hlt hds hj; omega)⟩
        rw [hn] at this; cases this
end Go.Proofs.YtahpgnkhophgpaaDoor

namespace Go.Proofs.YtahpgnkhophgpaaDoor
open Go.RowKit Go.Shelf

/-- The words of a product of two words. -/
def mulHi (x y : Nat) : Nat := x * y / B64
def mulLo (x y : Nat) : Nat := x * y % B64

theorem mul64_c (x y : Nat) (hx : x < B64) (hy : y < B64) (w : World) : Calls Tryd.prog 61 #[.int .u64 (x : Nat), .int .u64 (y : Nat)] w fun e w' => e = .returned (.tuple #[.int .u64 (mulHi x y : Nat), .int .u64 (mulLo x y : Nat)]) ∧ w' = w :=
  Tryd.bits_Mul64 x y hx hy w

theorem prod_le {x y : Nat} (hx : x < B64) (hy : y < B64) : x * y ≤ 340282366920938463426481119284349108225 := by
  unfold B64 at hx hy
  have := Nat.mul_le_mul (show x ≤ 18446744073709551615 by omega) (show y ≤ 18446744073709551615 by omega)
  exact Nat.le_trans this (by decide)

theorem addT_step {x y r over : Nat} (hx : x < B64) (hy : y < B64) (hr : r < B64) (ho : over < B64) :
    mulHi x y + addHi (mulLo x y) over 0 < B64 ∧ mulHi x y + addHi (mulLo x y) over 0 + addHi r (addLo (mulLo x y) over 0) 0 < B64 ∧ addLo r (addLo (mulLo x y) over 0) 0 < B64 ∧
    addLo r (addLo (mulLo x y) over 0) 0 + B64 * (mulHi x y + addHi (mulLo x y) over 0 + addHi r (addLo (mulLo x y) over 0) 0) = r + x * y + over := by
  have hp := prod_le hx hy
  unfold mulHi mulLo addHi addLo
  generalize x * y = p at *
  unfold B64 at *
  omega

/-- What the loop of addTimes knows. -/
def AddTAt (xs bs : List Nat) (ro wd i over : Nat) (q : List Nat) : Prop :=
  q.length = i ∧ Dig B64 q ∧ over < B64 ∧ val B64 q + B64 ^ i * over = val B64 ((xs.drop ro).take i) + val B64 (bs.take i) * wd

theorem AddTAt.start (xs bs : List Nat) (ro wd : Nat) : AddTAt xs bs ro wd 0 0 [] := ⟨rfl, Dig.nil _, by unfold B64; omega, by simp [val]⟩

theorem AddTAt.step {xs bs : List Nat} {ro wd i over : Nat} {q : List Nat} (h : AddTAt xs bs ro wd i over q) (d over' : Nat) (hd : d < B64) (ho : over' < B64) (he : d + B64 * over' = xs[ro + i]?.getD 0 + bs[i]?.getD 0 * wd + over) : AddTAt xs bs ro wd (i + 1) over' (q ++ [d]) := by
  obtain ⟨h1, h2, h3, h4⟩ := h
  refine ⟨by simp; omega, h2.append (Dig.cons hd (Dig.nil _)), ho, ?_⟩
  rw [val_snoc, h1, val_take_succ, val_take_succ, List.getElem?_drop, Nat.add_mul, Nat.pow_succ, Nat.mul_assoc, Nat.mul_assoc]
  have e2 : B64 ^ i * d + B64 ^ i * (B64 * over') = B64 ^ i * (xs[ro + i]?.getD 0) + B64 ^ i * (bs[i]?.getD 0 * wd) + B64 ^ i * over := by
    rw [← Nat.mul_add, he, Nat.mul_add, Nat.mul_add]
  omega

set_option maxRecDepth 100000 in
set_option maxHeartbeats 2000000 in
theorem addTimes_w (br ro len cap : Nat) (xs : List Nat) (a : Option Addr) (cb : Nat) (bs : List Nat) (wd : Nat) (w : World)
    (hA : Arr w br xs) (hx : Dig B64 xs) (hro : ro + len ≤ xs.length) (hlc : len ≤ cap) (hb : Row .u64 w (.slice a len cb) bs) (hbs : Dig B64 bs) (hne : ∀ p, a = some p → 0 < len → p.block ≠ br) (hw : wd < B64) :
    Calls Tryd.prog 45 #[.slice (some ⟨br, ro, none⟩) len cap, .slice a len cb, .int .u64 (wd : Nat)] w fun e w' =>
      ∃ over q, e = .returned (.int .u64 (over : Nat)) ∧ AddTAt xs bs ro wd len over q ∧ Arr w' br (mid xs ro len q) ∧ w.grownBy w' (some br) := by
  obtain ⟨hl, hlc2, hcm, hlm, hc⟩ := row_fn hb
  have HL := Hid.out (p := Hid (len = bs.length)) hl
  have HC := Hid.out (p := Hid (∀ j, j < len → ∃ b off, a = some ⟨b, off, none⟩ ∧ b < w.heap.size ∧ w.cell? ⟨b, off + j, none⟩ = some (.int .u64 (bs[j]?.getD 0 : Nat)))) hc
  have HN := Hid.out (p := Hid (∀ p, a = some p → 0 < len → p.block ≠ br)) hne
  clear hc hl hne hb
  go_enter Tryd.func45, Tryd.ntmps45
  go_wp2
  go_loopw [7, 15] (fun ov iv wr => ∃ (i over : Nat) (q : List Nat), iv = .int .i64 i ∧ ov = .int .u64 (over : Nat) ∧ i ≤ len ∧ over < B64 ∧ Hid (AddTAt xs bs ro wd i over q) ∧ Arr wr br (mid xs ro i q) ∧ w.grownBy wr (some br))
    (fun _ iv _ => len - (intOf iv).toNat)
  case atStart => exact ⟨0, 0, [], rfl, rfl, Nat.zero_le _, by unfold B64; omega, AddTAt.start _ _ _ _, by rw [mid_zero]; exact hA, grown_refl _ _⟩
  case round =>
    obtain ⟨i, over, q, rfl, rfl, hi, ho, HP, hM, hg⟩ := hrel
    by_cases hlt : i < len
    · obtain ⟨b, off, rfl, hbb, hc⟩ := HC.out i hlt
      have hbn := HN.out _ rfl (by omega)
      have hq := HP.out.1
      have hcb : wr.cell? ⟨b, off + i, none⟩ = some (.int .u64 (bs[i]?.getD 0 : Nat)) := (World.cell?_of_block (w := w) (hg.block b hbb (fun e => hbn (by cases e; rfl)))).trans hc
      have hcr : wr.cell? ⟨br, ro + i, none⟩ = some (.int .u64 (xs[ro + i]?.getD 0 : Nat)) := by rw [← mid_get hq (by omega)]; exact hM.cell (by rw [mid_length hq (by omega)]; omega)
      have hfr := hM.frozen (ro + i)
      have hxb := hbs.getD (by unfold B64; omega) i
      have hxr := hx.getD (by unfold B64; omega) (ro + i)
      obtain ⟨s1, s2, s3, s4⟩ := addT_step hxb hw hxr ho
      have HS := Hid.out (p := Hid _) (HP.out.step _ _ s3 s2 s4)
      have HQ := Hid.out (p := Hid (q.length = i)) hq
      have HM2 := Hid.out (p := Hid (∀ d, (mid xs ro i q).set (ro + i) d = mid xs ro (i + 1) (q ++ [d]))) (fun d => mid_set hq (by omega) d)
      clear hc hq s4
      generalize bs[i]?.getD 0 = x at *
      generalize xs[ro + i]?.getD 0 = r at *
      have a1 := add64_0 (mulLo x wd) over
      have a2 := add64_0 r (addLo (mulLo x wd) over 0)
      unfold B64 at s1 s2
      go_wp2_with (first
        | (go_at_call 61; refine (mul64_c _ _ hxb hw _).mono ?_; rintro e w' ⟨rfl, rfl⟩))
      exact ⟨⟨i + 1, mulHi x wd + addHi (mulLo x wd) over 0 + addHi r (addLo (mulLo x wd) over 0) 0, q ++ [addLo r (addLo (mulLo x wd) over 0) 0], by simp, by simp, by omega, HS.out.2.2.1, HS, by rw [← HM2.out]; exact hM.set _ _, grown_trans hg (grown_set _ _ _ _)⟩, by simp [intOf]; omega⟩
    · obtain rfl : i = len := by omega
      go_wp2
      go_ret
      exact ⟨over, q, rfl, HP.out, hM, hg⟩
end Go.Proofs.YtahpgnkhophgpaaDoor

namespace Go.Proofs.YtahpgnkhophgpaaDoor

/-- What a guessed quotient of one half word knows: u is the dividend's upper part, u1 its next half word, the divisor is d = d1 * 2^32 + d0. -/
def GuessAt (u u1 d1 d0 q r : Nat) : Prop :=
  q * d1 + r = u ∧ (u * 4294967296 + u1) / (d1 * 4294967296 + d0) ≤ q ∧ q ≤ 4294967297 ∧ r < 4294967296

theorem guess_start {u u1 d1 d0 : Nat} (h1 : 2147483648 ≤ d1) (h1' : d1 < 4294967296) (h0 : d0 < 4294967296) (hu1 : u1 < 4294967296) (hu : u < d1 * 4294967296 + d0) :
    GuessAt u u1 d1 d0 (u / d1) (u % d1) := by
  have hm := Nat.div_add_mod u d1
  have hr : u % d1 < d1 := Nat.mod_lt _ (by omega)
  have hc : d1 * (u / d1) = u / d1 * d1 := Nat.mul_comm _ _
  refine ⟨by omega, ?_, ?_, by omega⟩
  · apply Nat.le_of_lt_succ
    rw [Nat.div_lt_iff_lt_mul (by omega)]
    have h3 : (u / d1 + 1) * (d1 * 4294967296 + d0) = u / d1 * d1 * 4294967296 + d1 * 4294967296 + (u / d1 + 1) * d0 := by
      rw [Nat.mul_add, ← Nat.mul_assoc, Nat.add_mul (u / d1) 1 d1, Nat.one_mul, Nat.add_mul (u / d1 * d1) d1]
    rw [Nat.succ_eq_add_one, h3]
    generalize u / d1 * d1 = p at *
    generalize (u / d1 + 1) * d0 = z
    omega
  · apply Nat.le_of_lt_succ
    rw [Nat.div_lt_iff_lt_mul (by omega)]
    omega

theorem guess_exit {u u1 d1 d0 q r : Nat} (h : GuessAt u u1 d1 d0 q r) (hd : 0 < d1) (hc : q * d0 ≤ 4294967296 * r + u1) : q = (u * 4294967296 + u1) / (d1 * 4294967296 + d0) := by
  obtain ⟨h1, h2, _, _⟩ := h
  apply Nat.le_antisymm _ h2
  rw [Nat.le_div_iff_mul_le (by omega), Nat.mul_add, ← Nat.mul_assoc]
  generalize q * d1 = p at *
  generalize q * d0 = z at *
  omega

theorem guess_step {u u1 d1 d0 q r : Nat} (h : GuessAt u u1 d1 d0 q r) (hd : 2147483648 ≤ d1) (hu1 : u1 < 4294967296) (hu : u < d1 * 4294967296 + d0) (hc : 4294967296 ≤ q ∨ 4294967296 * r + u1 < q * d0) :
    1 ≤ q ∧ (q - 1) * d1 + (r + d1) = u ∧ (u * 4294967296 + u1) / (d1 * 4294967296 + d0) ≤ q - 1 ∧ q - 1 ≤ 4294967296 := by
  obtain ⟨h1, h2, h3, h4⟩ := h
  have hq : 1 ≤ q := by
    rcases hc with hc | hc
    · omega
    · rcases Nat.eq_zero_or_pos q with h0 | h0
      · rw [h0] at hc; omega
      · exact h0
  have e : (q - 1) * d1 + d1 = q * d1 := by
    conv => rhs; rw [show q = q - 1 + 1 from by omega, Nat.add_mul, Nat.one_mul]
  refine ⟨hq, by omega, ?_, by omega⟩
  apply Nat.le_of_lt_succ
  rw [Nat.succ_eq_add_one, Nat.sub_add_cancel hq, Nat.div_lt_iff_lt_mul (by omega)]
  rcases hc with hc | hc
  · have h5 : 4294967296 * (d1 * 4294967296 + d0) ≤ q * (d1 * 4294967296 + d0) := Nat.mul_le_mul_right _ hc
    omega
  · rw [Nat.mul_add, ← Nat.mul_assoc]
    generalize q * d1 = p at *
    generalize q * d0 = z at *
    omega

theorem guess_break {u u1 d1 d0 q r : Nat} (h1 : q * d1 + r = u) (h2 : (u * 4294967296 + u1) / (d1 * 4294967296 + d0) ≤ q) (h3 : q ≤ 4294967296) (h0 : d0 < 4294967296) (hd : 0 < d1) (hr : 4294967296 ≤ r) : q = (u * 4294967296 + u1) / (d1 * 4294967296 + d0) := by
  apply Nat.le_antisymm _ h2
  rw [Nat.le_div_iff_mul_le (by omega), Nat.mul_add, ← Nat.mul_assoc]
  have h5 : q * d0 ≤ 4294967296 * d0 := Nat.mul_le_mul_right _ h3
  generalize q * d1 = p at *
  generalize q * d0 = z at *
  omega

/-- Both half words together. -/
theorem halves {t k un0 d : Nat} (h0 : 0 < d) : t / d * k + (t % d * k + un0) / d = (t * k + un0) / d ∧ (t % d * k + un0) % d = (t * k + un0) % d := by
  have hm := Nat.div_add_mod t d
  have e : t * k + un0 = d * (t / d * k) + (t % d * k + un0) := by
    conv => lhs; rw [← hm, Nat.add_mul, Nat.mul_assoc]
    omega
  rw [e, Nat.mul_add_div h0, Nat.mul_add_mod]
  exact ⟨rfl, rfl⟩

/-- What is shifted gives the same quotient. -/
theorem shift_div {a y s : Nat} : (a * 2 ^ s) / (y * 2 ^ s) = a / y ∧ (a * 2 ^ s) % (y * 2 ^ s) = a % y * 2 ^ s :=
  ⟨Nat.mul_div_mul_right _ _ (Nat.two_pow_pos s), Nat.mul_mod_mul_right _ _ _⟩

end Go.Proofs.YtahpgnkhophgpaaDoor

