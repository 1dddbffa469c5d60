import Derived.Test.YtahpgnkhophgpaaDoorMid
namespace Go.Proofs.YtahpgnkhophgpaaDoor
open Go.RowKit Go.Shelf

theorem sub64_z (x : Nat) (w : World) : (callFunc 72 #[.int .u64 (x : Nat), .int .u64 0, .int .u64 1]).run Tryd.prog w =
    .ok (.value (.tuple #[.int .u64 (subLo x 0 1 : Nat), .int .u64 (subHi x 0 1 : Nat)])) w := sub64_r x 0 1 (by omega) w
theorem add64_z (x : Nat) (w : World) : (callFunc 62 #[.int .u64 (x : Nat), .int .u64 0, .int .u64 1]).run Tryd.prog w =
    .ok (.value (.tuple #[.int .u64 (addLo x 0 1 : Nat), .int .u64 (addHi x 0 1 : Nat)])) w := add64_r x 0 1 (by omega) w

set_option maxRecDepth 100000 in
set_option maxHeartbeats 2000000 in
theorem takeOff_w (br ro len cap : Nat) (xs : List Nat) (a : Option Addr) (lb cb : Nat) (bs : List Nat) (w : World)
    (hA : Arr w br xs) (hx : Dig B64 xs) (hro : ro + len ≤ xs.length) (hlc : len ≤ cap) (hlm : len ≤ 2199023255552) (hlb : lb ≤ len) (hb : Row .u64 w (.slice a lb cb) bs) (hbs : Dig B64 bs) (hne : ∀ p, a = some p → 0 < lb → p.block ≠ br) :
    Calls Tryd.prog 55 #[.slice (some ⟨br, ro, none⟩) len cap, .slice a lb cb] w fun e w' =>
      ∃ c q, e = .returned (.int .u64 (c : Nat)) ∧ SubAt xs bs ro len c q ∧ Arr w' br (mid xs ro len q) ∧ w.grownBy w' (some br) := by
  obtain ⟨hl, hlc2, hcm, hlm2, hc⟩ := row_fn hb
  have HL := hidD hl
  have HC := hidD hc
  have HN := hidD hne
  clear hc hl hne hb
  go_enter Tryd.func55, Tryd.ntmps55
  go_wp2
  go_loopw [5, 11] (fun ov iv wr => ∃ (i c : Nat) (q : List Nat), iv = .int .i64 i ∧ ov = .int .u64 (c : Nat) ∧ i ≤ lb ∧ c ≤ 1 ∧ Hid (SubAt xs bs ro i c q) ∧ Arr wr br (mid xs ro i q) ∧ w.grownBy wr (some br))
    (fun _ iv _ => lb - (intOf iv).toNat)
  case atStart => exact ⟨0, 0, [], rfl, rfl, Nat.zero_le _, by omega, SubAt.start _ _ _, by rw [mid_zero]; exact hA, grown_refl _ _⟩
  case round =>
    obtain ⟨i, c, q, rfl, rfl, hi, ho, HP, hM, hg⟩ := hrel
    by_cases hlt : i < lb
    · obtain ⟨b, off, rfl, hbb, hc⟩ := HC.out i hlt
      have hbn := HN.out _ rfl (by omega)
      have hq := HP.out.1
      have hcb : wr.cell? ⟨b, off + i, none⟩ = some (.int .u64 (bs[i]?.getD 0 : Nat)) := (World.cell?_of_block (w := w) (hg.block b hbb (fun e => hbn (by cases e; rfl)))).trans hc
      have hcr : wr.cell? ⟨br, ro + i, none⟩ = some (.int .u64 (xs[ro + i]?.getD 0 : Nat)) := by rw [← mid_get hq (by omega)]; exact hM.cell (by rw [mid_length hq (by omega)]; omega)
      have hfr := hM.frozen (ro + i)
      have hxb := hbs.getD (by unfold B64; omega) i
      have hxr := hx.getD (by unfold B64; omega) (ro + i)
      obtain ⟨s1, s2, s3⟩ := sub_step hxr hxb ho
      have HS := hidD (HP.out.step _ _ s1 s2 s3)
      have HM2 := hidD (show ∀ d, (mid xs ro i q).set (ro + i) d = mid xs ro (i + 1) (q ++ [d]) from fun d => mid_set hq (by omega) d)
      clear hc hq s3
      generalize bs[i]?.getD 0 = x at *
      generalize xs[ro + i]?.getD 0 = r at *
      have a1 := sub64_r r x c ho
      go_wp2
      exact ⟨⟨i + 1, subHi r x c, q ++ [subLo r x c], by simp, by simp, by omega, HS.out.2.2.1, HS, by rw [← HM2.out]; exact hM.set _ _, grown_trans hg (grown_set _ _ _ _)⟩, by simp [intOf]; omega⟩
    · obtain rfl : i = lb := by omega
      go_wp2
      go_loopw [5, 8] (fun ov iv wr => ∃ (j c : Nat) (q : List Nat), iv = .int .i64 j ∧ ov = .int .u64 (c : Nat) ∧ i ≤ j ∧ j ≤ len ∧ c ≤ 1 ∧ Hid (SubAt xs bs ro j c q) ∧ Arr wr br (mid xs ro j q) ∧ w.grownBy wr (some br))
        (fun _ iv _ => len - (intOf iv).toNat)
      case atStart => exact ⟨i, c, q, rfl, rfl, Nat.le_refl _, hlb, ho, HP, hM, hg⟩
      case round =>
        obtain ⟨j, c, q, rfl, rfl, hij, hj, ho, HP, hM, hg⟩ := hrel
        by_cases hjl : j < len
        · obtain rfl | rfl : c = 0 ∨ c = 1 := by omega
          · have HR := hidD (HP.out.rest hx (by rw [← HL.out]; exact hij) hj hro)
            have HM2 := hidD (mid_rest (xs := xs) (ro := ro) (q := q) hj)
            go_wp2
            go_ret
            exact ⟨0, _, rfl, HR.out, by rw [← HM2.out]; exact hM, hg⟩
          · have hq := HP.out.1
            have hcr : wr.cell? ⟨br, ro + j, none⟩ = some (.int .u64 (xs[ro + j]?.getD 0 : Nat)) := by rw [← mid_get hq (by omega)]; exact hM.cell (by rw [mid_length hq (by omega)]; omega)
            have hfr := hM.frozen (ro + j)
            have hxr := hx.getD (by unfold B64; omega) (ro + j)
            have hb0 : bs[j]?.getD 0 = 0 := by rw [List.getElem?_eq_none (by rw [← HL.out]; exact hij)]; rfl
            obtain ⟨s1, s2, s3⟩ := sub_step hxr (show (0 : Nat) < B64 by unfold B64; omega) ho
            have HS := hidD (HP.out.step _ _ s1 s2 (by rw [hb0]; exact s3))
            have HM2 := hidD (show ∀ d, (mid xs ro j q).set (ro + j) d = mid xs ro (j + 1) (q ++ [d]) from fun d => mid_set hq (by omega) d)
            clear hq s3 hb0
            generalize xs[ro + j]?.getD 0 = r at *
            have a1 := sub64_z r
            go_wp2
            exact ⟨⟨j + 1, subHi r 0 1, q ++ [subLo r 0 1], by simp, by simp, by omega, by omega, HS.out.2.2.1, HS, by rw [← HM2.out]; exact hM.set _ _, grown_trans hg (grown_set _ _ _ _)⟩, by simp [intOf]; omega⟩
        · obtain rfl : j = len := by omega
          go_wp2
          go_ret
          exact ⟨c, q, rfl, HP.out, hM, hg⟩

set_option maxRecDepth 100000 in
set_option maxHeartbeats 2000000 in
theorem add_w (br ro len cap : Nat) (xs : List Nat) (a : Option Addr) (lb cb : Nat) (bs : List Nat) (w : World)
    (hA : Arr w br xs) (hx : Dig B64 xs) (hro : ro + len ≤ xs.length) (hlc : len ≤ cap) (hlm : len ≤ 2199023255552) (hlb : lb ≤ len) (hb : Row .u64 w (.slice a lb cb) bs) (hbs : Dig B64 bs) (hne : ∀ p, a = some p → 0 < lb → p.block ≠ br) :
    Calls Tryd.prog 54 #[.slice (some ⟨br, ro, none⟩) len cap, .slice a lb cb] w fun e w' =>
      ∃ c q, e = .returned (.int .u64 (c : Nat)) ∧ AddAt xs bs ro len c q ∧ Arr w' br (mid xs ro len q) ∧ w.grownBy w' (some br) := by
  obtain ⟨hl, hlc2, hcm, hlm2, hc⟩ := row_fn hb
  have HL := hidD hl
  have HC := hidD hc
  have HN := hidD hne
  clear hc hl hne hb
  go_enter Tryd.func54, Tryd.ntmps54
  go_wp2
  go_loopw [5, 11] (fun ov iv wr => ∃ (i c : Nat) (q : List Nat), iv = .int .i64 i ∧ ov = .int .u64 (c : Nat) ∧ i ≤ lb ∧ c ≤ 1 ∧ Hid (AddAt xs bs ro i c q) ∧ Arr wr br (mid xs ro i q) ∧ w.grownBy wr (some br))
    (fun _ iv _ => lb - (intOf iv).toNat)
  case atStart => exact ⟨0, 0, [], rfl, rfl, Nat.zero_le _, by omega, AddAt.start _ _ _, by rw [mid_zero]; exact hA, grown_refl _ _⟩
  case round =>
    obtain ⟨i, c, q, rfl, rfl, hi, ho, HP, hM, hg⟩ := hrel
    by_cases hlt : i < lb
    · obtain ⟨b, off, rfl, hbb, hc⟩ := HC.out i hlt
      have hbn := HN.out _ rfl (by omega)
      have hq := HP.out.1
      have hcb : wr.cell? ⟨b, off + i, none⟩ = some (.int .u64 (bs[i]?.getD 0 : Nat)) := (World.cell?_of_block (w := w) (hg.block b hbb (fun e => hbn (by cases e; rfl)))).trans hc
      have hcr : wr.cell? ⟨br, ro + i, none⟩ = some (.int .u64 (xs[ro + i]?.getD 0 : Nat)) := by rw [← mid_get hq (by omega)]; exact hM.cell (by rw [mid_length hq (by omega)]; omega)
      have hfr := hM.frozen (ro + i)
      have hxb := hbs.getD (by unfold B64; omega) i
      have hxr := hx.getD (by unfold B64; omega) (ro + i)
      obtain ⟨s1, s2, s3⟩ := add_step hxr hxb ho
      have HS := hidD (HP.out.step _ _ s1 s2 s3)
      have HM2 := hidD (show ∀ d, (mid xs ro i q).set (ro + i) d = mid xs ro (i + 1) (q ++ [d]) from fun d => mid_set hq (by omega) d)
      clear hc hq s3
      generalize bs[i]?.getD 0 = x at *
      generalize xs[ro + i]?.getD 0 = r at *
      have a1 := add64_r r x c ho
      go_wp2
      exact ⟨⟨i + 1, addHi r x c, q ++ [addLo r x c], by simp, by simp, by omega, HS.out.2.2.1, HS, by rw [← HM2.out]; exact hM.set _ _, grown_trans hg (grown_set _ _ _ _)⟩, by simp [intOf]; omega⟩
    · obtain rfl : i = lb := by omega
      go_wp2
      go_loopw [5, 8] (fun ov iv wr => ∃ (j c : Nat) (q : List Nat), iv = .int .i64 j ∧ ov = .int .u64 (c : Nat) ∧ i ≤ j ∧ j ≤ len ∧ c ≤ 1 ∧ Hid (AddAt xs bs ro j c q) ∧ Arr wr br (mid xs ro j q) ∧ w.grownBy wr (some br))
        (fun _ iv _ => len - (intOf iv).toNat)
      case atStart => exact ⟨i, c, q, rfl, rfl, Nat.le_refl _, hlb, ho, HP, hM, hg⟩
      case round =>
        obtain ⟨j, c, q, rfl, rfl, hij, hj, ho, HP, hM, hg⟩ := hrel
        by_cases hjl : j < len
        · obtain rfl | rfl : c = 0 ∨ c = 1 := by omega
          · have HR := hidD (HP.out.rest hx (by rw [← HL.out]; exact hij) hj hro)
            have HM2 := hidD (mid_rest (xs := xs) (ro := ro) (q := q) hj)
            go_wp2
            go_ret
            exact ⟨0, _, rfl, HR.out, by rw [← HM2.out]; exact hM, hg⟩
          · have hq := HP.out.1
            have hcr : wr.cell? ⟨br, ro + j, none⟩ = some (.int .u64 (xs[ro + j]?.getD 0 : Nat)) := by rw [← mid_get hq (by omega)]; exact hM.cell (by rw [mid_length hq (by omega)]; omega)
            have hfr := hM.frozen (ro + j)
            have hxr := hx.getD (by unfold B64; omega) (ro + j)
            have hb0 : bs[j]?.getD 0 = 0 := by rw [List.getElem?_eq_none (by rw [← HL.out]; exact hij)]; rfl
            obtain ⟨s1, s2, s3⟩ := add_step hxr (show (0 : Nat) < B64 by unfold B64; omega) ho
            have HS := hidD (HP.out.step _ _ s1 s2 (by rw [hb0]; exact s3))
            have HM2 := hidD (show ∀ d, (mid xs ro j q).set (ro + j) d = mid xs ro (j + 1) (q ++ [d]) from fun d => mid_set hq (by omega) d)
            clear hq s3 hb0
            generalize xs[ro + j]?.getD 0 = r at *
            have a1 := add64_z r
            go_wp2
            exact ⟨⟨j + 1, addHi r 0 1, q ++ [addLo r 0 1], by simp, by simp, by omega, by omega, HS.out.2.2.1, HS, by rw [← HM2.out]; exact hM.set _ _, grown_trans hg (grown_set _ _ _ _)⟩, by simp [intOf]; omega⟩
        · obtain rfl : j = len := by omega
          go_wp2
          go_ret
          exact ⟨c, q, rfl, HP.out, hM, hg⟩
end Go.Proofs.YtahpgnkhophgpaaDoor
