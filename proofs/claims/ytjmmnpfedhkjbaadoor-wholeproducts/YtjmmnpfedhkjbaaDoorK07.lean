import Derived.Test.YtjmmnpfedhkjbaaDoorK05
import Derived.Test.YtjmmnpfedhkjbaaDoorShelf
namespace Go.Proofs.YtjmmnpfedhkjbaaDoor
open Go.RowKit Go.Shelf

/-- The words of a product of two words. -/
def mulHi (x y : Nat) : Nat := x * y / B64
def mulLo (x y : Nat) : Nat := x * y % B64

theorem mul64_c (x y : Nat) (hx : x < B64) (hy : y < B64) (w : World) : Calls Tryd.prog 61 #[.int .u64 (x : Nat), .int .u64 (y : Nat)] w fun e w' => e = .returned (.tuple #[.int .u64 (mulHi x y : Nat), .int .u64 (mulLo x y : Nat)]) ∧ w' = w :=
  Tryd.bits_Mul64 x y hx hy w

theorem prod_le {x y : Nat} (hx : x < B64) (hy : y < B64) : x * y ≤ 340282366920938463426481119284349108225 := by
  unfold B64 at hx hy
  have := Nat.mul_le_mul (show x ≤ 18446744073709551615 by omega) (show y ≤ 18446744073709551615 by omega)
  exact Nat.le_trans this (by decide)

theorem addT_step {x y r over : Nat} (hx : x < B64) (hy : y < B64) (hr : r < B64) (ho : over < B64) :
    mulHi x y + addHi (mulLo x y) over 0 < B64 ∧ mulHi x y + addHi (mulLo x y) over 0 + addHi r (addLo (mulLo x y) over 0) 0 < B64 ∧ addLo r (addLo (mulLo x y) over 0) 0 < B64 ∧
    addLo r (addLo (mulLo x y) over 0) 0 + B64 * (mulHi x y + addHi (mulLo x y) over 0 + addHi r (addLo (mulLo x y) over 0) 0) = r + x * y + over := by
  have hp := prod_le hx hy
  unfold mulHi mulLo addHi addLo
  generalize x * y = p at *
  unfold B64 at *
  omega

/-- What the loop of addTimes knows. -/
def AddTAt (xs bs : List Nat) (ro wd i over : Nat) (q : List Nat) : Prop :=
  q.length = i ∧ Dig B64 q ∧ over < B64 ∧ val B64 q + B64 ^ i * over = val B64 ((xs.drop ro).take i) + val B64 (bs.take i) * wd

theorem AddTAt.start (xs bs : List Nat) (ro wd : Nat) : AddTAt xs bs ro wd 0 0 [] := ⟨rfl, Dig.nil _, by unfold B64; omega, by simp [val]⟩

theorem AddTAt.step {xs bs : List Nat} {ro wd i over : Nat} {q : List Nat} (h : AddTAt xs bs ro wd i over q) (d over' : Nat) (hd : d < B64) (ho : over' < B64) (he : d + B64 * over' = xs[ro + i]?.getD 0 + bs[i]?.getD 0 * wd + over) : AddTAt xs bs ro wd (i + 1) over' (q ++ [d]) := by
  obtain ⟨h1, h2, h3, h4⟩ := h
  refine ⟨by simp; omega, h2.append (Dig.cons hd (Dig.nil _)), ho, ?_⟩
  rw [val_snoc, h1, val_take_succ, val_take_succ, List.getElem?_drop, Nat.add_mul, Nat.pow_succ, Nat.mul_assoc, Nat.mul_assoc]
  have e2 : B64 ^ i * d + B64 ^ i * (B64 * over') = B64 ^ i * (xs[ro + i]?.getD 0) + B64 ^ i * (bs[i]?.getD 0 * wd) + B64 ^ i * over := by
    rw [← Nat.mul_add, he, Nat.mul_add, Nat.mul_add]
  omega

set_option maxRecDepth 100000 in
set_option maxHeartbeats 2000000 in
theorem addTimes_w (br ro len cap : Nat) (xs : List Nat) (a : Option Addr) (cb : Nat) (bs : List Nat) (wd : Nat) (w : World)
    (hA : Arr w br xs) (hx : Dig B64 xs) (hro : ro + len ≤ xs.length) (hlc : len ≤ cap) (hb : Row .u64 w (.slice a len cb) bs) (hbs : Dig B64 bs) (hne : ∀ p, a = some p → 0 < len → p.block ≠ br) (hw : wd < B64) :
    Calls Tryd.prog 45 #[.slice (some ⟨br, ro, none⟩) len cap, .slice a len cb, .int .u64 (wd : Nat)] w fun e w' =>
      ∃ over q, e = .returned (.int .u64 (over : Nat)) ∧ AddTAt xs bs ro wd len over q ∧ Arr w' br (mid xs ro len q) ∧ w.grownBy w' (some br) := by
  obtain ⟨hl, hlc2, hcm, hlm, hc⟩ := row_fn hb
  have HL := Hid.out (p := Hid (len = bs.length)) hl
  have HC := Hid.out (p := Hid (∀ j, j < len → ∃ b off, a = some ⟨b, off, none⟩ ∧ b < w.heap.size ∧ w.cell? ⟨b, off + j, none⟩ = some (.int .u64 (bs[j]?.getD 0 : Nat)))) hc
  have HN := Hid.out (p := Hid (∀ p, a = some p → 0 < len → p.block ≠ br)) hne
  clear hc hl hne hb
  go_enter Tryd.func45, Tryd.ntmps45
  go_wp2
  go_loopw [7, 15] (fun ov iv wr => ∃ (i over : Nat) (q : List Nat), iv = .int .i64 i ∧ ov = .int .u64 (over : Nat) ∧ i ≤ len ∧ over < B64 ∧ Hid (AddTAt xs bs ro wd i over q) ∧ Arr wr br (mid xs ro i q) ∧ w.grownBy wr (some br))
    (fun _ iv _ => len - (intOf iv).toNat)
  case atStart => exact ⟨0, 0, [], rfl, rfl, Nat.zero_le _, by unfold B64; omega, AddTAt.start _ _ _ _, by rw [mid_zero]; exact hA, grown_refl _ _⟩
  case round =>
    obtain ⟨i, over, q, rfl, rfl, hi, ho, HP, hM, hg⟩ := hrel
    by_cases hlt : i < len
    · obtain ⟨b, off, rfl, hbb, hc⟩ := HC.out i hlt
      have hbn := HN.out _ rfl (by omega)
      have hq := HP.out.1
      have hcb : wr.cell? ⟨b, off + i, none⟩ = some (.int .u64 (bs[i]?.getD 0 : Nat)) := (World.cell?_of_block (w := w) (hg.block b hbb (fun e => hbn (by cases e; rfl)))).trans hc
      have hcr : wr.cell? ⟨br, ro + i, none⟩ = some (.int .u64 (xs[ro + i]?.getD 0 : Nat)) := by rw [← mid_get hq (by omega)]; exact hM.cell (by rw [mid_length hq (by omega)]; omega)
      have hfr := hM.frozen (ro + i)
      have hxb := hbs.getD (by unfold B64; omega) i
      have hxr := hx.getD (by unfold B64; omega) (ro + i)
      obtain ⟨s1, s2, s3, s4⟩ := addT_step hxb hw hxr ho
      have HS := Hid.out (p := Hid _) (HP.out.step _ _ s3 s2 s4)
      have HQ := Hid.out (p := Hid (q.length = i)) hq
      have HM2 := Hid.out (p := Hid (∀ d, (mid xs ro i q).set (ro + i) d = mid xs ro (i + 1) (q ++ [d]))) (fun d => mid_set hq (by omega) d)
      clear hc hq s4
      generalize bs[i]?.getD 0 = x at *
      generalize xs[ro + i]?.getD 0 = r at *
      have a1 := add64_0 (mulLo x wd) over
      have a2 := add64_0 r (addLo (mulLo x wd) over 0)
      unfold B64 at s1 s2
      go_wp2_with (first
        | (go_at_call 61; refine (mul64_c _ _ hxb hw _).mono ?_; rintro e w' ⟨rfl, rfl⟩))
      exact ⟨⟨i + 1, mulHi x wd + addHi (mulLo x wd) over 0 + addHi r (addLo (mulLo x wd) over 0) 0, q ++ [addLo r (addLo (mulLo x wd) over 0) 0], by simp, by simp, by omega, HS.out.2.2.1, HS, by rw [← HM2.out]; exact hM.set _ _, grown_trans hg (grown_set _ _ _ _)⟩, by simp [intOf]; omega⟩
    · obtain rfl : i = len := by omega
      go_wp2
      go_ret
      exact ⟨over, q, rfl, HP.out, hM, hg⟩
end Go.Proofs.YtjmmnpfedhkjbaaDoor
