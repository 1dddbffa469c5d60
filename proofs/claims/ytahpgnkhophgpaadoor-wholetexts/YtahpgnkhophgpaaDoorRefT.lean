import Derived.Test.YtahpgnkhophgpaaDoorRef7
import Derived.Test.YtahpgnkhophgpaaDoorDec
namespace Go.Proofs.YtahpgnkhophgpaaDoor
open Go.RowKit Go.Shelf

theorem ba_cons (c : UInt8) (l : List UInt8) : (⟨#[c]⟩ : ByteArray) ++ ⟨l.toArray⟩ = ⟨(c :: l).toArray⟩ := by
  apply ByteArray.ext
  simp [ByteArray.data_append]

theorem ba_cons_size (c : UInt8) (s : ByteArray) : ((⟨#[c]⟩ : ByteArray) ++ s).size = 1 + s.size := by
  rw [ByteArray.size_append]; rfl

/-- One byte as a text. -/
theorem conv1 (w : World) (n : Nat) : (convert 55 9 (.slice (some ⟨w.heap.size, 0, none⟩) 1 1)).run Tryd.prog (w.alloc (.cells #[.int .u8 (48 + (n : Int) % 10)] 5)) = .ok (.string ⟨#[chr (n % 10)]⟩) (w.alloc (.cells #[.int .u8 (48 + (n : Int) % 10)] 5)) := by
  have h := run_convert_bytes_back (P := Tryd.prog) (w.alloc (.cells #[.int .u8 (48 + (n : Int) % 10)] 5)) 55 9 5 ⟨w.heap.size, 0, none⟩ 1 [chr (n % 10)] Tryd.underlying55 Tryd.underlying5 Tryd.underlying9 (by
    intro j hj
    have : j = 0 := by simp at hj; omega
    subst this
    have e : (((chr (n % 10)).toNat : Nat) : Int) = 48 + (n : Int) % 10 := by
      have h1 : (chr (n % 10)).toNat = 48 + n % 10 := by
        unfold chr
        rw [UInt8.toNat_ofNat']
        omega
      rw [h1]; omega
    simp only [List.getElem_cons_zero, e]
    go_simp)
  exact h

theorem conv0 (w : World) : (convert 55 9 (.slice (some ⟨w.heap.size, 0, none⟩) 1 1)).run Tryd.prog (w.alloc (.cells #[.int .u8 48] 5)) = .ok (.string ⟨#[chr 0]⟩) (w.alloc (.cells #[.int .u8 48] 5)) := conv1 w 0

set_option maxRecDepth 100000 in
set_option maxHeartbeats 2000000 in
theorem text_w (a : Option Addr) (l ca m : Nat) (s : Bool) (w : World) (ra : RN w (.slice a l ca) m) (hm : m ≠ 0) (hl : l ≤ 1000000000) :
    Calls Tryd.prog 9 #[.agg #[.slice a l ca, .bool s]] w fun e w' => e = .returned (.string ⟨(if s then 45 :: txt (limbs 10 m) else txt (limbs 10 m)).toArray⟩) ∧ Below w.heap.size w w' := by
  have hlen := ra.len
  have hl0 : l ≠ 0 := by rw [hlen]; have := (len_pos_iff (n := m)).2 hm; omega
  obtain ⟨a', ca', e0, hle, hca, _, HA⟩ := Row.open ra
  have xd := dig_limbs (B := 10000) (by omega) m
  have HF : Hid (∀ i k D, TextAt (limbs 10000 m) i k 0 D → i + 1 = (limbs 10000 m).length → D = limbs 10 m) := fun i k D h h2 => by
    have := (h.last h2).2.2.2
    rw [val_limbs (by omega)] at this
    exact this hm (top_limbs (by omega) m)
  have HX : Hid (∀ i n D, TextAt (limbs 10000 m) i 4 n D → D.length = 4 * (i + 1) ∧ Dig 10 D ∧ val 10 D = val 10000 ((limbs 10000 m).take (i + 1))) := fun i n D h => h.next xd
  cases e0
  clear ra hm
  generalize limbs 10000 m = ds at *
  generalize limbs 10 m = dm at *
  have hl00 : ((ds.length : Int) == 0) = false := beq_eq_false_iff_ne.2 (by omega)
  clear hlen
  have bx := Box2.new w 30 (.slice a ds.length ca) (.bool s)
  go_enter Tryd.func9, Tryd.ntmps9
  go_wp2
  go_loopw [3, 4] (fun sv iv wr => ∃ (i : Nat) (D : List Nat) (sb : ByteArray), iv = .int .i64 i ∧ sv = .string sb ∧ i ≤ ds.length ∧ sb.size ≤ 4 * i ∧ Hid (sb = ⟨(txt D).toArray⟩) ∧ Hid ((i < ds.length ∧ D.length = 4 * i ∧ Dig 10 D ∧ val 10 D = val 10000 (ds.take i)) ∨ (i = ds.length ∧ D = dm)) ∧ Box2 wr w.heap.size 30 (.slice a ds.length ca) (.bool s) ∧ Below w.heap.size w wr)
    (fun _ iv _ => ds.length - (intOf iv).toNat)
  case atStart => exact ⟨0, [], ⟨#[]⟩, rfl, rfl, by omega, by show 0 ≤ _; omega, rfl, Or.inl ⟨by omega, rfl, Dig.nil _, by simp [val]⟩, bx, (Below.refl _ _).alloc (Nat.le_refl _) _⟩
  case round =>
    obtain ⟨i, D, sb, rfl, rfl, hi, hsb, HS, HD, bx, hB⟩ := hrel
    have c0 := bx.c0
    have c1 := bx.c1
    by_cases hlt : i < ds.length
    · obtain ⟨b, off, rfl, hb, hc⟩ := HA.out i hlt
      have hq : wr.cell? ⟨b, off + i, none⟩ = some (.int .i64 (ds[i]?.getD 0 : Nat)) := (hB.cell (p := ⟨b, off + i, none⟩) hb).trans hc
      clear hc
      have hT : TextAt ds i 0 (ds[i]?.getD 0) D := by
        rcases HD.out with ⟨_, h1, h2, h3⟩ | ⟨h1, _⟩
        · exact TextAt.start h1 h2 h3
        · omega
      have HT := hide hT
      clear hT HD
      have hx := xd.getD (by omega) i
      generalize ds[i]?.getD 0 = x at hq HT hx
      go_wp2
      go_loopw [3, 5, 6] (fun sv nv kv wr => ∃ (k n : Nat) (D : List Nat) (sb : ByteArray), kv = .int .i64 k ∧ nv = .int .i64 n ∧ sv = .string sb ∧ k ≤ 4 ∧ n < 10000 ∧ sb.size ≤ 4 * i + k ∧ Hid (sb = ⟨(txt D).toArray⟩) ∧ Hid (TextAt ds i k n D) ∧ Box2 wr w.heap.size 30 (.slice (some ⟨b, off, none⟩) ds.length ca) (.bool s) ∧ Below w.heap.size w wr)
        (fun _ _ kv _ => 4 - (intOf kv).toNat)
      case atStart => exact ⟨0, x, D, sb, rfl, rfl, rfl, by omega, hx, by omega, HS, HT, bx, hB⟩
      case round =>
        clear bx c0 c1 hB HS HT hq hsb hx
        obtain ⟨k, n, D, sb, rfl, rfl, rfl, hk4, hn4, hsb, HS, HT, bx, hB⟩ := hrel
        have c0 := bx.c0
        have c1 := bx.c1
        by_cases hk : k < 4
        · have hkI : (k : Int) < 4 := by omega
          by_cases hgo : 0 < n
          · have hcv := conv1 wr n
            have hgI : (0 : Int) < n := by omega
            go_wp2
            refine ⟨⟨k + 1, n / 10, D ++ [n % 10], _, by simp, by simp, rfl, by omega, by omega, by rw [ba_cons_size]; omega, ?_, HT.out.step hk (Or.inl hgo), bx.alloc _, hB.alloc hB.size _⟩, by simp [intOf]; omega⟩
            show _ = _
            rw [HS.out, ba_cons, txt_snoc]
          · by_cases hi2 : i + 1 < ds.length
            · have hn0 : n = 0 := by omega
              subst hn0
              have hcv := conv0 wr
              have hi3 : (i : Int) + 1 < ds.length := by omega
              go_wp2
              refine ⟨⟨k + 1, 0 / 10, D ++ [0 % 10], _, by simp, by simp, rfl, by omega, by omega, by rw [ba_cons_size]; omega, ?_, HT.out.step hk (Or.inr hi2), bx.alloc _, hB.alloc hB.size _⟩, by simp [intOf]; omega⟩
              show _ = _
              rw [HS.out, ba_cons, txt_snoc]
            · have hn0 : n = 0 := by omega
              subst hn0
              have hi3 : decide ((i : Int) + 1 < ds.length) = false := decide_eq_false (by omega)
              have HQ := hide (HF.out i k D HT.out (by omega))
              go_wp2
              go_roundw
              case rel => exact ⟨i + 1, D, sb, by simp, rfl, by omega, by omega, HS, Or.inr ⟨by omega, HQ.out⟩, bx, hB⟩
              case measure => simp [intOf]; omega
        · have hk5 : k = 4 := by omega
          subst hk5
          have HQ : Hid ((i + 1 < ds.length ∧ D.length = 4 * (i + 1) ∧ Dig 10 D ∧ val 10 D = val 10000 (ds.take (i + 1))) ∨ (i + 1 = ds.length ∧ D = dm)) := by
            by_cases hi2 : i + 1 < ds.length
            · exact Or.inl ⟨hi2, HX.out i n D HT.out⟩
            · have hT := HT.out
              have h0 : n = 0 := by
                have h4 := hT.2.2.2.1
                rw [h4]; exact Nat.div_eq_of_lt (by have := xd.getD (by omega) i; simpa using this)
              subst h0
              exact Or.inr ⟨by omega, HF.out i 4 D hT (by omega)⟩
          go_wp2
          go_roundw
          case rel => exact ⟨i + 1, D, sb, by simp, rfl, by omega, by omega, HS, HQ, bx, hB⟩
          case measure => simp [intOf]; omega
    · have e : sb = ⟨(txt dm).toArray⟩ := by
        rcases HD.out with ⟨h, _⟩ | ⟨_, h⟩
        · omega
        · rw [HS.out, h]
      subst e
      cases s
      · go_wp2
        go_ret
        exact ⟨rfl, hB⟩
      · have hz : (txt dm).length ≤ 4 * i := hsb
        go_wp2
        go_ret
        refine ⟨?_, hB⟩
        show Ending.returned (.string (⟨#[45]⟩ ++ ⟨(txt dm).toArray⟩)) = _
        rw [ba_cons]

theorem text_c (v : Value) (z : Int) (w : World) (h : IsBig w v z) (hl : szB z ≤ 1000000000) :
    Calls Tryd.prog 9 #[v] w fun e w' => e = .returned (.string ⟨(decZ z).toArray⟩) ∧ Below w.heap.size w w' := by
  obtain ⟨a, l, cap, rfl, hr⟩ := h
  by_cases hz : z.natAbs = 0
  · have hz0 : z = 0 := by omega
    subst hz0
    have hlen := hr.len
    have hl0 : l = 0 := by rw [hlen]; simp [limbs_zero]
    subst hl0
    clear hr hlen hl
    go_enter Tryd.func9, Tryd.ntmps9
    go_wp2
    go_ret
    exact ⟨rfl, (Below.refl _ _).alloc (Nat.le_refl _) _⟩
  · refine (text_w a l cap _ _ w hr hz (by rw [hr.len]; exact hl)).mono ?_
    rintro e w' ⟨rfl, hB⟩
    refine ⟨?_, hB⟩
    unfold decZ
    rw [decN_pos hz]
    by_cases hn : z < 0
    · simp [hn]
    · simp [hn]
end Go.Proofs.YtahpgnkhophgpaaDoor
