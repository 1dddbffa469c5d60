import Derived.Test.YtcahejkcdcjjgaaGreatDoorK35
import Derived.Test.YtcahejkcdcjjgaaGreatDoorK28
import Derived.Test.YtcahejkcdcjjgaaGreatDoorK09
namespace Go.Proofs.YtcahejkcdcjjgaaGreatDoor.M3
open Go.RowKit Go.Shelf

attribute [local go_sem] Oper.semAt_some

set_option maxRecDepth 100000 in
set_option maxHeartbeats 4000000 in
theorem xAt_c (va vx : Value) (ps : List Rat) (x : Rat) (w : World) (ha : RowK false w va ps) (hx : IsRef w vx x) (hps : Sqs ps) (hsx : Sq x) (hok : AtOk ps x) :
    Calls Tryz.prog 37 #[va, vx] w fun e w' => ∃ u, e = .returned u ∧ IsRef w' u (ev ps x) ∧ Below w.heap.size w w' := by
  have hmx : Tryz.prog.follows .mixedOrders = true := by kernel_rfl
  obtain ⟨a, la, ca, rfl⟩ := ha.form
  obtain ⟨xa, xl, xc, xs, xb, xk, xd, xt, rfl⟩ := IsRef.form hx
  obtain ⟨hla, hca, hcma, hlma, s, t, aa, bb, ll, cc, kk, dd, hc⟩ := ha.formsF
  have M0 : Mem w _ _ := ((Mem.nil w).push (.ref x) hx).push (.zref) (cs := #[.slice none 0 0, .bool false, .slice none 0 0, .bool false]) rfl
  simp only [World.size_alloc] at M0
  obtain ⟨W0, hW0⟩ : ∃ W0, (w.alloc (.cells #[.slice xa xl xc, .bool xs, .slice xb xk xd, .bool xt] 49)).alloc (.cells #[.slice none 0 0, .bool false, .slice none 0 0, .bool false] 49) = W0 := ⟨_, rfl⟩
  have M1 : Mem w W0 [some (w.heap.size, .ref x), some (w.heap.size + 1, .zref)] := by rw [← hW0]; exact M0
  have HM1 := hidD M1
  have HW0 := hidD hW0
  have HC := hidD hc
  have HP := hidD hps
  have HX := hidD hsx
  have HK := hidD hok
  have HLA := hidD hla
  have HSW := hidD (fun (V : World) => swhole_c 0 (by omega) (by omega) V)
  have hwr : IntKind.i64.wrap ((la : Int) - 1) = (la : Int) - 1 := by rw [IntKind.wrap_i64]; omega
  clear ha hx hps hsx hok hla hc hW0 M0 M1
  go_enter Tryz.func37, Tryz.ntmps37
  go_upto_region 1 with fail
  rw [HW0.out]
  go_upto_region 2 with (go_at_call 62; refine (HSW.out _).mono ?_; clear HSW; rintro e w1 ⟨u1, rfl, hu1, hb1⟩; obtain ⟨a1, l1, c1, s1, b1, k1, d1, t1, rfl⟩ := IsRef.form hu1)
  have M2 : Mem w _ _ := (HM1.out.below hb1).push (.ref 0) hu1
  obtain ⟨W1, hW1⟩ : ∃ W1, w1.alloc (.cells #[.slice a1 l1 c1, .bool s1, .slice b1 k1 d1, .bool t1] 49) = W1 := ⟨_, rfl⟩
  obtain ⟨B, hB⟩ : ∃ B, w1.heap.size = B := ⟨_, rfl⟩
  rw [hW1]
  rw [hB]
  have M3 : Mem w W1 [some (w.heap.size, .ref x), some (w.heap.size + 1, .zref), some (B, .ref (0 : Rat))] := by rw [← hW1, ← hB]; exact M2
  have HM3 := hidD M3
  clear M2 M3 hu1 hb1 HM1 hW1 hB
  go_wp2
  go_loopw [6] (fun iv wr => ∃ m : Nat, m ≤ la ∧ iv = .int .i64 ((m : Int) - 1) ∧ Hid (Mem w wr [some (w.heap.size, .ref x), some (w.heap.size + 1, .zref), some (B, .ref (ev (ps.drop m) x))])) (fun iv _ => ((intOf iv) + 1).toNat)
  case atStart =>
    refine ⟨la, Nat.le_refl _, rfl, hidD ?_⟩
    rw [List.drop_eq_nil_of_le (by have := HLA.out; omega)]
    exact HM3.out
  case round =>
    obtain ⟨m, hm, rfl, HM⟩ := hrel
    clear HM3
    by_cases h0 : m = 0
    · subst h0
      have hneg : ((((0 : Nat) : Int) - 1)) = -1 := by omega
      rw [hneg]
      clear hneg
      rw [List.drop_zero] at HM
      obtain ⟨a5, l5, c5, s5, b5, k5, d5, t5, n5, r5, i5, j5⟩ := HM.out.ref (i := 2) rfl
      have n6 := HM.out.zref (i := 1) rfl
      have e0 := n5.c0
      have e1 := n5.c1
      have e2 := n5.c2
      have e3 := n5.c3
      have f0 := n6.f0
      have f1 := n6.f1
      have f2 := n6.f2
      have f3 := n6.f3
      have r0 := n6.c0
      have r1 := n6.c1
      have r2 := n6.c2
      have r3 := n6.c3
      have HM9 := hidD (HM.out.putZref (i := 1) rfl r5).2.2
      have HR9 := hidD (zbox n6 r5 (.slice a5 l5 c5) (.bool s5) (.slice b5 k5 d5) (.bool t5))
      clear n5 r5 i5 j5 n6
      go_wp2_with fail
      exact bodyPost_ret (v := .agg #[.slice a5 l5 c5, .bool s5, .slice b5 k5 d5, .bool t5]) (by simp [results, Tryz.results37, go_sem, r0, r1, r2, r3]) rfl ⟨_, rfl, HR9.out, HM9.out⟩
    · obtain ⟨j, hj⟩ : ∃ j : Nat, m = j + 1 := ⟨m - 1, by omega⟩
      have hji : (m : Int) - 1 = (j : Int) := by omega
      rw [hji]
      have HJM := hidD hj
      rw [hj] at HM
      have hjl : j < la := by omega
      have hjl2 : (j : Int) < (la : Int) := by omega
      obtain ⟨hi, b, rfl, hb, c0, c1, c2, c3⟩ := HC.out j hjl
      have HCL := hidD (show ∀ V, Below w.heap.size w V → (V.cell? ⟨b, j * 4, none⟩ = some (.slice (aa j) (ll j) (cc j)) ∧ V.cell? ⟨b, j * 4 + 1, none⟩ = some (.bool (s j)) ∧ V.cell? ⟨b, j * 4 + 2, none⟩ = some (.slice (bb j) (kk j) (dd j)) ∧ V.cell? ⟨b, j * 4 + 3, none⟩ = some (.bool (t j))) ∧ IsRef V (.agg #[.slice (aa j) (ll j) (cc j), .bool (s j), .slice (bb j) (kk j) (dd j), .bool (t j)]) (cf ps j) from fun V hB => by
        exact ⟨⟨(hB.cell (p := ⟨b, _, none⟩) hb).trans c0, (hB.cell (p := ⟨b, _, none⟩) hb).trans c1, (hB.cell (p := ⟨b, _, none⟩) hb).trans c2, (hB.cell (p := ⟨b, _, none⟩) hb).trans c3⟩, hi.below hB⟩)
      have HEV := hidD (ev_step ps x (m := j) (by have := HLA.out; omega))
      obtain ⟨y, hy⟩ : ∃ y, ev (ps.drop (j + 1)) x = y := ⟨_, rfl⟩
      have HKY := hidD (show Sq y ∧ Sq (y * x) by rw [← hy]; exact HK.out (j + 1))
      rw [hy] at HM HEV
      clear hi c0 c1 c2 c3 hb hj hji hy h0 hm
      go_wp2_with fail
      have ST0 := HM.out.drew
      refine wp_region_tab hmx [[], [], [0, 1], [], [], [3, 4], [5], [2, 6, 2], [7, 7, 0, 1, 2, 3, 4, 5, 6, 7]] (by kernel_rfl) (by decide)
        (fun D act V => ∃ (t15x t16x t17x t18x t19x t20x t21x t22x : Value), act = { tmps := #[Value.slice (some { block := b, off := 0 }) la ca, Value.agg #[Value.slice xa xl xc, Value.bool xs, Value.slice xb xk xd, Value.bool xt], undef, Value.pointer (some { block := w.heap.size, off := 0 }), Value.pointer (some { block := w.heap.size + 1, off := 0 }), Value.pointer (some { block := B, off := 0 }), Value.int IntKind.i64 ↑j, Value.agg #[Value.slice a1 l1 c1, Value.bool s1, Value.slice b1 k1 d1, Value.bool t1], Value.slice (some { block := b, off := 0 }) la ca, Value.int IntKind.i64 ↑la, Value.int IntKind.i64 (↑la - 1), Value.int IntKind.i64 ↑j, Value.bool true, u13, u14, t15x, t16x, t17x, t18x, t19x, t20x, t21x, t22x, undef], defers := [] } ∧ Hid ((D 0 = true → D 8 = false → IsRef V t15x y) ∧ (D 1 = true → D 8 = false → IsRef V t16x x) ∧ (D 2 = true → D 8 = false → IsRef V t17x (y * x)) ∧ (D 3 = true → t18x = .slice (some ⟨b, 0, none⟩) la ca) ∧ (D 4 = true → t19x = .int .i64 (j : Int)) ∧ (D 5 = true → t20x = .pointer (some ⟨b, j * 4, none⟩)) ∧ (D 6 = true → D 8 = false → IsRef V t21x (cf ps j)) ∧ (D 7 = true → D 8 = false → IsRef V t22x (ev (ps.drop j) x))) ∧ Hid ((D 8 = false → Mem w V [some (w.heap.size, .ref x), some (w.heap.size + 1, .zref), some (B, .ref (y))]) ∧ (D 8 = true → Mem w V [some (w.heap.size, .ref x), some (w.heap.size + 1, .zref), some (B, .ref (ev (ps.drop j) x))])))
        ⟨_, _, _, _, _, _, _, _, rfl, hidD ⟨by simp, by simp, by simp, by simp, by simp, by simp, by simp, by simp⟩, hidD ⟨fun _ => ST0, by simp⟩⟩ ?step1 ?fin1
      case step1 =>
        rintro D act V i ds hcl hi hds hDi ⟨t15x, t16x, t17x, t18x, t19x, t20x, t21x, t22x, rfl, GG, SS0⟩
        have hi6 : i < 9 := (List.getElem?_eq_some_iff.1 hi).1
        obtain rfl | rfl | rfl | rfl | rfl | rfl | rfl | rfl | rfl : i = 0 ∨ i = 1 ∨ i = 2 ∨ i = 3 ∨ i = 4 ∨ i = 5 ∨ i = 6 ∨ i = 7 ∨ i = 8 := by omega
        all_goals
          simp only [List.getElem?_cons_zero, List.getElem?_cons_succ, Option.some.injEq] at hi
          subst hi
        · have hf0 : D 8 = false := by
            cases h : D 8 with
            | false => rfl
            | true => rw [(hcl 8 _ rfl h 0 (by simp))] at hDi; cases hDi
          have hS0 := SS0.out.1 hf0
          obtain ⟨a5, l5, c5, s5, b5, k5, d5, t5, n5, r5, i5, j5⟩ := hS0.ref (i := 2) rfl
          have e0 := n5.c0
          have e1 := n5.c1
          have e2 := n5.c2
          have e3 := n5.c3
          clear hds
          refine wpOp_go rfl rfl (fun K hK => ?_)
          go_simp
          exact hK _ _ ⟨_, _, _, _, _, _, _, _, rfl, hidD ⟨fun _ _ => r5, fun h h2 => (GG.out.2.1 h (by simpa using h2)), fun h h2 => (GG.out.2.2.1 h (by simpa using h2)), GG.out.2.2.2.1, GG.out.2.2.2.2.1, GG.out.2.2.2.2.2.1, fun h h2 => (GG.out.2.2.2.2.2.2.1 h (by simpa using h2)), fun h h2 => (GG.out.2.2.2.2.2.2.2 h (by simpa using h2))⟩, hidD ⟨fun h => (SS0.out.1 (by simpa using h)), fun h => (SS0.out.2 (by simpa using h))⟩⟩
        · have hf0 : D 8 = false := by
            cases h : D 8 with
            | false => rfl
            | true => rw [(hcl 8 _ rfl h 1 (by simp))] at hDi; cases hDi
          have hS0 := SS0.out.1 hf0
          obtain ⟨a5, l5, c5, s5, b5, k5, d5, t5, n5, r5, i5, j5⟩ := hS0.ref (i := 0) rfl
          have e0 := n5.c0
          have e1 := n5.c1
          have e2 := n5.c2
          have e3 := n5.c3
          clear hds
          refine wpOp_go rfl rfl (fun K hK => ?_)
          go_simp
          exact hK _ _ ⟨_, _, _, _, _, _, _, _, rfl, hidD ⟨fun h h2 => (GG.out.1 h (by simpa using h2)), fun _ _ => r5, fun h h2 => (GG.out.2.2.1 h (by simpa using h2)), GG.out.2.2.2.1, GG.out.2.2.2.2.1, GG.out.2.2.2.2.2.1, fun h h2 => (GG.out.2.2.2.2.2.2.1 h (by simpa using h2)), fun h h2 => (GG.out.2.2.2.2.2.2.2 h (by simpa using h2))⟩, hidD ⟨fun h => (SS0.out.1 (by simpa using h)), fun h => (SS0.out.2 (by simpa using h))⟩⟩
        · have hf0 : D 8 = false := by
            cases h : D 8 with
            | false => rfl
            | true => rw [(hcl 8 _ rfl h 2 (by simp))] at hDi; cases hDi
          have hS0 := SS0.out.1 hf0
          have h0 := GG.out.1 (hds 0 (by simp)) hf0
          have h1 := GG.out.2.1 (hds 1 (by simp)) hf0
          clear hds
          have HC := hidD (stimes_c _ _ y x V h0 h1 HKY.out.1 HX.out)
          clear h0 h1
          refine wpOp_go rfl rfl (fun K hK => ?_)
          go_simp
          go_wp2_with (go_at_call 73; refine HC.out.mono ?_; rintro e w5 ⟨v5, rfl, hv5, hb5⟩)
          exact ⟨_, _, _, _, _, _, _, _, rfl, hidD ⟨fun h h2 => (GG.out.1 h (by simpa using h2)).below hb5, fun h h2 => (GG.out.2.1 h (by simpa using h2)).below hb5, fun _ _ => hv5, GG.out.2.2.2.1, GG.out.2.2.2.2.1, GG.out.2.2.2.2.2.1, fun h h2 => (GG.out.2.2.2.2.2.2.1 h (by simpa using h2)).below hb5, fun h h2 => (GG.out.2.2.2.2.2.2.2 h (by simpa using h2)).below hb5⟩, hidD ⟨fun h => (SS0.out.1 (by simpa using h)).below hb5, fun h => (SS0.out.2 (by simpa using h)).below hb5⟩⟩
        · have hf0 : D 8 = false := by
            cases h : D 8 with
            | false => rfl
            | true => rw [(hcl 8 _ rfl h 3 (by simp))] at hDi; cases hDi
          have hS0 := SS0.out.1 hf0
          clear hds
          refine wpOp_go rfl rfl (fun K hK => ?_)
          go_simp
          exact hK _ _ ⟨_, _, _, _, _, _, _, _, rfl, hidD ⟨fun h h2 => (GG.out.1 h (by simpa using h2)), fun h h2 => (GG.out.2.1 h (by simpa using h2)), fun h h2 => (GG.out.2.2.1 h (by simpa using h2)), fun _ => rfl, GG.out.2.2.2.2.1, GG.out.2.2.2.2.2.1, fun h h2 => (GG.out.2.2.2.2.2.2.1 h (by simpa using h2)), fun h h2 => (GG.out.2.2.2.2.2.2.2 h (by simpa using h2))⟩, hidD ⟨fun h => (SS0.out.1 (by simpa using h)), fun h => (SS0.out.2 (by simpa using h))⟩⟩
        · have hf0 : D 8 = false := by
            cases h : D 8 with
            | false => rfl
            | true => rw [(hcl 8 _ rfl h 4 (by simp))] at hDi; cases hDi
          have hS0 := SS0.out.1 hf0
          clear hds
          refine wpOp_go rfl rfl (fun K hK => ?_)
          go_simp
          exact hK _ _ ⟨_, _, _, _, _, _, _, _, rfl, hidD ⟨fun h h2 => (GG.out.1 h (by simpa using h2)), fun h h2 => (GG.out.2.1 h (by simpa using h2)), fun h h2 => (GG.out.2.2.1 h (by simpa using h2)), GG.out.2.2.2.1, fun _ => rfl, GG.out.2.2.2.2.2.1, fun h h2 => (GG.out.2.2.2.2.2.2.1 h (by simpa using h2)), fun h h2 => (GG.out.2.2.2.2.2.2.2 h (by simpa using h2))⟩, hidD ⟨fun h => (SS0.out.1 (by simpa using h)), fun h => (SS0.out.2 (by simpa using h))⟩⟩
        · have hf0 : D 8 = false := by
            cases h : D 8 with
            | false => rfl
            | true => rw [(hcl 8 _ rfl h 5 (by simp))] at hDi; cases hDi
          have hS0 := SS0.out.1 hf0
          obtain rfl := GG.out.2.2.2.1 (hds 3 (by simp))
          obtain rfl := GG.out.2.2.2.2.1 (hds 4 (by simp))
          clear hds
          refine wpOp_go rfl rfl (fun K hK => ?_)
          go_simp
          exact hK _ _ ⟨_, _, _, _, _, _, _, _, rfl, hidD ⟨fun h h2 => (GG.out.1 h (by simpa using h2)), fun h h2 => (GG.out.2.1 h (by simpa using h2)), fun h h2 => (GG.out.2.2.1 h (by simpa using h2)), fun _ => rfl, fun _ => rfl, fun _ => rfl, fun h h2 => (GG.out.2.2.2.2.2.2.1 h (by simpa using h2)), fun h h2 => (GG.out.2.2.2.2.2.2.2 h (by simpa using h2))⟩, hidD ⟨fun h => (SS0.out.1 (by simpa using h)), fun h => (SS0.out.2 (by simpa using h))⟩⟩
        · have hf0 : D 8 = false := by
            cases h : D 8 with
            | false => rfl
            | true => rw [(hcl 8 _ rfl h 6 (by simp))] at hDi; cases hDi
          have hS0 := SS0.out.1 hf0
          obtain rfl := GG.out.2.2.2.2.2.1 (hds 5 (by simp))
          obtain ⟨⟨e0, e1, e2, e3⟩, hr⟩ := HCL.out V hS0.2.2
          clear hds
          refine wpOp_go rfl rfl (fun K hK => ?_)
          go_simp
          exact hK _ _ ⟨_, _, _, _, _, _, _, _, rfl, hidD ⟨fun h h2 => (GG.out.1 h (by simpa using h2)), fun h h2 => (GG.out.2.1 h (by simpa using h2)), fun h h2 => (GG.out.2.2.1 h (by simpa using h2)), GG.out.2.2.2.1, GG.out.2.2.2.2.1, fun _ => rfl, fun _ _ => hr, fun h h2 => (GG.out.2.2.2.2.2.2.2 h (by simpa using h2))⟩, hidD ⟨fun h => (SS0.out.1 (by simpa using h)), fun h => (SS0.out.2 (by simpa using h))⟩⟩
        · have hf0 : D 8 = false := by
            cases h : D 8 with
            | false => rfl
            | true => rw [(hcl 8 _ rfl h 7 (by simp))] at hDi; cases hDi
          have hS0 := SS0.out.1 hf0
          have h0 := GG.out.2.2.1 (hds 2 (by simp)) hf0
          have h1 := GG.out.2.2.2.2.2.2.1 (hds 6 (by simp)) hf0
          clear hds
          have HC := hidD (ssum_c _ _ (y * x) (cf ps j) V h0 h1 HKY.out.2 (HP.out.at j))
          rw [HEV.out] at HC
          clear h0 h1
          refine wpOp_go rfl rfl (fun K hK => ?_)
          go_simp
          go_wp2_with (go_at_call 71; refine HC.out.mono ?_; rintro e w5 ⟨v5, rfl, hv5, hb5⟩)
          exact ⟨_, _, _, _, _, _, _, _, rfl, hidD ⟨fun h h2 => (GG.out.1 h (by simpa using h2)).below hb5, fun h h2 => (GG.out.2.1 h (by simpa using h2)).below hb5, fun h h2 => (GG.out.2.2.1 h (by simpa using h2)).below hb5, GG.out.2.2.2.1, GG.out.2.2.2.2.1, GG.out.2.2.2.2.2.1, fun h h2 => (GG.out.2.2.2.2.2.2.1 h (by simpa using h2)).below hb5, fun _ _ => hv5⟩, hidD ⟨fun h => (SS0.out.1 (by simpa using h)).below hb5, fun h => (SS0.out.2 (by simpa using h)).below hb5⟩⟩
        · have hS0 := SS0.out.1 hDi
          have h0 := GG.out.2.2.2.2.2.2.2 (hds 7 (by simp)) hDi
          obtain ⟨a9, l9, c9, s9, b9, k9, d9, t9, rfl⟩ := IsRef.form h0
          obtain ⟨a5, l5, c5, s5, b5, k5, d5, t5, n5, r5, i5, j5⟩ := hS0.ref (i := 2) rfl
          have e0 := n5.c0
          have e1 := n5.c1
          have e2 := n5.c2
          have e3 := n5.c3
          have f0 := n5.f0
          have f1 := n5.f1
          have f2 := n5.f2
          have f3 := n5.f3
          clear hds
          refine wpOp_go rfl rfl (fun K hK => ?_)
          go_simp
          exact hK _ _ ⟨_, _, _, _, _, _, _, _, rfl, hidD ⟨fun _ h => by simp at h, fun _ h => by simp at h, fun _ h => by simp at h, GG.out.2.2.2.1, GG.out.2.2.2.2.1, GG.out.2.2.2.2.2.1, fun _ h => by simp at h, fun _ h => by simp at h⟩, hidD ⟨fun h => by simp at h, fun _ => hS0.putRef (i := 2) rfl h0⟩⟩
      case fin1 =>
        rintro D act V hDD ⟨t15x, t16x, t17x, t18x, t19x, t20x, t21x, t22x, rfl, GG, SS0⟩
        have HO := hidD (SS0.out.2 (hDD 8 (by decide)))
        clear GG SS0 hDD
        go_wp2_with fail
        go_roundw
        case rel => exact ⟨j, by omega, by go_num, HO⟩
        case measure => simp [intOf]
end Go.Proofs.YtcahejkcdcjjgaaGreatDoor.M3
