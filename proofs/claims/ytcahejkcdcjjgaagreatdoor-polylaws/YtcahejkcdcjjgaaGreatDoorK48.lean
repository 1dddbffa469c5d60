import Derived.Test.YtcahejkcdcjjgaaGreatDoorK47
namespace Go.Proofs.YtcahejkcdcjjgaaGreatDoor
open Go.RowKit Go.Shelf

attribute [local go_sem] Oper.semAt_some

set_option maxRecDepth 100000 in
set_option maxHeartbeats 16000000 in
theorem polyLaws_f (s t xs ys : ByteArray) (h0 : (parseP (wlst t)).1 = []) (w : World) (htab : Pow10 w) :
    Calls Tryz.prog 7 #[.string s, .string t, .string xs, .string ys] w fun r w' => r = .returned (.bool true) ∧ Below w.heap.size w w' := by
  have hmx : Tryz.prog.follows .mixedOrders = true := by kernel_rfl
  have HT := hidD htab
  have hsm := parseP_small (wlst s)
  have htr := parseP_trim (wlst s)
  have hsm2 := parseP_small (wlst t)
  have htr2 := parseP_trim (wlst t)
  have hvx := valQ_sm (wlst xs)
  have hvy := valQ_sm (wlst ys)
  have HG1 := hidD (fun (V : World) => jGiven_c s V)
  have HG2 := hidD (fun (V : World) => jGiven_c t V)
  have HGX := hidD (fun (V : World) => given_c xs V)
  have HGY := hidD (fun (V : World) => given_c ys V)
  obtain ⟨ps, hps⟩ : ∃ ps, (parseP (wlst s)).1 = ps := ⟨_, rfl⟩
  obtain ⟨qs, hqs⟩ : ∃ qs, (parseP (wlst t)).1 = qs := ⟨_, rfl⟩
  obtain ⟨x, hx⟩ : ∃ x, valQ (wlst xs) = x := ⟨_, rfl⟩
  obtain ⟨y, hy⟩ : ∃ y, valQ (wlst ys) = y := ⟨_, rfl⟩
  rw [hps] at HG1 hsm htr
  rw [hqs] at HG2 hsm2 htr2 h0
  rw [hx] at HGX hvx
  rw [hy] at HGY hvy
  have HOK := hidD (lok hsm hsm2 htr hvx hvy)
  have hLL : 2 ^ ps.length * (3 * 601 + 1) ≤ 1000000 := by
    have h1 : 2 ^ ps.length ≤ 2 ^ 9 := Nat.pow_le_pow_right (by omega) hsm.1
    have h2 : 2 ^ ps.length * (3 * 601 + 1) ≤ 2 ^ 9 * (3 * 601 + 1) := Nat.mul_le_mul_right _ h1
    exact Nat.le_trans h2 (by decide)
  have HSP2 := hidD (fun (V : World) (va vb : Value) (ha : IsPoly V va ps) (hb : IsPoly V vb qs) => (show Calls Tryz.prog 29 #[va, vb] V fun e w' => ∃ u v, e = .returned (.tuple #[u, v, .bool false]) ∧ IsPoly w' u [] ∧ IsPoly w' v [] ∧ Below V.heap.size V w' by
    have h := M3.ySplit_c 601 va vb ps qs V ha hb (by omega) hsm.2 hsm2.2 htr htr2 hLL
    rw [show decide (qs ≠ []) = false from decide_eq_false (fun h => h h0)] at h
    simp only [if_pos h0] at h
    exact h))
  have HMB := hidD (mov_back y ps htr)
  have HZY := hidD (show (0 : Rat) - y = -y by rw [Rat.sub_eq_add_neg, Rat.zero_add])
  have HTP := hidD (fun m => polyT_ok HOK.out.P (by have := HOK.out.lP; omega) m)
  have HTZ := hidD (fun m => polyT_ok HOK.out.LT (by have := HOK.out.lZ; omega) m)
  obtain ⟨TP, hTP⟩ : ∃ S : ByteArray, ⟨(textP ps).toArray⟩ = S := ⟨_, rfl⟩
  obtain ⟨TZ, hTZ⟩ : ∃ S : ByteArray, ⟨(textP (slopeQ (mulQ ps qs))).toArray⟩ = S := ⟨_, rfl⟩
  obtain ⟨dP, hdP⟩ : ∃ d : Int, (ps.length : Int) - 1 = d := ⟨_, rfl⟩
  have XTP := hidD hTP
  have XTZ := hidD hTZ
  have HDP := hidD hdP
  have M := hidD (Below.refl w.heap.size w)
  clear htab hps hqs hsm htr hsm2 htr2 hvx hvy hx hy hLL hTP hTZ hdP h0
  go_enter Tryz.func7, Tryz.ntmps7
  go_upto_region 2 with (go_at_call 25; refine (HG1.out _).mono ?_; clear HG1; rintro e w1 ⟨u, rfl, hu, hb⟩; obtain ⟨a1, l1, c1, rfl⟩ := hu.form)
  replace M := hidD (M.out.trans (hb.mono M.out.size))
  clear hb
  have hA : Below w1.heap.size w1 (w1.alloc (.cells #[.slice a1 l1 c1] 25)) := (Below.refl _ w1).alloc (Nat.le_refl _) _
  have nP := Boxed.new w1 25 (.slice a1 l1 c1)
  have rP := hu.row.below hA
  replace M := hidD (M.out.trans (hA.mono M.out.size))
  clear hA
  obtain ⟨VP, hV⟩ : ∃ V, w1.alloc (.cells #[.slice a1 l1 c1] 25) = V := ⟨_, rfl⟩
  obtain ⟨BP, hB⟩ : ∃ B, w1.heap.size = B := ⟨_, rfl⟩
  rw [hV] at rP M
  rw [hV, hB] at nP
  rw [hV]
  rw [hB]
  clear hV hB
  clear hu
  go_upto_region 3 with (go_at_call 25; refine (HG2.out _).mono ?_; clear HG2; rintro e w2 ⟨u, rfl, hu, hb⟩; obtain ⟨a2, l2, c2, rfl⟩ := hu.form)
  replace nP := nP.bel hb
  replace rP := rP.below hb
  replace M := hidD (M.out.trans (hb.mono M.out.size))
  clear hb
  have hA : Below w2.heap.size w2 (w2.alloc (.cells #[.slice a2 l2 c2] 25)) := (Below.refl _ w2).alloc (Nat.le_refl _) _
  have nQ := Boxed.new w2 25 (.slice a2 l2 c2)
  have rQ := hu.row.below hA
  replace nP := nP.bel hA
  replace rP := rP.below hA
  replace M := hidD (M.out.trans (hA.mono M.out.size))
  clear hA
  obtain ⟨VQ, hV⟩ : ∃ V, w2.alloc (.cells #[.slice a2 l2 c2] 25) = V := ⟨_, rfl⟩
  obtain ⟨BQ, hB⟩ : ∃ B, w2.heap.size = B := ⟨_, rfl⟩
  rw [hV] at nP rP rQ M
  rw [hV, hB] at nQ
  rw [hV]
  rw [hB]
  clear hV hB
  clear hu
  go_upto_region 4 with (go_at_call 20; refine (HGX.out _).mono ?_; clear HGX; rintro e w3 ⟨u, rfl, hu, hb⟩; obtain ⟨s3, a3, l3, c3, t3, b3, k3, d3, rfl⟩ := IsRat.form hu)
  replace nP := nP.bel hb
  replace rP := rP.below hb
  replace nQ := nQ.bel hb
  replace rQ := rQ.below hb
  replace M := hidD (M.out.trans (hb.mono M.out.size))
  clear hb
  have hA : Below w3.heap.size w3 (w3.alloc (.cells #[.bool s3, .slice a3 l3 c3, .bool t3, .slice b3 k3 d3] 38)) := (Below.refl _ w3).alloc (Nat.le_refl _) _
  have nX := Box4.new w3 38 (.bool s3) (.slice a3 l3 c3) (.bool t3) (.slice b3 k3 d3)
  have rX := hu.below hA
  replace nP := nP.bel hA
  replace rP := rP.below hA
  replace nQ := nQ.bel hA
  replace rQ := rQ.below hA
  replace M := hidD (M.out.trans (hA.mono M.out.size))
  clear hA
  obtain ⟨VX, hV⟩ : ∃ V, w3.alloc (.cells #[.bool s3, .slice a3 l3 c3, .bool t3, .slice b3 k3 d3] 38) = V := ⟨_, rfl⟩
  obtain ⟨BX, hB⟩ : ∃ B, w3.heap.size = B := ⟨_, rfl⟩
  rw [hV] at nP rP nQ rQ rX M
  rw [hV, hB] at nX
  rw [hV]
  rw [hB]
  clear hV hB
  clear hu
  go_upto_region 5 with (go_at_call 20; refine (HGY.out _).mono ?_; clear HGY; rintro e w4 ⟨u, rfl, hu, hb⟩; obtain ⟨s4, a4, l4, c4, t4, b4, k4, d4, rfl⟩ := IsRat.form hu)
  replace nP := nP.bel hb
  replace rP := rP.below hb
  replace nQ := nQ.bel hb
  replace rQ := rQ.below hb
  replace nX := nX.below hb
  replace rX := rX.below hb
  replace M := hidD (M.out.trans (hb.mono M.out.size))
  clear hb
  have hA : Below w4.heap.size w4 (w4.alloc (.cells #[.bool s4, .slice a4 l4 c4, .bool t4, .slice b4 k4 d4] 38)) := (Below.refl _ w4).alloc (Nat.le_refl _) _
  have nY := Box4.new w4 38 (.bool s4) (.slice a4 l4 c4) (.bool t4) (.slice b4 k4 d4)
  have rY := hu.below hA
  replace nP := nP.bel hA
  replace rP := rP.below hA
  replace nQ := nQ.bel hA
  replace rQ := rQ.below hA
  replace nX := nX.below hA
  replace rX := rX.below hA
  replace M := hidD (M.out.trans (hA.mono M.out.size))
  clear hA
  obtain ⟨VY, hV⟩ : ∃ V, w4.alloc (.cells #[.bool s4, .slice a4 l4 c4, .bool t4, .slice b4 k4 d4] 38) = V := ⟨_, rfl⟩
  obtain ⟨BY, hB⟩ : ∃ B, w4.heap.size = B := ⟨_, rfl⟩
  rw [hV] at nP rP nQ rQ nX rX rY M
  rw [hV, hB] at nY
  rw [hV]
  rw [hB]
  clear hV hB
  clear hu
  have H1 := hidD (fun (V : World) (h : Below VY.heap.size VY V) => yPlus_c _ _ ps qs V (rP.below h).isPoly (rQ.below h).isPoly HOK.out.P HOK.out.Q HOK.out.S)
  have hq : Below VY.heap.size VY VY := Below.refl _ _
  have eP := (nP.bel hq).cell
  have eQ := (nQ.bel hq).cell
  go_upto_region 6 with (go_at_call 26; refine (H1.out _ hq).mono ?_; clear H1; rintro e w5 ⟨u, rfl, hu, -, hb⟩; obtain ⟨a5, l5, c5, rfl⟩ := hu.form)
  replace hb := Below.then hq hb
  clear hq eP eQ
  replace nP := nP.bel hb
  replace rP := rP.below hb
  replace nQ := nQ.bel hb
  replace rQ := rQ.below hb
  replace nX := nX.below hb
  replace rX := rX.below hb
  replace nY := nY.below hb
  replace rY := rY.below hb
  replace M := hidD (M.out.trans (hb.mono M.out.size))
  clear hb
  have hA : Below w5.heap.size w5 (w5.alloc (.cells #[.slice a5 l5 c5] 25)) := (Below.refl _ w5).alloc (Nat.le_refl _) _
  have nS := Boxed.new w5 25 (.slice a5 l5 c5)
  have rS := hu.row.below hA
  replace nP := nP.bel hA
  replace rP := rP.below hA
  replace nQ := nQ.bel hA
  replace rQ := rQ.below hA
  replace nX := nX.below hA
  replace rX := rX.below hA
  replace nY := nY.below hA
  replace rY := rY.below hA
  replace M := hidD (M.out.trans (hA.mono M.out.size))
  clear hA
  obtain ⟨VS, hV⟩ : ∃ V, w5.alloc (.cells #[.slice a5 l5 c5] 25) = V := ⟨_, rfl⟩
  obtain ⟨BS, hB⟩ : ∃ B, w5.heap.size = B := ⟨_, rfl⟩
  rw [hV] at nP rP nQ rQ nX rX nY rY rS M
  rw [hV, hB] at nS
  rw [hV]
  rw [hB]
  clear hV hB
  clear hu
  have H1 := hidD (fun (V : World) (h : Below VS.heap.size VS V) => M3.yTimes_c _ _ ps qs V (rP.below h).isPoly (rQ.below h).isPoly HOK.out.P HOK.out.Q HOK.out.TO (by have := HOK.out.lP; have := HOK.out.lQ; omega))
  have hq : Below VS.heap.size VS VS := Below.refl _ _
  have eP := (nP.bel hq).cell
  have eQ := (nQ.bel hq).cell
  go_upto_region 7 with (go_at_call 28; refine (H1.out _ hq).mono ?_; clear H1; rintro e w6 ⟨u, rfl, hu, -, hb⟩; obtain ⟨a6, l6, c6, rfl⟩ := hu.form)
  replace hb := Below.then hq hb
  clear hq eP eQ
  replace nP := nP.bel hb
  replace rP := rP.below hb
  replace nQ := nQ.bel hb
  replace rQ := rQ.below hb
  replace nX := nX.below hb
  replace rX := rX.below hb
  replace nY := nY.below hb
  replace rY := rY.below hb
  replace nS := nS.bel hb
  replace rS := rS.below hb
  replace M := hidD (M.out.trans (hb.mono M.out.size))
  clear hb
  have hA : Below w6.heap.size w6 (w6.alloc (.cells #[.slice a6 l6 c6] 25)) := (Below.refl _ w6).alloc (Nat.le_refl _) _
  have nT := Boxed.new w6 25 (.slice a6 l6 c6)
  have rT := hu.row.below hA
  replace nP := nP.bel hA
  replace rP := rP.below hA
  replace nQ := nQ.bel hA
  replace rQ := rQ.below hA
  replace nX := nX.below hA
  replace rX := rX.below hA
  replace nY := nY.below hA
  replace rY := rY.below hA
  replace nS := nS.bel hA
  replace rS := rS.below hA
  replace M := hidD (M.out.trans (hA.mono M.out.size))
  clear hA
  obtain ⟨VT, hV⟩ : ∃ V, w6.alloc (.cells #[.slice a6 l6 c6] 25) = V := ⟨_, rfl⟩
  obtain ⟨BT, hB⟩ : ∃ B, w6.heap.size = B := ⟨_, rfl⟩
  rw [hV] at nP rP nQ rQ nX rX nY rY nS rS rT M
  rw [hV, hB] at nT
  rw [hV]
  rw [hB]
  clear hV hB
  clear hu
  have H1 := hidD (fun (V : World) (h : Below VT.heap.size VT V) => M3.yAt_c _ _ ps x V (rP.below h).isPoly (rX.below h) HOK.out.P HOK.out.X HOK.out.AP)
  have hq : Below VT.heap.size VT VT := Below.refl _ _
  have eP := (nP.bel hq).cell
  have eX0 := (nX.below hq).c0
  have eX1 := (nX.below hq).c1
  have eX2 := (nX.below hq).c2
  have eX3 := (nX.below hq).c3
  go_upto_region 8 with (go_at_call 34; refine (H1.out _ hq).mono ?_; clear H1; rintro e w7 ⟨u, rfl, hu, hb⟩; obtain ⟨s7, a7, l7, c7, t7, b7, k7, d7, rfl⟩ := IsRat.form hu)
  replace hb := Below.then hq hb
  clear hq eP eX0 eX1 eX2 eX3
  replace nP := nP.bel hb
  replace rP := rP.below hb
  replace nQ := nQ.bel hb
  replace rQ := rQ.below hb
  replace nX := nX.below hb
  replace rX := rX.below hb
  replace nY := nY.below hb
  replace rY := rY.below hb
  replace nS := nS.bel hb
  replace rS := rS.below hb
  replace nT := nT.bel hb
  replace rT := rT.below hb
  replace M := hidD (M.out.trans (hb.mono M.out.size))
  clear hb
  have hA : Below w7.heap.size w7 (w7.alloc (.cells #[.bool s7, .slice a7 l7 c7, .bool t7, .slice b7 k7 d7] 38)) := (Below.refl _ w7).alloc (Nat.le_refl _) _
  have nA := Box4.new w7 38 (.bool s7) (.slice a7 l7 c7) (.bool t7) (.slice b7 k7 d7)
  have rA := hu.below hA
  replace nP := nP.bel hA
  replace rP := rP.below hA
  replace nQ := nQ.bel hA
  replace rQ := rQ.below hA
  replace nX := nX.below hA
  replace rX := rX.below hA
  replace nY := nY.below hA
  replace rY := rY.below hA
  replace nS := nS.bel hA
  replace rS := rS.below hA
  replace nT := nT.bel hA
  replace rT := rT.below hA
  replace M := hidD (M.out.trans (hA.mono M.out.size))
  clear hA
  obtain ⟨VA, hV⟩ : ∃ V, w7.alloc (.cells #[.bool s7, .slice a7 l7 c7, .bool t7, .slice b7 k7 d7] 38) = V := ⟨_, rfl⟩
  obtain ⟨BA, hB⟩ : ∃ B, w7.heap.size = B := ⟨_, rfl⟩
  rw [hV] at nP rP nQ rQ nX rX nY rY nS rS nT rT rA M
  rw [hV, hB] at nA
  rw [hV]
  rw [hB]
  clear hV hB
  clear hu
  have H1 := hidD (fun (V : World) (h : Below VA.heap.size VA V) => M3.yAt_c _ _ qs x V (rQ.below h).isPoly (rX.below h) HOK.out.Q HOK.out.X HOK.out.AQ)
  have hq : Below VA.heap.size VA VA := Below.refl _ _
  have eQ := (nQ.bel hq).cell
  have eX0 := (nX.below hq).c0
  have eX1 := (nX.below hq).c1
  have eX2 := (nX.below hq).c2
  have eX3 := (nX.below hq).c3
  go_upto_region 9 with (go_at_call 34; refine (H1.out _ hq).mono ?_; clear H1; rintro e w8 ⟨u, rfl, hu, hb⟩; obtain ⟨s8, a8, l8, c8, t8, b8, k8, d8, rfl⟩ := IsRat.form hu)
  replace hb := Below.then hq hb
  clear hq eQ eX0 eX1 eX2 eX3
  replace nP := nP.bel hb
  replace rP := rP.below hb
  replace nQ := nQ.bel hb
  replace rQ := rQ.below hb
  replace nX := nX.below hb
  replace rX := rX.below hb
  replace nY := nY.below hb
  replace rY := rY.below hb
  replace nS := nS.bel hb
  replace rS := rS.below hb
  replace nT := nT.bel hb
  replace rT := rT.below hb
  replace nA := nA.below hb
  replace rA := rA.below hb
  replace M := hidD (M.out.trans (hb.mono M.out.size))
  clear hb
  have hA : Below w8.heap.size w8 (w8.alloc (.cells #[.bool s8, .slice a8 l8 c8, .bool t8, .slice b8 k8 d8] 38)) := (Below.refl _ w8).alloc (Nat.le_refl _) _
  have nB := Box4.new w8 38 (.bool s8) (.slice a8 l8 c8) (.bool t8) (.slice b8 k8 d8)
  have rB := hu.below hA
  replace nP := nP.bel hA
  replace rP := rP.below hA
  replace nQ := nQ.bel hA
  replace rQ := rQ.below hA
  replace nX := nX.below hA
  replace rX := rX.below hA
  replace nY := nY.below hA
  replace rY := rY.below hA
  replace nS := nS.bel hA
  replace rS := rS.below hA
  replace nT := nT.bel hA
  replace rT := rT.below hA
  replace nA := nA.below hA
  replace rA := rA.below hA
  replace M := hidD (M.out.trans (hA.mono M.out.size))
  clear hA
  obtain ⟨VB, hV⟩ : ∃ V, w8.alloc (.cells #[.bool s8, .slice a8 l8 c8, .bool t8, .slice b8 k8 d8] 38) = V := ⟨_, rfl⟩
  obtain ⟨BB, hB⟩ : ∃ B, w8.heap.size = B := ⟨_, rfl⟩
  rw [hV] at nP rP nQ rQ nX rX nY rY nS rS nT rT nA rA rB M
  rw [hV, hB] at nB
  rw [hV]
  rw [hB]
  clear hV hB
  clear hu
  have H1 := hidD (fun (V : World) (h : Below VB.heap.size VB V) => qplus_c _ _ _ _ V (rA.below h) (rB.below h) HOK.out.EP HOK.out.EQ)
  have hq : Below VB.heap.size VB VB := Below.refl _ _
  have eA0 := (nA.below hq).c0
  have eA1 := (nA.below hq).c1
  have eA2 := (nA.below hq).c2
  have eA3 := (nA.below hq).c3
  have eB0 := (nB.below hq).c0
  have eB1 := (nB.below hq).c1
  have eB2 := (nB.below hq).c2
  have eB3 := (nB.below hq).c3
  go_upto_region 10 with (go_at_call 40; refine (H1.out _ hq).mono ?_; clear H1; rintro e w9 ⟨u, rfl, hu, hb⟩; obtain ⟨s9, a9, l9, c9, t9, b9, k9, d9, rfl⟩ := IsRat.form hu)
  replace hb := Below.then hq hb
  clear hq eA0 eA1 eA2 eA3 eB0 eB1 eB2 eB3
  replace nP := nP.bel hb
  replace rP := rP.below hb
  replace nQ := nQ.bel hb
  replace rQ := rQ.below hb
  replace nX := nX.below hb
  replace rX := rX.below hb
  replace nY := nY.below hb
  replace rY := rY.below hb
  replace nS := nS.bel hb
  replace rS := rS.below hb
  replace nT := nT.bel hb
  replace rT := rT.below hb
  replace nA := nA.below hb
  replace rA := rA.below hb
  replace nB := nB.below hb
  replace rB := rB.below hb
  replace M := hidD (M.out.trans (hb.mono M.out.size))
  clear hb
  have hA : Below w9.heap.size w9 (w9.alloc (.cells #[.bool s9, .slice a9 l9 c9, .bool t9, .slice b9 k9 d9] 38)) := (Below.refl _ w9).alloc (Nat.le_refl _) _
  have nC := Box4.new w9 38 (.bool s9) (.slice a9 l9 c9) (.bool t9) (.slice b9 k9 d9)
  have rC := hu.below hA
  replace nP := nP.bel hA
  replace rP := rP.below hA
  replace nQ := nQ.bel hA
  replace rQ := rQ.below hA
  replace nX := nX.below hA
  replace rX := rX.below hA
  replace nY := nY.below hA
  replace rY := rY.below hA
  replace nS := nS.bel hA
  replace rS := rS.below hA
  replace nT := nT.bel hA
  replace rT := rT.below hA
  replace nA := nA.below hA
  replace rA := rA.below hA
  replace nB := nB.below hA
  replace rB := rB.below hA
  replace M := hidD (M.out.trans (hA.mono M.out.size))
  clear hA
  obtain ⟨VC, hV⟩ : ∃ V, w9.alloc (.cells #[.bool s9, .slice a9 l9 c9, .bool t9, .slice b9 k9 d9] 38) = V := ⟨_, rfl⟩
  obtain ⟨BC, hB⟩ : ∃ B, w9.heap.size = B := ⟨_, rfl⟩
  rw [hV] at nP rP nQ rQ nX rX nY rY nS rS nT rT nA rA nB rB rC M
  rw [hV, hB] at nC
  rw [hV]
  rw [hB]
  clear hV hB
  clear hu
  have H1 := hidD (fun (V : World) (h : Below VC.heap.size VC V) => qtimes_c _ _ _ _ V (rA.below h) (rB.below h) HOK.out.EP HOK.out.EQ)
  have hq : Below VC.heap.size VC VC := Below.refl _ _
  have eA0 := (nA.below hq).c0
  have eA1 := (nA.below hq).c1
  have eA2 := (nA.below hq).c2
  have eA3 := (nA.below hq).c3
  have eB0 := (nB.below hq).c0
  have eB1 := (nB.below hq).c1
  have eB2 := (nB.below hq).c2
  have eB3 := (nB.below hq).c3
  go_upto_region 11 with (go_at_call 41; refine (H1.out _ hq).mono ?_; clear H1; rintro e w10 ⟨u, rfl, hu, hb⟩; obtain ⟨s10, a10, l10, c10, t10, b10, k10, d10, rfl⟩ := IsRat.form hu)
  replace hb := Below.then hq hb
  clear hq eA0 eA1 eA2 eA3 eB0 eB1 eB2 eB3
  replace nP := nP.bel hb
  replace rP := rP.below hb
  replace nQ := nQ.bel hb
  replace rQ := rQ.below hb
  replace nX := nX.below hb
  replace rX := rX.below hb
  replace nY := nY.below hb
  replace rY := rY.below hb
  replace nS := nS.bel hb
  replace rS := rS.below hb
  replace nT := nT.bel hb
  replace rT := rT.below hb
  replace nA := nA.below hb
  replace rA := rA.below hb
  replace nB := nB.below hb
  replace rB := rB.below hb
  replace nC := nC.below hb
  replace rC := rC.below hb
  replace M := hidD (M.out.trans (hb.mono M.out.size))
  clear hb
  have hA : Below w10.heap.size w10 (w10.alloc (.cells #[.bool s10, .slice a10 l10 c10, .bool t10, .slice b10 k10 d10] 38)) := (Below.refl _ w10).alloc (Nat.le_refl _) _
  have nE := Box4.new w10 38 (.bool s10) (.slice a10 l10 c10) (.bool t10) (.slice b10 k10 d10)
  have rE := hu.below hA
  replace nP := nP.bel hA
  replace rP := rP.below hA
  replace nQ := nQ.bel hA
  replace rQ := rQ.below hA
  replace nX := nX.below hA
  replace rX := rX.below hA
  replace nY := nY.below hA
  replace rY := rY.below hA
  replace nS := nS.bel hA
  replace rS := rS.below hA
  replace nT := nT.bel hA
  replace rT := rT.below hA
  replace nA := nA.below hA
  replace rA := rA.below hA
  replace nB := nB.below hA
  replace rB := rB.below hA
  replace nC := nC.below hA
  replace rC := rC.below hA
  replace M := hidD (M.out.trans (hA.mono M.out.size))
  clear hA
  obtain ⟨VE, hV⟩ : ∃ V, w10.alloc (.cells #[.bool s10, .slice a10 l10 c10, .bool t10, .slice b10 k10 d10] 38) = V := ⟨_, rfl⟩
  obtain ⟨BE, hB⟩ : ∃ B, w10.heap.size = B := ⟨_, rfl⟩
  rw [hV] at nP rP nQ rQ nX rX nY rY nS rS nT rT nA rA nB rB nC rC rE M
  rw [hV, hB] at nE
  rw [hV]
  rw [hB]
  clear hV hB
  clear hu
  clear nA rA nB rB
  have H1 := hidD (fun (V : World) (h : Below VE.heap.size VE V) => M3.yAt_c _ _ (addQ ps qs) x V (rS.below h).isPoly (rX.below h) HOK.out.S HOK.out.X HOK.out.AS)
  have hq : Below VE.heap.size VE VE := Below.refl _ _
  have eS := (nS.bel hq).cell
  have eX0 := (nX.below hq).c0
  have eX1 := (nX.below hq).c1
  have eX2 := (nX.below hq).c2
  have eX3 := (nX.below hq).c3
  go_upto_region 12 with (go_at_call 34; refine (H1.out _ hq).mono ?_; clear H1; rintro e w11 ⟨u, rfl, hu, hb⟩; rw [ev_addQ] at hu; obtain ⟨s11, a11, l11, c11, t11, b11, k11, d11, rfl⟩ := IsRat.form hu)
  replace hb := Below.then hq hb
  clear hq eS eX0 eX1 eX2 eX3
  replace nP := nP.bel hb
  replace rP := rP.below hb
  replace nQ := nQ.bel hb
  replace rQ := rQ.below hb
  replace nX := nX.below hb
  replace rX := rX.below hb
  replace nY := nY.below hb
  replace rY := rY.below hb
  replace nS := nS.bel hb
  replace rS := rS.below hb
  replace nT := nT.bel hb
  replace rT := rT.below hb
  replace nC := nC.below hb
  replace rC := rC.below hb
  replace nE := nE.below hb
  replace rE := rE.below hb
  replace M := hidD (M.out.trans (hb.mono M.out.size))
  clear hb
  have hA : Below w11.heap.size w11 (w11.alloc (.cells #[.bool s11, .slice a11 l11 c11, .bool t11, .slice b11 k11 d11] 38)) := (Below.refl _ w11).alloc (Nat.le_refl _) _
  have nG := Box4.new w11 38 (.bool s11) (.slice a11 l11 c11) (.bool t11) (.slice b11 k11 d11)
  have rG := hu.below hA
  replace nP := nP.bel hA
  replace rP := rP.below hA
  replace nQ := nQ.bel hA
  replace rQ := rQ.below hA
  replace nX := nX.below hA
  replace rX := rX.below hA
  replace nY := nY.below hA
  replace rY := rY.below hA
  replace nS := nS.bel hA
  replace rS := rS.below hA
  replace nT := nT.bel hA
  replace rT := rT.below hA
  replace nC := nC.below hA
  replace rC := rC.below hA
  replace nE := nE.below hA
  replace rE := rE.below hA
  replace M := hidD (M.out.trans (hA.mono M.out.size))
  clear hA
  obtain ⟨VG, hV⟩ : ∃ V, w11.alloc (.cells #[.bool s11, .slice a11 l11 c11, .bool t11, .slice b11 k11 d11] 38) = V := ⟨_, rfl⟩
  obtain ⟨BG, hB⟩ : ∃ B, w11.heap.size = B := ⟨_, rfl⟩
  rw [hV] at nP rP nQ rQ nX rX nY rY nS rS nT rT nC rC nE rE rG M
  rw [hV, hB] at nG
  rw [hV]
  rw [hB]
  clear hV hB
  clear hu
  have H1 := hidD (fun (V : World) (h : Below VG.heap.size VG V) => M3.yAt_c _ _ (mulQ ps qs) x V (rT.below h).isPoly (rX.below h) HOK.out.T HOK.out.X HOK.out.AT)
  have hq : Below VG.heap.size VG VG := Below.refl _ _
  have eT := (nT.bel hq).cell
  have eX0 := (nX.below hq).c0
  have eX1 := (nX.below hq).c1
  have eX2 := (nX.below hq).c2
  have eX3 := (nX.below hq).c3
  go_upto_region 13 with (go_at_call 34; refine (H1.out _ hq).mono ?_; clear H1; rintro e w12 ⟨u, rfl, hu, hb⟩; rw [ev_mulQ] at hu; obtain ⟨s12, a12, l12, c12, t12, b12, k12, d12, rfl⟩ := IsRat.form hu)
  replace hb := Below.then hq hb
  clear hq eT eX0 eX1 eX2 eX3
  replace nP := nP.bel hb
  replace rP := rP.below hb
  replace nQ := nQ.bel hb
  replace rQ := rQ.below hb
  replace nX := nX.below hb
  replace rX := rX.below hb
  replace nY := nY.below hb
  replace rY := rY.below hb
  replace nS := nS.bel hb
  replace rS := rS.below hb
  replace nT := nT.bel hb
  replace rT := rT.below hb
  replace nC := nC.below hb
  replace rC := rC.below hb
  replace nE := nE.below hb
  replace rE := rE.below hb
  replace nG := nG.below hb
  replace rG := rG.below hb
  replace M := hidD (M.out.trans (hb.mono M.out.size))
  clear hb
  have hA : Below w12.heap.size w12 (w12.alloc (.cells #[.bool s12, .slice a12 l12 c12, .bool t12, .slice b12 k12 d12] 38)) := (Below.refl _ w12).alloc (Nat.le_refl _) _
  have nI := Box4.new w12 38 (.bool s12) (.slice a12 l12 c12) (.bool t12) (.slice b12 k12 d12)
  have rI := hu.below hA
  replace nP := nP.bel hA
  replace rP := rP.below hA
  replace nQ := nQ.bel hA
  replace rQ := rQ.below hA
  replace nX := nX.below hA
  replace rX := rX.below hA
  replace nY := nY.below hA
  replace rY := rY.below hA
  replace nS := nS.bel hA
  replace rS := rS.below hA
  replace nT := nT.bel hA
  replace rT := rT.below hA
  replace nC := nC.below hA
  replace rC := rC.below hA
  replace nE := nE.below hA
  replace rE := rE.below hA
  replace nG := nG.below hA
  replace rG := rG.below hA
  replace M := hidD (M.out.trans (hA.mono M.out.size))
  clear hA
  obtain ⟨VI, hV⟩ : ∃ V, w12.alloc (.cells #[.bool s12, .slice a12 l12 c12, .bool t12, .slice b12 k12 d12] 38) = V := ⟨_, rfl⟩
  obtain ⟨BI, hB⟩ : ∃ B, w12.heap.size = B := ⟨_, rfl⟩
  rw [hV] at nP rP nQ rQ nX rX nY rY nS rS nT rT nC rC nE rE nG rG rI M
  rw [hV, hB] at nI
  rw [hV]
  rw [hB]
  clear hV hB
  clear hu
  clear nS rS
  have H1 := hidD (fun (V : World) (h : Below VI.heap.size VI V) => qorder_c _ _ _ _ V (rG.below h) (rC.below h) HOK.out.ES HOK.out.ES)
  rw [cmpQ_self] at H1
  have H2 := hidD (fun (V : World) (h : Below VI.heap.size VI V) => qorder_c _ _ _ _ V (rI.below h) (rE.below h) HOK.out.ET HOK.out.ET)
  rw [cmpQ_self] at H2
  have hq : Below VI.heap.size VI VI := Below.refl _ _
  have eG0 := (nG.below hq).c0
  have eG1 := (nG.below hq).c1
  have eG2 := (nG.below hq).c2
  have eG3 := (nG.below hq).c3
  have eC0 := (nC.below hq).c0
  have eC1 := (nC.below hq).c1
  have eC2 := (nC.below hq).c2
  have eC3 := (nC.below hq).c3
  have eI0 := (nI.below hq).c0
  have eI1 := (nI.below hq).c1
  have eI2 := (nI.below hq).c2
  have eI3 := (nI.below hq).c3
  have eE0 := (nE.below hq).c0
  have eE1 := (nE.below hq).c1
  have eE2 := (nE.below hq).c2
  have eE3 := (nE.below hq).c3
  go_upto_region 15 with (first
    | (go_at_call 42; refine (H1.out _ hq).mono ?_; clear H1; rintro e x1 ⟨rfl, hb⟩; replace hq := Below.then hq hb; clear hb eG0 eG1 eG2 eG3 eC0 eC1 eC2 eC3 eI0 eI1 eI2 eI3 eE0 eE1 eE2 eE3; have eG0 := (nG.below hq).c0; have eG1 := (nG.below hq).c1; have eG2 := (nG.below hq).c2; have eG3 := (nG.below hq).c3; have eC0 := (nC.below hq).c0; have eC1 := (nC.below hq).c1; have eC2 := (nC.below hq).c2; have eC3 := (nC.below hq).c3; have eI0 := (nI.below hq).c0; have eI1 := (nI.below hq).c1; have eI2 := (nI.below hq).c2; have eI3 := (nI.below hq).c3; have eE0 := (nE.below hq).c0; have eE1 := (nE.below hq).c1; have eE2 := (nE.below hq).c2; have eE3 := (nE.below hq).c3)
    | (go_at_call 42; refine (H2.out _ hq).mono ?_; clear H2; rintro e x2 ⟨rfl, hb⟩; replace hq := Below.then hq hb; clear hb eG0 eG1 eG2 eG3 eC0 eC1 eC2 eC3 eI0 eI1 eI2 eI3 eE0 eE1 eE2 eE3; have eG0 := (nG.below hq).c0; have eG1 := (nG.below hq).c1; have eG2 := (nG.below hq).c2; have eG3 := (nG.below hq).c3; have eC0 := (nC.below hq).c0; have eC1 := (nC.below hq).c1; have eC2 := (nC.below hq).c2; have eC3 := (nC.below hq).c3; have eI0 := (nI.below hq).c0; have eI1 := (nI.below hq).c1; have eI2 := (nI.below hq).c2; have eI3 := (nI.below hq).c3; have eE0 := (nE.below hq).c0; have eE1 := (nE.below hq).c1; have eE2 := (nE.below hq).c2; have eE3 := (nE.below hq).c3))
  clear eG0 eG1 eG2 eG3 eC0 eC1 eC2 eC3 eI0 eI1 eI2 eI3 eE0 eE1 eE2 eE3
  replace nP := nP.bel hq
  replace rP := rP.below hq
  replace nQ := nQ.bel hq
  replace rQ := rQ.below hq
  replace nX := nX.below hq
  replace rX := rX.below hq
  replace nY := nY.below hq
  replace rY := rY.below hq
  replace nT := nT.bel hq
  replace rT := rT.below hq
  replace nC := nC.below hq
  replace rC := rC.below hq
  replace nE := nE.below hq
  replace rE := rE.below hq
  replace nG := nG.below hq
  replace rG := rG.below hq
  replace nI := nI.below hq
  replace rI := rI.below hq
  replace M := hidD (M.out.trans (hq.mono M.out.size))
  clear hq
  clear nG rG nC rC nI rI nE rE
  have H1 := hidD (fun (V : World) (h : Below x2.heap.size x2 V) => HSP2.out V _ _ (rP.below h).isPoly (rQ.below h).isPoly)
  have hq : Below x2.heap.size x2 x2 := Below.refl _ _
  have eP := (nP.bel hq).cell
  have eQ := (nQ.bel hq).cell
  go_upto_region 16 with (go_at_call 29; refine (H1.out _ hq).mono ?_; clear H1; rintro e w15 ⟨u, v, rfl, hu, hv, hb⟩; obtain ⟨a15, l15, c15, rfl⟩ := hu.form; obtain ⟨a16, l16, c16, rfl⟩ := hv.form)
  replace hb := Below.then hq hb
  clear hq eP eQ HSP2
  replace nP := nP.bel hb
  replace rP := rP.below hb
  replace nQ := nQ.bel hb
  replace rQ := rQ.below hb
  replace nX := nX.below hb
  replace rX := rX.below hb
  replace nY := nY.below hb
  replace rY := rY.below hb
  replace nT := nT.bel hb
  replace rT := rT.below hb
  replace M := hidD (M.out.trans (hb.mono M.out.size))
  clear hb
  have hA : Below w15.heap.size w15 ((w15.alloc (.cells #[.slice a15 l15 c15] 25)).alloc (.cells #[.slice a16 l16 c16] 25)) := ((Below.refl _ w15).alloc (Nat.le_refl _) _).alloc (by rw [World.size_alloc]; omega) _
  have nD := (Boxed.new w15 25 (.slice a15 l15 c15)).alloc (.cells #[.slice a16 l16 c16] 25)
  have nR := Boxed.new (w15.alloc (.cells #[.slice a15 l15 c15] 25)) 25 (.slice a16 l16 c16)
  rw [World.size_alloc] at nR
  have rD := hu.row.below hA
  have rR := hv.row.below hA
  replace nP := nP.bel hA
  replace rP := rP.below hA
  replace nQ := nQ.bel hA
  replace rQ := rQ.below hA
  replace nX := nX.below hA
  replace rX := rX.below hA
  replace nY := nY.below hA
  replace rY := rY.below hA
  replace nT := nT.bel hA
  replace rT := rT.below hA
  replace M := hidD (M.out.trans (hA.mono M.out.size))
  clear hA
  obtain ⟨VS, hV⟩ : ∃ V, (w15.alloc (.cells #[.slice a15 l15 c15] 25)).alloc (.cells #[.slice a16 l16 c16] 25) = V := ⟨_, rfl⟩
  obtain ⟨BD, hB⟩ : ∃ B, w15.heap.size = B := ⟨_, rfl⟩
  rw [hV] at nP rP nQ rQ nX rX nY rY nT rT rD rR M
  rw [hV, hB] at nD nR
  rw [hV]
  rw [hB]
  clear hV hB hu hv
  clear nD rD nR rR
  go_upto_region 21 with fail
  have H1 := hidD (fun (V : World) (h : Below VS.heap.size VS V) => M3.ySlope_c _ ps V (rP.below h).isPoly HOK.out.P HOK.out.FP)
  have hq : Below VS.heap.size VS VS := Below.refl _ _
  have eP := (nP.bel hq).cell
  go_upto_region 22 with (go_at_call 35; refine (H1.out _ hq).mono ?_; clear H1; rintro e w21 ⟨u, rfl, hu, hb⟩; obtain ⟨a21, l21, c21, rfl⟩ := hu.form)
  replace hb := Below.then hq hb
  clear hq eP
  replace nP := nP.bel hb
  replace rP := rP.below hb
  replace nQ := nQ.bel hb
  replace rQ := rQ.below hb
  replace nX := nX.below hb
  replace rX := rX.below hb
  replace nY := nY.below hb
  replace rY := rY.below hb
  replace nT := nT.bel hb
  replace rT := rT.below hb
  replace M := hidD (M.out.trans (hb.mono M.out.size))
  clear hb
  have hA : Below w21.heap.size w21 (w21.alloc (.cells #[.slice a21 l21 c21] 25)) := (Below.refl _ w21).alloc (Nat.le_refl _) _
  have nN := Boxed.new w21 25 (.slice a21 l21 c21)
  have rN := hu.row.below hA
  replace nP := nP.bel hA
  replace rP := rP.below hA
  replace nQ := nQ.bel hA
  replace rQ := rQ.below hA
  replace nX := nX.below hA
  replace rX := rX.below hA
  replace nY := nY.below hA
  replace rY := rY.below hA
  replace nT := nT.bel hA
  replace rT := rT.below hA
  replace M := hidD (M.out.trans (hA.mono M.out.size))
  clear hA
  obtain ⟨VN, hV⟩ : ∃ V, w21.alloc (.cells #[.slice a21 l21 c21] 25) = V := ⟨_, rfl⟩
  obtain ⟨BN, hB⟩ : ∃ B, w21.heap.size = B := ⟨_, rfl⟩
  rw [hV] at nP rP nQ rQ nX rX nY rY nT rT rN M
  rw [hV, hB] at nN
  rw [hV]
  rw [hB]
  clear hV hB
  clear hu
  have H1 := hidD (fun (V : World) (h : Below VN.heap.size VN V) => M3.ySlope_c _ qs V (rQ.below h).isPoly HOK.out.Q HOK.out.FQ)
  have hq : Below VN.heap.size VN VN := Below.refl _ _
  have eQ := (nQ.bel hq).cell
  go_upto_region 23 with (go_at_call 35; refine (H1.out _ hq).mono ?_; clear H1; rintro e w22 ⟨u, rfl, hu, hb⟩; obtain ⟨a22, l22, c22, rfl⟩ := hu.form)
  replace hb := Below.then hq hb
  clear hq eQ
  replace nP := nP.bel hb
  replace rP := rP.below hb
  replace nQ := nQ.bel hb
  replace rQ := rQ.below hb
  replace nX := nX.below hb
  replace rX := rX.below hb
  replace nY := nY.below hb
  replace rY := rY.below hb
  replace nT := nT.bel hb
  replace rT := rT.below hb
  replace nN := nN.bel hb
  replace rN := rN.below hb
  replace M := hidD (M.out.trans (hb.mono M.out.size))
  clear hb
  have hA : Below w22.heap.size w22 (w22.alloc (.cells #[.slice a22 l22 c22] 25)) := (Below.refl _ w22).alloc (Nat.le_refl _) _
  have nJ := Boxed.new w22 25 (.slice a22 l22 c22)
  have rJ := hu.row.below hA
  replace nP := nP.bel hA
  replace rP := rP.below hA
  replace nQ := nQ.bel hA
  replace rQ := rQ.below hA
  replace nX := nX.below hA
  replace rX := rX.below hA
  replace nY := nY.below hA
  replace rY := rY.below hA
  replace nT := nT.bel hA
  replace rT := rT.below hA
  replace nN := nN.bel hA
  replace rN := rN.below hA
  replace M := hidD (M.out.trans (hA.mono M.out.size))
  clear hA
  obtain ⟨VJ, hV⟩ : ∃ V, w22.alloc (.cells #[.slice a22 l22 c22] 25) = V := ⟨_, rfl⟩
  obtain ⟨BJ, hB⟩ : ∃ B, w22.heap.size = B := ⟨_, rfl⟩
  rw [hV] at nP rP nQ rQ nX rX nY rY nT rT nN rN rJ M
  rw [hV, hB] at nJ
  rw [hV]
  rw [hB]
  clear hV hB
  clear hu
  have H1 := hidD (fun (V : World) (h : Below VJ.heap.size VJ V) => M3.yTimes_c _ _ (slopeQ ps) qs V (rN.below h).isPoly (rQ.below h).isPoly HOK.out.LP HOK.out.Q HOK.out.T1 (by have := HOK.out.lU; have := HOK.out.lQ; omega))
  have hq : Below VJ.heap.size VJ VJ := Below.refl _ _
  have eN := (nN.bel hq).cell
  have eQ := (nQ.bel hq).cell
  go_upto_region 24 with (go_at_call 28; refine (H1.out _ hq).mono ?_; clear H1; rintro e w23 ⟨u, rfl, hu, -, hb⟩; obtain ⟨a23, l23, c23, rfl⟩ := hu.form)
  replace hb := Below.then hq hb
  clear hq eN eQ
  replace nP := nP.bel hb
  replace rP := rP.below hb
  replace nQ := nQ.bel hb
  replace rQ := rQ.below hb
  replace nX := nX.below hb
  replace rX := rX.below hb
  replace nY := nY.below hb
  replace rY := rY.below hb
  replace nT := nT.bel hb
  replace rT := rT.below hb
  replace nN := nN.bel hb
  replace rN := rN.below hb
  replace nJ := nJ.bel hb
  replace rJ := rJ.below hb
  replace M := hidD (M.out.trans (hb.mono M.out.size))
  clear hb
  have hK0 : Below w23.heap.size w23 (w23.alloc (.cells #[.slice a23 l23 c23] 25)) := (Below.refl _ w23).alloc (Nat.le_refl _) _
  have nU := Boxed.new w23 25 (.slice a23 l23 c23)
  have rU := hu.row.below hK0
  obtain ⟨VU, hV⟩ : ∃ V, w23.alloc (.cells #[.slice a23 l23 c23] 25) = V := ⟨_, rfl⟩
  obtain ⟨BU, hB⟩ : ∃ B, w23.heap.size = B := ⟨_, rfl⟩
  have hBl : w23.heap.size ≤ BU := Nat.le_of_eq hB
  have HBL := hidD hBl
  clear hBl
  rw [hV] at hK0 rU
  rw [hV, hB] at nU
  rw [hV]
  rw [hB]
  clear hV hB
  clear hu
  have ST0 : AgU w23 VU.drew BU (mulQ (slopeQ ps) qs) := ⟨Abv.below hK0 (Abv.drew VU), HBL.out, _, _, _, nU.bel (Abv.drew VU), rU.below (Abv.drew VU)⟩
  clear nU rU
  refine wp_region_tab hmx [[], [], [], [1, 2], [0, 3, 3], [4, 4, 0, 1, 2, 3, 4]] (by kernel_rfl) (by decide)
    (fun D act V => ∃ (t109x t110x t111x t112x t113x : Value), act = { tmps := #[.string s, .string t, .string xs, .string ys, undef, undef, undef, undef, .bool false, .pointer (some { block := BP, off := 0 }), .pointer (some { block := BQ, off := 0 }), .pointer (some { block := BX, off := 0 }), .pointer (some { block := BY, off := 0 }), .pointer (some { block := BS, off := 0 }), .pointer (some { block := BT, off := 0 }), .pointer (some { block := BA, off := 0 }), .pointer (some { block := BB, off := 0 }), .pointer (some { block := BC, off := 0 }), .pointer (some { block := BE, off := 0 }), .pointer (some { block := BG, off := 0 }), .pointer (some { block := BI, off := 0 }), .pointer (some { block := BD, off := 0 }), .pointer (some { block := BD + 1, off := 0 }), .bool false, undef, .pointer (some { block := BN, off := 0 }), .pointer (some { block := BJ, off := 0 }), .pointer (some { block := BU, off := 0 }), undef, undef, undef, undef, undef, undef, .string s, .agg #[.slice a1 l1 c1], .string t, .agg #[.slice a2 l2 c2], .string xs, .agg #[.bool s3, .slice a3 l3 c3, .bool t3, .slice b3 k3 d3], .string ys, .agg #[.bool s4, .slice a4 l4 c4, .bool t4, .slice b4 k4 d4], .agg #[.slice a1 l1 c1], .agg #[.slice a2 l2 c2], .agg #[.slice a5 l5 c5], .agg #[.slice a1 l1 c1], .agg #[.slice a2 l2 c2], .agg #[.slice a6 l6 c6], .agg #[.slice a1 l1 c1], .agg #[.bool s3, .slice a3 l3 c3, .bool t3, .slice b3 k3 d3], .agg #[.bool s7, .slice a7 l7 c7, .bool t7, .slice b7 k7 d7], .agg #[.slice a2 l2 c2], .agg #[.bool s3, .slice a3 l3 c3, .bool t3, .slice b3 k3 d3], .agg #[.bool s8, .slice a8 l8 c8, .bool t8, .slice b8 k8 d8], .agg #[.bool s7, .slice a7 l7 c7, .bool t7, .slice b7 k7 d7], .agg #[.bool s8, .slice a8 l8 c8, .bool t8, .slice b8 k8 d8], .agg #[.bool s9, .slice a9 l9 c9, .bool t9, .slice b9 k9 d9], .agg #[.bool s7, .slice a7 l7 c7, .bool t7, .slice b7 k7 d7], .agg #[.bool s8, .slice a8 l8 c8, .bool t8, .slice b8 k8 d8], .agg #[.bool s10, .slice a10 l10 c10, .bool t10, .slice b10 k10 d10], .agg #[.slice a5 l5 c5], .agg #[.bool s3, .slice a3 l3 c3, .bool t3, .slice b3 k3 d3], .agg #[.bool s11, .slice a11 l11 c11, .bool t11, .slice b11 k11 d11], .agg #[.slice a6 l6 c6], .agg #[.bool s3, .slice a3 l3 c3, .bool t3, .slice b3 k3 d3], .agg #[.bool s12, .slice a12 l12 c12, .bool t12, .slice b12 k12 d12], .agg #[.bool s11, .slice a11 l11 c11, .bool t11, .slice b11 k11 d11], .agg #[.bool s9, .slice a9 l9 c9, .bool t9, .slice b9 k9 d9], .int .i64 0, .bool false, .bool false, .agg #[.bool s12, .slice a12 l12 c12, .bool t12, .slice b12 k12 d12], .agg #[.bool s10, .slice a10 l10 c10, .bool t10, .slice b10 k10 d10], .int .i64 0, .bool false, .bool false, .tuple #[.agg #[.slice a15 l15 c15], .agg #[.slice a16 l16 c16], .bool false], .agg #[.slice a1 l1 c1], .agg #[.slice a2 l2 c2], .tuple #[.agg #[.slice a15 l15 c15], .agg #[.slice a16 l16 c16], .bool false], .agg #[.slice a15 l15 c15], .agg #[.slice a16 l16 c16], .bool false, .bool false, undef, undef, undef, undef, undef, undef, undef, undef, undef, undef, undef, undef, undef, undef, undef, undef, undef, undef, .agg #[.slice a1 l1 c1], .agg #[.slice a21 l21 c21], .agg #[.slice a2 l2 c2], .agg #[.slice a22 l22 c22], .agg #[.slice a21 l21 c21], .agg #[.slice a2 l2 c2], .agg #[.slice a23 l23 c23], t109x, t110x, t111x, t112x, t113x, undef, undef, undef, undef, undef, undef, undef, undef, undef, undef, undef, undef, undef, undef, undef, undef, undef, undef, undef, undef, undef, undef, undef, undef, undef, undef, undef, undef, undef, undef, undef, undef, undef, undef, undef, undef, undef, undef, undef, undef, undef, undef, undef, undef, undef], defers := [] } ∧ Hid ((D 0 = true → D 5 = false → IsPoly V t109x (mulQ (slopeQ ps) qs)) ∧ (D 1 = true → t110x = .agg #[.slice a1 l1 c1]) ∧ (D 2 = true → t111x = .agg #[.slice a22 l22 c22]) ∧ (D 3 = true → D 5 = false → IsPoly V t112x (mulQ ps (slopeQ qs))) ∧ (D 4 = true → D 5 = false → IsPoly V t113x (slopeQ (mulQ ps qs)))) ∧ Hid ((D 5 = false → AgU w23 V BU (mulQ (slopeQ ps) qs)) ∧ (D 5 = true → AgU w23 V BU (slopeQ (mulQ ps qs)))))
    ⟨_, _, _, _, _, rfl, hidD ⟨by simp, by simp, by simp, by simp, by simp⟩, hidD ⟨fun _ => ST0, by simp⟩⟩ ?step3 ?fin3
  case step3 =>
    rintro D act V i ds hcl hi hds hDi ⟨t109x, t110x, t111x, t112x, t113x, rfl, GG, SS0⟩
    have hi6 : i < 6 := (List.getElem?_eq_some_iff.1 hi).1
    obtain rfl | rfl | rfl | rfl | rfl | rfl : i = 0 ∨ i = 1 ∨ i = 2 ∨ i = 3 ∨ i = 4 ∨ i = 5 := by omega
    all_goals
      simp only [List.getElem?_cons_zero, List.getElem?_cons_succ, Option.some.injEq] at hi
      subst hi
    · have hf0 : D 5 = false := by
        cases h : D 5 with
        | false => rfl
        | true => rw [(hcl 5 _ rfl h 0 (by simp))] at hDi; cases hDi
      have hS0 := SS0.out.1 hf0
      obtain ⟨hA, hl9, a9, l9, c9, n9, r9⟩ := id hS0
      have e0 := n9.cell
      clear hds
      refine wpOp_go rfl rfl (fun K hK => ?_)
      go_simp
      exact hK _ _ ⟨_, _, _, _, _, rfl, hidD ⟨fun _ _ => r9.isPoly, GG.out.2.1, GG.out.2.2.1, fun h h2 => (GG.out.2.2.2.1 h (by simpa using h2)), fun h h2 => (GG.out.2.2.2.2 h (by simpa using h2))⟩, hidD ⟨fun h => (SS0.out.1 (by simpa using h)), fun h => (SS0.out.2 (by simpa using h))⟩⟩
    · have hf0 : D 5 = false := by
        cases h : D 5 with
        | false => rfl
        | true => rw [(hcl 5 _ rfl h 1 (by simp))] at hDi; cases hDi
      have hS0 := SS0.out.1 hf0
      have eP := (nP.bel hS0.1).cell
      clear hds
      refine wpOp_go rfl rfl (fun K hK => ?_)
      go_simp
      exact hK _ _ ⟨_, _, _, _, _, rfl, hidD ⟨fun h h2 => (GG.out.1 h (by simpa using h2)), fun _ => rfl, GG.out.2.2.1, fun h h2 => (GG.out.2.2.2.1 h (by simpa using h2)), fun h h2 => (GG.out.2.2.2.2 h (by simpa using h2))⟩, hidD ⟨fun h => (SS0.out.1 (by simpa using h)), fun h => (SS0.out.2 (by simpa using h))⟩⟩
    · have hf0 : D 5 = false := by
        cases h : D 5 with
        | false => rfl
        | true => rw [(hcl 5 _ rfl h 2 (by simp))] at hDi; cases hDi
      have hS0 := SS0.out.1 hf0
      have eJ := (nJ.bel hS0.1).cell
      clear hds
      refine wpOp_go rfl rfl (fun K hK => ?_)
      go_simp
      exact hK _ _ ⟨_, _, _, _, _, rfl, hidD ⟨fun h h2 => (GG.out.1 h (by simpa using h2)), GG.out.2.1, fun _ => rfl, fun h h2 => (GG.out.2.2.2.1 h (by simpa using h2)), fun h h2 => (GG.out.2.2.2.2 h (by simpa using h2))⟩, hidD ⟨fun h => (SS0.out.1 (by simpa using h)), fun h => (SS0.out.2 (by simpa using h))⟩⟩
    · have hf0 : D 5 = false := by
        cases h : D 5 with
        | false => rfl
        | true => rw [(hcl 5 _ rfl h 3 (by simp))] at hDi; cases hDi
      have hS0 := SS0.out.1 hf0
      obtain rfl := GG.out.2.1 (hds 1 (by simp))
      obtain rfl := GG.out.2.2.1 (hds 2 (by simp))
      clear hds
      have HC := hidD (M3.yTimes_c _ _ ps (slopeQ qs) V (rP.below hS0.1).isPoly (rJ.below hS0.1).isPoly HOK.out.P HOK.out.LQ HOK.out.T2 (by have := HOK.out.lP; have := HOK.out.lV; omega))
      refine wpOp_go rfl rfl (fun K hK => ?_)
      go_simp
      go_wp2_with (go_at_call 28; refine HC.out.mono ?_; rintro e w5 ⟨v5, rfl, hv5, _, hb5⟩)
      exact ⟨_, _, _, _, _, rfl, hidD ⟨fun h h2 => (GG.out.1 h (by simpa using h2)).below hb5, fun _ => rfl, fun _ => rfl, fun _ _ => hv5, fun h h2 => (GG.out.2.2.2.2 h (by simpa using h2)).below hb5⟩, hidD ⟨fun h => (SS0.out.1 (by simpa using h)).below hb5, fun h => (SS0.out.2 (by simpa using h)).below hb5⟩⟩
    · have hf0 : D 5 = false := by
        cases h : D 5 with
        | false => rfl
        | true => rw [(hcl 5 _ rfl h 4 (by simp))] at hDi; cases hDi
      have hS0 := SS0.out.1 hf0
      have h0 := GG.out.1 (hds 0 (by simp)) hf0
      have h1 := GG.out.2.2.2.1 (hds 3 (by simp)) hf0
      clear hds
      have HC := hidD (yPlus_c _ _ _ _ V h0 h1 HOK.out.U1 HOK.out.U2 (by rw [← slope_mul]; exact HOK.out.LT))
      rw [← slope_mul] at HC
      clear h0 h1
      refine wpOp_go rfl rfl (fun K hK => ?_)
      go_simp
      go_wp2_with (go_at_call 26; refine HC.out.mono ?_; rintro e w5 ⟨v5, rfl, hv5, _, hb5⟩)
      exact ⟨_, _, _, _, _, rfl, hidD ⟨fun h h2 => (GG.out.1 h (by simpa using h2)).below hb5, GG.out.2.1, GG.out.2.2.1, fun h h2 => (GG.out.2.2.2.1 h (by simpa using h2)).below hb5, fun _ _ => hv5⟩, hidD ⟨fun h => (SS0.out.1 (by simpa using h)).below hb5, fun h => (SS0.out.2 (by simpa using h)).below hb5⟩⟩
    · have hS0 := SS0.out.1 hDi
      have h0 := GG.out.2.2.2.2 (hds 4 (by simp)) hDi
      obtain ⟨hA, hl9, a9, l9, c9, n9, r9⟩ := id hS0
      obtain ⟨a8, l8, c8, rfl⟩ := IsPoly.form h0
      have e0 := n9.cell
      have f0 := n9.frozen
      clear hds
      refine wpOp_go rfl rfl (fun K hK => ?_)
      go_simp
      exact hK _ _ ⟨_, _, _, _, _, rfl, hidD ⟨fun _ h => by simp at h, GG.out.2.1, GG.out.2.2.1, fun _ h => by simp at h, fun _ h => by simp at h⟩, hidD ⟨fun h => by simp at h, fun _ => ⟨Below.setCell hA (p := ⟨BU, 0, none⟩) hl9 _, hl9, _, _, _, n9.set _, boxP n9 _ h0.row⟩⟩⟩
  case fin3 =>
    rintro D act V24 hDD ⟨t109x, t110x, t111x, t112x, t113x, rfl, GG, SS0⟩
    obtain ⟨hA, hl9, a24, l24, c24, nU, rU⟩ := SS0.out.2 (hDD 5 (by decide))
    have hb : Below w23.heap.size w23 V24 := hA
    clear GG SS0 hDD ST0 hA hl9 hK0 HBL
    replace nP := nP.bel hb
    replace rP := rP.below hb
    replace nQ := nQ.bel hb
    replace rQ := rQ.below hb
    replace nX := nX.below hb
    replace rX := rX.below hb
    replace nY := nY.below hb
    replace rY := rY.below hb
    replace nT := nT.bel hb
    replace rT := rT.below hb
    replace nN := nN.bel hb
    replace rN := rN.below hb
    replace nJ := nJ.bel hb
    replace rJ := rJ.below hb
    replace M := hidD (M.out.trans (hb.mono M.out.size))
    clear hb
    clear nN rN nJ rJ nQ rQ
    have H1 := hidD (fun (V : World) (h : Below V24.heap.size V24 V) => M3.ySlope_c _ _ V (rT.below h).isPoly HOK.out.T HOK.out.FT)
    have hq : Below V24.heap.size V24 V24 := Below.refl _ _
    have eT := (nT.bel hq).cell
    go_upto_region 26 with (go_at_call 35; refine (H1.out _ hq).mono ?_; clear H1; rintro e w25 ⟨u, rfl, hu, hb⟩; obtain ⟨a25, l25, c25, rfl⟩ := hu.form)
    replace hb := Below.then hq hb
    clear hq eT
    replace nP := nP.bel hb
    replace rP := rP.below hb
    replace nX := nX.below hb
    replace rX := rX.below hb
    replace nY := nY.below hb
    replace rY := rY.below hb
    replace nT := nT.bel hb
    replace rT := rT.below hb
    replace nU := nU.bel hb
    replace rU := rU.below hb
    replace M := hidD (M.out.trans (hb.mono M.out.size))
    clear hb
    have hA : Below w25.heap.size w25 (w25.alloc (.cells #[.slice a25 l25 c25] 25)) := (Below.refl _ w25).alloc (Nat.le_refl _) _
    have nZ := Boxed.new w25 25 (.slice a25 l25 c25)
    have rZ := hu.row.below hA
    replace nP := nP.bel hA
    replace rP := rP.below hA
    replace nX := nX.below hA
    replace rX := rX.below hA
    replace nY := nY.below hA
    replace rY := rY.below hA
    replace nT := nT.bel hA
    replace rT := rT.below hA
    replace nU := nU.bel hA
    replace rU := rU.below hA
    replace M := hidD (M.out.trans (hA.mono M.out.size))
    clear hA
    obtain ⟨VZ, hV⟩ : ∃ V, w25.alloc (.cells #[.slice a25 l25 c25] 25) = V := ⟨_, rfl⟩
    obtain ⟨BZ, hB⟩ : ∃ B, w25.heap.size = B := ⟨_, rfl⟩
    rw [hV] at nP rP nX rX nY rY nT rT nU rU rZ M
    rw [hV, hB] at nZ
    rw [hV]
    rw [hB]
    clear hV hB
    clear hu
    clear nT rT
    have ST0 : Abv VZ VZ.drew := Abv.drew VZ
    have H1 := hidD (fun (V : World) (h : Below VZ.heap.size VZ V) => yText_c _ _ V (rZ.below h).isPoly HOK.out.LT HTZ.out (tab_below HT.out (M.out.trans (h.mono M.out.size))))
    rw [XTZ.out] at H1
    have H2 := hidD (fun (V : World) (h : Below VZ.heap.size VZ V) => yText_c _ _ V (rU.below h).isPoly HOK.out.LT HTZ.out (tab_below HT.out (M.out.trans (h.mono M.out.size))))
    rw [XTZ.out] at H2
    refine wp_region_tab hmx [[], [0], [], [2, 1], [1, 3]] (by kernel_rfl) (by decide)
      (fun D act V => ∃ (t116x t117x t118x t119x t120x : Value), act = { tmps := #[.string s, .string t, .string xs, .string ys, undef, undef, undef, undef, .bool false, .pointer (some { block := BP, off := 0 }), .pointer (some { block := BQ, off := 0 }), .pointer (some { block := BX, off := 0 }), .pointer (some { block := BY, off := 0 }), .pointer (some { block := BS, off := 0 }), .pointer (some { block := BT, off := 0 }), .pointer (some { block := BA, off := 0 }), .pointer (some { block := BB, off := 0 }), .pointer (some { block := BC, off := 0 }), .pointer (some { block := BE, off := 0 }), .pointer (some { block := BG, off := 0 }), .pointer (some { block := BI, off := 0 }), .pointer (some { block := BD, off := 0 }), .pointer (some { block := BD + 1, off := 0 }), .bool false, undef, .pointer (some { block := BN, off := 0 }), .pointer (some { block := BJ, off := 0 }), .pointer (some { block := BU, off := 0 }), .pointer (some { block := BZ, off := 0 }), undef, undef, undef, undef, undef, .string s, .agg #[.slice a1 l1 c1], .string t, .agg #[.slice a2 l2 c2], .string xs, .agg #[.bool s3, .slice a3 l3 c3, .bool t3, .slice b3 k3 d3], .string ys, .agg #[.bool s4, .slice a4 l4 c4, .bool t4, .slice b4 k4 d4], .agg #[.slice a1 l1 c1], .agg #[.slice a2 l2 c2], .agg #[.slice a5 l5 c5], .agg #[.slice a1 l1 c1], .agg #[.slice a2 l2 c2], .agg #[.slice a6 l6 c6], .agg #[.slice a1 l1 c1], .agg #[.bool s3, .slice a3 l3 c3, .bool t3, .slice b3 k3 d3], .agg #[.bool s7, .slice a7 l7 c7, .bool t7, .slice b7 k7 d7], .agg #[.slice a2 l2 c2], .agg #[.bool s3, .slice a3 l3 c3, .bool t3, .slice b3 k3 d3], .agg #[.bool s8, .slice a8 l8 c8, .bool t8, .slice b8 k8 d8], .agg #[.bool s7, .slice a7 l7 c7, .bool t7, .slice b7 k7 d7], .agg #[.bool s8, .slice a8 l8 c8, .bool t8, .slice b8 k8 d8], .agg #[.bool s9, .slice a9 l9 c9, .bool t9, .slice b9 k9 d9], .agg #[.bool s7, .slice a7 l7 c7, .bool t7, .slice b7 k7 d7], .agg #[.bool s8, .slice a8 l8 c8, .bool t8, .slice b8 k8 d8], .agg #[.bool s10, .slice a10 l10 c10, .bool t10, .slice b10 k10 d10], .agg #[.slice a5 l5 c5], .agg #[.bool s3, .slice a3 l3 c3, .bool t3, .slice b3 k3 d3], .agg #[.bool s11, .slice a11 l11 c11, .bool t11, .slice b11 k11 d11], .agg #[.slice a6 l6 c6], .agg #[.bool s3, .slice a3 l3 c3, .bool t3, .slice b3 k3 d3], .agg #[.bool s12, .slice a12 l12 c12, .bool t12, .slice b12 k12 d12], .agg #[.bool s11, .slice a11 l11 c11, .bool t11, .slice b11 k11 d11], .agg #[.bool s9, .slice a9 l9 c9, .bool t9, .slice b9 k9 d9], .int .i64 0, .bool false, .bool false, .agg #[.bool s12, .slice a12 l12 c12, .bool t12, .slice b12 k12 d12], .agg #[.bool s10, .slice a10 l10 c10, .bool t10, .slice b10 k10 d10], .int .i64 0, .bool false, .bool false, .tuple #[.agg #[.slice a15 l15 c15], .agg #[.slice a16 l16 c16], .bool false], .agg #[.slice a1 l1 c1], .agg #[.slice a2 l2 c2], .tuple #[.agg #[.slice a15 l15 c15], .agg #[.slice a16 l16 c16], .bool false], .agg #[.slice a15 l15 c15], .agg #[.slice a16 l16 c16], .bool false, .bool false, undef, undef, undef, undef, undef, undef, undef, undef, undef, undef, undef, undef, undef, undef, undef, undef, undef, undef, .agg #[.slice a1 l1 c1], .agg #[.slice a21 l21 c21], .agg #[.slice a2 l2 c2], .agg #[.slice a22 l22 c22], .agg #[.slice a21 l21 c21], .agg #[.slice a2 l2 c2], .agg #[.slice a23 l23 c23], t109x, t110x, t111x, t112x, t113x, .agg #[.slice a6 l6 c6], .agg #[.slice a25 l25 c25], t116x, t117x, t118x, t119x, t120x, undef, undef, undef, undef, undef, undef, undef, undef, undef, undef, undef, undef, undef, undef, undef, undef, undef, undef, undef, undef, undef, undef, undef, undef, undef, undef, undef, undef, undef, undef, undef, undef, undef, undef, undef, undef, undef, undef], defers := [] } ∧ Hid ((D 0 = true → t116x = .agg #[.slice a25 l25 c25]) ∧ (D 1 = true → t117x = .string TZ) ∧ (D 2 = true → t118x = .agg #[.slice a24 l24 c24]) ∧ (D 3 = true → t119x = .string TZ) ∧ (D 4 = true → t120x = .bool false)) ∧ Hid (Abv VZ V))
      ⟨_, _, _, _, _, rfl, hidD ⟨by simp, by simp, by simp, by simp, by simp⟩, hidD ST0⟩ ?step4 ?fin4
    case step4 =>
      rintro D act V i ds hcl hi hds hDi ⟨t116x, t117x, t118x, t119x, t120x, rfl, GG, SS0⟩
      have hi6 : i < 5 := (List.getElem?_eq_some_iff.1 hi).1
      obtain rfl | rfl | rfl | rfl | rfl : i = 0 ∨ i = 1 ∨ i = 2 ∨ i = 3 ∨ i = 4 := by omega
      all_goals
        simp only [List.getElem?_cons_zero, List.getElem?_cons_succ, Option.some.injEq] at hi
        subst hi
      · have hS0 := SS0.out
        have eZ := (nZ.bel hS0).cell
        clear hds
        refine wpOp_go rfl rfl (fun K hK => ?_)
        go_simp
        exact hK _ _ ⟨_, _, _, _, _, rfl, hidD ⟨fun _ => rfl, GG.out.2.1, GG.out.2.2.1, GG.out.2.2.2.1, GG.out.2.2.2.2⟩, hidD (SS0.out)⟩
      · have hS0 := SS0.out
        obtain rfl := GG.out.1 (hds 0 (by simp))
        clear hds
        have HC := hidD (H1.out V hS0)
        refine wpOp_go rfl rfl (fun K hK => ?_)
        go_simp
        go_wp2_with (go_at_call 13; refine HC.out.mono ?_; rintro e w5 ⟨rfl, hb5⟩)
        exact ⟨_, _, _, _, _, rfl, hidD ⟨fun _ => rfl, fun _ => rfl, GG.out.2.2.1, GG.out.2.2.2.1, GG.out.2.2.2.2⟩, hidD (SS0.out.below hb5)⟩
      · have hS0 := SS0.out
        have eU := (nU.bel hS0).cell
        clear hds
        refine wpOp_go rfl rfl (fun K hK => ?_)
        go_simp
        exact hK _ _ ⟨_, _, _, _, _, rfl, hidD ⟨GG.out.1, GG.out.2.1, fun _ => rfl, GG.out.2.2.2.1, GG.out.2.2.2.2⟩, hidD (SS0.out)⟩
      · have hS0 := SS0.out
        obtain rfl := GG.out.2.2.1 (hds 2 (by simp))
        clear hds
        have HC := hidD (H2.out V hS0)
        refine wpOp_go rfl rfl (fun K hK => ?_)
        go_simp
        go_wp2_with (go_at_call 13; refine HC.out.mono ?_; rintro e w5 ⟨rfl, hb5⟩)
        exact ⟨_, _, _, _, _, rfl, hidD ⟨GG.out.1, GG.out.2.1, fun _ => rfl, fun _ => rfl, GG.out.2.2.2.2⟩, hidD (SS0.out.below hb5)⟩
      · have hS0 := SS0.out
        obtain rfl := GG.out.2.1 (hds 1 (by simp))
        obtain rfl := GG.out.2.2.2.1 (hds 3 (by simp))
        clear hds
        refine wpOp_go rfl rfl (fun K hK => ?_)
        go_simp
        exact hK _ _ ⟨_, _, _, _, _, rfl, hidD ⟨GG.out.1, fun _ => rfl, GG.out.2.2.1, fun _ => rfl, fun _ => rfl⟩, hidD (SS0.out)⟩
    case fin4 =>
      rintro D act V26 hDD ⟨t116x, t117x, t118x, t119x, t120x, rfl, GG, SS0⟩
      obtain rfl := GG.out.2.2.2.2 (hDD 4 (by decide))
      have hb := SS0.out
      unfold Abv at hb
      clear GG SS0 hDD ST0 H1 H2
      replace nP := nP.bel hb
      replace rP := rP.below hb
      replace nX := nX.below hb
      replace rX := rX.below hb
      replace nY := nY.below hb
      replace rY := rY.below hb
      replace nU := nU.bel hb
      replace rU := rU.below hb
      replace nZ := nZ.bel hb
      replace rZ := rZ.below hb
      replace M := hidD (M.out.trans (hb.mono M.out.size))
      clear hb
      clear nZ rZ nU rU
      go_upto_region 28 with fail
      have H1 := hidD (fun (V : World) (h : Below V26.heap.size V26 V) => M3.yMoved_c _ _ ps y V (rP.below h).isPoly (rY.below h) HOK.out.P HOK.out.Y HOK.out.MV (by have := HOK.out.lP; omega))
      have hq : Below V26.heap.size V26 V26 := Below.refl _ _
      have eP := (nP.bel hq).cell
      have eY0 := (nY.below hq).c0
      have eY1 := (nY.below hq).c1
      have eY2 := (nY.below hq).c2
      have eY3 := (nY.below hq).c3
      go_upto_region 29 with (go_at_call 36; refine (H1.out _ hq).mono ?_; clear H1; rintro e w28 ⟨u, rfl, hu, hb⟩; obtain ⟨a28, l28, c28, rfl⟩ := hu.form)
      replace hb := Below.then hq hb
      clear hq eP eY0 eY1 eY2 eY3
      replace nP := nP.bel hb
      replace rP := rP.below hb
      replace nX := nX.below hb
      replace rX := rX.below hb
      replace nY := nY.below hb
      replace rY := rY.below hb
      replace M := hidD (M.out.trans (hb.mono M.out.size))
      clear hb
      have hA : Below w28.heap.size w28 (w28.alloc (.cells #[.slice a28 l28 c28] 25)) := (Below.refl _ w28).alloc (Nat.le_refl _) _
      have nW := Boxed.new w28 25 (.slice a28 l28 c28)
      have rW := hu.row.below hA
      replace nP := nP.bel hA
      replace rP := rP.below hA
      replace nX := nX.below hA
      replace rX := rX.below hA
      replace nY := nY.below hA
      replace rY := rY.below hA
      replace M := hidD (M.out.trans (hA.mono M.out.size))
      clear hA
      obtain ⟨VW, hV⟩ : ∃ V, w28.alloc (.cells #[.slice a28 l28 c28] 25) = V := ⟨_, rfl⟩
      obtain ⟨BW, hB⟩ : ∃ B, w28.heap.size = B := ⟨_, rfl⟩
      rw [hV] at nP rP nX rX nY rY rW M
      rw [hV, hB] at nW
      rw [hV]
      rw [hB]
      clear hV hB
      clear hu
      go_upto_region 30 with fail
      have hu := rat0 VW
      have hA : Below VW.heap.size VW (VW.alloc (.cells #[.bool false, .slice none 0 0, .bool false, .slice none 0 0] 38)) := (Below.refl _ VW).alloc (Nat.le_refl _) _
      have nO := Box4.new VW 38 (.bool false) (.slice none 0 0) (.bool false) (.slice none 0 0)
      have rO := hu.below hA
      replace nP := nP.bel hA
      replace rP := rP.below hA
      replace nX := nX.below hA
      replace rX := rX.below hA
      replace nY := nY.below hA
      replace rY := rY.below hA
      replace nW := nW.bel hA
      replace rW := rW.below hA
      replace M := hidD (M.out.trans (hA.mono M.out.size))
      clear hA
      obtain ⟨VO, hV⟩ : ∃ V, VW.alloc (.cells #[.bool false, .slice none 0 0, .bool false, .slice none 0 0] 38) = V := ⟨_, rfl⟩
      obtain ⟨BO, hB⟩ : ∃ B, VW.heap.size = B := ⟨_, rfl⟩
      rw [hV] at nP rP nX rX nY rY nW rW rO M
      rw [hV, hB] at nO
      rw [hV]
      rw [hB]
      clear hV hB
      clear hu
      have ST0 : AlP false VO VO.drew undef := ⟨Abv.drew VO, fun e => by cases e⟩
      refine wp_region_tab hmx [[], [], [], [1, 2], [0, 3, 3], [], [5, 4, 4, 0, 1, 2, 3, 4, 5]] (by kernel_rfl) (by decide)
        (fun D act V => ∃ (t125x t126x t127x t128x t129x t31x : Value), act = { tmps := #[.string s, .string t, .string xs, .string ys, undef, undef, undef, undef, .bool false, .pointer (some { block := BP, off := 0 }), .pointer (some { block := BQ, off := 0 }), .pointer (some { block := BX, off := 0 }), .pointer (some { block := BY, off := 0 }), .pointer (some { block := BS, off := 0 }), .pointer (some { block := BT, off := 0 }), .pointer (some { block := BA, off := 0 }), .pointer (some { block := BB, off := 0 }), .pointer (some { block := BC, off := 0 }), .pointer (some { block := BE, off := 0 }), .pointer (some { block := BG, off := 0 }), .pointer (some { block := BI, off := 0 }), .pointer (some { block := BD, off := 0 }), .pointer (some { block := BD + 1, off := 0 }), .bool false, undef, .pointer (some { block := BN, off := 0 }), .pointer (some { block := BJ, off := 0 }), .pointer (some { block := BU, off := 0 }), .pointer (some { block := BZ, off := 0 }), .pointer (some { block := BW, off := 0 }), .pointer (some { block := BO, off := 0 }), t31x, undef, undef, .string s, .agg #[.slice a1 l1 c1], .string t, .agg #[.slice a2 l2 c2], .string xs, .agg #[.bool s3, .slice a3 l3 c3, .bool t3, .slice b3 k3 d3], .string ys, .agg #[.bool s4, .slice a4 l4 c4, .bool t4, .slice b4 k4 d4], .agg #[.slice a1 l1 c1], .agg #[.slice a2 l2 c2], .agg #[.slice a5 l5 c5], .agg #[.slice a1 l1 c1], .agg #[.slice a2 l2 c2], .agg #[.slice a6 l6 c6], .agg #[.slice a1 l1 c1], .agg #[.bool s3, .slice a3 l3 c3, .bool t3, .slice b3 k3 d3], .agg #[.bool s7, .slice a7 l7 c7, .bool t7, .slice b7 k7 d7], .agg #[.slice a2 l2 c2], .agg #[.bool s3, .slice a3 l3 c3, .bool t3, .slice b3 k3 d3], .agg #[.bool s8, .slice a8 l8 c8, .bool t8, .slice b8 k8 d8], .agg #[.bool s7, .slice a7 l7 c7, .bool t7, .slice b7 k7 d7], .agg #[.bool s8, .slice a8 l8 c8, .bool t8, .slice b8 k8 d8], .agg #[.bool s9, .slice a9 l9 c9, .bool t9, .slice b9 k9 d9], .agg #[.bool s7, .slice a7 l7 c7, .bool t7, .slice b7 k7 d7], .agg #[.bool s8, .slice a8 l8 c8, .bool t8, .slice b8 k8 d8], .agg #[.bool s10, .slice a10 l10 c10, .bool t10, .slice b10 k10 d10], .agg #[.slice a5 l5 c5], .agg #[.bool s3, .slice a3 l3 c3, .bool t3, .slice b3 k3 d3], .agg #[.bool s11, .slice a11 l11 c11, .bool t11, .slice b11 k11 d11], .agg #[.slice a6 l6 c6], .agg #[.bool s3, .slice a3 l3 c3, .bool t3, .slice b3 k3 d3], .agg #[.bool s12, .slice a12 l12 c12, .bool t12, .slice b12 k12 d12], .agg #[.bool s11, .slice a11 l11 c11, .bool t11, .slice b11 k11 d11], .agg #[.bool s9, .slice a9 l9 c9, .bool t9, .slice b9 k9 d9], .int .i64 0, .bool false, .bool false, .agg #[.bool s12, .slice a12 l12 c12, .bool t12, .slice b12 k12 d12], .agg #[.bool s10, .slice a10 l10 c10, .bool t10, .slice b10 k10 d10], .int .i64 0, .bool false, .bool false, .tuple #[.agg #[.slice a15 l15 c15], .agg #[.slice a16 l16 c16], .bool false], .agg #[.slice a1 l1 c1], .agg #[.slice a2 l2 c2], .tuple #[.agg #[.slice a15 l15 c15], .agg #[.slice a16 l16 c16], .bool false], .agg #[.slice a15 l15 c15], .agg #[.slice a16 l16 c16], .bool false, .bool false, undef, undef, undef, undef, undef, undef, undef, undef, undef, undef, undef, undef, undef, undef, undef, undef, undef, undef, .agg #[.slice a1 l1 c1], .agg #[.slice a21 l21 c21], .agg #[.slice a2 l2 c2], .agg #[.slice a22 l22 c22], .agg #[.slice a21 l21 c21], .agg #[.slice a2 l2 c2], .agg #[.slice a23 l23 c23], t109x, t110x, t111x, t112x, t113x, .agg #[.slice a6 l6 c6], .agg #[.slice a25 l25 c25], t116x, t117x, t118x, t119x, .bool false, .agg #[.slice a1 l1 c1], .agg #[.bool s4, .slice a4 l4 c4, .bool t4, .slice b4 k4 d4], .agg #[.slice a28 l28 c28], .agg #[.bool false, .slice none 0 0, .bool false, .slice none 0 0], t125x, t126x, t127x, t128x, t129x, undef, undef, undef, undef, undef, undef, undef, undef, undef, undef, undef, undef, undef, undef, undef, undef, undef, undef, undef, undef, undef, undef, undef, undef, undef, undef, undef, undef, undef], defers := [] } ∧ Hid ((D 0 = true → t125x = .agg #[.slice a28 l28 c28]) ∧ (D 1 = true → t126x = .agg #[.bool false, .slice none 0 0, .bool false, .slice none 0 0]) ∧ (D 2 = true → t127x = .agg #[.bool s4, .slice a4 l4 c4, .bool t4, .slice b4 k4 d4]) ∧ (D 3 = true → D 6 = false → IsRat V t128x (-y)) ∧ (D 4 = true → D 6 = false → IsPoly V t129x ps) ∧ (D 5 = true → M3.Tr0 V)) ∧ Hid ((D 6 = false → AlP (D 5) VO V t31x) ∧ (D 6 = true → AlG VO V t31x ps)))
        ⟨_, _, _, _, _, _, rfl, hidD ⟨by simp, by simp, by simp, by simp, by simp, by simp⟩, hidD ⟨fun _ => ST0, by simp⟩⟩ ?step5 ?fin5
      case step5 =>
        rintro D act V i ds hcl hi hds hDi ⟨t125x, t126x, t127x, t128x, t129x, t31x, rfl, GG, SS0⟩
        have hi6 : i < 7 := (List.getElem?_eq_some_iff.1 hi).1
        obtain rfl | rfl | rfl | rfl | rfl | rfl | rfl : i = 0 ∨ i = 1 ∨ i = 2 ∨ i = 3 ∨ i = 4 ∨ i = 5 ∨ i = 6 := by omega
        all_goals
          simp only [List.getElem?_cons_zero, List.getElem?_cons_succ, Option.some.injEq] at hi
          subst hi
        · have hf0 : D 6 = false := by
            cases h : D 6 with
            | false => rfl
            | true => rw [(hcl 6 _ rfl h 0 (by simp))] at hDi; cases hDi
          have hS0 := SS0.out.1 hf0
          have eW := (nW.bel hS0.1).cell
          clear hds
          refine wpOp_go rfl rfl (fun K hK => ?_)
          go_simp
          exact hK _ _ ⟨_, _, _, _, _, _, rfl, hidD ⟨fun _ => rfl, GG.out.2.1, GG.out.2.2.1, fun h h2 => (GG.out.2.2.2.1 h (by simpa using h2)), fun h h2 => (GG.out.2.2.2.2.1 h (by simpa using h2)), GG.out.2.2.2.2.2⟩, hidD ⟨fun h => (SS0.out.1 (by simpa using h)), fun h => (SS0.out.2 (by simpa using h))⟩⟩
        · have hf0 : D 6 = false := by
            cases h : D 6 with
            | false => rfl
            | true => rw [(hcl 6 _ rfl h 1 (by simp))] at hDi; cases hDi
          have hS0 := SS0.out.1 hf0
          have eO0 := (nO.below hS0.1).c0
          have eO1 := (nO.below hS0.1).c1
          have eO2 := (nO.below hS0.1).c2
          have eO3 := (nO.below hS0.1).c3
          clear hds
          refine wpOp_go rfl rfl (fun K hK => ?_)
          go_simp
          exact hK _ _ ⟨_, _, _, _, _, _, rfl, hidD ⟨GG.out.1, fun _ => rfl, GG.out.2.2.1, fun h h2 => (GG.out.2.2.2.1 h (by simpa using h2)), fun h h2 => (GG.out.2.2.2.2.1 h (by simpa using h2)), GG.out.2.2.2.2.2⟩, hidD ⟨fun h => (SS0.out.1 (by simpa using h)), fun h => (SS0.out.2 (by simpa using h))⟩⟩
        · have hf0 : D 6 = false := by
            cases h : D 6 with
            | false => rfl
            | true => rw [(hcl 6 _ rfl h 2 (by simp))] at hDi; cases hDi
          have hS0 := SS0.out.1 hf0
          have eY0 := (nY.below hS0.1).c0
          have eY1 := (nY.below hS0.1).c1
          have eY2 := (nY.below hS0.1).c2
          have eY3 := (nY.below hS0.1).c3
          clear hds
          refine wpOp_go rfl rfl (fun K hK => ?_)
          go_simp
          exact hK _ _ ⟨_, _, _, _, _, _, rfl, hidD ⟨GG.out.1, GG.out.2.1, fun _ => rfl, fun h h2 => (GG.out.2.2.2.1 h (by simpa using h2)), fun h h2 => (GG.out.2.2.2.2.1 h (by simpa using h2)), GG.out.2.2.2.2.2⟩, hidD ⟨fun h => (SS0.out.1 (by simpa using h)), fun h => (SS0.out.2 (by simpa using h))⟩⟩
        · have hf0 : D 6 = false := by
            cases h : D 6 with
            | false => rfl
            | true => rw [(hcl 6 _ rfl h 3 (by simp))] at hDi; cases hDi
          have hS0 := SS0.out.1 hf0
          obtain rfl := GG.out.2.1 (hds 1 (by simp))
          obtain rfl := GG.out.2.2.1 (hds 2 (by simp))
          clear hds
          have HC := hidD (qminus_c _ _ _ _ V (rO.below hS0.1) (rY.below hS0.1) sq0 HOK.out.Y)
          rw [HZY.out] at HC
          refine wpOp_go rfl rfl (fun K hK => ?_)
          go_simp
          go_wp2_with (go_at_call 43; refine HC.out.mono ?_; rintro e w5 ⟨v5, rfl, hv5, hb5⟩)
          exact ⟨_, _, _, _, _, _, rfl, hidD ⟨GG.out.1, fun _ => rfl, fun _ => rfl, fun _ _ => hv5, fun h h2 => (GG.out.2.2.2.2.1 h (by simpa using h2)).below hb5, fun h => (GG.out.2.2.2.2.2 h).below hb5⟩, hidD ⟨fun h => (SS0.out.1 (by simpa using h)).below hb5, fun h => (SS0.out.2 (by simpa using h)).below hb5⟩⟩
        · have hf0 : D 6 = false := by
            cases h : D 6 with
            | false => rfl
            | true => rw [(hcl 6 _ rfl h 4 (by simp))] at hDi; cases hDi
          have hS0 := SS0.out.1 hf0
          have h0 := GG.out.2.2.2.1 (hds 3 (by simp)) hf0
          obtain rfl := GG.out.1 (hds 0 (by simp))
          clear hds
          have HC := hidD (M3.yMoved_c _ _ (movQ y ps) (-y) V (rW.below hS0.1).isPoly h0 HOK.out.MS HOK.out.NY HOK.out.MB (by have := HOK.out.lM; have := HOK.out.lP; omega))
          rw [HMB.out] at HC
          clear h0
          refine wpOp_go rfl rfl (fun K hK => ?_)
          go_simp
          go_wp2_with (go_at_call 36; refine HC.out.mono ?_; rintro e w5 ⟨v5, rfl, hv5, hb5⟩)
          exact ⟨_, _, _, _, _, _, rfl, hidD ⟨fun _ => rfl, GG.out.2.1, GG.out.2.2.1, fun h h2 => (GG.out.2.2.2.1 h (by simpa using h2)).below hb5, fun _ _ => hv5, fun h => (GG.out.2.2.2.2.2 h).below hb5⟩, hidD ⟨fun h => (SS0.out.1 (by simpa using h)).below hb5, fun h => (SS0.out.2 (by simpa using h)).below hb5⟩⟩
        · have hf0 : D 6 = false := by
            cases h : D 6 with
            | false => rfl
            | true => rw [(hcl 6 _ rfl h 5 (by simp))] at hDi; cases hDi
          have hS0 := SS0.out.1 hf0
          clear hds
          refine wpOp_go rfl rfl (fun K hK => ?_)
          go_simp
          exact hK _ _ ⟨_, _, _, _, _, _, rfl, hidD ⟨GG.out.1, GG.out.2.1, GG.out.2.2.1, fun h h2 => (GG.out.2.2.2.1 h (by simpa using h2)).below ((Below.refl _ V).alloc (Nat.le_refl _) _), fun h h2 => (GG.out.2.2.2.2.1 h (by simpa using h2)).below ((Below.refl _ V).alloc (Nat.le_refl _) _), fun _ => trivial⟩, hidD ⟨fun _ => (show AlP true VO _ _ from AlP.alloc (by rw [hDi] at hS0; exact hS0)), fun h => by simp [hf0] at h⟩⟩
        · have hS0 := SS0.out.1 hDi
          have h0 := GG.out.2.2.2.2.1 (hds 4 (by simp)) hDi
          obtain ⟨hA, hBf⟩ := hS0
          obtain ⟨Bf, rfl, hb1, hb2⟩ := hBf (hds 5 (by simp))
          obtain ⟨a9, l9, c9, rfl⟩ := IsPoly.form h0
          have e0 := hb1.cell
          have f0 := hb1.frozen
          clear hds
          refine wpOp_go rfl rfl (fun K hK => ?_)
          go_simp
          exact hK _ _ ⟨_, _, _, _, _, _, rfl, hidD ⟨GG.out.1, GG.out.2.1, GG.out.2.2.1, fun _ h => by simp at h, fun _ h => by simp at h, fun _ => trivial⟩, hidD ⟨fun h => by simp at h, fun _ => ⟨Bf, _, _, _, rfl, hb1.set _, boxP hb1 _ h0.row, Below.setCell hA (p := ⟨Bf, 0, none⟩) hb2 _⟩⟩⟩
      case fin5 =>
        rintro D act V30 hDD ⟨t125x, t126x, t127x, t128x, t129x, t31x, rfl, GG, SS0⟩
        obtain ⟨BF, a30, l30, c30, rfl, nF, rF, hA⟩ := SS0.out.2 (hDD 6 (by decide))
        have hb : Below VO.heap.size VO V30 := hA
        clear GG SS0 hDD ST0 hA
        replace nP := nP.bel hb
        replace rP := rP.below hb
        replace nX := nX.below hb
        replace rX := rX.below hb
        replace nY := nY.below hb
        replace rY := rY.below hb
        replace nW := nW.bel hb
        replace rW := rW.below hb
        replace nO := nO.below hb
        replace rO := rO.below hb
        replace M := hidD (M.out.trans (hb.mono M.out.size))
        clear hb
        clear nO rO
        have H1 := hidD (fun (V : World) (h : Below V30.heap.size V30 V) => M3.yAt_c _ _ (movQ y ps) x V (rW.below h).isPoly (rX.below h) HOK.out.MS HOK.out.X HOK.out.AM)
        have hq : Below V30.heap.size V30 V30 := Below.refl _ _
        have eW := (nW.bel hq).cell
        have eX0 := (nX.below hq).c0
        have eX1 := (nX.below hq).c1
        have eX2 := (nX.below hq).c2
        have eX3 := (nX.below hq).c3
        go_upto_region 32 with (go_at_call 34; refine (H1.out _ hq).mono ?_; clear H1; rintro e w31 ⟨u, rfl, hu, hb⟩; rw [ev_movQ] at hu; obtain ⟨s31, a31, l31, c31, t31, b31, k31, d31, rfl⟩ := IsRat.form hu)
        replace hb := Below.then hq hb
        clear hq eW eX0 eX1 eX2 eX3
        replace nP := nP.bel hb
        replace rP := rP.below hb
        replace nX := nX.below hb
        replace rX := rX.below hb
        replace nY := nY.below hb
        replace rY := rY.below hb
        replace nW := nW.bel hb
        replace rW := rW.below hb
        replace nF := nF.bel hb
        replace rF := rF.below hb
        replace M := hidD (M.out.trans (hb.mono M.out.size))
        clear hb
        have hA : Below w31.heap.size w31 (w31.alloc (.cells #[.bool s31, .slice a31 l31 c31, .bool t31, .slice b31 k31 d31] 38)) := (Below.refl _ w31).alloc (Nat.le_refl _) _
        have nGa := Box4.new w31 38 (.bool s31) (.slice a31 l31 c31) (.bool t31) (.slice b31 k31 d31)
        have rGa := hu.below hA
        replace nP := nP.bel hA
        replace rP := rP.below hA
        replace nX := nX.below hA
        replace rX := rX.below hA
        replace nY := nY.below hA
        replace rY := rY.below hA
        replace nW := nW.bel hA
        replace rW := rW.below hA
        replace nF := nF.bel hA
        replace rF := rF.below hA
        replace M := hidD (M.out.trans (hA.mono M.out.size))
        clear hA
        obtain ⟨VGa, hV⟩ : ∃ V, w31.alloc (.cells #[.bool s31, .slice a31 l31 c31, .bool t31, .slice b31 k31 d31] 38) = V := ⟨_, rfl⟩
        obtain ⟨BGa, hB⟩ : ∃ B, w31.heap.size = B := ⟨_, rfl⟩
        rw [hV] at nP rP nX rX nY rY nW rW nF rF rGa M
        rw [hV, hB] at nGa
        rw [hV]
        rw [hB]
        clear hV hB
        clear hu
        have ST0 : AlR false VGa VGa.drew undef := ⟨Abv.drew VGa, fun e => by cases e⟩
        refine wp_region_tab hmx [[], [], [], [1, 2], [0, 3, 3], [], [5, 4, 4, 0, 1, 2, 3, 4, 5]] (by kernel_rfl) (by decide)
          (fun D act V => ∃ (t133x t134x t135x t136x t137x t33x : Value), act = { tmps := #[.string s, .string t, .string xs, .string ys, undef, undef, undef, undef, .bool false, .pointer (some { block := BP, off := 0 }), .pointer (some { block := BQ, off := 0 }), .pointer (some { block := BX, off := 0 }), .pointer (some { block := BY, off := 0 }), .pointer (some { block := BS, off := 0 }), .pointer (some { block := BT, off := 0 }), .pointer (some { block := BA, off := 0 }), .pointer (some { block := BB, off := 0 }), .pointer (some { block := BC, off := 0 }), .pointer (some { block := BE, off := 0 }), .pointer (some { block := BG, off := 0 }), .pointer (some { block := BI, off := 0 }), .pointer (some { block := BD, off := 0 }), .pointer (some { block := BD + 1, off := 0 }), .bool false, undef, .pointer (some { block := BN, off := 0 }), .pointer (some { block := BJ, off := 0 }), .pointer (some { block := BU, off := 0 }), .pointer (some { block := BZ, off := 0 }), .pointer (some { block := BW, off := 0 }), .pointer (some { block := BO, off := 0 }), .pointer (some { block := BF, off := 0 }), .pointer (some { block := BGa, off := 0 }), t33x, .string s, .agg #[.slice a1 l1 c1], .string t, .agg #[.slice a2 l2 c2], .string xs, .agg #[.bool s3, .slice a3 l3 c3, .bool t3, .slice b3 k3 d3], .string ys, .agg #[.bool s4, .slice a4 l4 c4, .bool t4, .slice b4 k4 d4], .agg #[.slice a1 l1 c1], .agg #[.slice a2 l2 c2], .agg #[.slice a5 l5 c5], .agg #[.slice a1 l1 c1], .agg #[.slice a2 l2 c2], .agg #[.slice a6 l6 c6], .agg #[.slice a1 l1 c1], .agg #[.bool s3, .slice a3 l3 c3, .bool t3, .slice b3 k3 d3], .agg #[.bool s7, .slice a7 l7 c7, .bool t7, .slice b7 k7 d7], .agg #[.slice a2 l2 c2], .agg #[.bool s3, .slice a3 l3 c3, .bool t3, .slice b3 k3 d3], .agg #[.bool s8, .slice a8 l8 c8, .bool t8, .slice b8 k8 d8], .agg #[.bool s7, .slice a7 l7 c7, .bool t7, .slice b7 k7 d7], .agg #[.bool s8, .slice a8 l8 c8, .bool t8, .slice b8 k8 d8], .agg #[.bool s9, .slice a9 l9 c9, .bool t9, .slice b9 k9 d9], .agg #[.bool s7, .slice a7 l7 c7, .bool t7, .slice b7 k7 d7], .agg #[.bool s8, .slice a8 l8 c8, .bool t8, .slice b8 k8 d8], .agg #[.bool s10, .slice a10 l10 c10, .bool t10, .slice b10 k10 d10], .agg #[.slice a5 l5 c5], .agg #[.bool s3, .slice a3 l3 c3, .bool t3, .slice b3 k3 d3], .agg #[.bool s11, .slice a11 l11 c11, .bool t11, .slice b11 k11 d11], .agg #[.slice a6 l6 c6], .agg #[.bool s3, .slice a3 l3 c3, .bool t3, .slice b3 k3 d3], .agg #[.bool s12, .slice a12 l12 c12, .bool t12, .slice b12 k12 d12], .agg #[.bool s11, .slice a11 l11 c11, .bool t11, .slice b11 k11 d11], .agg #[.bool s9, .slice a9 l9 c9, .bool t9, .slice b9 k9 d9], .int .i64 0, .bool false, .bool false, .agg #[.bool s12, .slice a12 l12 c12, .bool t12, .slice b12 k12 d12], .agg #[.bool s10, .slice a10 l10 c10, .bool t10, .slice b10 k10 d10], .int .i64 0, .bool false, .bool false, .tuple #[.agg #[.slice a15 l15 c15], .agg #[.slice a16 l16 c16], .bool false], .agg #[.slice a1 l1 c1], .agg #[.slice a2 l2 c2], .tuple #[.agg #[.slice a15 l15 c15], .agg #[.slice a16 l16 c16], .bool false], .agg #[.slice a15 l15 c15], .agg #[.slice a16 l16 c16], .bool false, .bool false, undef, undef, undef, undef, undef, undef, undef, undef, undef, undef, undef, undef, undef, undef, undef, undef, undef, undef, .agg #[.slice a1 l1 c1], .agg #[.slice a21 l21 c21], .agg #[.slice a2 l2 c2], .agg #[.slice a22 l22 c22], .agg #[.slice a21 l21 c21], .agg #[.slice a2 l2 c2], .agg #[.slice a23 l23 c23], t109x, t110x, t111x, t112x, t113x, .agg #[.slice a6 l6 c6], .agg #[.slice a25 l25 c25], t116x, t117x, t118x, t119x, .bool false, .agg #[.slice a1 l1 c1], .agg #[.bool s4, .slice a4 l4 c4, .bool t4, .slice b4 k4 d4], .agg #[.slice a28 l28 c28], .agg #[.bool false, .slice none 0 0, .bool false, .slice none 0 0], t125x, t126x, t127x, t128x, t129x, .agg #[.slice a28 l28 c28], .agg #[.bool s3, .slice a3 l3 c3, .bool t3, .slice b3 k3 d3], .agg #[.bool s31, .slice a31 l31 c31, .bool t31, .slice b31 k31 d31], t133x, t134x, t135x, t136x, t137x, undef, undef, undef, undef, undef, undef, undef, undef, undef, undef, undef, undef, undef, undef, undef, undef, undef, undef, undef, undef, undef], defers := [] } ∧ Hid ((D 0 = true → t133x = .agg #[.slice a1 l1 c1]) ∧ (D 1 = true → t134x = .agg #[.bool s3, .slice a3 l3 c3, .bool t3, .slice b3 k3 d3]) ∧ (D 2 = true → t135x = .agg #[.bool s4, .slice a4 l4 c4, .bool t4, .slice b4 k4 d4]) ∧ (D 3 = true → D 6 = false → IsRat V t136x (x + y)) ∧ (D 4 = true → D 6 = false → IsRat V t137x (ev ps (x + y))) ∧ (D 5 = true → M3.Tr0 V)) ∧ Hid ((D 6 = false → AlR (D 5) VGa V t33x) ∧ (D 6 = true → AlF VGa V t33x (ev ps (x + y)))))
          ⟨_, _, _, _, _, _, rfl, hidD ⟨by simp, by simp, by simp, by simp, by simp, by simp⟩, hidD ⟨fun _ => ST0, by simp⟩⟩ ?step6 ?fin6
        case step6 =>
          rintro D act V i ds hcl hi hds hDi ⟨t133x, t134x, t135x, t136x, t137x, t33x, rfl, GG, SS0⟩
          have hi6 : i < 7 := (List.getElem?_eq_some_iff.1 hi).1
          obtain rfl | rfl | rfl | rfl | rfl | rfl | rfl : i = 0 ∨ i = 1 ∨ i = 2 ∨ i = 3 ∨ i = 4 ∨ i = 5 ∨ i = 6 := by omega
          all_goals
            simp only [List.getElem?_cons_zero, List.getElem?_cons_succ, Option.some.injEq] at hi
            subst hi
          · have hf0 : D 6 = false := by
              cases h : D 6 with
              | false => rfl
              | true => rw [(hcl 6 _ rfl h 0 (by simp))] at hDi; cases hDi
            have hS0 := SS0.out.1 hf0
            have eP := (nP.bel hS0.1).cell
            clear hds
            refine wpOp_go rfl rfl (fun K hK => ?_)
            go_simp
            exact hK _ _ ⟨_, _, _, _, _, _, rfl, hidD ⟨fun _ => rfl, GG.out.2.1, GG.out.2.2.1, fun h h2 => (GG.out.2.2.2.1 h (by simpa using h2)), fun h h2 => (GG.out.2.2.2.2.1 h (by simpa using h2)), GG.out.2.2.2.2.2⟩, hidD ⟨fun h => (SS0.out.1 (by simpa using h)), fun h => (SS0.out.2 (by simpa using h))⟩⟩
          · have hf0 : D 6 = false := by
              cases h : D 6 with
              | false => rfl
              | true => rw [(hcl 6 _ rfl h 1 (by simp))] at hDi; cases hDi
            have hS0 := SS0.out.1 hf0
            have eX0 := (nX.below hS0.1).c0
            have eX1 := (nX.below hS0.1).c1
            have eX2 := (nX.below hS0.1).c2
            have eX3 := (nX.below hS0.1).c3
            clear hds
            refine wpOp_go rfl rfl (fun K hK => ?_)
            go_simp
            exact hK _ _ ⟨_, _, _, _, _, _, rfl, hidD ⟨GG.out.1, fun _ => rfl, GG.out.2.2.1, fun h h2 => (GG.out.2.2.2.1 h (by simpa using h2)), fun h h2 => (GG.out.2.2.2.2.1 h (by simpa using h2)), GG.out.2.2.2.2.2⟩, hidD ⟨fun h => (SS0.out.1 (by simpa using h)), fun h => (SS0.out.2 (by simpa using h))⟩⟩
          · have hf0 : D 6 = false := by
              cases h : D 6 with
              | false => rfl
              | true => rw [(hcl 6 _ rfl h 2 (by simp))] at hDi; cases hDi
            have hS0 := SS0.out.1 hf0
            have eY0 := (nY.below hS0.1).c0
            have eY1 := (nY.below hS0.1).c1
            have eY2 := (nY.below hS0.1).c2
            have eY3 := (nY.below hS0.1).c3
            clear hds
            refine wpOp_go rfl rfl (fun K hK => ?_)
            go_simp
            exact hK _ _ ⟨_, _, _, _, _, _, rfl, hidD ⟨GG.out.1, GG.out.2.1, fun _ => rfl, fun h h2 => (GG.out.2.2.2.1 h (by simpa using h2)), fun h h2 => (GG.out.2.2.2.2.1 h (by simpa using h2)), GG.out.2.2.2.2.2⟩, hidD ⟨fun h => (SS0.out.1 (by simpa using h)), fun h => (SS0.out.2 (by simpa using h))⟩⟩
          · have hf0 : D 6 = false := by
              cases h : D 6 with
              | false => rfl
              | true => rw [(hcl 6 _ rfl h 3 (by simp))] at hDi; cases hDi
            have hS0 := SS0.out.1 hf0
            obtain rfl := GG.out.2.1 (hds 1 (by simp))
            obtain rfl := GG.out.2.2.1 (hds 2 (by simp))
            clear hds
            have HC := hidD (qplus_c _ _ _ _ V (rX.below hS0.1) (rY.below hS0.1) HOK.out.X HOK.out.Y)
            refine wpOp_go rfl rfl (fun K hK => ?_)
            go_simp
            go_wp2_with (go_at_call 40; refine HC.out.mono ?_; rintro e w5 ⟨v5, rfl, hv5, hb5⟩)
            exact ⟨_, _, _, _, _, _, rfl, hidD ⟨GG.out.1, fun _ => rfl, fun _ => rfl, fun _ _ => hv5, fun h h2 => (GG.out.2.2.2.2.1 h (by simpa using h2)).below hb5, fun h => (GG.out.2.2.2.2.2 h).below hb5⟩, hidD ⟨fun h => (SS0.out.1 (by simpa using h)).below hb5, fun h => (SS0.out.2 (by simpa using h)).below hb5⟩⟩
          · have hf0 : D 6 = false := by
              cases h : D 6 with
              | false => rfl
              | true => rw [(hcl 6 _ rfl h 4 (by simp))] at hDi; cases hDi
            have hS0 := SS0.out.1 hf0
            have h0 := GG.out.2.2.2.1 (hds 3 (by simp)) hf0
            obtain rfl := GG.out.1 (hds 0 (by simp))
            clear hds
            have HC := hidD (M3.yAt_c _ _ ps (x + y) V (rP.below hS0.1).isPoly h0 HOK.out.P HOK.out.XY HOK.out.AX)
            clear h0
            refine wpOp_go rfl rfl (fun K hK => ?_)
            go_simp
            go_wp2_with (go_at_call 34; refine HC.out.mono ?_; rintro e w5 ⟨v5, rfl, hv5, hb5⟩)
            exact ⟨_, _, _, _, _, _, rfl, hidD ⟨fun _ => rfl, GG.out.2.1, GG.out.2.2.1, fun h h2 => (GG.out.2.2.2.1 h (by simpa using h2)).below hb5, fun _ _ => hv5, fun h => (GG.out.2.2.2.2.2 h).below hb5⟩, hidD ⟨fun h => (SS0.out.1 (by simpa using h)).below hb5, fun h => (SS0.out.2 (by simpa using h)).below hb5⟩⟩
          · have hf0 : D 6 = false := by
              cases h : D 6 with
              | false => rfl
              | true => rw [(hcl 6 _ rfl h 5 (by simp))] at hDi; cases hDi
            have hS0 := SS0.out.1 hf0
            clear hds
            refine wpOp_go rfl rfl (fun K hK => ?_)
            go_simp
            exact hK _ _ ⟨_, _, _, _, _, _, rfl, hidD ⟨GG.out.1, GG.out.2.1, GG.out.2.2.1, fun h h2 => (GG.out.2.2.2.1 h (by simpa using h2)).below ((Below.refl _ V).alloc (Nat.le_refl _) _), fun h h2 => (GG.out.2.2.2.2.1 h (by simpa using h2)).below ((Below.refl _ V).alloc (Nat.le_refl _) _), fun _ => trivial⟩, hidD ⟨fun _ => (show AlR true VGa _ _ from AlR.alloc (by rw [hDi] at hS0; exact hS0)), fun h => by simp [hf0] at h⟩⟩
          · have hS0 := SS0.out.1 hDi
            have h0 := GG.out.2.2.2.2.1 (hds 4 (by simp)) hDi
            obtain ⟨hA, hBf⟩ := hS0
            obtain ⟨Bf, rfl, hb1, hb2⟩ := hBf (hds 5 (by simp))
            obtain ⟨s9, a9, l9, c9, t9, b9, k9, d9, rfl⟩ := IsRat.form h0
            have e0 := hb1.c0
            have e1 := hb1.c1
            have e2 := hb1.c2
            have e3 := hb1.c3
            have f0 := hb1.f0
            have f1 := hb1.f1
            have f2 := hb1.f2
            have f3 := hb1.f3
            clear hds
            refine wpOp_go rfl rfl (fun K hK => ?_)
            go_simp
            exact hK _ _ ⟨_, _, _, _, _, _, rfl, hidD ⟨GG.out.1, GG.out.2.1, GG.out.2.2.1, fun _ h => by simp at h, fun _ h => by simp at h, fun _ => trivial⟩, hidD ⟨fun h => by simp at h, fun _ => ⟨Bf, _, _, _, _, _, _, _, _, rfl, hb1.put _ _ _ _, box38 hb1 h0 _ _ _ _, below_put4 hA hb2 _ _ _ _⟩⟩⟩
        case fin6 =>
          rintro D act V32 hDD ⟨t133x, t134x, t135x, t136x, t137x, t33x, rfl, GG, SS0⟩
          obtain ⟨BH, s32, a32, l32, c32, t32, b32, k32, d32, rfl, nH, rH, hA⟩ := SS0.out.2 (hDD 6 (by decide))
          have hb : Below VGa.heap.size VGa V32 := hA
          clear GG SS0 hDD ST0 hA
          replace nP := nP.bel hb
          replace rP := rP.below hb
          replace nX := nX.below hb
          replace rX := rX.below hb
          replace nY := nY.below hb
          replace rY := rY.below hb
          replace nW := nW.bel hb
          replace rW := rW.below hb
          replace nF := nF.bel hb
          replace rF := rF.below hb
          replace nGa := nGa.below hb
          replace rGa := rGa.below hb
          replace M := hidD (M.out.trans (hb.mono M.out.size))
          clear hb
          clear nX rX nY rY
          go_upto_region 33 with fail
          have ST0 : Abv V32 V32.drew := Abv.drew V32
          have H1 := hidD (fun (V : World) (h : Below V32.heap.size V32 V) => yText_c _ ps V (rF.below h).isPoly HOK.out.P HTP.out (tab_below HT.out (M.out.trans (h.mono M.out.size))))
          rw [XTP.out] at H1
          have H2 := hidD (fun (V : World) (h : Below V32.heap.size V32 V) => yText_c _ ps V (rP.below h).isPoly HOK.out.P HTP.out (tab_below HT.out (M.out.trans (h.mono M.out.size))))
          rw [XTP.out] at H2
          have H3 := hidD (fun (V : World) (h : Below V32.heap.size V32 V) => qorder_c _ _ _ _ V (rGa.below h) (rH.below h) HOK.out.EX HOK.out.EX)
          rw [cmpQ_self] at H3
          have H4 := hidD (fun (V : World) (h : Below V32.heap.size V32 V) => yDegree_c _ _ V (rW.below h).isPoly)
          rw [HOK.out.lM, HDP.out] at H4
          have H5 := hidD (fun (V : World) (h : Below V32.heap.size V32 V) => yDegree_c _ _ V (rP.below h).isPoly)
          rw [HDP.out] at H5
          have H6 := hidD (fun (V : World) (h : Below V32.heap.size V32 V) => jalive_c V (tab_below HT.out (M.out.trans (h.mono M.out.size))))
          refine wp_region_tab hmx [[], [0], [], [2, 1], [1, 3], [4, 3], [5], [5], [6, 7, 5, 5], [8, 5], [5, 9], [10, 8], [11], [12, 11, 11], [11], [14, 13, 11], [13, 15, 11], [11, 16], [17, 15], [18, 18], [18, 19], [20, 19, 0, 1, 2, 3, 4, 5, 6, 7, 8, 9, 10, 11, 12, 13, 14, 15, 16, 17, 18, 19, 20]] (by kernel_rfl) (by decide)
            (fun D act V => ∃ (t138x t139x t140x t141x t142x t143x t144x t145x t146x t147x t148x t149x t150x t151x t152x t153x t154x t155x t156x t157x t158x t8x : Value), act = { tmps := #[.string s, .string t, .string xs, .string ys, undef, undef, undef, undef, t8x, .pointer (some { block := BP, off := 0 }), .pointer (some { block := BQ, off := 0 }), .pointer (some { block := BX, off := 0 }), .pointer (some { block := BY, off := 0 }), .pointer (some { block := BS, off := 0 }), .pointer (some { block := BT, off := 0 }), .pointer (some { block := BA, off := 0 }), .pointer (some { block := BB, off := 0 }), .pointer (some { block := BC, off := 0 }), .pointer (some { block := BE, off := 0 }), .pointer (some { block := BG, off := 0 }), .pointer (some { block := BI, off := 0 }), .pointer (some { block := BD, off := 0 }), .pointer (some { block := BD + 1, off := 0 }), .bool false, undef, .pointer (some { block := BN, off := 0 }), .pointer (some { block := BJ, off := 0 }), .pointer (some { block := BU, off := 0 }), .pointer (some { block := BZ, off := 0 }), .pointer (some { block := BW, off := 0 }), .pointer (some { block := BO, off := 0 }), .pointer (some { block := BF, off := 0 }), .pointer (some { block := BGa, off := 0 }), .pointer (some { block := BH, off := 0 }), .string s, .agg #[.slice a1 l1 c1], .string t, .agg #[.slice a2 l2 c2], .string xs, .agg #[.bool s3, .slice a3 l3 c3, .bool t3, .slice b3 k3 d3], .string ys, .agg #[.bool s4, .slice a4 l4 c4, .bool t4, .slice b4 k4 d4], .agg #[.slice a1 l1 c1], .agg #[.slice a2 l2 c2], .agg #[.slice a5 l5 c5], .agg #[.slice a1 l1 c1], .agg #[.slice a2 l2 c2], .agg #[.slice a6 l6 c6], .agg #[.slice a1 l1 c1], .agg #[.bool s3, .slice a3 l3 c3, .bool t3, .slice b3 k3 d3], .agg #[.bool s7, .slice a7 l7 c7, .bool t7, .slice b7 k7 d7], .agg #[.slice a2 l2 c2], .agg #[.bool s3, .slice a3 l3 c3, .bool t3, .slice b3 k3 d3], .agg #[.bool s8, .slice a8 l8 c8, .bool t8, .slice b8 k8 d8], .agg #[.bool s7, .slice a7 l7 c7, .bool t7, .slice b7 k7 d7], .agg #[.bool s8, .slice a8 l8 c8, .bool t8, .slice b8 k8 d8], .agg #[.bool s9, .slice a9 l9 c9, .bool t9, .slice b9 k9 d9], .agg #[.bool s7, .slice a7 l7 c7, .bool t7, .slice b7 k7 d7], .agg #[.bool s8, .slice a8 l8 c8, .bool t8, .slice b8 k8 d8], .agg #[.bool s10, .slice a10 l10 c10, .bool t10, .slice b10 k10 d10], .agg #[.slice a5 l5 c5], .agg #[.bool s3, .slice a3 l3 c3, .bool t3, .slice b3 k3 d3], .agg #[.bool s11, .slice a11 l11 c11, .bool t11, .slice b11 k11 d11], .agg #[.slice a6 l6 c6], .agg #[.bool s3, .slice a3 l3 c3, .bool t3, .slice b3 k3 d3], .agg #[.bool s12, .slice a12 l12 c12, .bool t12, .slice b12 k12 d12], .agg #[.bool s11, .slice a11 l11 c11, .bool t11, .slice b11 k11 d11], .agg #[.bool s9, .slice a9 l9 c9, .bool t9, .slice b9 k9 d9], .int .i64 0, .bool false, .bool false, .agg #[.bool s12, .slice a12 l12 c12, .bool t12, .slice b12 k12 d12], .agg #[.bool s10, .slice a10 l10 c10, .bool t10, .slice b10 k10 d10], .int .i64 0, .bool false, .bool false, .tuple #[.agg #[.slice a15 l15 c15], .agg #[.slice a16 l16 c16], .bool false], .agg #[.slice a1 l1 c1], .agg #[.slice a2 l2 c2], .tuple #[.agg #[.slice a15 l15 c15], .agg #[.slice a16 l16 c16], .bool false], .agg #[.slice a15 l15 c15], .agg #[.slice a16 l16 c16], .bool false, .bool false, undef, undef, undef, undef, undef, undef, undef, undef, undef, undef, undef, undef, undef, undef, undef, undef, undef, undef, .agg #[.slice a1 l1 c1], .agg #[.slice a21 l21 c21], .agg #[.slice a2 l2 c2], .agg #[.slice a22 l22 c22], .agg #[.slice a21 l21 c21], .agg #[.slice a2 l2 c2], .agg #[.slice a23 l23 c23], t109x, t110x, t111x, t112x, t113x, .agg #[.slice a6 l6 c6], .agg #[.slice a25 l25 c25], t116x, t117x, t118x, t119x, .bool false, .agg #[.slice a1 l1 c1], .agg #[.bool s4, .slice a4 l4 c4, .bool t4, .slice b4 k4 d4], .agg #[.slice a28 l28 c28], .agg #[.bool false, .slice none 0 0, .bool false, .slice none 0 0], t125x, t126x, t127x, t128x, t129x, .agg #[.slice a28 l28 c28], .agg #[.bool s3, .slice a3 l3 c3, .bool t3, .slice b3 k3 d3], .agg #[.bool s31, .slice a31 l31 c31, .bool t31, .slice b31 k31 d31], t133x, t134x, t135x, t136x, t137x, t138x, t139x, t140x, t141x, t142x, t143x, t144x, t145x, t146x, t147x, t148x, t149x, t150x, t151x, t152x, t153x, t154x, t155x, t156x, t157x, t158x], defers := [] } ∧ Hid ((D 0 = true → t138x = .agg #[.slice a30 l30 c30]) ∧ (D 1 = true → t139x = .string TP) ∧ (D 2 = true → t140x = .agg #[.slice a1 l1 c1]) ∧ (D 3 = true → t141x = .string TP) ∧ (D 4 = true → t142x = .bool true) ∧ (D 5 = true → t143x = .bool true) ∧ (D 6 = true → t144x = .agg #[.bool s31, .slice a31 l31 c31, .bool t31, .slice b31 k31 d31]) ∧ (D 7 = true → t145x = .agg #[.bool s32, .slice a32 l32 c32, .bool t32, .slice b32 k32 d32]) ∧ (D 8 = true → t146x = .int .i64 0) ∧ (D 9 = true → t147x = .bool true) ∧ (D 10 = true → t148x = .bool true) ∧ (D 11 = true → t149x = .bool true) ∧ (D 12 = true → t150x = .agg #[.slice a28 l28 c28]) ∧ (D 13 = true → t151x = .int .i64 dP) ∧ (D 14 = true → t152x = .agg #[.slice a1 l1 c1]) ∧ (D 15 = true → t153x = .int .i64 dP) ∧ (D 16 = true → t154x = .bool true) ∧ (D 17 = true → t155x = .bool true) ∧ (D 18 = true → t156x = .bool true) ∧ (D 19 = true → t157x = .bool true) ∧ (D 20 = true → t158x = .bool true) ∧ (D 21 = true → t8x = .bool true)) ∧ Hid (Abv V32 V))
            ⟨_, _, _, _, _, _, _, _, _, _, _, _, _, _, _, _, _, _, _, _, _, _, rfl, hidD ⟨by simp, by simp, by simp, by simp, by simp, by simp, by simp, by simp, by simp, by simp, by simp, by simp, by simp, by simp, by simp, by simp, by simp, by simp, by simp, by simp, by simp, by simp⟩, hidD ST0⟩ ?step7 ?fin7
          case step7 =>
            rintro D act V i ds hcl hi hds hDi ⟨t138x, t139x, t140x, t141x, t142x, t143x, t144x, t145x, t146x, t147x, t148x, t149x, t150x, t151x, t152x, t153x, t154x, t155x, t156x, t157x, t158x, t8x, rfl, GG, SS0⟩
            have hi6 : i < 22 := (List.getElem?_eq_some_iff.1 hi).1
            obtain rfl | rfl | rfl | rfl | rfl | rfl | rfl | rfl | rfl | rfl | rfl | rfl | rfl | rfl | rfl | rfl | rfl | rfl | rfl | rfl | rfl | rfl : i = 0 ∨ i = 1 ∨ i = 2 ∨ i = 3 ∨ i = 4 ∨ i = 5 ∨ i = 6 ∨ i = 7 ∨ i = 8 ∨ i = 9 ∨ i = 10 ∨ i = 11 ∨ i = 12 ∨ i = 13 ∨ i = 14 ∨ i = 15 ∨ i = 16 ∨ i = 17 ∨ i = 18 ∨ i = 19 ∨ i = 20 ∨ i = 21 := by omega
            all_goals
              simp only [List.getElem?_cons_zero, List.getElem?_cons_succ, Option.some.injEq] at hi
              subst hi
            · have hS0 := SS0.out
              have eF := (nF.bel hS0).cell
              clear hds
              refine wpOp_go rfl rfl (fun K hK => ?_)
              go_simp
              exact hK _ _ ⟨_, _, _, _, _, _, _, _, _, _, _, _, _, _, _, _, _, _, _, _, _, _, rfl, hidD ⟨fun _ => rfl, GG.out.2.1, GG.out.2.2.1, GG.out.2.2.2.1, GG.out.2.2.2.2.1, GG.out.2.2.2.2.2.1, GG.out.2.2.2.2.2.2.1, GG.out.2.2.2.2.2.2.2.1, GG.out.2.2.2.2.2.2.2.2.1, GG.out.2.2.2.2.2.2.2.2.2.1, GG.out.2.2.2.2.2.2.2.2.2.2.1, GG.out.2.2.2.2.2.2.2.2.2.2.2.1, GG.out.2.2.2.2.2.2.2.2.2.2.2.2.1, GG.out.2.2.2.2.2.2.2.2.2.2.2.2.2.1, GG.out.2.2.2.2.2.2.2.2.2.2.2.2.2.2.1, GG.out.2.2.2.2.2.2.2.2.2.2.2.2.2.2.2.1, GG.out.2.2.2.2.2.2.2.2.2.2.2.2.2.2.2.2.1, GG.out.2.2.2.2.2.2.2.2.2.2.2.2.2.2.2.2.2.1, GG.out.2.2.2.2.2.2.2.2.2.2.2.2.2.2.2.2.2.2.1, GG.out.2.2.2.2.2.2.2.2.2.2.2.2.2.2.2.2.2.2.2.1, GG.out.2.2.2.2.2.2.2.2.2.2.2.2.2.2.2.2.2.2.2.2.1, GG.out.2.2.2.2.2.2.2.2.2.2.2.2.2.2.2.2.2.2.2.2.2⟩, hidD (SS0.out)⟩
            · have hS0 := SS0.out
              obtain rfl := GG.out.1 (hds 0 (by simp))
              clear hds
              have HC := hidD (H1.out V hS0)
              refine wpOp_go rfl rfl (fun K hK => ?_)
              go_simp
              go_wp2_with (go_at_call 13; refine HC.out.mono ?_; rintro e w5 ⟨rfl, hb5⟩)
              exact ⟨_, _, _, _, _, _, _, _, _, _, _, _, _, _, _, _, _, _, _, _, _, _, rfl, hidD ⟨fun _ => rfl, fun _ => rfl, GG.out.2.2.1, GG.out.2.2.2.1, GG.out.2.2.2.2.1, GG.out.2.2.2.2.2.1, GG.out.2.2.2.2.2.2.1, GG.out.2.2.2.2.2.2.2.1, GG.out.2.2.2.2.2.2.2.2.1, GG.out.2.2.2.2.2.2.2.2.2.1, GG.out.2.2.2.2.2.2.2.2.2.2.1, GG.out.2.2.2.2.2.2.2.2.2.2.2.1, GG.out.2.2.2.2.2.2.2.2.2.2.2.2.1, GG.out.2.2.2.2.2.2.2.2.2.2.2.2.2.1, GG.out.2.2.2.2.2.2.2.2.2.2.2.2.2.2.1, GG.out.2.2.2.2.2.2.2.2.2.2.2.2.2.2.2.1, GG.out.2.2.2.2.2.2.2.2.2.2.2.2.2.2.2.2.1, GG.out.2.2.2.2.2.2.2.2.2.2.2.2.2.2.2.2.2.1, GG.out.2.2.2.2.2.2.2.2.2.2.2.2.2.2.2.2.2.2.1, GG.out.2.2.2.2.2.2.2.2.2.2.2.2.2.2.2.2.2.2.2.1, GG.out.2.2.2.2.2.2.2.2.2.2.2.2.2.2.2.2.2.2.2.2.1, GG.out.2.2.2.2.2.2.2.2.2.2.2.2.2.2.2.2.2.2.2.2.2⟩, hidD (SS0.out.below hb5)⟩
            · have hS0 := SS0.out
              have eP := (nP.bel hS0).cell
              clear hds
              refine wpOp_go rfl rfl (fun K hK => ?_)
              go_simp
              exact hK _ _ ⟨_, _, _, _, _, _, _, _, _, _, _, _, _, _, _, _, _, _, _, _, _, _, rfl, hidD ⟨GG.out.1, GG.out.2.1, fun _ => rfl, GG.out.2.2.2.1, GG.out.2.2.2.2.1, GG.out.2.2.2.2.2.1, GG.out.2.2.2.2.2.2.1, GG.out.2.2.2.2.2.2.2.1, GG.out.2.2.2.2.2.2.2.2.1, GG.out.2.2.2.2.2.2.2.2.2.1, GG.out.2.2.2.2.2.2.2.2.2.2.1, GG.out.2.2.2.2.2.2.2.2.2.2.2.1, GG.out.2.2.2.2.2.2.2.2.2.2.2.2.1, GG.out.2.2.2.2.2.2.2.2.2.2.2.2.2.1, GG.out.2.2.2.2.2.2.2.2.2.2.2.2.2.2.1, GG.out.2.2.2.2.2.2.2.2.2.2.2.2.2.2.2.1, GG.out.2.2.2.2.2.2.2.2.2.2.2.2.2.2.2.2.1, GG.out.2.2.2.2.2.2.2.2.2.2.2.2.2.2.2.2.2.1, GG.out.2.2.2.2.2.2.2.2.2.2.2.2.2.2.2.2.2.2.1, GG.out.2.2.2.2.2.2.2.2.2.2.2.2.2.2.2.2.2.2.2.1, GG.out.2.2.2.2.2.2.2.2.2.2.2.2.2.2.2.2.2.2.2.2.1, GG.out.2.2.2.2.2.2.2.2.2.2.2.2.2.2.2.2.2.2.2.2.2⟩, hidD (SS0.out)⟩
            · have hS0 := SS0.out
              obtain rfl := GG.out.2.2.1 (hds 2 (by simp))
              clear hds
              have HC := hidD (H2.out V hS0)
              refine wpOp_go rfl rfl (fun K hK => ?_)
              go_simp
              go_wp2_with (go_at_call 13; refine HC.out.mono ?_; rintro e w5 ⟨rfl, hb5⟩)
              exact ⟨_, _, _, _, _, _, _, _, _, _, _, _, _, _, _, _, _, _, _, _, _, _, rfl, hidD ⟨GG.out.1, GG.out.2.1, fun _ => rfl, fun _ => rfl, GG.out.2.2.2.2.1, GG.out.2.2.2.2.2.1, GG.out.2.2.2.2.2.2.1, GG.out.2.2.2.2.2.2.2.1, GG.out.2.2.2.2.2.2.2.2.1, GG.out.2.2.2.2.2.2.2.2.2.1, GG.out.2.2.2.2.2.2.2.2.2.2.1, GG.out.2.2.2.2.2.2.2.2.2.2.2.1, GG.out.2.2.2.2.2.2.2.2.2.2.2.2.1, GG.out.2.2.2.2.2.2.2.2.2.2.2.2.2.1, GG.out.2.2.2.2.2.2.2.2.2.2.2.2.2.2.1, GG.out.2.2.2.2.2.2.2.2.2.2.2.2.2.2.2.1, GG.out.2.2.2.2.2.2.2.2.2.2.2.2.2.2.2.2.1, GG.out.2.2.2.2.2.2.2.2.2.2.2.2.2.2.2.2.2.1, GG.out.2.2.2.2.2.2.2.2.2.2.2.2.2.2.2.2.2.2.1, GG.out.2.2.2.2.2.2.2.2.2.2.2.2.2.2.2.2.2.2.2.1, GG.out.2.2.2.2.2.2.2.2.2.2.2.2.2.2.2.2.2.2.2.2.1, GG.out.2.2.2.2.2.2.2.2.2.2.2.2.2.2.2.2.2.2.2.2.2⟩, hidD (SS0.out.below hb5)⟩
            · have hS0 := SS0.out
              obtain rfl := GG.out.2.1 (hds 1 (by simp))
              obtain rfl := GG.out.2.2.2.1 (hds 3 (by simp))
              clear hds
              refine wpOp_go rfl rfl (fun K hK => ?_)
              go_simp
              exact hK _ _ ⟨_, _, _, _, _, _, _, _, _, _, _, _, _, _, _, _, _, _, _, _, _, _, rfl, hidD ⟨GG.out.1, fun _ => rfl, GG.out.2.2.1, fun _ => rfl, fun _ => rfl, GG.out.2.2.2.2.2.1, GG.out.2.2.2.2.2.2.1, GG.out.2.2.2.2.2.2.2.1, GG.out.2.2.2.2.2.2.2.2.1, GG.out.2.2.2.2.2.2.2.2.2.1, GG.out.2.2.2.2.2.2.2.2.2.2.1, GG.out.2.2.2.2.2.2.2.2.2.2.2.1, GG.out.2.2.2.2.2.2.2.2.2.2.2.2.1, GG.out.2.2.2.2.2.2.2.2.2.2.2.2.2.1, GG.out.2.2.2.2.2.2.2.2.2.2.2.2.2.2.1, GG.out.2.2.2.2.2.2.2.2.2.2.2.2.2.2.2.1, GG.out.2.2.2.2.2.2.2.2.2.2.2.2.2.2.2.2.1, GG.out.2.2.2.2.2.2.2.2.2.2.2.2.2.2.2.2.2.1, GG.out.2.2.2.2.2.2.2.2.2.2.2.2.2.2.2.2.2.2.1, GG.out.2.2.2.2.2.2.2.2.2.2.2.2.2.2.2.2.2.2.2.1, GG.out.2.2.2.2.2.2.2.2.2.2.2.2.2.2.2.2.2.2.2.2.1, GG.out.2.2.2.2.2.2.2.2.2.2.2.2.2.2.2.2.2.2.2.2.2⟩, hidD (SS0.out)⟩
            · have hS0 := SS0.out
              obtain rfl := GG.out.2.2.2.2.1 (hds 4 (by simp))
              clear hds
              refine wpOp_go rfl rfl (fun K hK => ?_)
              go_simp
              exact hK _ _ ⟨_, _, _, _, _, _, _, _, _, _, _, _, _, _, _, _, _, _, _, _, _, _, rfl, hidD ⟨GG.out.1, GG.out.2.1, GG.out.2.2.1, GG.out.2.2.2.1, fun _ => rfl, fun _ => rfl, GG.out.2.2.2.2.2.2.1, GG.out.2.2.2.2.2.2.2.1, GG.out.2.2.2.2.2.2.2.2.1, GG.out.2.2.2.2.2.2.2.2.2.1, GG.out.2.2.2.2.2.2.2.2.2.2.1, GG.out.2.2.2.2.2.2.2.2.2.2.2.1, GG.out.2.2.2.2.2.2.2.2.2.2.2.2.1, GG.out.2.2.2.2.2.2.2.2.2.2.2.2.2.1, GG.out.2.2.2.2.2.2.2.2.2.2.2.2.2.2.1, GG.out.2.2.2.2.2.2.2.2.2.2.2.2.2.2.2.1, GG.out.2.2.2.2.2.2.2.2.2.2.2.2.2.2.2.2.1, GG.out.2.2.2.2.2.2.2.2.2.2.2.2.2.2.2.2.2.1, GG.out.2.2.2.2.2.2.2.2.2.2.2.2.2.2.2.2.2.2.1, GG.out.2.2.2.2.2.2.2.2.2.2.2.2.2.2.2.2.2.2.2.1, GG.out.2.2.2.2.2.2.2.2.2.2.2.2.2.2.2.2.2.2.2.2.1, GG.out.2.2.2.2.2.2.2.2.2.2.2.2.2.2.2.2.2.2.2.2.2⟩, hidD (SS0.out)⟩
            · have hS0 := SS0.out
              obtain rfl := GG.out.2.2.2.2.2.1 (hds 5 (by simp))
              have eGa0 := (nGa.below hS0).c0
              have eGa1 := (nGa.below hS0).c1
              have eGa2 := (nGa.below hS0).c2
              have eGa3 := (nGa.below hS0).c3
              clear hds
              refine wpOp_yes rfl rfl (fun K hK => ?_)
              go_simp
              exact hK _ _ ⟨_, _, _, _, _, _, _, _, _, _, _, _, _, _, _, _, _, _, _, _, _, _, rfl, hidD ⟨GG.out.1, GG.out.2.1, GG.out.2.2.1, GG.out.2.2.2.1, GG.out.2.2.2.2.1, fun _ => rfl, fun _ => rfl, GG.out.2.2.2.2.2.2.2.1, GG.out.2.2.2.2.2.2.2.2.1, GG.out.2.2.2.2.2.2.2.2.2.1, GG.out.2.2.2.2.2.2.2.2.2.2.1, GG.out.2.2.2.2.2.2.2.2.2.2.2.1, GG.out.2.2.2.2.2.2.2.2.2.2.2.2.1, GG.out.2.2.2.2.2.2.2.2.2.2.2.2.2.1, GG.out.2.2.2.2.2.2.2.2.2.2.2.2.2.2.1, GG.out.2.2.2.2.2.2.2.2.2.2.2.2.2.2.2.1, GG.out.2.2.2.2.2.2.2.2.2.2.2.2.2.2.2.2.1, GG.out.2.2.2.2.2.2.2.2.2.2.2.2.2.2.2.2.2.1, GG.out.2.2.2.2.2.2.2.2.2.2.2.2.2.2.2.2.2.2.1, GG.out.2.2.2.2.2.2.2.2.2.2.2.2.2.2.2.2.2.2.2.1, GG.out.2.2.2.2.2.2.2.2.2.2.2.2.2.2.2.2.2.2.2.2.1, GG.out.2.2.2.2.2.2.2.2.2.2.2.2.2.2.2.2.2.2.2.2.2⟩, hidD (SS0.out)⟩
            · have hS0 := SS0.out
              obtain rfl := GG.out.2.2.2.2.2.1 (hds 5 (by simp))
              have eH0 := (nH.below hS0).c0
              have eH1 := (nH.below hS0).c1
              have eH2 := (nH.below hS0).c2
              have eH3 := (nH.below hS0).c3
              clear hds
              refine wpOp_yes rfl rfl (fun K hK => ?_)
              go_simp
              exact hK _ _ ⟨_, _, _, _, _, _, _, _, _, _, _, _, _, _, _, _, _, _, _, _, _, _, rfl, hidD ⟨GG.out.1, GG.out.2.1, GG.out.2.2.1, GG.out.2.2.2.1, GG.out.2.2.2.2.1, fun _ => rfl, GG.out.2.2.2.2.2.2.1, fun _ => rfl, GG.out.2.2.2.2.2.2.2.2.1, GG.out.2.2.2.2.2.2.2.2.2.1, GG.out.2.2.2.2.2.2.2.2.2.2.1, GG.out.2.2.2.2.2.2.2.2.2.2.2.1, GG.out.2.2.2.2.2.2.2.2.2.2.2.2.1, GG.out.2.2.2.2.2.2.2.2.2.2.2.2.2.1, GG.out.2.2.2.2.2.2.2.2.2.2.2.2.2.2.1, GG.out.2.2.2.2.2.2.2.2.2.2.2.2.2.2.2.1, GG.out.2.2.2.2.2.2.2.2.2.2.2.2.2.2.2.2.1, GG.out.2.2.2.2.2.2.2.2.2.2.2.2.2.2.2.2.2.1, GG.out.2.2.2.2.2.2.2.2.2.2.2.2.2.2.2.2.2.2.1, GG.out.2.2.2.2.2.2.2.2.2.2.2.2.2.2.2.2.2.2.2.1, GG.out.2.2.2.2.2.2.2.2.2.2.2.2.2.2.2.2.2.2.2.2.1, GG.out.2.2.2.2.2.2.2.2.2.2.2.2.2.2.2.2.2.2.2.2.2⟩, hidD (SS0.out)⟩
            · have hS0 := SS0.out
              obtain rfl := GG.out.2.2.2.2.2.2.1 (hds 6 (by simp))
              obtain rfl := GG.out.2.2.2.2.2.2.2.1 (hds 7 (by simp))
              obtain rfl := GG.out.2.2.2.2.2.1 (hds 5 (by simp))
              clear hds
              have HC := hidD (H3.out V hS0)
              refine wpOp_yes rfl rfl (fun K hK => ?_)
              go_simp
              go_wp2_with (go_at_call 42; refine HC.out.mono ?_; rintro e w5 ⟨rfl, hb5⟩)
              exact ⟨_, _, _, _, _, _, _, _, _, _, _, _, _, _, _, _, _, _, _, _, _, _, rfl, hidD ⟨GG.out.1, GG.out.2.1, GG.out.2.2.1, GG.out.2.2.2.1, GG.out.2.2.2.2.1, fun _ => rfl, fun _ => rfl, fun _ => rfl, fun _ => rfl, GG.out.2.2.2.2.2.2.2.2.2.1, GG.out.2.2.2.2.2.2.2.2.2.2.1, GG.out.2.2.2.2.2.2.2.2.2.2.2.1, GG.out.2.2.2.2.2.2.2.2.2.2.2.2.1, GG.out.2.2.2.2.2.2.2.2.2.2.2.2.2.1, GG.out.2.2.2.2.2.2.2.2.2.2.2.2.2.2.1, GG.out.2.2.2.2.2.2.2.2.2.2.2.2.2.2.2.1, GG.out.2.2.2.2.2.2.2.2.2.2.2.2.2.2.2.2.1, GG.out.2.2.2.2.2.2.2.2.2.2.2.2.2.2.2.2.2.1, GG.out.2.2.2.2.2.2.2.2.2.2.2.2.2.2.2.2.2.2.1, GG.out.2.2.2.2.2.2.2.2.2.2.2.2.2.2.2.2.2.2.2.1, GG.out.2.2.2.2.2.2.2.2.2.2.2.2.2.2.2.2.2.2.2.2.1, GG.out.2.2.2.2.2.2.2.2.2.2.2.2.2.2.2.2.2.2.2.2.2⟩, hidD (SS0.out.below hb5)⟩
            · have hS0 := SS0.out
              obtain rfl := GG.out.2.2.2.2.2.2.2.2.1 (hds 8 (by simp))
              obtain rfl := GG.out.2.2.2.2.2.1 (hds 5 (by simp))
              clear hds
              refine wpOp_yes rfl rfl (fun K hK => ?_)
              go_simp
              exact hK _ _ ⟨_, _, _, _, _, _, _, _, _, _, _, _, _, _, _, _, _, _, _, _, _, _, rfl, hidD ⟨GG.out.1, GG.out.2.1, GG.out.2.2.1, GG.out.2.2.2.1, GG.out.2.2.2.2.1, fun _ => rfl, GG.out.2.2.2.2.2.2.1, GG.out.2.2.2.2.2.2.2.1, fun _ => rfl, fun _ => rfl, GG.out.2.2.2.2.2.2.2.2.2.2.1, GG.out.2.2.2.2.2.2.2.2.2.2.2.1, GG.out.2.2.2.2.2.2.2.2.2.2.2.2.1, GG.out.2.2.2.2.2.2.2.2.2.2.2.2.2.1, GG.out.2.2.2.2.2.2.2.2.2.2.2.2.2.2.1, GG.out.2.2.2.2.2.2.2.2.2.2.2.2.2.2.2.1, GG.out.2.2.2.2.2.2.2.2.2.2.2.2.2.2.2.2.1, GG.out.2.2.2.2.2.2.2.2.2.2.2.2.2.2.2.2.2.1, GG.out.2.2.2.2.2.2.2.2.2.2.2.2.2.2.2.2.2.2.1, GG.out.2.2.2.2.2.2.2.2.2.2.2.2.2.2.2.2.2.2.2.1, GG.out.2.2.2.2.2.2.2.2.2.2.2.2.2.2.2.2.2.2.2.2.1, GG.out.2.2.2.2.2.2.2.2.2.2.2.2.2.2.2.2.2.2.2.2.2⟩, hidD (SS0.out)⟩
            · have hS0 := SS0.out
              obtain rfl := GG.out.2.2.2.2.2.1 (hds 5 (by simp))
              obtain rfl := GG.out.2.2.2.2.2.2.2.2.2.1 (hds 9 (by simp))
              clear hds
              refine wpOp_go rfl rfl (fun K hK => ?_)
              go_simp
              exact hK _ _ ⟨_, _, _, _, _, _, _, _, _, _, _, _, _, _, _, _, _, _, _, _, _, _, rfl, hidD ⟨GG.out.1, GG.out.2.1, GG.out.2.2.1, GG.out.2.2.2.1, GG.out.2.2.2.2.1, fun _ => rfl, GG.out.2.2.2.2.2.2.1, GG.out.2.2.2.2.2.2.2.1, GG.out.2.2.2.2.2.2.2.2.1, fun _ => rfl, fun _ => rfl, GG.out.2.2.2.2.2.2.2.2.2.2.2.1, GG.out.2.2.2.2.2.2.2.2.2.2.2.2.1, GG.out.2.2.2.2.2.2.2.2.2.2.2.2.2.1, GG.out.2.2.2.2.2.2.2.2.2.2.2.2.2.2.1, GG.out.2.2.2.2.2.2.2.2.2.2.2.2.2.2.2.1, GG.out.2.2.2.2.2.2.2.2.2.2.2.2.2.2.2.2.1, GG.out.2.2.2.2.2.2.2.2.2.2.2.2.2.2.2.2.2.1, GG.out.2.2.2.2.2.2.2.2.2.2.2.2.2.2.2.2.2.2.1, GG.out.2.2.2.2.2.2.2.2.2.2.2.2.2.2.2.2.2.2.2.1, GG.out.2.2.2.2.2.2.2.2.2.2.2.2.2.2.2.2.2.2.2.2.1, GG.out.2.2.2.2.2.2.2.2.2.2.2.2.2.2.2.2.2.2.2.2.2⟩, hidD (SS0.out)⟩
            · have hS0 := SS0.out
              obtain rfl := GG.out.2.2.2.2.2.2.2.2.2.2.1 (hds 10 (by simp))
              clear hds
              refine wpOp_go rfl rfl (fun K hK => ?_)
              go_simp
              exact hK _ _ ⟨_, _, _, _, _, _, _, _, _, _, _, _, _, _, _, _, _, _, _, _, _, _, rfl, hidD ⟨GG.out.1, GG.out.2.1, GG.out.2.2.1, GG.out.2.2.2.1, GG.out.2.2.2.2.1, GG.out.2.2.2.2.2.1, GG.out.2.2.2.2.2.2.1, GG.out.2.2.2.2.2.2.2.1, GG.out.2.2.2.2.2.2.2.2.1, GG.out.2.2.2.2.2.2.2.2.2.1, fun _ => rfl, fun _ => rfl, GG.out.2.2.2.2.2.2.2.2.2.2.2.2.1, GG.out.2.2.2.2.2.2.2.2.2.2.2.2.2.1, GG.out.2.2.2.2.2.2.2.2.2.2.2.2.2.2.1, GG.out.2.2.2.2.2.2.2.2.2.2.2.2.2.2.2.1, GG.out.2.2.2.2.2.2.2.2.2.2.2.2.2.2.2.2.1, GG.out.2.2.2.2.2.2.2.2.2.2.2.2.2.2.2.2.2.1, GG.out.2.2.2.2.2.2.2.2.2.2.2.2.2.2.2.2.2.2.1, GG.out.2.2.2.2.2.2.2.2.2.2.2.2.2.2.2.2.2.2.2.1, GG.out.2.2.2.2.2.2.2.2.2.2.2.2.2.2.2.2.2.2.2.2.1, GG.out.2.2.2.2.2.2.2.2.2.2.2.2.2.2.2.2.2.2.2.2.2⟩, hidD (SS0.out)⟩
            · have hS0 := SS0.out
              obtain rfl := GG.out.2.2.2.2.2.2.2.2.2.2.2.1 (hds 11 (by simp))
              have eW := (nW.bel hS0).cell
              clear hds
              refine wpOp_yes rfl rfl (fun K hK => ?_)
              go_simp
              exact hK _ _ ⟨_, _, _, _, _, _, _, _, _, _, _, _, _, _, _, _, _, _, _, _, _, _, rfl, hidD ⟨GG.out.1, GG.out.2.1, GG.out.2.2.1, GG.out.2.2.2.1, GG.out.2.2.2.2.1, GG.out.2.2.2.2.2.1, GG.out.2.2.2.2.2.2.1, GG.out.2.2.2.2.2.2.2.1, GG.out.2.2.2.2.2.2.2.2.1, GG.out.2.2.2.2.2.2.2.2.2.1, GG.out.2.2.2.2.2.2.2.2.2.2.1, fun _ => rfl, fun _ => rfl, GG.out.2.2.2.2.2.2.2.2.2.2.2.2.2.1, GG.out.2.2.2.2.2.2.2.2.2.2.2.2.2.2.1, GG.out.2.2.2.2.2.2.2.2.2.2.2.2.2.2.2.1, GG.out.2.2.2.2.2.2.2.2.2.2.2.2.2.2.2.2.1, GG.out.2.2.2.2.2.2.2.2.2.2.2.2.2.2.2.2.2.1, GG.out.2.2.2.2.2.2.2.2.2.2.2.2.2.2.2.2.2.2.1, GG.out.2.2.2.2.2.2.2.2.2.2.2.2.2.2.2.2.2.2.2.1, GG.out.2.2.2.2.2.2.2.2.2.2.2.2.2.2.2.2.2.2.2.2.1, GG.out.2.2.2.2.2.2.2.2.2.2.2.2.2.2.2.2.2.2.2.2.2⟩, hidD (SS0.out)⟩
            · have hS0 := SS0.out
              obtain rfl := GG.out.2.2.2.2.2.2.2.2.2.2.2.2.1 (hds 12 (by simp))
              obtain rfl := GG.out.2.2.2.2.2.2.2.2.2.2.2.1 (hds 11 (by simp))
              clear hds
              have HC := hidD (H4.out V hS0)
              refine wpOp_yes rfl rfl (fun K hK => ?_)
              go_simp
              go_wp2_with (go_at_call 15; refine HC.out.mono ?_; rintro e w5 ⟨rfl, hb5⟩)
              exact ⟨_, _, _, _, _, _, _, _, _, _, _, _, _, _, _, _, _, _, _, _, _, _, rfl, hidD ⟨GG.out.1, GG.out.2.1, GG.out.2.2.1, GG.out.2.2.2.1, GG.out.2.2.2.2.1, GG.out.2.2.2.2.2.1, GG.out.2.2.2.2.2.2.1, GG.out.2.2.2.2.2.2.2.1, GG.out.2.2.2.2.2.2.2.2.1, GG.out.2.2.2.2.2.2.2.2.2.1, GG.out.2.2.2.2.2.2.2.2.2.2.1, fun _ => rfl, fun _ => rfl, fun _ => rfl, GG.out.2.2.2.2.2.2.2.2.2.2.2.2.2.2.1, GG.out.2.2.2.2.2.2.2.2.2.2.2.2.2.2.2.1, GG.out.2.2.2.2.2.2.2.2.2.2.2.2.2.2.2.2.1, GG.out.2.2.2.2.2.2.2.2.2.2.2.2.2.2.2.2.2.1, GG.out.2.2.2.2.2.2.2.2.2.2.2.2.2.2.2.2.2.2.1, GG.out.2.2.2.2.2.2.2.2.2.2.2.2.2.2.2.2.2.2.2.1, GG.out.2.2.2.2.2.2.2.2.2.2.2.2.2.2.2.2.2.2.2.2.1, GG.out.2.2.2.2.2.2.2.2.2.2.2.2.2.2.2.2.2.2.2.2.2⟩, hidD (SS0.out.below hb5)⟩
            · have hS0 := SS0.out
              obtain rfl := GG.out.2.2.2.2.2.2.2.2.2.2.2.1 (hds 11 (by simp))
              have eP := (nP.bel hS0).cell
              clear hds
              refine wpOp_yes rfl rfl (fun K hK => ?_)
              go_simp
              exact hK _ _ ⟨_, _, _, _, _, _, _, _, _, _, _, _, _, _, _, _, _, _, _, _, _, _, rfl, hidD ⟨GG.out.1, GG.out.2.1, GG.out.2.2.1, GG.out.2.2.2.1, GG.out.2.2.2.2.1, GG.out.2.2.2.2.2.1, GG.out.2.2.2.2.2.2.1, GG.out.2.2.2.2.2.2.2.1, GG.out.2.2.2.2.2.2.2.2.1, GG.out.2.2.2.2.2.2.2.2.2.1, GG.out.2.2.2.2.2.2.2.2.2.2.1, fun _ => rfl, GG.out.2.2.2.2.2.2.2.2.2.2.2.2.1, GG.out.2.2.2.2.2.2.2.2.2.2.2.2.2.1, fun _ => rfl, GG.out.2.2.2.2.2.2.2.2.2.2.2.2.2.2.2.1, GG.out.2.2.2.2.2.2.2.2.2.2.2.2.2.2.2.2.1, GG.out.2.2.2.2.2.2.2.2.2.2.2.2.2.2.2.2.2.1, GG.out.2.2.2.2.2.2.2.2.2.2.2.2.2.2.2.2.2.2.1, GG.out.2.2.2.2.2.2.2.2.2.2.2.2.2.2.2.2.2.2.2.1, GG.out.2.2.2.2.2.2.2.2.2.2.2.2.2.2.2.2.2.2.2.2.1, GG.out.2.2.2.2.2.2.2.2.2.2.2.2.2.2.2.2.2.2.2.2.2⟩, hidD (SS0.out)⟩
            · have hS0 := SS0.out
              obtain rfl := GG.out.2.2.2.2.2.2.2.2.2.2.2.2.2.2.1 (hds 14 (by simp))
              obtain rfl := GG.out.2.2.2.2.2.2.2.2.2.2.2.1 (hds 11 (by simp))
              clear hds
              have HC := hidD (H5.out V hS0)
              refine wpOp_yes rfl rfl (fun K hK => ?_)
              go_simp
              go_wp2_with (go_at_call 15; refine HC.out.mono ?_; rintro e w5 ⟨rfl, hb5⟩)
              exact ⟨_, _, _, _, _, _, _, _, _, _, _, _, _, _, _, _, _, _, _, _, _, _, rfl, hidD ⟨GG.out.1, GG.out.2.1, GG.out.2.2.1, GG.out.2.2.2.1, GG.out.2.2.2.2.1, GG.out.2.2.2.2.2.1, GG.out.2.2.2.2.2.2.1, GG.out.2.2.2.2.2.2.2.1, GG.out.2.2.2.2.2.2.2.2.1, GG.out.2.2.2.2.2.2.2.2.2.1, GG.out.2.2.2.2.2.2.2.2.2.2.1, fun _ => rfl, GG.out.2.2.2.2.2.2.2.2.2.2.2.2.1, GG.out.2.2.2.2.2.2.2.2.2.2.2.2.2.1, fun _ => rfl, fun _ => rfl, GG.out.2.2.2.2.2.2.2.2.2.2.2.2.2.2.2.2.1, GG.out.2.2.2.2.2.2.2.2.2.2.2.2.2.2.2.2.2.1, GG.out.2.2.2.2.2.2.2.2.2.2.2.2.2.2.2.2.2.2.1, GG.out.2.2.2.2.2.2.2.2.2.2.2.2.2.2.2.2.2.2.2.1, GG.out.2.2.2.2.2.2.2.2.2.2.2.2.2.2.2.2.2.2.2.2.1, GG.out.2.2.2.2.2.2.2.2.2.2.2.2.2.2.2.2.2.2.2.2.2⟩, hidD (SS0.out.below hb5)⟩
            · have hS0 := SS0.out
              obtain rfl := GG.out.2.2.2.2.2.2.2.2.2.2.2.2.2.1 (hds 13 (by simp))
              obtain rfl := GG.out.2.2.2.2.2.2.2.2.2.2.2.2.2.2.2.1 (hds 15 (by simp))
              obtain rfl := GG.out.2.2.2.2.2.2.2.2.2.2.2.1 (hds 11 (by simp))
              clear hds
              refine wpOp_yes rfl rfl (fun K hK => ?_)
              go_simp
              exact hK _ _ ⟨_, _, _, _, _, _, _, _, _, _, _, _, _, _, _, _, _, _, _, _, _, _, rfl, hidD ⟨GG.out.1, GG.out.2.1, GG.out.2.2.1, GG.out.2.2.2.1, GG.out.2.2.2.2.1, GG.out.2.2.2.2.2.1, GG.out.2.2.2.2.2.2.1, GG.out.2.2.2.2.2.2.2.1, GG.out.2.2.2.2.2.2.2.2.1, GG.out.2.2.2.2.2.2.2.2.2.1, GG.out.2.2.2.2.2.2.2.2.2.2.1, fun _ => rfl, GG.out.2.2.2.2.2.2.2.2.2.2.2.2.1, fun _ => rfl, GG.out.2.2.2.2.2.2.2.2.2.2.2.2.2.2.1, fun _ => rfl, fun _ => rfl, GG.out.2.2.2.2.2.2.2.2.2.2.2.2.2.2.2.2.2.1, GG.out.2.2.2.2.2.2.2.2.2.2.2.2.2.2.2.2.2.2.1, GG.out.2.2.2.2.2.2.2.2.2.2.2.2.2.2.2.2.2.2.2.1, GG.out.2.2.2.2.2.2.2.2.2.2.2.2.2.2.2.2.2.2.2.2.1, GG.out.2.2.2.2.2.2.2.2.2.2.2.2.2.2.2.2.2.2.2.2.2⟩, hidD (SS0.out)⟩
            · have hS0 := SS0.out
              obtain rfl := GG.out.2.2.2.2.2.2.2.2.2.2.2.1 (hds 11 (by simp))
              obtain rfl := GG.out.2.2.2.2.2.2.2.2.2.2.2.2.2.2.2.2.1 (hds 16 (by simp))
              clear hds
              refine wpOp_go rfl rfl (fun K hK => ?_)
              go_simp
              exact hK _ _ ⟨_, _, _, _, _, _, _, _, _, _, _, _, _, _, _, _, _, _, _, _, _, _, rfl, hidD ⟨GG.out.1, GG.out.2.1, GG.out.2.2.1, GG.out.2.2.2.1, GG.out.2.2.2.2.1, GG.out.2.2.2.2.2.1, GG.out.2.2.2.2.2.2.1, GG.out.2.2.2.2.2.2.2.1, GG.out.2.2.2.2.2.2.2.2.1, GG.out.2.2.2.2.2.2.2.2.2.1, GG.out.2.2.2.2.2.2.2.2.2.2.1, fun _ => rfl, GG.out.2.2.2.2.2.2.2.2.2.2.2.2.1, GG.out.2.2.2.2.2.2.2.2.2.2.2.2.2.1, GG.out.2.2.2.2.2.2.2.2.2.2.2.2.2.2.1, GG.out.2.2.2.2.2.2.2.2.2.2.2.2.2.2.2.1, fun _ => rfl, fun _ => rfl, GG.out.2.2.2.2.2.2.2.2.2.2.2.2.2.2.2.2.2.2.1, GG.out.2.2.2.2.2.2.2.2.2.2.2.2.2.2.2.2.2.2.2.1, GG.out.2.2.2.2.2.2.2.2.2.2.2.2.2.2.2.2.2.2.2.2.1, GG.out.2.2.2.2.2.2.2.2.2.2.2.2.2.2.2.2.2.2.2.2.2⟩, hidD (SS0.out)⟩
            · have hS0 := SS0.out
              obtain rfl := GG.out.2.2.2.2.2.2.2.2.2.2.2.2.2.2.2.2.2.1 (hds 17 (by simp))
              clear hds
              refine wpOp_go rfl rfl (fun K hK => ?_)
              go_simp
              exact hK _ _ ⟨_, _, _, _, _, _, _, _, _, _, _, _, _, _, _, _, _, _, _, _, _, _, rfl, hidD ⟨GG.out.1, GG.out.2.1, GG.out.2.2.1, GG.out.2.2.2.1, GG.out.2.2.2.2.1, GG.out.2.2.2.2.2.1, GG.out.2.2.2.2.2.2.1, GG.out.2.2.2.2.2.2.2.1, GG.out.2.2.2.2.2.2.2.2.1, GG.out.2.2.2.2.2.2.2.2.2.1, GG.out.2.2.2.2.2.2.2.2.2.2.1, GG.out.2.2.2.2.2.2.2.2.2.2.2.1, GG.out.2.2.2.2.2.2.2.2.2.2.2.2.1, GG.out.2.2.2.2.2.2.2.2.2.2.2.2.2.1, GG.out.2.2.2.2.2.2.2.2.2.2.2.2.2.2.1, GG.out.2.2.2.2.2.2.2.2.2.2.2.2.2.2.2.1, GG.out.2.2.2.2.2.2.2.2.2.2.2.2.2.2.2.2.1, fun _ => rfl, fun _ => rfl, GG.out.2.2.2.2.2.2.2.2.2.2.2.2.2.2.2.2.2.2.2.1, GG.out.2.2.2.2.2.2.2.2.2.2.2.2.2.2.2.2.2.2.2.2.1, GG.out.2.2.2.2.2.2.2.2.2.2.2.2.2.2.2.2.2.2.2.2.2⟩, hidD (SS0.out)⟩
            · have hS0 := SS0.out
              obtain rfl := GG.out.2.2.2.2.2.2.2.2.2.2.2.2.2.2.2.2.2.2.1 (hds 18 (by simp))
              clear hds
              have HC := hidD (H6.out V hS0)
              refine wpOp_yes rfl rfl (fun K hK => ?_)
              go_simp
              go_wp2_with (go_at_call 19; refine HC.out.mono ?_; rintro e w5 ⟨rfl, hb5⟩)
              exact ⟨_, _, _, _, _, _, _, _, _, _, _, _, _, _, _, _, _, _, _, _, _, _, rfl, hidD ⟨GG.out.1, GG.out.2.1, GG.out.2.2.1, GG.out.2.2.2.1, GG.out.2.2.2.2.1, GG.out.2.2.2.2.2.1, GG.out.2.2.2.2.2.2.1, GG.out.2.2.2.2.2.2.2.1, GG.out.2.2.2.2.2.2.2.2.1, GG.out.2.2.2.2.2.2.2.2.2.1, GG.out.2.2.2.2.2.2.2.2.2.2.1, GG.out.2.2.2.2.2.2.2.2.2.2.2.1, GG.out.2.2.2.2.2.2.2.2.2.2.2.2.1, GG.out.2.2.2.2.2.2.2.2.2.2.2.2.2.1, GG.out.2.2.2.2.2.2.2.2.2.2.2.2.2.2.1, GG.out.2.2.2.2.2.2.2.2.2.2.2.2.2.2.2.1, GG.out.2.2.2.2.2.2.2.2.2.2.2.2.2.2.2.2.1, GG.out.2.2.2.2.2.2.2.2.2.2.2.2.2.2.2.2.2.1, fun _ => rfl, fun _ => rfl, GG.out.2.2.2.2.2.2.2.2.2.2.2.2.2.2.2.2.2.2.2.2.1, GG.out.2.2.2.2.2.2.2.2.2.2.2.2.2.2.2.2.2.2.2.2.2⟩, hidD (SS0.out.below hb5)⟩
            · have hS0 := SS0.out
              obtain rfl := GG.out.2.2.2.2.2.2.2.2.2.2.2.2.2.2.2.2.2.2.1 (hds 18 (by simp))
              obtain rfl := GG.out.2.2.2.2.2.2.2.2.2.2.2.2.2.2.2.2.2.2.2.1 (hds 19 (by simp))
              clear hds
              refine wpOp_go rfl rfl (fun K hK => ?_)
              go_simp
              exact hK _ _ ⟨_, _, _, _, _, _, _, _, _, _, _, _, _, _, _, _, _, _, _, _, _, _, rfl, hidD ⟨GG.out.1, GG.out.2.1, GG.out.2.2.1, GG.out.2.2.2.1, GG.out.2.2.2.2.1, GG.out.2.2.2.2.2.1, GG.out.2.2.2.2.2.2.1, GG.out.2.2.2.2.2.2.2.1, GG.out.2.2.2.2.2.2.2.2.1, GG.out.2.2.2.2.2.2.2.2.2.1, GG.out.2.2.2.2.2.2.2.2.2.2.1, GG.out.2.2.2.2.2.2.2.2.2.2.2.1, GG.out.2.2.2.2.2.2.2.2.2.2.2.2.1, GG.out.2.2.2.2.2.2.2.2.2.2.2.2.2.1, GG.out.2.2.2.2.2.2.2.2.2.2.2.2.2.2.1, GG.out.2.2.2.2.2.2.2.2.2.2.2.2.2.2.2.1, GG.out.2.2.2.2.2.2.2.2.2.2.2.2.2.2.2.2.1, GG.out.2.2.2.2.2.2.2.2.2.2.2.2.2.2.2.2.2.1, fun _ => rfl, fun _ => rfl, fun _ => rfl, GG.out.2.2.2.2.2.2.2.2.2.2.2.2.2.2.2.2.2.2.2.2.2⟩, hidD (SS0.out)⟩
            · have hS0 := SS0.out
              obtain rfl := GG.out.2.2.2.2.2.2.2.2.2.2.2.2.2.2.2.2.2.2.2.2.1 (hds 20 (by simp))
              clear hds
              refine wpOp_go rfl rfl (fun K hK => ?_)
              go_simp
              exact hK _ _ ⟨_, _, _, _, _, _, _, _, _, _, _, _, _, _, _, _, _, _, _, _, _, _, rfl, hidD ⟨GG.out.1, GG.out.2.1, GG.out.2.2.1, GG.out.2.2.2.1, GG.out.2.2.2.2.1, GG.out.2.2.2.2.2.1, GG.out.2.2.2.2.2.2.1, GG.out.2.2.2.2.2.2.2.1, GG.out.2.2.2.2.2.2.2.2.1, GG.out.2.2.2.2.2.2.2.2.2.1, GG.out.2.2.2.2.2.2.2.2.2.2.1, GG.out.2.2.2.2.2.2.2.2.2.2.2.1, GG.out.2.2.2.2.2.2.2.2.2.2.2.2.1, GG.out.2.2.2.2.2.2.2.2.2.2.2.2.2.1, GG.out.2.2.2.2.2.2.2.2.2.2.2.2.2.2.1, GG.out.2.2.2.2.2.2.2.2.2.2.2.2.2.2.2.1, GG.out.2.2.2.2.2.2.2.2.2.2.2.2.2.2.2.2.1, GG.out.2.2.2.2.2.2.2.2.2.2.2.2.2.2.2.2.2.1, GG.out.2.2.2.2.2.2.2.2.2.2.2.2.2.2.2.2.2.2.1, GG.out.2.2.2.2.2.2.2.2.2.2.2.2.2.2.2.2.2.2.2.1, fun _ => rfl, fun _ => rfl⟩, hidD (SS0.out)⟩
          case fin7 =>
            rintro D act V33 hDD ⟨t138x, t139x, t140x, t141x, t142x, t143x, t144x, t145x, t146x, t147x, t148x, t149x, t150x, t151x, t152x, t153x, t154x, t155x, t156x, t157x, t158x, t8x, rfl, GG, SS0⟩
            obtain rfl := GG.out.2.2.2.2.2.2.2.2.2.2.2.2.2.2.2.2.2.2.2.2.2 (hDD 21 (by decide))
            have hq := SS0.out
            clear GG SS0 hDD
            go_wp2_with fail
            go_ret
            exact ⟨rfl, M.out.trans (Below.mono hq M.out.size)⟩
end Go.Proofs.YtcahejkcdcjjgaaGreatDoor
