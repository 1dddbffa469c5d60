import Derived.Test.YteldjhhjnchdeaaGreatDoorK46
import Derived.Test.YteldjhhjnchdeaaGreatDoorK41
import Derived.Test.YteldjhhjnchdeaaGreatDoorK43
import Derived.Test.YteldjhhjnchdeaaGreatDoorK44
namespace Go.Proofs.YteldjhhjnchdeaaGreatDoor
open Go.RowKit Go.Shelf

/-- The steps of the code's Parts: what is ahead, and the slope over it. -/
def yunS (s : List Rat × List Rat) : List Rat × List Rat := (ovQ s.1 (gcdQ s.1 (subQ s.2 (slopeQ s.1))), ovQ (subQ s.2 (slopeQ s.1)) (gcdQ s.1 (subQ s.2 (slopeQ s.1))))
def yst (w y : List Rat) : Nat → List Rat × List Rat
  | 0 => (w, y)
  | n + 1 => yunS (yst w y n)
def yP (s : List Rat × List Rat) : List Rat := gcdQ s.1 (subQ s.2 (slopeQ s.1))
def yL (w y : List Rat) : Nat → List (List Rat × Nat)
  | 0 => []
  | n + 1 => yL w y n ++ (if 1 < (yP (yst w y n)).length then [(yP (yst w y n), n + 1)] else [])
theorem yL_len (w y : List Rat) : ∀ n, (yL w y n).length ≤ n := by
  intro n
  induction n with
  | zero => exact Nat.le_refl _
  | succ n ih =>
    rw [yL, List.length_append]
    split
    · simp; omega
    · simp; omega
/-- What a step needs. -/
structure StOk (K M : Nat) (w y : List Rat) : Prop where
  ch : M3.ChOk K w (subQ y (slopeQ w))
  ty : trimQ y = y
  cw : Cd M w
  cs : Cd M (slopeQ w)
  cy : Cd M y
  cz : Cd M (subQ y (slopeQ w))
  kM : ChA K w (subQ y (slopeQ w)) ≤ M
  l1 : 2 * ((w.length + 3) * (M + 1)) ≤ 1000000
  l2 : 2 * (((subQ y (slopeQ w)).length + 3) * (M + 1)) ≤ 1000000
/-- What Parts needs. -/
structure PtOk (K M N : Nat) (p : List Rat) : Prop where
  tp : trimQ p = p
  cp : Cd M p
  ch : M3.ChOk K (monQ p) (slopeQ (monQ p))
  kM : ChA K (monQ p) (slopeQ (monQ p)) ≤ M
  l1 : 2 * ((p.length + 3) * (M + 1)) ≤ 1000000
  gt : 1 < p.length
  nN : N ≤ 1000000
  st : ∀ n, n < N → 1 < (yst (ovQ (monQ p) (gcdQ (monQ p) (slopeQ (monQ p)))) (ovQ (slopeQ (monQ p)) (gcdQ (monQ p) (slopeQ (monQ p)))) n).1.length ∧ StOk K M (yst (ovQ (monQ p) (gcdQ (monQ p) (slopeQ (monQ p)))) (ovQ (slopeQ (monQ p)) (gcdQ (monQ p) (slopeQ (monQ p)))) n).1 (yst (ovQ (monQ p) (gcdQ (monQ p) (slopeQ (monQ p)))) (ovQ (slopeQ (monQ p)) (gcdQ (monQ p) (slopeQ (monQ p)))) n).2
  en : (yst (ovQ (monQ p) (gcdQ (monQ p) (slopeQ (monQ p)))) (ovQ (slopeQ (monQ p)) (gcdQ (monQ p) (slopeQ (monQ p)))) N).1.length ≤ 1
/-- The parts. -/
def prtL (p : List Rat) (N : Nat) : List (List Rat × Nat) := yL (ovQ (monQ p) (gcdQ (monQ p) (slopeQ (monQ p)))) (ovQ (slopeQ (monQ p)) (gcdQ (monQ p) (slopeQ (monQ p)))) N
namespace M3
def PtL (base : Nat) (V : World) (v : Value) (L : List (List Rat × Nat)) : Prop := OutP true base V v L
section
variable {base : Nat} {V V' : World} {v : Value} {L : List (List Rat × Nat)}
theorem PtL.below (h : PtL base V v L) (hb : Below V.heap.size V V') : PtL base V' v L := OutP.below h hb
theorem PtL.drew (h : PtL base V v L) : PtL base V.drew v L := OutP.below h ((Below.refl _ V).drew)
theorem PtL.alloc (h : PtL base V v L) (o : Obj) : PtL base (V.alloc o) v L := OutP.below h ((Below.refl _ V).alloc (Nat.le_refl _) o)
theorem PtL.set1 (h : PtL base V v L) {B : Nat} {a : Option Addr} {l c : Nat} (q : Boxed V B 25 (.slice a l c)) (_ : noInt (.slice a l c) = true) (x' : Value) : PtL base (V.setCell ⟨B, 0, none⟩ x') v L := OutP.set h q (fun _ _ g => boxP q x' g)
end
theorem yMinus_n (va vb : Value) (ps qs : List Rat) (w : World) (ha : IsPoly w va ps) (hb : IsPoly w vb qs) (hps : Sqs ps) (hqs : Sqs qs) (hrs : Sqs (subQ ps qs)) :
    Calls Tryz.prog 48 #[va, vb] w fun e w' => ∃ u, e = .returned u ∧ IsPoly w' u (subQ ps qs) ∧ Below w.heap.size w w' := by
  refine (yMinus_c va vb ps qs w ha hb hps hqs hrs).mono ?_
  rintro e w' ⟨u, e1, h1, _, h2⟩
  exact ⟨u, e1, h1, h2⟩
theorem slope_sq {M : Nat} {w : List Rat} (h : Cd M (slopeQ w)) (hM : M ≤ 1000000) (i : Nat) : Sq (slF w i) := by
  have h2 := (h.sqs hM).at i
  unfold slopeQ at h2
  rwa [cf_trim, cf_slopeR] at h2

attribute [local go_sem] Oper.semAt_some
set_option maxRecDepth 100000 in
set_option maxHeartbeats 16000000 in
theorem gParts_c (K M N : Nat) (v : Value) (p : List Rat) (w : World) (h : IsPoly w v p) (hok : PtOk K M N p) :
    Calls Tryz.prog 18 #[v] w fun e w' => ∃ u, e = .returned u ∧ OutP true w.heap.size w' u (prtL p N) ∧ Below w.heap.size w w' := by
  have hmx : Tryz.prog.follows .mixedOrders = true := by kernel_rfl
  obtain ⟨q, hq⟩ : ∃ q, monQ p = q := ⟨_, rfl⟩
  obtain ⟨c, hc⟩ : ∃ c, gcdQ q (slopeQ q) = c := ⟨_, rfl⟩
  obtain ⟨w0, hw0⟩ : ∃ x, ovQ q c = x := ⟨_, rfl⟩
  obtain ⟨y0, hy0⟩ : ∃ x, ovQ (slopeQ q) c = x := ⟨_, rfl⟩
  have hM : M ≤ 1000000 := by
    have h1 := hok.l1
    have : 1 * (M + 1) ≤ (p.length + 3) * (M + 1) := Nat.mul_le_mul_right _ (by omega)
    omega
  have hch := hok.ch
  have hkM := hok.kM
  rw [hq] at hch hkM
  have hql : q.length = p.length := by rw [← hq]; exact monQ_length hok.tp
  have hcq : Cd M q := by rw [← hq]; exact hok.cp.mon hok.tp
  have htq : trimQ q = q := by rw [← hq]; exact monQ_trim _
  have hcs : Cd M (slopeQ q) := (show Cd K (slopeQ q) from hch.cq).mono (by have := ChA_ge K q (slopeQ q); omega)
  have hcc : Cd M c := by rw [← hc]; exact hch.gcd.mono hkM
  have htc : trimQ c = c := by rw [← hc]; exact gcdQ_trim _ _
  have hmc : monQ c = c := by rw [← hc]; exact gcdQ_monic htq (slopeQ_trim _)
  have hls : 2 * (((slopeQ q).length + 3) * (M + 1)) ≤ 1000000 := by
    have h1 : (slopeQ q).length ≤ q.length := Nat.le_trans (trim_length_le _) (by simp [slopeR])
    have h2 : ((slopeQ q).length + 3) * (M + 1) ≤ (p.length + 3) * (M + 1) := Nat.mul_le_mul_right _ (by omega)
    have h3 := hok.l1
    omega
  have HDG := hidD (fun (V : World) (x : Value) (r : List Rat) (hx : IsPoly V x r) => yDegree_c x r V hx)
  have HMO := hidD (fun (V : World) (x : Value) (hx : IsPoly V x p) => show Calls Tryz.prog 26 #[x] V fun e w' => ∃ u, e = .returned u ∧ IsPoly w' u q ∧ Below V.heap.size V w' by rw [← hq]; exact gmonic_n M x p V hx hok.tp hok.cp hM)
  have HSQ := hidD (fun (V : World) (x : Value) (hx : IsPoly V x q) => ySlope_c x q V hx (hcq.sqs hM) (slope_sq hcs hM))
  have HG0 := hidD (fun (V : World) (x y : Value) (hx : IsPoly V x q) (hy : IsPoly V y (slopeQ q)) => show Calls Tryz.prog 8 #[x, y] V fun e w' => ∃ u, e = .returned u ∧ IsPoly w' u c ∧ Below V.heap.size V w' by rw [← hc]; exact gGCD_c K x y q (slopeQ q) V hx hy hch)
  have HO1 := hidD (fun (V : World) (x y : Value) (hx : IsPoly V x q) (hy : IsPoly V y c) => show Calls Tryz.prog 46 #[x, y] V fun e w' => ∃ u, e = .returned u ∧ IsPoly w' u w0 ∧ Below V.heap.size V w' by rw [← hw0]; exact gover_c M x y q c V hx hy hcq hcc htq htc hmc (by rw [hql]; exact hok.l1))
  have HO2 := hidD (fun (V : World) (x y : Value) (hx : IsPoly V x (slopeQ q)) (hy : IsPoly V y c) => show Calls Tryz.prog 46 #[x, y] V fun e w' => ∃ u, e = .returned u ∧ IsPoly w' u y0 ∧ Below V.heap.size V w' by rw [← hy0]; exact gover_c M x y (slopeQ q) c V hx hy hcs hcc (slopeQ_trim _) htc hmc hls)
  have hst := hok.st
  have hen := hok.en
  rw [hq, hc, hw0, hy0] at hst hen
  have HST := hidD hst
  have HEN := hidD hen
  have HPL := hidD (show prtL p N = yL w0 y0 N by unfold prtL; rw [hq, hc, hw0, hy0])
  rw [HPL.out]
  have HS1 := hidD (fun (a b : List Rat) (ho : StOk K M a b) (V : World) (x : Value) (hx : IsPoly V x a) => ySlope_c x a V hx (ho.cw.sqs hM) (slope_sq ho.cs hM))
  have HS2 := hidD (fun (a b : List Rat) (ho : StOk K M a b) (V : World) (x y : Value) (hx : IsPoly V x b) (hy : IsPoly V y (slopeQ a)) => yMinus_n x y b (slopeQ a) V hx hy (ho.cy.sqs hM) (ho.cs.sqs hM) (ho.cz.sqs hM))
  have HS3 := hidD (fun (a b : List Rat) (ho : StOk K M a b) (V : World) (x y : Value) (hx : IsPoly V x a) (hy : IsPoly V y (subQ b (slopeQ a))) => gGCD_c K x y a (subQ b (slopeQ a)) V hx hy ho.ch)
  have hPc : ∀ (a b : List Rat), StOk K M a b → Cd M (gcdQ a (subQ b (slopeQ a))) ∧ trimQ (gcdQ a (subQ b (slopeQ a))) = gcdQ a (subQ b (slopeQ a)) ∧ monQ (gcdQ a (subQ b (slopeQ a))) = gcdQ a (subQ b (slopeQ a)) := fun a b ho => ⟨ho.ch.gcd.mono ho.kM, gcdQ_trim _ _, gcdQ_monic ho.ch.tp ho.ch.tq⟩
  have HS4 := hidD (fun (a b : List Rat) (ho : StOk K M a b) (V : World) (x y : Value) (hx : IsPoly V x a) (hy : IsPoly V y (gcdQ a (subQ b (slopeQ a)))) => gover_c M x y a (gcdQ a (subQ b (slopeQ a))) V hx hy ho.cw (hPc a b ho).1 ho.ch.tp (hPc a b ho).2.1 (hPc a b ho).2.2 ho.l1)
  have HS5 := hidD (fun (a b : List Rat) (ho : StOk K M a b) (V : World) (x y : Value) (hx : IsPoly V x (subQ b (slopeQ a))) (hy : IsPoly V y (gcdQ a (subQ b (slopeQ a)))) => gover_c M x y (subQ b (slopeQ a)) (gcdQ a (subQ b (slopeQ a))) V hx hy ho.cz (hPc a b ho).1 ho.ch.tq (hPc a b ho).2.1 (hPc a b ho).2.2 ho.l2)
  have hgt2 : ¬ (p.length : Int) - 1 < 1 := by have := hok.gt; omega
  obtain ⟨d0, hd0⟩ : ∃ d : Int, (p.length : Int) - 1 = d := ⟨_, rfl⟩
  rw [hd0] at hgt2
  have HD0 := hidD hd0
  have hNN : N ≤ 1000000 := hok.nN
  obtain ⟨pa, la, pc, rfl⟩ := h.form
  have M0 := (Mem.nil w).push (.poly p) (cs := #[.slice pa la pc]) h
  obtain ⟨W0, hW0⟩ : ∃ V, w.alloc (.cells #[.slice pa la pc] 25) = V := ⟨_, rfl⟩
  have HW0 := hidD hW0
  have M1 : Hid (Mem w W0 [some (w.heap.size, .poly (p))]) := hidD (by rw [← hW0]; exact M0)
  clear M0 hW0 h hok hch hkM hql hcq htq hcs hcc htc hmc hls hst hen hPc hM hq hc hw0 hy0 hd0
  go_enter Tryz.func18, Tryz.ntmps18
  go_upto_region 1 with fail
  rw [HW0.out]
  clear HW0
  obtain ⟨a1, l1, c1, n1, r1⟩ := M1.out.poly2 (i := 0) rfl
  have e1a := n1.cell
  have H1 := hidD (HDG.out W0 _ p r1)
  rw [HD0.out] at H1
  go_upto_region 3 with (go_at_call 20; refine H1.out.mono ?_; clear H1; rintro e w1 ⟨rfl, hq⟩; clear e1a; have e1a := (boxed_below n1 hq).cell)
  have M2 : Hid (Mem w w1 [some (w.heap.size, .poly (p))]) := hidD (M1.out.below hq)
  clear M1
  clear hq n1 r1 e1a
  obtain ⟨a2, l2, c2, n2, r2⟩ := M2.out.poly2 (i := 0) rfl
  have e2a := n2.cell
  have f2a := n2.frozen
  have H1 := hidD (HMO.out w1 _ r2)
  clear HMO
  go_upto_region 4 with (go_at_call 26; refine H1.out.mono ?_; clear H1; rintro e w2 ⟨u2, rfl, hu2, hq⟩; obtain ⟨a807, l807, c807, rfl⟩ := IsPoly.form hu2; clear e2a; have e2a := (boxed_below n2 hq).cell; clear f2a; have f2a := (boxed_below n2 hq).frozen)
  obtain ⟨V3, hV⟩ : ∃ V, w2.setCell ⟨w.heap.size, 0, none⟩ (.slice a807 l807 c807) = V := ⟨_, rfl⟩
  have MM : Mem w (w2.setCell ⟨w.heap.size, 0, none⟩ (.slice a807 l807 c807)) [some (w.heap.size, .poly (q))] := Mem.putPoly (M2.out.below hq) (i := 0) rfl hu2
  rw [hV] at MM
  rw [hV]
  have M3 : Hid (Mem w V3 [some (w.heap.size, .poly (q))]) := hidD (MM)
  clear M2
  clear MM hV
  clear hu2 hq n2 r2 e2a f2a
  refine wp_region_tab hmx [[], [], [1], [0, 2, 2], [], [4, 3, 3, 0, 1, 2, 3, 4]] (by kernel_rfl) (by decide)
    (fun D act V => ∃ (t14x t15x t16x t17x t3x : Value) (x4 : Option (Nat × Dat)), act = { tmps := #[Value.agg #[Value.slice pa la pc], Value.pointer (some { block := w.heap.size, off := 0 }), Value.slice none 0 0, t3x, undef, undef, undef, undef, undef, Value.agg #[Value.slice a1 l1 c1], Value.int IntKind.i64 d0, Value.bool (decide (d0 < 1)), Value.agg #[Value.slice a2 l2 c2], Value.agg #[Value.slice a807 l807 c807], t14x, t15x, t16x, t17x, undef, undef, undef, undef, undef, undef, undef, undef, undef, undef, undef, undef, undef, undef, undef, undef, undef, undef, undef, undef, undef, undef, undef, undef, undef, undef, undef, undef, undef, undef, undef, undef, undef, undef, undef], defers := [] } ∧ Hid ((D 0 = true → Has V t14x (.poly (q))) ∧ (D 1 = true → Has V t15x (.poly (q))) ∧ (D 2 = true → Has V t16x (.poly (slopeQ q))) ∧ (D 3 = true → Has V t17x (.poly (c))) ∧ ((D 4 = false → x4 = none) ∧ (D 4 = true → D 5 = false → ∃ B : Nat, t3x = .pointer (some ⟨B, 0, none⟩) ∧ x4 = some (B, .poly [])) ∧ (D 5 = true → ∃ B : Nat, t3x = .pointer (some ⟨B, 0, none⟩) ∧ x4 = some (B, .poly (c))))) ∧ Hid (Mem w V [some (w.heap.size, .poly (q)), x4]))
    ⟨_, _, _, _, _, none, rfl, hidD ⟨by simp, by simp, by simp, by simp, by simp⟩, hidD ((M3.out).none).drew⟩ ?step4 ?fin4
  case step4 =>
    rintro D act V i ds hcl hi hds hDi ⟨t14x, t15x, t16x, t17x, t3x, x4, rfl, GG, MM⟩
    have hi6 : i < 6 := (List.getElem?_eq_some_iff.1 hi).1
    obtain rfl | rfl | rfl | rfl | rfl | rfl : i = 0 ∨ i = 1 ∨ i = 2 ∨ i = 3 ∨ i = 4 ∨ i = 5 := by omega
    all_goals
      simp only [List.getElem?_cons_zero, List.getElem?_cons_succ, Option.some.injEq] at hi
      subst hi
    · clear hds
      obtain ⟨a, l, c, n, r⟩ := MM.out.poly2 (i := 0) rfl
      have e0 := n.cell
      refine wpOp_go rfl rfl (fun K hK => ?_)
      go_simp
      exact hK _ _ ⟨_, _, _, _, _, _, rfl, hidD ⟨fun _ => r, GG.out.2.1, GG.out.2.2.1, GG.out.2.2.2.1, GG.out.2.2.2.2⟩, hidD (MM.out)⟩
    · clear hds
      obtain ⟨a, l, c, n, r⟩ := MM.out.poly2 (i := 0) rfl
      have e0 := n.cell
      refine wpOp_go rfl rfl (fun K hK => ?_)
      go_simp
      exact hK _ _ ⟨_, _, _, _, _, _, rfl, hidD ⟨GG.out.1, fun _ => r, GG.out.2.2.1, GG.out.2.2.2.1, GG.out.2.2.2.2⟩, hidD (MM.out)⟩
    · have h0 := (GG.out.2.1 (hds 1 (by simp)))
      have HC := hidD (HSQ.out V _ h0)
      clear hds h0
      refine wpOp_go rfl rfl (fun K hK => ?_)
      go_simp
      go_wp2_with (go_at_call 24; refine HC.out.mono ?_; rintro e w5 ⟨v5, rfl, hv5, hb5⟩)
      exact ⟨_, _, _, _, _, _, rfl, hidD ⟨fun h => (GG.out.1 h).below hb5, fun h => (GG.out.2.1 h).below hb5, fun _ => hv5, fun h => (GG.out.2.2.2.1 h).below hb5, GG.out.2.2.2.2⟩, hidD (MM.out.below hb5)⟩
    · have h0 := (GG.out.1 (hds 0 (by simp)))
      have h1 := (GG.out.2.2.1 (hds 2 (by simp)))
      have HC := hidD (HG0.out V _ _ h0 h1)
      clear hds h0 h1
      refine wpOp_go rfl rfl (fun K hK => ?_)
      go_simp
      go_wp2_with (go_at_call 8; refine HC.out.mono ?_; rintro e w5 ⟨v5, rfl, hv5, hb5⟩)
      exact ⟨_, _, _, _, _, _, rfl, hidD ⟨fun h => (GG.out.1 h).below hb5, fun h => (GG.out.2.1 h).below hb5, fun h => (GG.out.2.2.1 h).below hb5, fun _ => hv5, GG.out.2.2.2.2⟩, hidD (MM.out.below hb5)⟩
    · have hf : D 5 = false := by
        cases h : D 5 with
        | false => rfl
        | true => rw [hcl 5 _ rfl h 4 (by simp)] at hDi; cases hDi
      obtain rfl := GG.out.2.2.2.2.1 hDi
      clear hds
      refine wpOp_go rfl rfl (fun K hK => ?_)
      go_simp
      exact hK _ _ ⟨_, _, _, _, _, _, rfl, hidD ⟨fun h => (GG.out.1 h).alloc _, fun h => (GG.out.2.1 h).alloc _, fun h => (GG.out.2.2.1 h).alloc _, fun h => (GG.out.2.2.2.1 h).alloc _, ⟨fun h => by simp at h, fun _ _ => ⟨_, rfl, rfl⟩, fun h => by simp [hf] at h⟩⟩, hidD (MM.out.fill (i := 1) rfl (.poly []) (poly0 _))⟩
    · obtain ⟨B, rfl, rfl⟩ := GG.out.2.2.2.2.2.1 (hds 4 (by simp)) hDi
      have hds0 := hds 4 (by simp)
      have hv := (GG.out.2.2.2.1 (hds 3 (by simp)))
      obtain ⟨a1, l1, c1, rfl⟩ := IsPoly.form (show IsPoly V _ _ from hv)
      obtain ⟨a, l, c, n, r⟩ := MM.out.poly2 (i := 1) rfl
      have e0 := n.cell
      have f0 := n.frozen
      clear hds
      refine wpOp_go rfl rfl (fun K hK => ?_)
      go_simp
      exact hK _ _ ⟨_, _, _, _, _, _, rfl, hidD ⟨fun h => (GG.out.1 h).set1 n rfl _, fun h => (GG.out.2.1 h).set1 n rfl _, fun h => (GG.out.2.2.1 h).set1 n rfl _, fun h => (GG.out.2.2.2.1 h).set1 n rfl _, ⟨fun h => by simp [hds0] at h, fun _ h => by simp at h, fun _ => ⟨B, rfl, rfl⟩⟩⟩, hidD (MM.out.putPoly (i := 1) rfl hv)⟩
  rintro D act V5 hDD ⟨t14x, t15x, t16x, t17x, t3x, x4, rfl, GG, MM⟩
  obtain ⟨B6, rfl, rfl⟩ := GG.out.2.2.2.2.2.2 (hDD 5 (by decide))
  clear GG hDD M3
  have M4 : Hid (Mem w V5 [some (w.heap.size, .poly (q)), some (B6, .poly (c))]) := MM
  clear MM
  go_upto_region 5 with fail
  refine wp_region_tab hmx [[], [], [0, 1], [], [3, 2], [], [4, 5, 4], [], [], [7, 2, 6, 0, 1, 2, 7, 8], [8, 6, 9, 0, 1, 2, 3, 4, 5, 6, 7, 8, 9]] (by kernel_rfl) (by decide)
    (fun D act V => ∃ (t18x t19x t20x t21x t22x t23x t24x t4x t5x : Value) (x7 x8 : Option (Nat × Dat)), act = { tmps := #[Value.agg #[Value.slice pa la pc], Value.pointer (some { block := w.heap.size, off := 0 }), Value.slice none 0 0, Value.pointer (some { block := B6, off := 0 }), t4x, t5x, undef, undef, undef, Value.agg #[Value.slice a1 l1 c1], Value.int IntKind.i64 d0, Value.bool (decide (d0 < 1)), Value.agg #[Value.slice a2 l2 c2], Value.agg #[Value.slice a807 l807 c807], t14x, t15x, t16x, t17x, t18x, t19x, t20x, t21x, t22x, t23x, t24x, undef, undef, undef, undef, undef, undef, undef, undef, undef, undef, undef, undef, undef, undef, undef, undef, undef, undef, undef, undef, undef, undef, undef, undef, undef, undef, undef, undef], defers := [] } ∧ Hid ((D 0 = true → Has V t18x (.poly (q))) ∧ (D 1 = true → Has V t19x (.poly (c))) ∧ (D 2 = true → Has V t20x (.poly (w0))) ∧ (D 3 = true → Has V t21x (.poly (q))) ∧ (D 4 = true → Has V t22x (.poly (slopeQ q))) ∧ (D 5 = true → Has V t23x (.poly (c))) ∧ (D 6 = true → Has V t24x (.poly (y0))) ∧ ((D 7 = false → x7 = none) ∧ (D 7 = true → D 9 = false → ∃ B : Nat, t4x = .pointer (some ⟨B, 0, none⟩) ∧ x7 = some (B, .poly [])) ∧ (D 9 = true → ∃ B : Nat, t4x = .pointer (some ⟨B, 0, none⟩) ∧ x7 = some (B, .poly (w0)))) ∧ ((D 8 = false → x8 = none) ∧ (D 8 = true → D 10 = false → ∃ B : Nat, t5x = .pointer (some ⟨B, 0, none⟩) ∧ x8 = some (B, .poly [])) ∧ (D 10 = true → ∃ B : Nat, t5x = .pointer (some ⟨B, 0, none⟩) ∧ x8 = some (B, .poly (y0))))) ∧ Hid (Mem w V [some (w.heap.size, .poly (q)), some (B6, .poly (c)), x7, x8]))
    ⟨_, _, _, _, _, _, _, _, _, none, none, rfl, hidD ⟨by simp, by simp, by simp, by simp, by simp, by simp, by simp, by simp, by simp⟩, hidD (((M4.out).none).none).drew⟩ ?step7 ?fin7
  case step7 =>
    rintro D act V i ds hcl hi hds hDi ⟨t18x, t19x, t20x, t21x, t22x, t23x, t24x, t4x, t5x, x7, x8, rfl, GG, MM⟩
    have hi6 : i < 11 := (List.getElem?_eq_some_iff.1 hi).1
    obtain rfl | rfl | rfl | rfl | rfl | rfl | rfl | rfl | rfl | rfl | rfl : i = 0 ∨ i = 1 ∨ i = 2 ∨ i = 3 ∨ i = 4 ∨ i = 5 ∨ i = 6 ∨ i = 7 ∨ i = 8 ∨ i = 9 ∨ i = 10 := by omega
    all_goals
      simp only [List.getElem?_cons_zero, List.getElem?_cons_succ, Option.some.injEq] at hi
      subst hi
    · clear hds
      obtain ⟨a, l, c, n, r⟩ := MM.out.poly2 (i := 0) rfl
      have e0 := n.cell
      refine wpOp_go rfl rfl (fun K hK => ?_)
      go_simp
      exact hK _ _ ⟨_, _, _, _, _, _, _, _, _, _, _, rfl, hidD ⟨fun _ => r, GG.out.2.1, GG.out.2.2.1, GG.out.2.2.2.1, GG.out.2.2.2.2.1, GG.out.2.2.2.2.2.1, GG.out.2.2.2.2.2.2.1, GG.out.2.2.2.2.2.2.2.1, GG.out.2.2.2.2.2.2.2.2⟩, hidD (MM.out)⟩
    · clear hds
      obtain ⟨a, l, c, n, r⟩ := MM.out.poly2 (i := 1) rfl
      have e0 := n.cell
      refine wpOp_go rfl rfl (fun K hK => ?_)
      go_simp
      exact hK _ _ ⟨_, _, _, _, _, _, _, _, _, _, _, rfl, hidD ⟨GG.out.1, fun _ => r, GG.out.2.2.1, GG.out.2.2.2.1, GG.out.2.2.2.2.1, GG.out.2.2.2.2.2.1, GG.out.2.2.2.2.2.2.1, GG.out.2.2.2.2.2.2.2.1, GG.out.2.2.2.2.2.2.2.2⟩, hidD (MM.out)⟩
    · have h0 := (GG.out.1 (hds 0 (by simp)))
      have h1 := (GG.out.2.1 (hds 1 (by simp)))
      have HC := hidD (HO1.out V _ _ h0 h1)
      clear hds h0 h1
      refine wpOp_go rfl rfl (fun K hK => ?_)
      go_simp
      go_wp2_with (go_at_call 46; refine HC.out.mono ?_; rintro e w5 ⟨v5, rfl, hv5, hb5⟩)
      exact ⟨_, _, _, _, _, _, _, _, _, _, _, rfl, hidD ⟨fun h => (GG.out.1 h).below hb5, fun h => (GG.out.2.1 h).below hb5, fun _ => hv5, fun h => (GG.out.2.2.2.1 h).below hb5, fun h => (GG.out.2.2.2.2.1 h).below hb5, fun h => (GG.out.2.2.2.2.2.1 h).below hb5, fun h => (GG.out.2.2.2.2.2.2.1 h).below hb5, GG.out.2.2.2.2.2.2.2.1, GG.out.2.2.2.2.2.2.2.2⟩, hidD (MM.out.below hb5)⟩
    · clear hds
      obtain ⟨a, l, c, n, r⟩ := MM.out.poly2 (i := 0) rfl
      have e0 := n.cell
      refine wpOp_go rfl rfl (fun K hK => ?_)
      go_simp
      exact hK _ _ ⟨_, _, _, _, _, _, _, _, _, _, _, rfl, hidD ⟨GG.out.1, GG.out.2.1, GG.out.2.2.1, fun _ => r, GG.out.2.2.2.2.1, GG.out.2.2.2.2.2.1, GG.out.2.2.2.2.2.2.1, GG.out.2.2.2.2.2.2.2.1, GG.out.2.2.2.2.2.2.2.2⟩, hidD (MM.out)⟩
    · have h0 := (GG.out.2.2.2.1 (hds 3 (by simp)))
      have HC := hidD (HSQ.out V _ h0)
      clear hds h0
      refine wpOp_go rfl rfl (fun K hK => ?_)
      go_simp
      go_wp2_with (go_at_call 24; refine HC.out.mono ?_; rintro e w5 ⟨v5, rfl, hv5, hb5⟩)
      exact ⟨_, _, _, _, _, _, _, _, _, _, _, rfl, hidD ⟨fun h => (GG.out.1 h).below hb5, fun h => (GG.out.2.1 h).below hb5, fun h => (GG.out.2.2.1 h).below hb5, fun h => (GG.out.2.2.2.1 h).below hb5, fun _ => hv5, fun h => (GG.out.2.2.2.2.2.1 h).below hb5, fun h => (GG.out.2.2.2.2.2.2.1 h).below hb5, GG.out.2.2.2.2.2.2.2.1, GG.out.2.2.2.2.2.2.2.2⟩, hidD (MM.out.below hb5)⟩
    · clear hds
      obtain ⟨a, l, c, n, r⟩ := MM.out.poly2 (i := 1) rfl
      have e0 := n.cell
      refine wpOp_go rfl rfl (fun K hK => ?_)
      go_simp
      exact hK _ _ ⟨_, _, _, _, _, _, _, _, _, _, _, rfl, hidD ⟨GG.out.1, GG.out.2.1, GG.out.2.2.1, GG.out.2.2.2.1, GG.out.2.2.2.2.1, fun _ => r, GG.out.2.2.2.2.2.2.1, GG.out.2.2.2.2.2.2.2.1, GG.out.2.2.2.2.2.2.2.2⟩, hidD (MM.out)⟩
    · have h0 := (GG.out.2.2.2.2.1 (hds 4 (by simp)))
      have h1 := (GG.out.2.2.2.2.2.1 (hds 5 (by simp)))
      have HC := hidD (HO2.out V _ _ h0 h1)
      clear hds h0 h1
      refine wpOp_go rfl rfl (fun K hK => ?_)
      go_simp
      go_wp2_with (go_at_call 46; refine HC.out.mono ?_; rintro e w5 ⟨v5, rfl, hv5, hb5⟩)
      exact ⟨_, _, _, _, _, _, _, _, _, _, _, rfl, hidD ⟨fun h => (GG.out.1 h).below hb5, fun h => (GG.out.2.1 h).below hb5, fun h => (GG.out.2.2.1 h).below hb5, fun h => (GG.out.2.2.2.1 h).below hb5, fun h => (GG.out.2.2.2.2.1 h).below hb5, fun h => (GG.out.2.2.2.2.2.1 h).below hb5, fun _ => hv5, GG.out.2.2.2.2.2.2.2.1, GG.out.2.2.2.2.2.2.2.2⟩, hidD (MM.out.below hb5)⟩
    · have hf : D 9 = false := by
        cases h : D 9 with
        | false => rfl
        | true => rw [hcl 9 _ rfl h 7 (by simp)] at hDi; cases hDi
      obtain rfl := GG.out.2.2.2.2.2.2.2.1.1 hDi
      clear hds
      refine wpOp_go rfl rfl (fun K hK => ?_)
      go_simp
      exact hK _ _ ⟨_, _, _, _, _, _, _, _, _, _, _, rfl, hidD ⟨fun h => (GG.out.1 h).alloc _, fun h => (GG.out.2.1 h).alloc _, fun h => (GG.out.2.2.1 h).alloc _, fun h => (GG.out.2.2.2.1 h).alloc _, fun h => (GG.out.2.2.2.2.1 h).alloc _, fun h => (GG.out.2.2.2.2.2.1 h).alloc _, fun h => (GG.out.2.2.2.2.2.2.1 h).alloc _, ⟨fun h => by simp at h, fun _ _ => ⟨_, rfl, rfl⟩, fun h => by simp [hf] at h⟩, GG.out.2.2.2.2.2.2.2.2⟩, hidD (MM.out.fill (i := 2) rfl (.poly []) (poly0 _))⟩
    · have hf : D 10 = false := by
        cases h : D 10 with
        | false => rfl
        | true => rw [hcl 10 _ rfl h 8 (by simp)] at hDi; cases hDi
      obtain rfl := GG.out.2.2.2.2.2.2.2.2.1 hDi
      clear hds
      refine wpOp_go rfl rfl (fun K hK => ?_)
      go_simp
      exact hK _ _ ⟨_, _, _, _, _, _, _, _, _, _, _, rfl, hidD ⟨fun h => (GG.out.1 h).alloc _, fun h => (GG.out.2.1 h).alloc _, fun h => (GG.out.2.2.1 h).alloc _, fun h => (GG.out.2.2.2.1 h).alloc _, fun h => (GG.out.2.2.2.2.1 h).alloc _, fun h => (GG.out.2.2.2.2.2.1 h).alloc _, fun h => (GG.out.2.2.2.2.2.2.1 h).alloc _, GG.out.2.2.2.2.2.2.2.1, ⟨fun h => by simp at h, fun _ _ => ⟨_, rfl, rfl⟩, fun h => by simp [hf] at h⟩⟩, hidD (MM.out.fill (i := 3) rfl (.poly []) (poly0 _))⟩
    · obtain ⟨B, rfl, rfl⟩ := GG.out.2.2.2.2.2.2.2.1.2.1 (hds 7 (by simp)) hDi
      have hds0 := hds 7 (by simp)
      have hv := (GG.out.2.2.1 (hds 2 (by simp)))
      obtain ⟨a1, l1, c1, rfl⟩ := IsPoly.form (show IsPoly V _ _ from hv)
      obtain ⟨a, l, c, n, r⟩ := MM.out.poly2 (i := 2) rfl
      have e0 := n.cell
      have f0 := n.frozen
      clear hds
      refine wpOp_go rfl rfl (fun K hK => ?_)
      go_simp
      exact hK _ _ ⟨_, _, _, _, _, _, _, _, _, _, _, rfl, hidD ⟨fun h => (GG.out.1 h).set1 n rfl _, fun h => (GG.out.2.1 h).set1 n rfl _, fun h => (GG.out.2.2.1 h).set1 n rfl _, fun h => (GG.out.2.2.2.1 h).set1 n rfl _, fun h => (GG.out.2.2.2.2.1 h).set1 n rfl _, fun h => (GG.out.2.2.2.2.2.1 h).set1 n rfl _, fun h => (GG.out.2.2.2.2.2.2.1 h).set1 n rfl _, ⟨fun h => by simp [hds0] at h, fun _ h => by simp at h, fun _ => ⟨B, rfl, rfl⟩⟩, GG.out.2.2.2.2.2.2.2.2⟩, hidD (MM.out.putPoly (i := 2) rfl hv)⟩
    · obtain ⟨B, rfl, rfl⟩ := GG.out.2.2.2.2.2.2.2.2.2.1 (hds 8 (by simp)) hDi
      have hds0 := hds 8 (by simp)
      have hv := (GG.out.2.2.2.2.2.2.1 (hds 6 (by simp)))
      obtain ⟨a1, l1, c1, rfl⟩ := IsPoly.form (show IsPoly V _ _ from hv)
      obtain ⟨a, l, c, n, r⟩ := MM.out.poly2 (i := 3) rfl
      have e0 := n.cell
      have f0 := n.frozen
      clear hds
      refine wpOp_go rfl rfl (fun K hK => ?_)
      go_simp
      exact hK _ _ ⟨_, _, _, _, _, _, _, _, _, _, _, rfl, hidD ⟨fun h => (GG.out.1 h).set1 n rfl _, fun h => (GG.out.2.1 h).set1 n rfl _, fun h => (GG.out.2.2.1 h).set1 n rfl _, fun h => (GG.out.2.2.2.1 h).set1 n rfl _, fun h => (GG.out.2.2.2.2.1 h).set1 n rfl _, fun h => (GG.out.2.2.2.2.2.1 h).set1 n rfl _, fun h => (GG.out.2.2.2.2.2.2.1 h).set1 n rfl _, GG.out.2.2.2.2.2.2.2.1, ⟨fun h => by simp [hds0] at h, fun _ h => by simp at h, fun _ => ⟨B, rfl, rfl⟩⟩⟩, hidD (MM.out.putPoly (i := 3) rfl hv)⟩
  rintro D act V8 hDD ⟨t18x, t19x, t20x, t21x, t22x, t23x, t24x, t4x, t5x, x7, x8, rfl, GG, MM⟩
  obtain ⟨B9, rfl, rfl⟩ := GG.out.2.2.2.2.2.2.2.1.2.2 (hDD 9 (by decide))
  obtain ⟨B10, rfl, rfl⟩ := GG.out.2.2.2.2.2.2.2.2.2.2 (hDD 10 (by decide))
  clear GG hDD M4
  have M5 : Hid (Mem w V8 [some (w.heap.size, .poly (q)), some (B6, .poly (c)), some (B9, .poly (w0)), some (B10, .poly (y0))]) := MM
  clear MM
  go_wp2
  go_loopw [6, 7] (fun lv tv wr => ∃ (k : Nat) (xa : Option Addr) (xc : Nat), k ≤ N ∧ lv = .slice xa (yL w0 y0 k).length xc ∧ tv = .int .i64 ((k + 1 : Nat) : Int) ∧ Hid (PtL w.heap.size wr (.slice xa (yL w0 y0 k).length xc) (yL w0 y0 k)) ∧ Hid (Mem w wr [some (w.heap.size, .poly (q)), some (B6, .poly (c)), some (B9, .poly ((yst w0 y0 k).1)), some (B10, .poly ((yst w0 y0 k).2))])) (fun _ tv _ => N + 1 - (intOf tv).toNat)
  case atStart => exact ⟨0, none, 0, Nat.zero_le _, rfl, rfl, hidD (OutP.nil _ _ _), M5⟩
  case round =>
    clear M5 HG0 HO1 HO2 HSQ
    obtain ⟨k, xa, xc, hk, rfl, rfl, XL, M6⟩ := hrel
    obtain ⟨s1, hs1⟩ : ∃ x, (yst w0 y0 k).1 = x := ⟨_, rfl⟩
    obtain ⟨s2, hs2⟩ : ∃ x, (yst w0 y0 k).2 = x := ⟨_, rfl⟩
    obtain ⟨L, hL⟩ : ∃ x, yL w0 y0 k = x := ⟨_, rfl⟩
    have HKK := hidD (show (yst w0 y0 k).1 = s1 ∧ (yst w0 y0 k).2 = s2 ∧ yL w0 y0 k = L ∧ L.length ≤ k from ⟨hs1, hs2, hL, by rw [← hL]; exact yL_len _ _ _⟩)
    rw [hs1, hs2] at M6
    rw [hL] at XL
    clear hs1 hs2 hL
    rw [HKK.out.2.2.1]
    obtain ⟨ll, hll⟩ : ∃ x : Nat, L.length = x := ⟨_, rfl⟩
    rw [hll] at XL ⊢
    have HLL := hidD hll
    clear hll
    obtain ⟨T, hT⟩ : ∃ T : Nat, k + 1 = T := ⟨_, rfl⟩
    rw [hT]
    have HTT := hidD hT
    clear hT
    obtain ⟨a11, l11, c11, n11, r11⟩ := M6.out.poly2 (i := 2) rfl
    have e11a := n11.cell
    have H1 := hidD (HDG.out wr _ s1 r11)
    obtain ⟨d1, hd1⟩ : ∃ d : Int, (s1.length : Int) - 1 = d := ⟨_, rfl⟩
    rw [hd1] at H1
    have HD1 := hidD hd1
    clear hd1
    by_cases hlt : k < N
    · have hdp : (0 : Int) < d1 := by have h1 := (HST.out k hlt).1; rw [HKK.out.1] at h1; have := HD1.out; omega
      have HO := hidD (show StOk K M s1 s2 by have h1 := (HST.out k hlt).2; rwa [HKK.out.1, HKK.out.2.1] at h1)
      go_upto_region 10 with (go_at_call 20; refine H1.out.mono ?_; clear H1; rintro e w1 ⟨rfl, hq⟩; clear e11a; have e11a := (boxed_below n11 hq).cell)
      have M7 : Hid (Mem w w1 [some (w.heap.size, .poly (q)), some (B6, .poly (c)), some (B9, .poly (s1)), some (B10, .poly (s2))]) := hidD (M6.out.below hq)
      have XL1 := hidD (XL.out.below hq)
      clear XL hq n11 r11 e11a M6
      refine wp_region_tab hmx [[], [], [1], [0, 2, 2], [3, 3, 0, 1, 2, 3]] (by kernel_rfl) (by decide)
        (fun D act V => ∃ (t30x t31x t32x t33x : Value) (y3 : Option (Nat × Dat)), act = { tmps := #[Value.agg #[Value.slice pa la pc], Value.pointer (some { block := w.heap.size, off := 0 }), Value.slice none 0 0, Value.pointer (some { block := B6, off := 0 }), Value.pointer (some { block := B9, off := 0 }), Value.pointer (some { block := B10, off := 0 }), Value.slice xa ll xc, Value.int IntKind.i64 ↑T, u8, Value.agg #[Value.slice a1 l1 c1], Value.int IntKind.i64 d0, Value.bool (decide (d0 < 1)), Value.agg #[Value.slice a2 l2 c2], Value.agg #[Value.slice a807 l807 c807], t14x, t15x, t16x, t17x, t18x, t19x, t20x, t21x, t22x, t23x, t24x, Value.agg #[Value.slice a11 l11 c11], Value.int IntKind.i64 d1, Value.bool true, u28, u29, t30x, t31x, t32x, t33x, u34, u35, u36, u37, u38, u39, u40, u41, u42, u43, u44, u45, u46, u47, u48, u49, u50, u51, undef], defers := [] } ∧ Hid ((D 0 = true → Has V t30x (.poly (s2))) ∧ (D 1 = true → Has V t31x (.poly (s1))) ∧ (D 2 = true → Has V t32x (.poly (slopeQ s1))) ∧ (D 3 = true → Has V t33x (.poly (subQ s2 (slopeQ s1)))) ∧ ((D 4 = false → y3 = some (B10, .poly (s2))) ∧ (D 4 = true → y3 = some (B10, .poly (subQ s2 (slopeQ s1)))))) ∧ Hid (Mem w V [some (w.heap.size, .poly (q)), some (B6, .poly (c)), some (B9, .poly (s1)), y3]) ∧ Hid (PtL w.heap.size V (.slice xa ll xc) L))
        ⟨_, _, _, _, _, rfl, hidD ⟨by simp, by simp, by simp, by simp, ⟨fun _ => rfl, by simp⟩⟩, hidD (M7.out).drew, hidD (XL1.out.drew)⟩ ?step12 ?fin12
      case step12 =>
        rintro D act V i ds hcl hi hds hDi ⟨t30x, t31x, t32x, t33x, y3, rfl, GG, MM, XX⟩
        have hi6 : i < 5 := (List.getElem?_eq_some_iff.1 hi).1
        obtain rfl | rfl | rfl | rfl | rfl : i = 0 ∨ i = 1 ∨ i = 2 ∨ i = 3 ∨ i = 4 := by omega
        all_goals
          simp only [List.getElem?_cons_zero, List.getElem?_cons_succ, Option.some.injEq] at hi
          subst hi
        · have hf : D 4 = false := by
            cases h : D 4 with
            | false => rfl
            | true => rw [hcl 4 _ rfl h 0 (by simp)] at hDi; cases hDi
          obtain rfl := GG.out.2.2.2.2.1 hf
          clear hds
          obtain ⟨a, l, c, n, r⟩ := MM.out.poly2 (i := 3) rfl
          have e0 := n.cell
          refine wpOp_go rfl rfl (fun K hK => ?_)
          go_simp
          exact hK _ _ ⟨_, _, _, _, _, rfl, hidD ⟨fun _ => r, GG.out.2.1, GG.out.2.2.1, GG.out.2.2.2.1, ⟨fun _ => rfl, fun h => by simp [hf] at h⟩⟩, hidD (MM.out), hidD (XX.out)⟩
        · clear hds
          obtain ⟨a, l, c, n, r⟩ := MM.out.poly2 (i := 2) rfl
          have e0 := n.cell
          refine wpOp_go rfl rfl (fun K hK => ?_)
          go_simp
          exact hK _ _ ⟨_, _, _, _, _, rfl, hidD ⟨GG.out.1, fun _ => r, GG.out.2.2.1, GG.out.2.2.2.1, GG.out.2.2.2.2⟩, hidD (MM.out), hidD (XX.out)⟩
        · have h0 := (GG.out.2.1 (hds 1 (by simp)))
          have HC := hidD (HS1.out s1 s2 HO.out V _ h0)
          clear hds h0
          refine wpOp_go rfl rfl (fun K hK => ?_)
          go_simp
          go_wp2_with (go_at_call 24; refine HC.out.mono ?_; rintro e w5 ⟨v5, rfl, hv5, hb5⟩)
          exact ⟨_, _, _, _, _, rfl, hidD ⟨fun h => (GG.out.1 h).below hb5, fun h => (GG.out.2.1 h).below hb5, fun _ => hv5, fun h => (GG.out.2.2.2.1 h).below hb5, GG.out.2.2.2.2⟩, hidD (MM.out.below hb5), hidD (XX.out.below hb5)⟩
        · have h0 := (GG.out.1 (hds 0 (by simp)))
          have h1 := (GG.out.2.2.1 (hds 2 (by simp)))
          have HC := hidD (HS2.out s1 s2 HO.out V _ _ h0 h1)
          clear hds h0 h1
          refine wpOp_go rfl rfl (fun K hK => ?_)
          go_simp
          go_wp2_with (go_at_call 48; refine HC.out.mono ?_; rintro e w5 ⟨v5, rfl, hv5, hb5⟩)
          exact ⟨_, _, _, _, _, rfl, hidD ⟨fun h => (GG.out.1 h).below hb5, fun h => (GG.out.2.1 h).below hb5, fun h => (GG.out.2.2.1 h).below hb5, fun _ => hv5, GG.out.2.2.2.2⟩, hidD (MM.out.below hb5), hidD (XX.out.below hb5)⟩
        · obtain rfl := GG.out.2.2.2.2.1 hDi
          have hv := (GG.out.2.2.2.1 (hds 3 (by simp)))
          obtain ⟨a1, l1, c1, rfl⟩ := IsPoly.form (show IsPoly V _ _ from hv)
          obtain ⟨a, l, c, n, r⟩ := MM.out.poly2 (i := 3) rfl
          have e0 := n.cell
          have f0 := n.frozen
          clear hds
          refine wpOp_go rfl rfl (fun K hK => ?_)
          go_simp
          exact hK _ _ ⟨_, _, _, _, _, rfl, hidD ⟨fun h => (GG.out.1 h).set1 n rfl _, fun h => (GG.out.2.1 h).set1 n rfl _, fun h => (GG.out.2.2.1 h).set1 n rfl _, fun h => (GG.out.2.2.2.1 h).set1 n rfl _, ⟨fun h => by simp at h, fun _ => rfl⟩⟩, hidD (MM.out.putPoly (i := 3) rfl hv), hidD (XX.out.set1 n rfl _)⟩
      rintro D act V13 hDD ⟨t30x, t31x, t32x, t33x, y3, rfl, GG, MM, XX⟩
      obtain rfl := GG.out.2.2.2.2.2 (hDD 4 (by decide))
      clear GG hDD M7
      have M8 : Hid (Mem w V13 [some (w.heap.size, .poly (q)), some (B6, .poly (c)), some (B9, .poly (s1)), some (B10, .poly (subQ s2 (slopeQ s1)))]) := MM
      clear MM
      have XL2 := XX
      clear XX XL1
      obtain ⟨P, hP⟩ : ∃ P, gcdQ s1 (subQ s2 (slopeQ s1)) = P := ⟨_, rfl⟩
      have HPP := hidD hP
      have HS3b := hidD (HS3.out s1 s2 HO.out)
      have HS4b := hidD (HS4.out s1 s2 HO.out)
      have HS5b := hidD (HS5.out s1 s2 HO.out)
      rw [hP] at HS3b HS4b HS5b
      clear hP
      obtain ⟨a14, l14, c14, n14, r14⟩ := M8.out.poly2 (i := 2) rfl
      have e14a := n14.cell
      obtain ⟨a15, l15, c15, n15, r15⟩ := M8.out.poly2 (i := 3) rfl
      have e15a := n15.cell
      have H1 := hidD (HS3b.out V13 _ _ r14 r15)
      go_upto_region 12 with (go_at_call 8; refine H1.out.mono ?_; clear H1; rintro e w3 ⟨u3, rfl, hu3, hq⟩; obtain ⟨a808, l808, c808, rfl⟩ := IsPoly.form hu3)
      have XL3 := hidD ((XL2.out.below hq).alloc (.cells #[.slice a808 l808 c808] 25))
      clear XL2 n14 r14 e14a n15 r15 e15a
      have HX3 := XL3
      clear XL3
      obtain ⟨V16, hV⟩ : ∃ V, w3.alloc (.cells #[.slice a808 l808 c808] 25) = V := ⟨_, rfl⟩
      obtain ⟨B16, hBk⟩ : ∃ B, w3.heap.size = B := ⟨_, rfl⟩
      have MM : Mem w (w3.alloc (.cells #[.slice a808 l808 c808] 25)) [some (w.heap.size, .poly (q)), some (B6, .poly (c)), some (B9, .poly (s1)), some (B10, .poly (subQ s2 (slopeQ s1))), some (w3.heap.size, .poly (P))] := Mem.push (M8.out.below hq) (.poly (P)) hu3
      rw [hV, hBk] at MM
      rw [hV] at HX3
      rw [hV]
      rw [hBk]
      have M9 : Hid (Mem w V16 [some (w.heap.size, .poly (q)), some (B6, .poly (c)), some (B9, .poly (s1)), some (B10, .poly (subQ s2 (slopeQ s1))), some (B16, .poly (P))]) := hidD (MM)
      clear M8
      clear MM hV hBk hu3 hq
      obtain ⟨a17, l17, c17, n17, r17⟩ := M9.out.poly2 (i := 4) rfl
      have e17a := n17.cell
      have H1 := hidD (HDG.out V16 _ P r17)
      obtain ⟨d2, hd2⟩ : ∃ d : Int, (P.length : Int) - 1 = d := ⟨_, rfl⟩
      rw [hd2] at H1
      have HD2 := hidD hd2
      clear hd2
      by_cases hP1 : 1 < P.length
      · have hdq : (0 : Int) < d2 := by have := HD2.out; omega
        have HLN := hidD (show yL w0 y0 (k + 1) = L ++ [(P, T)] by rw [yL, HKK.out.2.2.1]; unfold yP; rw [HKK.out.1, HKK.out.2.1, HPP.out, if_pos hP1, HTT.out])
        go_upto_region 13 with (go_at_call 20; refine H1.out.mono ?_; clear H1; rintro e w4 ⟨rfl, hq⟩; clear e17a; have e17a := (boxed_below n17 hq).cell)
        have X4 := HX3.out.below hq
        have M4 := M9.out.below hq
        have r4 := r17.below hq
        have hbs := M4.2.2.size
        obtain ⟨v', w', hap, X5, hfar, hbl, hws⟩ := outp_append true w.heap.size w4 (.slice xa ll xc) L X4 (t := T) r4.row (by have := HKK.out.2.2.2; omega) hbs
        obtain ⟨ya, yc, hy1, _, _⟩ := X5.form
        rw [List.length_append, show ([(P, T)] : List (List Rat × Nat)).length = 1 from rfl] at hy1
        subst hy1
        have M5 := M4.farP hfar (hbl _ w (Nat.le_refl _) M4.2.2) (fun i B d e => by rcases i with _ | _ | _ | _ | _ | i <;> simp at e <;> (obtain ⟨rfl, rfl⟩ := e; show 25 ≠ 44; decide))
        have e4 := (boxed_below n17 hq).cell
        clear X4 r4 hbs hfar hbl hws hq M4 n17 r17 e17a HX3
        rw [show tsP true = 39 from rfl, show tyP true = 44 from rfl] at hap
        go_upto_region 14 with (first
          | (at_builtin; refine Lib.wpList_append_run _ rfl _ _ 39 39 rfl _ _ rfl rfl _ _ hap ?_; clear hap))
        clear e4 M9
        have M10 : Hid (Mem w w' [some (w.heap.size, .poly (q)), some (B6, .poly (c)), some (B9, .poly (s1)), some (B10, .poly (subQ s2 (slopeQ s1))), some (B16, .poly (P))]) := hidD (M5)
        clear M5
        have XL5 : Hid (PtL w.heap.size w' (.slice ya (L.length + 1) yc) (L ++ [(P, T)])) := hidD X5
        clear X5
        rw [HLL.out] at XL5
        refine wp_region_tab hmx [[], [], [0, 1], [], [], [3, 4, 2], [2, 5, 0, 1, 2], [5, 6, 0, 1, 2, 3, 4, 5, 6]] (by kernel_rfl) (by decide)
          (fun D act V => ∃ (t46x t47x t48x t49x t50x t51x : Value) (y2 y3 : Option (Nat × Dat)), act = { tmps := #[Value.agg #[Value.slice pa la pc], Value.pointer (some { block := w.heap.size, off := 0 }), Value.slice none 0 0, Value.pointer (some { block := B6, off := 0 }), Value.pointer (some { block := B9, off := 0 }), Value.pointer (some { block := B10, off := 0 }), Value.slice ya (L.length + 1) yc, Value.int IntKind.i64 ↑T, Value.pointer (some { block := B16, off := 0 }), Value.agg #[Value.slice a1 l1 c1], Value.int IntKind.i64 d0, Value.bool (decide (d0 < 1)), Value.agg #[Value.slice a2 l2 c2], Value.agg #[Value.slice a807 l807 c807], t14x, t15x, t16x, t17x, t18x, t19x, t20x, t21x, t22x, t23x, t24x, Value.agg #[Value.slice a11 l11 c11], Value.int IntKind.i64 d1, Value.bool true, u28, u29, t30x, t31x, t32x, t33x, Value.agg #[Value.slice a14 l14 c14], Value.agg #[Value.slice a15 l15 c15], Value.agg #[Value.slice a808 l808 c808], Value.agg #[Value.slice a17 l17 c17], Value.int IntKind.i64 d2, Value.bool true, Value.slice xa ll xc, Value.agg #[Value.slice a17 l17 c17], Value.int IntKind.i64 ↑T, Value.agg #[Value.slice a17 l17 c17, Value.int IntKind.i64 ↑T], Value.slice (some { block := w4.heap.size, off := 0 }) 1 1, Value.slice ya (L.length + 1) yc, t46x, t47x, t48x, t49x, t50x, t51x, undef], defers := [] } ∧ Hid ((D 0 = true → Has V t46x (.poly (s1))) ∧ (D 1 = true → Has V t47x (.poly (P))) ∧ (D 2 = true → Has V t48x (.poly (ovQ s1 P))) ∧ (D 3 = true → Has V t49x (.poly (subQ s2 (slopeQ s1)))) ∧ (D 4 = true → Has V t50x (.poly (P))) ∧ (D 5 = true → Has V t51x (.poly (ovQ (subQ s2 (slopeQ s1)) P))) ∧ ((D 6 = false → y2 = some (B9, .poly (s1))) ∧ (D 6 = true → y2 = some (B9, .poly (ovQ s1 P)))) ∧ ((D 7 = false → y3 = some (B10, .poly (subQ s2 (slopeQ s1)))) ∧ (D 7 = true → y3 = some (B10, .poly (ovQ (subQ s2 (slopeQ s1)) P))))) ∧ Hid (Mem w V [some (w.heap.size, .poly (q)), some (B6, .poly (c)), y2, y3, some (B16, .poly (P))]) ∧ Hid (PtL w.heap.size V (.slice ya (ll + 1) yc) (L ++ [(P, T)])))
          ⟨_, _, _, _, _, _, _, _, rfl, hidD ⟨by simp, by simp, by simp, by simp, by simp, by simp, ⟨fun _ => rfl, by simp⟩, ⟨fun _ => rfl, by simp⟩⟩, hidD (M10.out).drew, hidD (XL5.out.drew)⟩ ?step18 ?fin18
        case step18 =>
          rintro D act V i ds hcl hi hds hDi ⟨t46x, t47x, t48x, t49x, t50x, t51x, y2, y3, rfl, GG, MM, XX⟩
          have hi6 : i < 8 := (List.getElem?_eq_some_iff.1 hi).1
          obtain rfl | rfl | rfl | rfl | rfl | rfl | rfl | rfl : i = 0 ∨ i = 1 ∨ i = 2 ∨ i = 3 ∨ i = 4 ∨ i = 5 ∨ i = 6 ∨ i = 7 := by omega
          all_goals
            simp only [List.getElem?_cons_zero, List.getElem?_cons_succ, Option.some.injEq] at hi
            subst hi
          · have hf : D 6 = false := by
              cases h : D 6 with
              | false => rfl
              | true => rw [hcl 6 _ rfl h 0 (by simp)] at hDi; cases hDi
            obtain rfl := GG.out.2.2.2.2.2.2.1.1 hf
            clear hds
            obtain ⟨a, l, c, n, r⟩ := MM.out.poly2 (i := 2) rfl
            have e0 := n.cell
            refine wpOp_go rfl rfl (fun K hK => ?_)
            go_simp
            exact hK _ _ ⟨_, _, _, _, _, _, _, _, rfl, hidD ⟨fun _ => r, GG.out.2.1, GG.out.2.2.1, GG.out.2.2.2.1, GG.out.2.2.2.2.1, GG.out.2.2.2.2.2.1, ⟨fun _ => rfl, fun h => by simp [hf] at h⟩, GG.out.2.2.2.2.2.2.2⟩, hidD (MM.out), hidD (XX.out)⟩
          · clear hds
            obtain ⟨a, l, c, n, r⟩ := MM.out.poly2 (i := 4) rfl
            have e0 := n.cell
            refine wpOp_go rfl rfl (fun K hK => ?_)
            go_simp
            exact hK _ _ ⟨_, _, _, _, _, _, _, _, rfl, hidD ⟨GG.out.1, fun _ => r, GG.out.2.2.1, GG.out.2.2.2.1, GG.out.2.2.2.2.1, GG.out.2.2.2.2.2.1, GG.out.2.2.2.2.2.2.1, GG.out.2.2.2.2.2.2.2⟩, hidD (MM.out), hidD (XX.out)⟩
          · have h0 := (GG.out.1 (hds 0 (by simp)))
            have h1 := (GG.out.2.1 (hds 1 (by simp)))
            have HC := hidD (HS4b.out V _ _ h0 h1)
            clear hds h0 h1
            refine wpOp_go rfl rfl (fun K hK => ?_)
            go_simp
            go_wp2_with (go_at_call 46; refine HC.out.mono ?_; rintro e w5 ⟨v5, rfl, hv5, hb5⟩)
            exact ⟨_, _, _, _, _, _, _, _, rfl, hidD ⟨fun h => (GG.out.1 h).below hb5, fun h => (GG.out.2.1 h).below hb5, fun _ => hv5, fun h => (GG.out.2.2.2.1 h).below hb5, fun h => (GG.out.2.2.2.2.1 h).below hb5, fun h => (GG.out.2.2.2.2.2.1 h).below hb5, GG.out.2.2.2.2.2.2.1, GG.out.2.2.2.2.2.2.2⟩, hidD (MM.out.below hb5), hidD (XX.out.below hb5)⟩
          · have hf : D 7 = false := by
              cases h : D 7 with
              | false => rfl
              | true => rw [hcl 7 _ rfl h 3 (by simp)] at hDi; cases hDi
            obtain rfl := GG.out.2.2.2.2.2.2.2.1 hf
            clear hds
            obtain ⟨a, l, c, n, r⟩ := MM.out.poly2 (i := 3) rfl
            have e0 := n.cell
            refine wpOp_go rfl rfl (fun K hK => ?_)
            go_simp
            exact hK _ _ ⟨_, _, _, _, _, _, _, _, rfl, hidD ⟨GG.out.1, GG.out.2.1, GG.out.2.2.1, fun _ => r, GG.out.2.2.2.2.1, GG.out.2.2.2.2.2.1, GG.out.2.2.2.2.2.2.1, ⟨fun _ => rfl, fun h => by simp [hf] at h⟩⟩, hidD (MM.out), hidD (XX.out)⟩
          · clear hds
            obtain ⟨a, l, c, n, r⟩ := MM.out.poly2 (i := 4) rfl
            have e0 := n.cell
            refine wpOp_go rfl rfl (fun K hK => ?_)
            go_simp
            exact hK _ _ ⟨_, _, _, _, _, _, _, _, rfl, hidD ⟨GG.out.1, GG.out.2.1, GG.out.2.2.1, GG.out.2.2.2.1, fun _ => r, GG.out.2.2.2.2.2.1, GG.out.2.2.2.2.2.2.1, GG.out.2.2.2.2.2.2.2⟩, hidD (MM.out), hidD (XX.out)⟩
          · have h0 := (GG.out.2.2.2.1 (hds 3 (by simp)))
            have h1 := (GG.out.2.2.2.2.1 (hds 4 (by simp)))
            have HC := hidD (HS5b.out V _ _ h0 h1)
            clear hds h0 h1
            refine wpOp_go rfl rfl (fun K hK => ?_)
            go_simp
            go_wp2_with (go_at_call 46; refine HC.out.mono ?_; rintro e w5 ⟨v5, rfl, hv5, hb5⟩)
            exact ⟨_, _, _, _, _, _, _, _, rfl, hidD ⟨fun h => (GG.out.1 h).below hb5, fun h => (GG.out.2.1 h).below hb5, fun h => (GG.out.2.2.1 h).below hb5, fun h => (GG.out.2.2.2.1 h).below hb5, fun h => (GG.out.2.2.2.2.1 h).below hb5, fun _ => hv5, GG.out.2.2.2.2.2.2.1, GG.out.2.2.2.2.2.2.2⟩, hidD (MM.out.below hb5), hidD (XX.out.below hb5)⟩
          · obtain rfl := GG.out.2.2.2.2.2.2.1.1 hDi
            have hv := (GG.out.2.2.1 (hds 2 (by simp)))
            obtain ⟨a1, l1, c1, rfl⟩ := IsPoly.form (show IsPoly V _ _ from hv)
            obtain ⟨a, l, c, n, r⟩ := MM.out.poly2 (i := 2) rfl
            have e0 := n.cell
            have f0 := n.frozen
            clear hds
            refine wpOp_go rfl rfl (fun K hK => ?_)
            go_simp
            exact hK _ _ ⟨_, _, _, _, _, _, _, _, rfl, hidD ⟨fun h => (GG.out.1 h).set1 n rfl _, fun h => (GG.out.2.1 h).set1 n rfl _, fun h => (GG.out.2.2.1 h).set1 n rfl _, fun h => (GG.out.2.2.2.1 h).set1 n rfl _, fun h => (GG.out.2.2.2.2.1 h).set1 n rfl _, fun h => (GG.out.2.2.2.2.2.1 h).set1 n rfl _, ⟨fun h => by simp at h, fun _ => rfl⟩, GG.out.2.2.2.2.2.2.2⟩, hidD (MM.out.putPoly (i := 2) rfl hv), hidD (XX.out.set1 n rfl _)⟩
          · obtain rfl := GG.out.2.2.2.2.2.2.2.1 hDi
            have hv := (GG.out.2.2.2.2.2.1 (hds 5 (by simp)))
            obtain ⟨a1, l1, c1, rfl⟩ := IsPoly.form (show IsPoly V _ _ from hv)
            obtain ⟨a, l, c, n, r⟩ := MM.out.poly2 (i := 3) rfl
            have e0 := n.cell
            have f0 := n.frozen
            clear hds
            refine wpOp_go rfl rfl (fun K hK => ?_)
            go_simp
            exact hK _ _ ⟨_, _, _, _, _, _, _, _, rfl, hidD ⟨fun h => (GG.out.1 h).set1 n rfl _, fun h => (GG.out.2.1 h).set1 n rfl _, fun h => (GG.out.2.2.1 h).set1 n rfl _, fun h => (GG.out.2.2.2.1 h).set1 n rfl _, fun h => (GG.out.2.2.2.2.1 h).set1 n rfl _, fun h => (GG.out.2.2.2.2.2.1 h).set1 n rfl _, GG.out.2.2.2.2.2.2.1, ⟨fun h => by simp at h, fun _ => rfl⟩⟩, hidD (MM.out.putPoly (i := 3) rfl hv), hidD (XX.out.set1 n rfl _)⟩
        rintro D act V19 hDD ⟨t46x, t47x, t48x, t49x, t50x, t51x, y2, y3, rfl, GG, MM, XX⟩
        obtain rfl := GG.out.2.2.2.2.2.2.1.2 (hDD 6 (by decide))
        obtain rfl := GG.out.2.2.2.2.2.2.2.2 (hDD 7 (by decide))
        clear GG hDD M10
        have M11 : Hid (Mem w V19 [some (w.heap.size, .poly (q)), some (B6, .poly (c)), some (B9, .poly (ovQ s1 P)), some (B10, .poly (ovQ (subQ s2 (slopeQ s1)) P)), some (B16, .poly (P))]) := MM
        clear MM
        have HMt : Hid (Mem w V19 [some (w.heap.size, .poly (q)), some (B6, .poly (c)), some (B9, .poly (ovQ s1 P)), some (B10, .poly (ovQ (subQ s2 (slopeQ s1)) P))]) := hidD (M11.out.take 4)
        have HSS := hidD (show (yst w0 y0 (k + 1)).1 = ovQ s1 P ∧ (yst w0 y0 (k + 1)).2 = ovQ (subQ s2 (slopeQ s1)) P by rw [yst]; unfold yunS; rw [HKK.out.1, HKK.out.2.1, HPP.out]; exact ⟨rfl, rfl⟩)
        have hTb : T + 1 ≤ 9223372036854775807 := by have := HTT.out; omega
        clear M11
        go_wp2_with fail
        go_roundw
        case rel => exact ⟨k + 1, ya, yc, by omega, by rw [HLN.out, List.length_append, HLL.out]; rfl, by rw [HTT.out]; go_num, by rw [HLN.out, List.length_append, HLL.out]; exact XX, by rw [HSS.out.1, HSS.out.2]; exact HMt⟩
        case measure => simp [intOf]; have := HTT.out; omega
      · have hdq : ¬ (0 : Int) < d2 := by have := HD2.out; omega
        have HLN := hidD (show yL w0 y0 (k + 1) = L by rw [yL, HKK.out.2.2.1]; unfold yP; rw [HKK.out.1, HKK.out.2.1, HPP.out, if_neg hP1, List.append_nil])
        go_upto_region 14 with (go_at_call 20; refine H1.out.mono ?_; clear H1; rintro e w4 ⟨rfl, hq⟩; clear e17a; have e17a := (boxed_below n17 hq).cell)
        have XL4 := hidD (HX3.out.below hq)
        have M10 : Hid (Mem w w4 [some (w.heap.size, .poly (q)), some (B6, .poly (c)), some (B9, .poly (s1)), some (B10, .poly (subQ s2 (slopeQ s1))), some (B16, .poly (P))]) := hidD (M9.out.below hq)
        clear M9
        clear hq n17 r17 e17a HX3
        refine wp_region_tab hmx [[], [], [0, 1], [], [], [3, 4, 2], [2, 5, 0, 1, 2], [5, 6, 0, 1, 2, 3, 4, 5, 6]] (by kernel_rfl) (by decide)
          (fun D act V => ∃ (t46x t47x t48x t49x t50x t51x : Value) (y2 y3 : Option (Nat × Dat)), act = { tmps := #[Value.agg #[Value.slice pa la pc], Value.pointer (some { block := w.heap.size, off := 0 }), Value.slice none 0 0, Value.pointer (some { block := B6, off := 0 }), Value.pointer (some { block := B9, off := 0 }), Value.pointer (some { block := B10, off := 0 }), Value.slice xa ll xc, Value.int IntKind.i64 ↑T, Value.pointer (some { block := B16, off := 0 }), Value.agg #[Value.slice a1 l1 c1], Value.int IntKind.i64 d0, Value.bool (decide (d0 < 1)), Value.agg #[Value.slice a2 l2 c2], Value.agg #[Value.slice a807 l807 c807], t14x, t15x, t16x, t17x, t18x, t19x, t20x, t21x, t22x, t23x, t24x, Value.agg #[Value.slice a11 l11 c11], Value.int IntKind.i64 d1, Value.bool true, u28, u29, t30x, t31x, t32x, t33x, Value.agg #[Value.slice a14 l14 c14], Value.agg #[Value.slice a15 l15 c15], Value.agg #[Value.slice a808 l808 c808], Value.agg #[Value.slice a17 l17 c17], Value.int IntKind.i64 d2, Value.bool (decide (0 < d2)), u40, u41, u42, u43, u44, u45, t46x, t47x, t48x, t49x, t50x, t51x, undef], defers := [] } ∧ Hid ((D 0 = true → Has V t46x (.poly (s1))) ∧ (D 1 = true → Has V t47x (.poly (P))) ∧ (D 2 = true → Has V t48x (.poly (ovQ s1 P))) ∧ (D 3 = true → Has V t49x (.poly (subQ s2 (slopeQ s1)))) ∧ (D 4 = true → Has V t50x (.poly (P))) ∧ (D 5 = true → Has V t51x (.poly (ovQ (subQ s2 (slopeQ s1)) P))) ∧ ((D 6 = false → y2 = some (B9, .poly (s1))) ∧ (D 6 = true → y2 = some (B9, .poly (ovQ s1 P)))) ∧ ((D 7 = false → y3 = some (B10, .poly (subQ s2 (slopeQ s1)))) ∧ (D 7 = true → y3 = some (B10, .poly (ovQ (subQ s2 (slopeQ s1)) P))))) ∧ Hid (Mem w V [some (w.heap.size, .poly (q)), some (B6, .poly (c)), y2, y3, some (B16, .poly (P))]) ∧ Hid (PtL w.heap.size V (.slice xa ll xc) L))
          ⟨_, _, _, _, _, _, _, _, rfl, hidD ⟨by simp, by simp, by simp, by simp, by simp, by simp, ⟨fun _ => rfl, by simp⟩, ⟨fun _ => rfl, by simp⟩⟩, hidD (M10.out).drew, hidD (XL4.out.drew)⟩ ?step20 ?fin20
        case step20 =>
          rintro D act V i ds hcl hi hds hDi ⟨t46x, t47x, t48x, t49x, t50x, t51x, y2, y3, rfl, GG, MM, XX⟩
          have hi6 : i < 8 := (List.getElem?_eq_some_iff.1 hi).1
          obtain rfl | rfl | rfl | rfl | rfl | rfl | rfl | rfl : i = 0 ∨ i = 1 ∨ i = 2 ∨ i = 3 ∨ i = 4 ∨ i = 5 ∨ i = 6 ∨ i = 7 := by omega
          all_goals
            simp only [List.getElem?_cons_zero, List.getElem?_cons_succ, Option.some.injEq] at hi
            subst hi
          · have hf : D 6 = false := by
              cases h : D 6 with
              | false => rfl
              | true => rw [hcl 6 _ rfl h 0 (by simp)] at hDi; cases hDi
            obtain rfl := GG.out.2.2.2.2.2.2.1.1 hf
            clear hds
            obtain ⟨a, l, c, n, r⟩ := MM.out.poly2 (i := 2) rfl
            have e0 := n.cell
            refine wpOp_go rfl rfl (fun K hK => ?_)
            go_simp
            exact hK _ _ ⟨_, _, _, _, _, _, _, _, rfl, hidD ⟨fun _ => r, GG.out.2.1, GG.out.2.2.1, GG.out.2.2.2.1, GG.out.2.2.2.2.1, GG.out.2.2.2.2.2.1, ⟨fun _ => rfl, fun h => by simp [hf] at h⟩, GG.out.2.2.2.2.2.2.2⟩, hidD (MM.out), hidD (XX.out)⟩
          · clear hds
            obtain ⟨a, l, c, n, r⟩ := MM.out.poly2 (i := 4) rfl
            have e0 := n.cell
            refine wpOp_go rfl rfl (fun K hK => ?_)
            go_simp
            exact hK _ _ ⟨_, _, _, _, _, _, _, _, rfl, hidD ⟨GG.out.1, fun _ => r, GG.out.2.2.1, GG.out.2.2.2.1, GG.out.2.2.2.2.1, GG.out.2.2.2.2.2.1, GG.out.2.2.2.2.2.2.1, GG.out.2.2.2.2.2.2.2⟩, hidD (MM.out), hidD (XX.out)⟩
          · have h0 := (GG.out.1 (hds 0 (by simp)))
            have h1 := (GG.out.2.1 (hds 1 (by simp)))
            have HC := hidD (HS4b.out V _ _ h0 h1)
            clear hds h0 h1
            refine wpOp_go rfl rfl (fun K hK => ?_)
            go_simp
            go_wp2_with (go_at_call 46; refine HC.out.mono ?_; rintro e w5 ⟨v5, rfl, hv5, hb5⟩)
            exact ⟨_, _, _, _, _, _, _, _, rfl, hidD ⟨fun h => (GG.out.1 h).below hb5, fun h => (GG.out.2.1 h).below hb5, fun _ => hv5, fun h => (GG.out.2.2.2.1 h).below hb5, fun h => (GG.out.2.2.2.2.1 h).below hb5, fun h => (GG.out.2.2.2.2.2.1 h).below hb5, GG.out.2.2.2.2.2.2.1, GG.out.2.2.2.2.2.2.2⟩, hidD (MM.out.below hb5), hidD (XX.out.below hb5)⟩
          · have hf : D 7 = false := by
              cases h : D 7 with
              | false => rfl
              | true => rw [hcl 7 _ rfl h 3 (by simp)] at hDi; cases hDi
            obtain rfl := GG.out.2.2.2.2.2.2.2.1 hf
            clear hds
            obtain ⟨a, l, c, n, r⟩ := MM.out.poly2 (i := 3) rfl
            have e0 := n.cell
            refine wpOp_go rfl rfl (fun K hK => ?_)
            go_simp
            exact hK _ _ ⟨_, _, _, _, _, _, _, _, rfl, hidD ⟨GG.out.1, GG.out.2.1, GG.out.2.2.1, fun _ => r, GG.out.2.2.2.2.1, GG.out.2.2.2.2.2.1, GG.out.2.2.2.2.2.2.1, ⟨fun _ => rfl, fun h => by simp [hf] at h⟩⟩, hidD (MM.out), hidD (XX.out)⟩
          · clear hds
            obtain ⟨a, l, c, n, r⟩ := MM.out.poly2 (i := 4) rfl
            have e0 := n.cell
            refine wpOp_go rfl rfl (fun K hK => ?_)
            go_simp
            exact hK _ _ ⟨_, _, _, _, _, _, _, _, rfl, hidD ⟨GG.out.1, GG.out.2.1, GG.out.2.2.1, GG.out.2.2.2.1, fun _ => r, GG.out.2.2.2.2.2.1, GG.out.2.2.2.2.2.2.1, GG.out.2.2.2.2.2.2.2⟩, hidD (MM.out), hidD (XX.out)⟩
          · have h0 := (GG.out.2.2.2.1 (hds 3 (by simp)))
            have h1 := (GG.out.2.2.2.2.1 (hds 4 (by simp)))
            have HC := hidD (HS5b.out V _ _ h0 h1)
            clear hds h0 h1
            refine wpOp_go rfl rfl (fun K hK => ?_)
            go_simp
            go_wp2_with (go_at_call 46; refine HC.out.mono ?_; rintro e w5 ⟨v5, rfl, hv5, hb5⟩)
            exact ⟨_, _, _, _, _, _, _, _, rfl, hidD ⟨fun h => (GG.out.1 h).below hb5, fun h => (GG.out.2.1 h).below hb5, fun h => (GG.out.2.2.1 h).below hb5, fun h => (GG.out.2.2.2.1 h).below hb5, fun h => (GG.out.2.2.2.2.1 h).below hb5, fun _ => hv5, GG.out.2.2.2.2.2.2.1, GG.out.2.2.2.2.2.2.2⟩, hidD (MM.out.below hb5), hidD (XX.out.below hb5)⟩
          · obtain rfl := GG.out.2.2.2.2.2.2.1.1 hDi
            have hv := (GG.out.2.2.1 (hds 2 (by simp)))
            obtain ⟨a1, l1, c1, rfl⟩ := IsPoly.form (show IsPoly V _ _ from hv)
            obtain ⟨a, l, c, n, r⟩ := MM.out.poly2 (i := 2) rfl
            have e0 := n.cell
            have f0 := n.frozen
            clear hds
            refine wpOp_go rfl rfl (fun K hK => ?_)
            go_simp
            exact hK _ _ ⟨_, _, _, _, _, _, _, _, rfl, hidD ⟨fun h => (GG.out.1 h).set1 n rfl _, fun h => (GG.out.2.1 h).set1 n rfl _, fun h => (GG.out.2.2.1 h).set1 n rfl _, fun h => (GG.out.2.2.2.1 h).set1 n rfl _, fun h => (GG.out.2.2.2.2.1 h).set1 n rfl _, fun h => (GG.out.2.2.2.2.2.1 h).set1 n rfl _, ⟨fun h => by simp at h, fun _ => rfl⟩, GG.out.2.2.2.2.2.2.2⟩, hidD (MM.out.putPoly (i := 2) rfl hv), hidD (XX.out.set1 n rfl _)⟩
          · obtain rfl := GG.out.2.2.2.2.2.2.2.1 hDi
            have hv := (GG.out.2.2.2.2.2.1 (hds 5 (by simp)))
            obtain ⟨a1, l1, c1, rfl⟩ := IsPoly.form (show IsPoly V _ _ from hv)
            obtain ⟨a, l, c, n, r⟩ := MM.out.poly2 (i := 3) rfl
            have e0 := n.cell
            have f0 := n.frozen
            clear hds
            refine wpOp_go rfl rfl (fun K hK => ?_)
            go_simp
            exact hK _ _ ⟨_, _, _, _, _, _, _, _, rfl, hidD ⟨fun h => (GG.out.1 h).set1 n rfl _, fun h => (GG.out.2.1 h).set1 n rfl _, fun h => (GG.out.2.2.1 h).set1 n rfl _, fun h => (GG.out.2.2.2.1 h).set1 n rfl _, fun h => (GG.out.2.2.2.2.1 h).set1 n rfl _, fun h => (GG.out.2.2.2.2.2.1 h).set1 n rfl _, GG.out.2.2.2.2.2.2.1, ⟨fun h => by simp at h, fun _ => rfl⟩⟩, hidD (MM.out.putPoly (i := 3) rfl hv), hidD (XX.out.set1 n rfl _)⟩
        rintro D act V21 hDD ⟨t46x, t47x, t48x, t49x, t50x, t51x, y2, y3, rfl, GG, MM, XX⟩
        obtain rfl := GG.out.2.2.2.2.2.2.1.2 (hDD 6 (by decide))
        obtain rfl := GG.out.2.2.2.2.2.2.2.2 (hDD 7 (by decide))
        clear GG hDD M10
        have M11 : Hid (Mem w V21 [some (w.heap.size, .poly (q)), some (B6, .poly (c)), some (B9, .poly (ovQ s1 P)), some (B10, .poly (ovQ (subQ s2 (slopeQ s1)) P)), some (B16, .poly (P))]) := MM
        clear MM
        have HMt : Hid (Mem w V21 [some (w.heap.size, .poly (q)), some (B6, .poly (c)), some (B9, .poly (ovQ s1 P)), some (B10, .poly (ovQ (subQ s2 (slopeQ s1)) P))]) := hidD (M11.out.take 4)
        have HSS := hidD (show (yst w0 y0 (k + 1)).1 = ovQ s1 P ∧ (yst w0 y0 (k + 1)).2 = ovQ (subQ s2 (slopeQ s1)) P by rw [yst]; unfold yunS; rw [HKK.out.1, HKK.out.2.1, HPP.out]; exact ⟨rfl, rfl⟩)
        have hTb : T + 1 ≤ 9223372036854775807 := by have := HTT.out; omega
        clear M11
        go_wp2_with fail
        go_roundw
        case rel => exact ⟨k + 1, xa, xc, by omega, by rw [HLN.out, HLL.out], by rw [HTT.out]; go_num, by rw [HLN.out, HLL.out]; exact XX, by rw [HSS.out.1, HSS.out.2]; exact HMt⟩
        case measure => simp [intOf]; have := HTT.out; omega
    · obtain rfl : k = N := by omega
      have hdp : ¬ (0 : Int) < d1 := by have h1 := HEN.out; rw [HKK.out.1] at h1; have := HD1.out; omega
      go_wp2_with (go_at_call 20; refine H1.out.mono ?_; clear H1; rintro e w1 ⟨rfl, hq⟩; clear e11a; have e11a := (boxed_below n11 hq).cell)
      have HF := hidD (show OutP true w.heap.size w1 (.slice xa ll xc) (yL w0 y0 k) ∧ Below w.heap.size w w1 by rw [HKK.out.2.2.1]; exact ⟨XL.out.below hq, (M6.out.below hq).2.2⟩)
      go_ret
      exact ⟨_, rfl, HF.out⟩
end M3
end Go.Proofs.YteldjhhjnchdeaaGreatDoor
namespace Go.Proofs.YteldjhhjnchdeaaGreatDoor
open Go.RowKit Go.Shelf

attribute [local go_sem] Oper.semAt_some

theorem _root_.Go.Boxed.bel {W W' : World} {B : Nat} {t : TypeId} {v : Value} (h : Boxed W B t v) (hb : Below W.heap.size W W') : Boxed W' B t v := (hb.block B h.lt).trans h
theorem alive_text : textP aliveS = [120, 94, 50, 43, 120, 43, 49, 47, 52] := by decide +kernel
theorem aliveL_sm (i : Nat) : SmQ 1 (cf aliveL i) := by
  rcases i with _ | _ | i
  · exact ⟨by show Sm 1 1; unfold Sm B64; decide, by show Sm 1 2; unfold Sm B64; decide⟩
  · exact ⟨by show Sm 1 1; unfold Sm B64; decide, by show Sm 1 1; unfold Sm B64; decide⟩
  · rw [cf_ge (by simp [aliveL])]; exact SmQ.zero 1 (by omega)
theorem aliveL_sqs : Sqs aliveL := Sqs.of fun i => Sq.of (aliveL_sm i) (by omega)
theorem aliveS_sqs : Sqs aliveS := Sqs.of fun i => by rw [← alive_times]; exact Sq.of (mulQ_sm aliveL_sm aliveL_sm i) (by simp [aliveL])

end Go.Proofs.YteldjhhjnchdeaaGreatDoor
namespace Go.Proofs.YteldjhhjnchdeaaGreatDoor
open Go.RowKit Go.Shelf

attribute [local go_sem] Oper.semAt_some

/-! The polynomial that the laws of chapter 4 look at: x^3-x^2-x+1. -/
theorem cdz (p : List Rat) (zs : List Int) (e : p = zs.map (fun z : Int => (z : Rat))) (h : zs.all (fun z => decide (z.natAbs < 100)) = true) : Cd 1 p := by
  refine ⟨1, by decide, Sm.one 1 (by omega), Whl.cdl (fun i => ?_)⟩
  rw [e]
  by_cases hi : i < zs.length
  · refine ⟨zs[i], ?_, ?_⟩
    · have h1 := List.all_eq_true.1 h zs[i] (List.getElem_mem hi)
      have h2 : zs[i].natAbs < 100 := of_decide_eq_true h1
      unfold Sm B64
      omega
    · unfold cf
      rw [List.getElem?_map, List.getElem?_eq_getElem hi]
      rfl
  · exact ⟨0, Sm.zero 1, by rw [cf_ge (by simp; omega)]; rfl⟩
def aP : List Rat := [1, -1, -1, 1]
theorem aP_parse : parseP [120, 94, 51, 45, 120, 94, 50, 45, 120, 43, 49] = (aP, 0, 0) := by decide +kernel
theorem aP_trim : trimQ aP = aP := by decide +kernel
theorem aP_mon : monQ aP = aP := by decide +kernel
theorem aP_slope : slopeQ aP = [-1, -2, 3] := by decide +kernel
theorem aP_gcd : gcdQ aP [-1, -2, 3] = [-1, 1] := by decide +kernel
theorem aP_w : ovQ aP [-1, 1] = [-1, 0, 1] := by decide +kernel
theorem aP_y : ovQ [-1, -2, 3] [-1, 1] = [1, 3] := by decide +kernel
theorem aP_1 : yst [-1, 0, 1] [1, 3] 1 = ([-1, 1], [1]) := by decide +kernel
theorem aP_2 : yst [-1, 0, 1] [1, 3] 2 = ([1], []) := by decide +kernel
theorem aP_L : yL [-1, 0, 1] [1, 3] 2 = [([1, 1], 1), ([-1, 1], 2)] := by decide +kernel
theorem aP_cd : Cd 1 aP := cdz aP [1, -1, -1, 1] (by decide +kernel) (by decide)
theorem aP_cds : Cd 1 [-1, -2, 3] := cdz _ [-1, -2, 3] (by decide +kernel) (by decide)
theorem aP_ch : M3.ChOk 1 aP [-1, -2, 3] := ⟨aP_trim, by decide +kernel, aP_cd, aP_cds, by decide, by decide⟩
theorem aP_st0 : StOk 1 20 [-1, 0, 1] [1, 3] := by
  have e1 : slopeQ [-1, 0, 1] = [0, 2] := by decide +kernel
  have e2 : subQ [1, 3] [0, 2] = [1, 1] := by decide +kernel
  have c1 : Cd 1 [-1, 0, 1] := cdz _ [-1, 0, 1] (by decide +kernel) (by decide)
  have c2 : Cd 1 [1, 1] := cdz _ [1, 1] (by decide +kernel) (by decide)
  have c3 : Cd 1 [0, 2] := cdz _ [0, 2] (by decide +kernel) (by decide)
  have c4 : Cd 1 [1, 3] := cdz _ [1, 3] (by decide +kernel) (by decide)
  refine ⟨?_, by decide +kernel, c1.mono (by omega), ?_, c4.mono (by omega), ?_, ?_, by decide, ?_⟩
  · rw [e1, e2]; exact ⟨by decide +kernel, by decide +kernel, c1, c2, by decide, by decide⟩
  · rw [e1]; exact c3.mono (by omega)
  · rw [e1, e2]; exact c2.mono (by omega)
  · rw [e1, e2]; decide
  · rw [e1, e2]; decide
theorem aP_st1 : StOk 1 20 [-1, 1] [1] := by
  have e1 : slopeQ [-1, 1] = [1] := by decide +kernel
  have e2 : subQ [1] [1] = [] := by decide +kernel
  have c1 : Cd 1 [-1, 1] := cdz _ [-1, 1] (by decide +kernel) (by decide)
  have c2 : Cd 1 [] := cdz _ [] (by decide +kernel) (by decide)
  have c3 : Cd 1 [1] := cdz _ [1] (by decide +kernel) (by decide)
  refine ⟨?_, by decide +kernel, c1.mono (by omega), ?_, c3.mono (by omega), ?_, ?_, by decide, ?_⟩
  · rw [e1, e2]; exact ⟨by decide +kernel, by decide +kernel, c1, c2, by decide, by decide⟩
  · rw [e1]; exact c3.mono (by omega)
  · rw [e1, e2]; exact c2.mono (by omega)
  · rw [e1, e2]; decide
  · rw [e1, e2]; decide
theorem aP_pt : PtOk 1 20 2 aP := by
  refine ⟨aP_trim, aP_cd.mono (by omega), ?_, ?_, by decide, by decide, by omega, ?_, ?_⟩
  · rw [aP_mon, aP_slope]; exact aP_ch
  · rw [aP_mon, aP_slope]; decide
  · rw [aP_mon, aP_slope, aP_gcd, aP_w, aP_y]
    intro n hn
    rcases n with _ | _ | n
    · exact ⟨by decide, aP_st0⟩
    · rw [show (0 + 1 : Nat) = 1 from rfl, aP_1]
      exact ⟨by decide, aP_st1⟩
    · omega
  · rw [aP_mon, aP_slope, aP_gcd, aP_w, aP_y, aP_2]
    decide
theorem aP_prt : prtL aP 2 = [([1, 1], 1), ([-1, 1], 2)] := by
  unfold prtL
  rw [aP_mon, aP_slope, aP_gcd, aP_w, aP_y, aP_L]
theorem aP_fr : M3.FrOk 1 aP := by
  refine ⟨?_, ?_⟩
  · rw [aP_slope]; exact aP_ch
  · rw [aP_slope]; decide
theorem aP_free : freQ aP = [-1, 0, 1] := by decide +kernel
theorem aP_t1 : textP [-1, 1] = [120, 45, 49] := by decide +kernel
theorem aP_t2 : textP [-1, 0, 1] = [120, 94, 50, 45, 49] := by decide +kernel
theorem aP_s1 : Sqs [-1, 1] := (cdz [-1, 1] [-1, 1] (by decide +kernel) (by decide)).sqs (by omega)
theorem aP_s2 : Sqs [-1, 0, 1] := (cdz [-1, 0, 1] [-1, 0, 1] (by decide +kernel) (by decide)).sqs (by omega)
/-- Two parts, as cells. -/
theorem OutP.two {r : Bool} {base : Nat} {W : World} {v : Value} {p q : List Rat} {s t : Nat} (h : OutP r base W v [(p, s), (q, t)]) : ∃ g cap a l c a' l' c', v = .slice (some ⟨g, 0, none⟩) 2 cap ∧ g < W.heap.size ∧ W.cell? ⟨g, 0, none⟩ = some (.slice a l c) ∧ W.cell? ⟨g, 1, none⟩ = some (.int .i64 (s : Int)) ∧ W.cell? ⟨g, 2, none⟩ = some (.slice a' l' c') ∧ W.cell? ⟨g, 3, none⟩ = some (.int .i64 (t : Int)) ∧ RowK r W (.slice a l c) p ∧ RowK r W (.slice a' l' c') q := by
  rcases h with ⟨_, h⟩ | ⟨g, cap, cur, rfl, h2, h3, h4, h5, h6, h7⟩
  · simp at h
  · obtain ⟨x, e0, e1, hx⟩ := h7.2 0 p s rfl
    obtain ⟨y, e2, e3, hy⟩ := h7.2 1 q t rfl
    obtain ⟨a, l, c, rfl⟩ := hx.form
    obtain ⟨a', l', c', rfl⟩ := hy.form
    rw [List.getElem?_take_of_lt (by simp), Array.getElem?_toList] at e0 e1 e2 e3
    exact ⟨g, cap, a, l, c, a', l', c', rfl, (Array.getElem?_eq_some_iff.1 h3).1, cell_of h3 e0, cell_of h3 e1, cell_of h3 e2, cell_of h3 e3, hx, hy⟩

set_option maxRecDepth 100000 in
set_option maxHeartbeats 8000000 in
theorem halive_c (w : World) (htab : Pow10 w) : Calls Tryz.prog 15 #[] w fun r w' => r = .returned (.bool true) ∧ Below w.heap.size w w' := by
  have HT := hidD htab
  have HC := hidD (fun (V : World) => show Calls Tryz.prog 23 #[.string ⟨#[120, 94, 51, 45, 120, 94, 50, 45, 120, 43, 49]⟩] V fun r w' => ∃ u, r = .returned (.tuple #[u, .int .i64 0, .int .i64 0]) ∧ IsPoly w' u aP ∧ Below V.heap.size V w' from
    (yParse_c ⟨#[120, 94, 51, 45, 120, 94, 50, 45, 120, 43, 49]⟩ V).mono (fun r w' h => by
      obtain ⟨u, e, p, h1, h2, h3⟩ := h
      rw [ParC, show wlst ⟨#[120, 94, 51, 45, 120, 94, 50, 45, 120, 43, 49]⟩ = [120, 94, 51, 45, 120, 94, 50, 45, 120, 43, 49] from rfl, aP_parse] at h2
      obtain ⟨rfl, rfl, h4⟩ := h2
      exact ⟨u, h1, h4, h3⟩))
  have M := hidD (Below.refl w.heap.size w)
  clear htab
  go_enter Tryz.func15, Tryz.ntmps15
  go_upto_region 2 with (go_at_call 23; refine (HC.out _).mono ?_; clear HC; rintro e w1 ⟨u, rfl, hu, hb⟩; obtain ⟨a1, l1, c1, rfl⟩ := hu.form)
  replace M := hidD (M.out.trans (hb.mono M.out.size))
  have hA : Below w1.heap.size w1 (w1.alloc (.cells #[.slice a1 l1 c1] 25)) := (Below.refl _ w1).alloc (Nat.le_refl _) _
  have nP := Boxed.new w1 25 (.slice a1 l1 c1)
  have rP := hu.below hA
  replace M := hidD (M.out.trans (hA.mono M.out.size))
  clear hA
  obtain ⟨VP, hV⟩ : ∃ V, w1.alloc (.cells #[.slice a1 l1 c1] 25) = V := ⟨_, rfl⟩
  obtain ⟨BP, hB⟩ : ∃ B, w1.heap.size = B := ⟨_, rfl⟩
  rw [hV] at rP M
  rw [hV, hB] at nP
  rw [hV]
  rw [hB]
  clear hV hB
  clear hu hb
  have H1 := hidD (M3.gParts_c 1 20 2 _ aP VP rP aP_pt)
  rw [aP_prt] at H1
  have eP := nP.cell
  go_upto_region 3 with (go_at_call 18; refine H1.out.mono ?_; clear H1; rintro e w2 ⟨u2, rfl, hu2, hb2⟩; obtain ⟨g, cap, b1, m1, d1, b2, m2, d2, rfl, hg, x0, x1, x2, x3, hp1, hp2⟩ := hu2.two)
  replace nP := nP.bel hb2
  replace rP := rP.below hb2
  replace M := hidD (M.out.trans (hb2.mono M.out.size))
  have HX := hidD (show ∀ V, Below w2.heap.size w2 V → V.cell? ⟨g, 1, none⟩ = some (.int .i64 ((1 : Nat) : Int)) ∧ V.cell? ⟨g, 2, none⟩ = some (.slice b2 m2 d2) ∧ IsPoly V (.agg #[.slice b2 m2 d2]) [-1, 1] from fun V hB => ⟨(hB.cell (p := ⟨g, 1, none⟩) hg).trans x1, (hB.cell (p := ⟨g, 2, none⟩) hg).trans x2, _, rfl, hp2.below hB⟩)
  clear eP x0 x1 x2 x3 hp1 hp2 hu2 hb2 hg
  have H1 := hidD (M3.gFree_c 1 _ aP w2 rP aP_fr)
  rw [aP_free] at H1
  have eP := nP.cell
  go_upto_region 4 with (go_at_call 16; refine H1.out.mono ?_; clear H1; rintro e w3 ⟨u3, rfl, hu3, hb3⟩; obtain ⟨a3, l3, c3, rfl⟩ := hu3.form)
  have hA : Below w3.heap.size w3 (w3.alloc (.cells #[.slice a3 l3 c3] 25)) := (Below.refl _ w3).alloc (Nat.le_refl _) _
  have nF := Boxed.new w3 25 (.slice a3 l3 c3)
  have rF := hu3.below hA
  have hW := Below.then hb3 hA
  replace M := hidD (M.out.trans (hW.mono M.out.size))
  obtain ⟨VF, hV⟩ : ∃ V, w3.alloc (.cells #[.slice a3 l3 c3] 25) = V := ⟨_, rfl⟩
  obtain ⟨BF, hB⟩ : ∃ B, w3.heap.size = B := ⟨_, rfl⟩
  rw [hV] at rF M hW
  rw [hV, hB] at nF
  rw [hV]
  rw [hB]
  have HW := hidD hW
  clear hV hB hA hb3 hu3 eP nP rP hW
  have H1 := hidD (fun (V : World) (h : Below VF.heap.size VF V) => yText_c _ [-1, 1] V (HX.out V (Below.then HW.out h)).2.2 aP_s1 (fun m => polyT_ok aP_s1 (by simp) m) (tab_below HT.out (M.out.trans (h.mono M.out.size))))
  rw [aP_t1] at H1
  have H2 := hidD (fun (V : World) (h : Below VF.heap.size VF V) => yText_c _ [-1, 0, 1] V (rF.below h) aP_s2 (fun m => polyT_ok aP_s2 (by simp) m) (tab_below HT.out (M.out.trans (h.mono M.out.size))))
  rw [aP_t2] at H2
  have hq : Below VF.heap.size VF VF := Below.refl _ _
  have eF := (nF.bel hq).cell
  have e1 := (HX.out VF HW.out).1
  have e2 := (HX.out VF HW.out).2.1
  go_wp2_with (first
    | (go_at_call 11; refine (H1.out _ hq).mono ?_; clear H1; rintro e x1 ⟨rfl, hb⟩; replace hq := Below.then hq hb; clear hb eF; have eF := (nF.bel hq).cell)
    | (go_at_call 11; refine (H2.out _ hq).mono ?_; clear H2; rintro e x2 ⟨rfl, hb⟩; replace hq := Below.then hq hb; clear hb))
  go_ret
  exact ⟨rfl, M.out.trans (hq.mono M.out.size)⟩
end Go.Proofs.YteldjhhjnchdeaaGreatDoor
namespace Go.Proofs.YteldjhhjnchdeaaGreatDoor

/-! A text's polynomial has a denominator, and over it coefficients, of no more digits than the text. -/
theorem num_lt10 {l : List UInt8} (h : l.all isD = true) : num l < 10 ^ l.length := by
  have := val_lt (dig_dgs h)
  rwa [dgs_length] at this
/-- A fraction of so many digits. -/
def Fr (x : Nat) (c : Rat) : Prop := ∃ (a b : Nat) (y z : Nat), c = Rat.divInt a b ∧ a ≤ 10 ^ y ∧ b ≤ 10 ^ z ∧ b ≠ 0 ∧ y + z ≤ x
theorem Fr.mono {x y : Nat} {c : Rat} (h : Fr x c) (hx : x ≤ y) : Fr y c := by
  obtain ⟨a, b, u, v, h1, h2, h3, h4, h5⟩ := h
  exact ⟨a, b, u, v, h1, h2, h3, h4, by omega⟩
theorem Fr.one : Fr 0 1 := ⟨1, 1, 0, 0, by decide, by decide, by decide, by decide, by decide⟩
theorem coefS_fr {l : List UInt8} {i k : Nat} {c : Rat} (hi : i ≤ l.length) (h : coefS l i = .ok c k) : Fr (k - i) c := by
  unfold coefS at h
  split at h
  · cases h
  · rename_i ds p k' h1
    have h2 := numS_ok hi h1
    have h3 := skB_ge l k'
    have h4 := skB_le (l := l) (i := k') (by omega)
    have h9 := num_lt10 h2.2.2.2.2.2.2.2.2
    rw [h2.2.2.2.2.2.2.2.1] at h9
    split at h
    · rename_i h5
      have h5 := isAt_lt h5
      split at h
      · cases h
      · rename_i es p' m h6
        have h7 := numS_ok (by omega) h6
        have h8 := num_lt10 h7.2.2.2.2.2.2.2.2
        rw [h7.2.2.2.2.2.2.2.1] at h8
        split at h
        · cases h
        · rename_i h10
          cases h
          exact ⟨num ds, num es, k' - p, k - p', rfl, by omega, by omega, h10, by omega⟩
    · cases h
      exact ⟨num ds, 1, k' - p, 0, (divInt_one _).symm, by omega, by decide, by decide, by omega⟩
theorem termS_fr {l : List UInt8} {i k n : Nat} {c : Rat} (hi : i ≤ l.length) (h : termS l i = .ok (c, n) k) : Fr (k - i) c := by
  unfold termS at h
  have h3 := skB_ge l i
  have h4 := skB_le hi
  split at h
  · split at h
    · cases h
    · rename_i c' k' h1
      have h2 := coefS_lt h4 h1
      have h0 := coefS_fr h4 h1
      have h5 := skB_ge l k'
      have h6 := skB_le h2.2
      split at h
      · rename_i h7
        have h7 := isAt_lt h7
        split at h
        · cases h
        · rename_i n' m h8
          have h9 := powS_lt (by omega) h8
          cases h
          exact h0.mono (by omega)
      · cases h
        exact h0.mono (by omega)
  · split at h
    · split at h
      · cases h
      · cases h
        exact Fr.one.mono (by omega)
    · cases h

/-- Over a denominator of so many digits, each. -/
def TenAt (i : Nat) (S : List Rat) : Prop := S.length = 9 ∧ ∃ D : Int, D ≠ 0 ∧ D.natAbs ≤ 10 ^ i ∧ ∀ j, ∃ z : Int, z.natAbs ≤ 10 ^ i ∧ cf S j = Rat.divInt z D
theorem TenAt.mono {i k : Nat} {S : List Rat} (h : TenAt i S) (hk : i ≤ k) : TenAt k S := by
  obtain ⟨h1, D, h2, h3, h4⟩ := h
  have hp : (10 : Nat) ^ i ≤ 10 ^ k := Nat.pow_le_pow_right (by omega) hk
  exact ⟨h1, D, h2, by omega, fun j => by obtain ⟨z, h5, h6⟩ := h4 j; exact ⟨z, by omega, h6⟩⟩
theorem TenAt.start (i : Nat) : TenAt i (List.replicate 9 0) := ⟨rfl, 1, by decide, by have : 1 ≤ 10 ^ i := Nat.pow_pos (by omega); simpa using this, fun j => ⟨0, by simp, by rw [cf_replicate, Rat.zero_divInt]⟩⟩
theorem TenAt.next {S : List Rat} {i x n : Nat} {c : Rat} (h : TenAt i S) (hc : Fr x c) (hn : n ≤ 8) (b : Bool) : TenAt (i + x + 1) (S.set n (if b then cf S n - c else cf S n + c)) := by
  obtain ⟨h1, D, h2, h3, h4⟩ := h
  obtain ⟨a, d, y, z, rfl, ha, hd, hd0, hx⟩ := hc
  have hd1 : (d : Int) ≠ 0 := by omega
  have p1 : (10 : Nat) ^ i * 10 ^ z ≤ 10 ^ (i + x) := by rw [← Nat.pow_add]; exact Nat.pow_le_pow_right (by omega) (by omega)
  have p2 : (10 : Nat) ^ y * 10 ^ i ≤ 10 ^ (i + x) := by rw [← Nat.pow_add]; exact Nat.pow_le_pow_right (by omega) (by omega)
  have p3 : (10 : Nat) ^ (i + x + 1) = 10 * 10 ^ (i + x) := by rw [Nat.pow_succ, Nat.mul_comm]
  have hw : ∀ w : Int, w.natAbs ≤ 10 ^ i → (w * (d : Int)).natAbs ≤ 10 ^ (i + x) := fun w hw => by
    rw [Int.natAbs_mul, Int.natAbs_natCast]
    exact Nat.le_trans (Nat.mul_le_mul hw hd) p1
  have haD : ((a : Int) * D).natAbs ≤ 10 ^ (i + x) := by
    rw [Int.natAbs_mul, Int.natAbs_natCast]
    exact Nat.le_trans (Nat.mul_le_mul ha h3) p2
  refine ⟨by rw [List.length_set]; exact h1, D * d, Int.mul_ne_zero h2 hd1, by have := hw D h3; omega, fun j => ?_⟩
  rw [cf_set _ _ _ _ (by rw [h1]; omega)]
  by_cases hj : j = n
  · rw [if_pos hj]
    obtain ⟨w, h5, h6⟩ := h4 n
    have h7 := hw w h5
    rw [h6]
    cases b with
    | true =>
      refine ⟨w * d - a * D, by have := Int.natAbs_sub_le (w * (d : Int)) ((a : Int) * D); omega, ?_⟩
      rw [if_pos rfl, Rat.sub_eq_add_neg, Rat.neg_divInt, Rat.divInt_add_divInt _ _ h2 hd1]
      congr 1
      rw [Int.neg_mul]
      rfl
    | false =>
      refine ⟨w * d + a * D, by have := Int.natAbs_add_le (w * (d : Int)) ((a : Int) * D); omega, ?_⟩
      rw [if_neg (by decide), Rat.divInt_add_divInt _ _ h2 hd1]
  · rw [if_neg hj]
    obtain ⟨w, h5, h6⟩ := h4 j
    exact ⟨w * d, by have := hw w h5; omega, by rw [h6, Rat.divInt_mul_right hd1]⟩

theorem sumS_ten {l : List UInt8} : ∀ (f : Nat) (b : Bool) (I : Nat) (S S' : List Rat) (k : Nat), I ≤ l.length → TenAt I S → sumS l f b I S = .ok S' k → TenAt (l.length + 1) S' := by
  intro f
  induction f with
  | zero => intro b I S S' k _ _ h; cases h
  | succ f ih =>
    intro b I S S' k hI hS h
    cases ht : termS l I with
    | bad e p => rw [sumS_bad ht] at h; cases h
    | ok a k5 =>
      obtain ⟨c, n⟩ := a
      have h1 := termS_lt hI ht
      have h2 := hS.next (termS_fr hI ht) h1.2.2 b
      have h3 := skB_ge l k5
      have h4 := skB_le h1.2.1
      rw [sumS_ok ht] at h
      split at h
      · rename_i h5; have := isAt_lt h5; exact ih _ _ _ _ _ (by omega) (h2.mono (by omega)) h
      · split at h
        · rename_i h5; have := isAt_lt h5; exact ih _ _ _ _ _ (by omega) (h2.mono (by omega)) h
        · split at h
          · cases h; exact h2.mono (by omega)
          · cases h
theorem totS_ten {l : List UInt8} {S : List Rat} {k : Nat} (h : totS l = .ok S k) : TenAt (l.length + 1) S := by
  unfold totS at h
  have h4 := skB_le (l := l) (i := 0) (by omega)
  split at h
  · rename_i h5; have := isAt_lt h5; exact sumS_ten _ _ _ _ _ _ (by omega) (TenAt.start _) h
  · exact sumS_ten _ _ _ _ _ _ h4 (TenAt.start _) h
theorem two_words (a b c : Nat) (h : a * b < 64 * c) : ((2 : Nat) ^ a) ^ b < B64 ^ c := by
  rw [show B64 = 2 ^ 64 from by decide, ← Nat.pow_mul, ← Nat.pow_mul]
  exact Nat.pow_lt_pow_right (by omega) h
theorem ten_words {n k : Nat} (h : n ≤ 43 * k) (hk : k ≤ 7) : (10 : Nat) ^ n < B64 ^ 16 := by
  have h1 : ((10 : Nat) ^ 43) ^ k ≤ (2 ^ 143) ^ k := Nat.pow_le_pow_left (by decide) k
  have h2 : (10 : Nat) ^ n ≤ 10 ^ (43 * k) := Nat.pow_le_pow_right (by omega) h
  rw [Nat.pow_mul] at h2
  exact Nat.lt_of_le_of_lt (Nat.le_trans h2 h1) (two_words 143 k 16 (by omega))
/-- EVERY TEXT'S POLYNOMIAL: one denominator for all, of 16 words. -/
theorem parseP_cd (l : List UInt8) : ∃ D : Int, D ≠ 0 ∧ Sm 16 D ∧ CDL D 16 (parseP l).1 := by
  have h0 : ∃ D : Int, D ≠ 0 ∧ Sm 16 D ∧ CDL D 16 [] := ⟨1, by decide, Sm.one _ (by omega), fun i => by rw [cf_nil]; exact CD.zero _ _⟩
  by_cases h : 300 < l.length
  · rw [show parseP l = ([], 1, 0) by unfold parseP; rw [if_pos h]]
    exact h0
  · rw [parseP_eq h]
    cases ht : totS l with
    | bad e p => exact h0
    | ok S k =>
      rw [show (finS (Rd.ok S k)).1 = trimQ S from rfl]
      obtain ⟨_, D, h2, h3, h4⟩ := totS_ten ht
      have ht := ten_words (n := l.length + 1) (k := 7) (by omega) (by omega)
      exact ⟨D, h2, by unfold Sm; omega, fun i => by
        obtain ⟨z, h5, h6⟩ := h4 i
        exact ⟨z, by rw [cf_trim]; exact h6, by unfold Sm; omega⟩⟩
end Go.Proofs.YteldjhhjnchdeaaGreatDoor
namespace Go.Proofs.YteldjhhjnchdeaaGreatDoor
open Go.RowKit Go.Shelf

attribute [local go_sem] Oper.semAt_some

theorem textP_nil : textP [] = [48] := by decide
/-- What both Parses hand back. -/
theorem parseP_trim (l : List UInt8) : trimQ (parseP l).1 = (parseP l).1 := by
  by_cases h : 300 < l.length
  · rw [show parseP l = ([], 1, 0) by unfold parseP; rw [if_pos h]]; rfl
  · rw [parseP_eq h]
    cases totS l with
    | bad e p => rfl
    | ok S k => exact trim_trim _
theorem _root_.Go.Proofs.YteldjhhjnchdeaaGreatDoor.RowK.isPoly {V : World} {a : Option Addr} {l c : Nat} {ps : List Rat} (h : RowK true V (.slice a l c) ps) : IsPoly V (.agg #[.slice a l c]) ps := ⟨_, rfl, h⟩

end Go.Proofs.YteldjhhjnchdeaaGreatDoor
namespace Go.Proofs.YteldjhhjnchdeaaGreatDoor
open Go.RowKit Go.Shelf

attribute [local go_sem] Oper.semAt_some

set_option maxRecDepth 100000 in
set_option maxHeartbeats 2000000 in
theorem jRead_c (s : ByteArray) (hs : s.size ≤ 140737488351232) (w : World) :
    Calls Tryz.prog 10 #[.string s] w fun e w' => ∃ u, e = .returned u ∧ RowK false w' u (parseP (wlst s)).1 ∧ Below w.heap.size w w' := by
  have HD := hidD (fun (V : World) => xParse_c s hs V)
  clear hs
  go_enter Tryz.func10, Tryz.ntmps10
  go_wp2_with (go_at_call 29; refine (HD.out _).mono ?_; clear HD; rintro e w2 ⟨u, e2, p2, rfl, ⟨rfl, rfl, hu, _, _⟩, hb⟩; obtain ⟨a2, l2, c2, rfl⟩ := hu.form)
  go_ret
  exact ⟨_, rfl, hu, hb⟩

set_option maxRecDepth 100000 in
set_option maxHeartbeats 2000000 in
theorem jGiven_c (s : ByteArray) (w : World) :
    Calls Tryz.prog 7 #[.string s] w fun e w' => ∃ u, e = .returned u ∧ IsPoly w' u (parseP (wlst s)).1 ∧ Below w.heap.size w w' := by
  have HD := hidD (fun (V : World) => yParse_c s V)
  have b0 := Boxed.new w 25 (.slice none 0 0)
  have hA0 : Below w.heap.size w (w.alloc (.cells #[.slice none 0 0] 25)) := (Below.refl _ w).alloc (Nat.le_refl _) _
  obtain ⟨V0, hV0⟩ : ∃ V, w.alloc (.cells #[.slice none 0 0] 25) = V := ⟨_, rfl⟩
  obtain ⟨B0, hB0⟩ : ∃ B, w.heap.size = B := ⟨_, rfl⟩
  rw [hV0] at b0 hA0
  rw [hB0] at b0
  have H0 := hidD b0
  have HA0 := hidD hA0
  have HV0 := hidD hV0
  have HB0 := hidD hB0
  clear b0 hA0 hV0 hB0
  go_enter Tryz.func7, Tryz.ntmps7
  go_upto_region 1 with fail
  rw [HV0.out, HB0.out]
  go_upto_region 2 with (go_at_call 23; refine (HD.out _).mono ?_; clear HD; rintro e w1 ⟨u, e1, p1, rfl, ⟨rfl, rfl, hu⟩, hb⟩; obtain ⟨a1, l1, c1, rfl⟩ := hu.form)
  have hA : Below w1.heap.size w1 (w1.alloc (.cells #[.slice a1 l1 c1] 25)) := (Below.refl _ w1).alloc (Nat.le_refl _) _
  have n1 := Boxed.new w1 25 (.slice a1 l1 c1)
  have n0 := (H0.out.bel hb).bel hA
  have r1 := hu.row.below hA
  have hB := (HA0.out.trans (hb.mono HA0.out.size)).trans (hA.mono (HA0.out.trans (hb.mono HA0.out.size)).size)
  obtain ⟨V1, hV1⟩ : ∃ V, w1.alloc (.cells #[.slice a1 l1 c1] 25) = V := ⟨_, rfl⟩
  obtain ⟨B1, hB1⟩ : ∃ B, w1.heap.size = B := ⟨_, rfl⟩
  rw [hV1, hB1] at n1
  rw [hV1] at n0 r1 hB
  rw [hV1, hB1]
  have x1 := n1.cell
  have x0 := n0.cell
  have f0 := n0.frozen
  have HR := hidD (boxP n0 (.slice a1 l1 c1) r1)
  have HBB := hidD (hB.setCell (p := ⟨B0, 0, none⟩) (by rw [HB0.out]; exact Nat.le_refl _) (.slice a1 l1 c1))
  clear hA n1 n0 r1 hB hV1 hB1 hu hb
  go_wp2_with fail
  exact bodyPost_ret (v := .agg #[.slice a1 l1 c1]) (by simp [results, Tryz.results7, go_sem, x0]) rfl ⟨_, rfl, ⟨_, rfl, HR.out⟩, HBB.out⟩

theorem subQ_length (p q : List Rat) : (subQ p q).length ≤ max p.length q.length := trim_len (subQ_trim _ _) fun i hi => by rw [cf_subQ, cf_ge (by omega), cf_ge (by omega), Rat.sub_self]
theorem mulQ_length (p q : List Rat) : (mulQ p q).length ≤ p.length + q.length := trim_len (mulQ_trim _ _) fun i hi => by unfold mulQ; rw [cf_trim, cf_mulR, conv_far p q hi]
theorem split_small {A : Nat} {ps qs : List Rat} (hA : 1 ≤ A) (hp : ∀ i, SmQ A (cf ps i)) (hq : ∀ i, SmQ A (cf qs i)) (htq : trimQ qs = qs) (hq0 : qs ≠ []) (hL : 2 ^ ps.length * (3 * A + 1) ≤ 1000000) : Sqs (quoQ ps qs) ∧ Sqs (remQ ps qs) ∧ (quoQ ps qs).length ≤ ps.length ∧ (remQ ps qs).length ≤ ps.length := by
  have hql : 0 < qs.length := List.length_pos_iff.2 hq0
  obtain ⟨z, h1, h2, h3⟩ := M3.splitAt_sm (n := qs.length - 1) (m := ps.length - (qs.length - 1)) hA hp hq (trim_last htq hq0) (ps.length - (qs.length - 1))
  have h4 : 2 ^ (ps.length - (qs.length - 1)) * (3 * A + 1) ≤ 2 ^ ps.length * (3 * A + 1) := Nat.mul_le_mul_right _ (Nat.pow_le_pow_right (by omega) (by omega))
  have hl := splitAt_length ps qs (qs.length - 1) (ps.length - (qs.length - 1)) (ps.length - (qs.length - 1))
  refine ⟨Sqs.of fun i => ?_, Sqs.of fun i => ?_, ?_, ?_⟩
  · unfold quoQ; rw [cf_trim]; exact Sq.of (h3 i) (by omega)
  · unfold remQ; rw [cf_trim]; exact Sq.of (h2 i) (by omega)
  · unfold quoQ; exact Nat.le_trans (trim_length_le _) (by rw [hl.1]; omega)
  · unfold remQ; exact Nat.le_trans (trim_length_le _) (by rw [hl.2]; exact Nat.le_refl _)

end Go.Proofs.YteldjhhjnchdeaaGreatDoor
namespace Go.Proofs.YteldjhhjnchdeaaGreatDoor
open Go.RowKit Go.Shelf

theorem prs_cd (l : List UInt8) : Cd 16 (parseP l).1 := parseP_cd l
theorem Cd.mul {M N : Nat} {p q : List Rat} (h : Cd M p) (h2 : Cd N q) : Cd (M + N + p.length) (mulQ p q) := by
  obtain ⟨D, d1, d2, d3⟩ := h
  obtain ⟨E, e1, e2, e3⟩ := h2
  have h3 : D * E ≠ 0 := Int.mul_ne_zero d1 e1
  exact ⟨D * E, h3, (d2.mul e2).mono (by omega), fun i => mulQ_cd h3 (fun i j => (d3 i).mul (e3 j)) i⟩
theorem Cd.times {M N : Nat} {p q : List Rat} (h : Cd M p) (h2 : Cd N q) (hl : M + N + p.length + 1 ≤ 1000000) : M3.TimesOk p q := by
  obtain ⟨D, d1, d2, d3⟩ := h
  obtain ⟨E, e1, e2, e3⟩ := h2
  exact timesOk_cd (Int.mul_ne_zero d1 e1) ((d2.mul e2).mono (by omega)) (fun i j => (d3 i).mul (e3 j)) hl
theorem Cd.slope {M : Nat} {p : List Rat} (h : Cd M p) (hl : p.length ≤ 1000000) : Cd (M + 1) (slopeQ p) := by
  obtain ⟨D, d1, d2, d3⟩ := h
  refine ⟨D, d1, d2.mono (by omega), fun i => ?_⟩
  rw [cf_slopeQ]
  by_cases hi : i + 1 < p.length
  · have h1 := (d3 (i + 1)).mul (E := 1) (M := 1) (d := (((i + 1 : Nat) : Int) : Rat)) ⟨((i + 1 : Nat) : Int), by rw [Rat.divInt_eq_div, show ((1 : Int) : Rat) = 1 from rfl]; grind, by unfold Sm B64; rw [Int.natAbs_natCast]; omega⟩
    rwa [Int.mul_one] at h1
  · rw [cf_ge (by omega), Rat.zero_mul]; exact CD.zero _ _
namespace M3
theorem yTimes_n (va vb : Value) (ps qs : List Rat) (w : World) (ha : IsPoly w va ps) (hb : IsPoly w vb qs) (hps : Sqs ps) (hqs : Sqs qs) (hok : TimesOk ps qs) (hlen : ps.length + qs.length ≤ 1099511627776) :
    Calls Tryz.prog 9 #[va, vb] w fun e w' => ∃ u, e = .returned u ∧ IsPoly w' u (mulQ ps qs) ∧ Below w.heap.size w w' := by
  refine (yTimes_c va vb ps qs w ha hb hps hqs hok hlen).mono ?_
  rintro e w' ⟨u, e1, h1, _, h2⟩
  exact ⟨u, e1, h1, h2⟩
theorem ChOk.of {K : Nat} {p q : List Rat} (tp : trimQ p = p) (tq : trimQ q = q) (cp : Cd K p) (cq : Cd K q) {n : Nat} (lp : p.length ≤ n) (lq : q.length ≤ n) (hle : 4 * ((n + 2) * ((K + 1) * (n + n + 1) + 1)) ≤ 1000000) (hn : n ≤ 1000) : ChOk K p q := by
  refine ⟨tp, tq, cp, cq, ?_, by omega⟩
  have h1 : ChA K p q ≤ (K + 1) * (n + n + 1) := Nat.mul_le_mul_left _ (by omega)
  have h2 : (max p.length q.length + 2) * (ChA K p q + 1) ≤ (n + 2) * ((K + 1) * (n + n + 1) + 1) := Nat.mul_le_mul (by omega) (by omega)
  omega
end M3

namespace M3
attribute [local go_sem] Oper.semAt_some
set_option maxRecDepth 100000 in
set_option maxHeartbeats 16000000 in
theorem partsGCDs_c (s t u : ByteArray) (hs : s.size ≤ 140737488351232) (ht : t.size ≤ 140737488351232) (hu : u.size ≤ 140737488351232) (w : World) (htab : Pow10 w) :
    Calls Tryz.prog 3 #[.string s, .string t, .string u] w fun r w' => r = .returned (.bool true) ∧ Below w.heap.size w w' := by
  have hmx : Tryz.prog.follows .mixedOrders = true := by kernel_rfl
  have HT := hidD htab
  have cP := prs_cd (wlst s)
  have cQ := prs_cd (wlst t)
  have cR := prs_cd (wlst u)
  have lP := (parseP_small (wlst s)).1
  have lQ := (parseP_small (wlst t)).1
  have lR := (parseP_small (wlst u)).1
  have tP := parseP_trim (wlst s)
  have tQ := parseP_trim (wlst t)
  have HR1 := hidD (fun (V : World) => jRead_c s hs V)
  have HR2 := hidD (fun (V : World) => jRead_c t ht V)
  have HR3 := hidD (fun (V : World) => jRead_c u hu V)
  have HG1 := hidD (fun (V : World) => jGiven_c s V)
  have HG2 := hidD (fun (V : World) => jGiven_c t V)
  have HG3 := hidD (fun (V : World) => jGiven_c u V)
  obtain ⟨p, hp⟩ : ∃ p, (parseP (wlst s)).1 = p := ⟨_, rfl⟩
  obtain ⟨q, hq⟩ : ∃ q, (parseP (wlst t)).1 = q := ⟨_, rfl⟩
  obtain ⟨r, hr⟩ : ∃ r, (parseP (wlst u)).1 = r := ⟨_, rfl⟩
  rw [hp] at cP lP tP HR1 HG1
  rw [hq] at cQ lQ tQ HR2 HG2
  rw [hr] at cR lR HR3 HG3
  have cPR : Cd 41 (mulQ p r) := (cP.mul cR).mono (by omega)
  have cQR : Cd 41 (mulQ q r) := (cQ.mul cR).mono (by omega)
  have lPR := mulQ_len p r
  have lQR := mulQ_len q r
  have oPR : TimesOk p r := cP.times cR (by omega)
  have oQR : TimesOk q r := cQ.times cR (by omega)
  have okA : ChOk 16 p q := ChOk.of tP tQ cP cQ (n := 9) lP lQ (by decide) (by omega)
  have okB : ChOk 41 (mulQ p r) (mulQ q r) := ChOk.of (mulQ_trim _ _) (mulQ_trim _ _) cPR cQR (n := 18) (by omega) (by omega) (by decide) (by omega)
  have cA := okA.gcd
  have cB := okB.gcd
  have lA : (gcdQ p q).length ≤ 3000000 := by
    obtain ⟨e, he⟩ := Chn.ends okA _ _ _ (Nat.le_refl _) (Chn.start okA.tp okA.tq okA.lp okA.lq okA.bd.2.2.1)
    rw [← he.gc, gcdQ_nil, monQ_length he.ta]
    have := he.la
    omega
  have lB : (gcdQ (mulQ p r) (mulQ q r)).length ≤ 3000000 := by
    obtain ⟨e, he⟩ := Chn.ends okB _ _ _ (Nat.le_refl _) (Chn.start okB.tp okB.tq okB.lp okB.lq okB.bd.2.2.1)
    rw [← he.gc, gcdQ_nil, monQ_length he.ta]
    have := he.la
    omega
  have sP := cP.sqs (by omega)
  have sQ := cQ.sqs (by omega)
  have sR := cR.sqs (by omega)
  have sA := cA.sqs okA.bd.1
  have sB := cB.sqs okB.bd.1
  have C1 := hidD (fun (V : World) (x y : Value) (hx : IsPoly V x p) (hy : IsPoly V y q) => gGCD_c 16 x y p q V hx hy okA)
  have C2 := hidD (fun (V : World) (x y : Value) (hx : IsPoly V x p) (hy : IsPoly V y r) => yTimes_n x y p r V hx hy sP sR oPR (by omega))
  have C3 := hidD (fun (V : World) (x y : Value) (hx : IsPoly V x q) (hy : IsPoly V y r) => yTimes_n x y q r V hx hy sQ sR oQR (by omega))
  have C4 := hidD (fun (V : World) (x y : Value) (hx : IsPoly V x (mulQ p r)) (hy : IsPoly V y (mulQ q r)) => gGCD_c 41 x y (mulQ p r) (mulQ q r) V hx hy okB)
  have D1 := hidD (fun (V : World) (x y : Value) (hx : RowK false V x p) (hy : RowK false V y q) => zGCD_c 16 x y p q V hx hy okA)
  have D2 := hidD (fun (V : World) (x y : Value) (hx : RowK false V x p) (hy : RowK false V y r) => xTimes_c x y p r V hx hy sP sR oPR (by omega))
  have D3 := hidD (fun (V : World) (x y : Value) (hx : RowK false V x q) (hy : RowK false V y r) => xTimes_c x y q r V hx hy sQ sR oQR (by omega))
  have D4 := hidD (fun (V : World) (x y : Value) (hx : RowK false V x (mulQ p r)) (hy : RowK false V y (mulQ q r)) => zGCD_c 41 x y (mulQ p r) (mulQ q r) V hx hy okB)
  have TA := hidD (fun (V : World) (x : Value) (hx : IsPoly V x (gcdQ p q)) (hp : Pow10 V) => yText_c x (gcdQ p q) V hx sA (fun m => polyT_ok sA lA m) hp)
  have TB := hidD (fun (V : World) (x : Value) (hx : IsPoly V x (gcdQ (mulQ p r) (mulQ q r))) (hp : Pow10 V) => yText_c x _ V hx sB (fun m => polyT_ok sB lB m) hp)
  have TP := hidD (fun (V : World) (x : Value) (hx : IsPoly V x p) (hp : Pow10 V) => yText_c x p V hx sP (fun m => polyT_ok sP (by omega) m) hp)
  have TQ := hidD (fun (V : World) (x : Value) (hx : IsPoly V x q) (hp : Pow10 V) => yText_c x q V hx sQ (fun m => polyT_ok sQ (by omega) m) hp)
  have XA := hidD (fun (V : World) (x : Value) (hx : RowK false V x (gcdQ p q)) (hp : Pow10 V) => xText_c x (gcdQ p q) V hx sA (fun m => polyT_ok sA lA m) (gcdQ_trim _ _) hp)
  have XB := hidD (fun (V : World) (x : Value) (hx : RowK false V x (gcdQ (mulQ p r) (mulQ q r))) (hp : Pow10 V) => xText_c x _ V hx sB (fun m => polyT_ok sB lB m) (gcdQ_trim _ _) hp)
  have XP := hidD (fun (V : World) (x : Value) (hx : RowK false V x p) (hp : Pow10 V) => xText_c x p V hx sP (fun m => polyT_ok sP (by omega) m) tP hp)
  have XQ := hidD (fun (V : World) (x : Value) (hx : RowK false V x q) (hp : Pow10 V) => xText_c x q V hx sQ (fun m => polyT_ok sQ (by omega) m) tQ hp)
  have AL := hidD (fun (V : World) (hp : Pow10 V) => halive_c V hp)
  obtain ⟨SA, hSA⟩ : ∃ S : ByteArray, ⟨(textP (gcdQ p q)).toArray⟩ = S := ⟨_, rfl⟩
  obtain ⟨SB, hSB⟩ : ∃ S : ByteArray, ⟨(textP (gcdQ (mulQ p r) (mulQ q r))).toArray⟩ = S := ⟨_, rfl⟩
  obtain ⟨SP, hSP⟩ : ∃ S : ByteArray, ⟨(textP p).toArray⟩ = S := ⟨_, rfl⟩
  obtain ⟨SQ, hSQ⟩ : ∃ S : ByteArray, ⟨(textP q).toArray⟩ = S := ⟨_, rfl⟩
  rw [hSA] at TA XA
  rw [hSB] at TB XB
  rw [hSP] at TP XP
  rw [hSQ] at TQ XQ
  have M1 : Hid (Mem w w []) := hidD (Mem.nil w)
  clear htab cP cQ cR lP lQ lR tP tQ hp hq hr cPR cQR lPR lQR oPR oQR okA okB cA cB lA lB sP sQ sR sA sB hSA hSB hSP hSQ hs ht hu
  go_enter Tryz.func3, Tryz.ntmps3
  go_upto_region 2 with (go_at_call 7; refine (HG1.out _).mono ?_; clear HG1; rintro e w1 ⟨u1, rfl, hu1, hb1⟩; obtain ⟨a901, l901, c901, rfl⟩ := IsPoly.form hu1)
  obtain ⟨V1, hV⟩ : ∃ V, w1.alloc (.cells #[.slice a901 l901 c901] 25) = V := ⟨_, rfl⟩
  obtain ⟨B1, hBk⟩ : ∃ B, w1.heap.size = B := ⟨_, rfl⟩
  have MM : Mem w (w1.alloc (.cells #[.slice a901 l901 c901] 25)) [some (w1.heap.size, .poly (p))] := Mem.push (M1.out.below hb1) (.poly (p)) hu1
  rw [hV, hBk] at MM
  rw [hV]
  rw [hBk]
  have M2 : Hid (Mem w V1 [some (B1, .poly (p))]) := hidD (MM)
  clear M1
  clear MM hV hBk
  clear hu1 hb1
  go_upto_region 3 with (go_at_call 7; refine (HG2.out _).mono ?_; clear HG2; rintro e w2 ⟨u2, rfl, hu2, hb2⟩; obtain ⟨a902, l902, c902, rfl⟩ := IsPoly.form hu2)
  obtain ⟨V2, hV⟩ : ∃ V, w2.alloc (.cells #[.slice a902 l902 c902] 25) = V := ⟨_, rfl⟩
  obtain ⟨B2, hBk⟩ : ∃ B, w2.heap.size = B := ⟨_, rfl⟩
  have MM : Mem w (w2.alloc (.cells #[.slice a902 l902 c902] 25)) [some (B1, .poly (p)), some (w2.heap.size, .poly (q))] := Mem.push (M2.out.below hb2) (.poly (q)) hu2
  rw [hV, hBk] at MM
  rw [hV]
  rw [hBk]
  have M3 : Hid (Mem w V2 [some (B1, .poly (p)), some (B2, .poly (q))]) := hidD (MM)
  clear M2
  clear MM hV hBk
  clear hu2 hb2
  go_upto_region 4 with (go_at_call 7; refine (HG3.out _).mono ?_; clear HG3; rintro e w3 ⟨u3, rfl, hu3, hb3⟩; obtain ⟨a903, l903, c903, rfl⟩ := IsPoly.form hu3)
  obtain ⟨V3, hV⟩ : ∃ V, w3.alloc (.cells #[.slice a903 l903 c903] 25) = V := ⟨_, rfl⟩
  obtain ⟨B3, hBk⟩ : ∃ B, w3.heap.size = B := ⟨_, rfl⟩
  have MM : Mem w (w3.alloc (.cells #[.slice a903 l903 c903] 25)) [some (B1, .poly (p)), some (B2, .poly (q)), some (w3.heap.size, .poly (r))] := Mem.push (M3.out.below hb3) (.poly (r)) hu3
  rw [hV, hBk] at MM
  rw [hV]
  rw [hBk]
  have M4 : Hid (Mem w V3 [some (B1, .poly (p)), some (B2, .poly (q)), some (B3, .poly (r))]) := hidD (MM)
  clear M3
  clear MM hV hBk
  clear hu3 hb3
  obtain ⟨a4, l4, c4, n4, r4⟩ := M4.out.poly2 (i := 0) rfl
  have e4a := n4.cell
  obtain ⟨a5, l5, c5, n5, r5⟩ := M4.out.poly2 (i := 1) rfl
  have e5a := n5.cell
  have H1 := hidD (C1.out V3 _ _ r4 r5)
  go_upto_region 5 with (go_at_call 8; refine H1.out.mono ?_; clear H1; rintro e w4 ⟨u4, rfl, hu4, hb4⟩; obtain ⟨a904, l904, c904, rfl⟩ := IsPoly.form hu4)
  clear n4 e4a r4 n5 e5a r5
  obtain ⟨V6, hV⟩ : ∃ V, w4.alloc (.cells #[.slice a904 l904 c904] 25) = V := ⟨_, rfl⟩
  obtain ⟨B6, hBk⟩ : ∃ B, w4.heap.size = B := ⟨_, rfl⟩
  have MM : Mem w (w4.alloc (.cells #[.slice a904 l904 c904] 25)) [some (B1, .poly (p)), some (B2, .poly (q)), some (B3, .poly (r)), some (w4.heap.size, .poly (gcdQ p q))] := Mem.push (M4.out.below hb4) (.poly (gcdQ p q)) hu4
  rw [hV, hBk] at MM
  rw [hV]
  rw [hBk]
  have M5 : Hid (Mem w V6 [some (B1, .poly (p)), some (B2, .poly (q)), some (B3, .poly (r)), some (B6, .poly (gcdQ p q))]) := hidD (MM)
  clear M4
  clear MM hV hBk
  clear hu4 hb4
  refine wp_region_tab hmx [[], [], [0, 1], [], [], [3, 4, 2], [2, 5, 5], [], [7, 6, 6, 0, 1, 2, 3, 4, 5, 6, 7]] (by kernel_rfl) (by decide)
    (fun D act V => ∃ (t24x t25x t26x t27x t28x t29x t30x t11x : Value) (x7 : Option (Nat × Dat)), act = { tmps := #[Value.string s, Value.string t, Value.string u, undef, undef, undef, Value.bool false, Value.pointer (some { block := B1, off := 0 }), Value.pointer (some { block := B2, off := 0 }), Value.pointer (some { block := B3, off := 0 }), Value.pointer (some { block := B6, off := 0 }), t11x, undef, undef, undef, Value.string s, Value.agg #[Value.slice a901 l901 c901], Value.string t, Value.agg #[Value.slice a902 l902 c902], Value.string u, Value.agg #[Value.slice a903 l903 c903], Value.agg #[Value.slice a4 l4 c4], Value.agg #[Value.slice a5 l5 c5], Value.agg #[Value.slice a904 l904 c904], t24x, t25x, t26x, t27x, t28x, t29x, t30x, undef, undef, undef, undef, undef, undef, undef, undef, undef, undef, undef, undef, undef, undef, undef, undef, undef, undef, undef, undef, undef, undef, undef, undef, undef, undef, undef, undef, undef, undef, undef, undef, undef, undef, undef, undef, undef, undef, undef, undef, undef, undef, undef], defers := [] } ∧ Hid ((D 0 = true → Has V t24x (.poly (p))) ∧ (D 1 = true → Has V t25x (.poly (r))) ∧ (D 2 = true → Has V t26x (.poly (mulQ p r))) ∧ (D 3 = true → Has V t27x (.poly (q))) ∧ (D 4 = true → Has V t28x (.poly (r))) ∧ (D 5 = true → Has V t29x (.poly (mulQ q r))) ∧ (D 6 = true → Has V t30x (.poly (gcdQ (mulQ p r) (mulQ q r)))) ∧ ((D 7 = false → x7 = none) ∧ (D 7 = true → D 8 = false → ∃ B : Nat, t11x = .pointer (some ⟨B, 0, none⟩) ∧ x7 = some (B, .poly [])) ∧ (D 8 = true → ∃ B : Nat, t11x = .pointer (some ⟨B, 0, none⟩) ∧ x7 = some (B, .poly (gcdQ (mulQ p r) (mulQ q r)))))) ∧ Hid (Mem w V [some (B1, .poly (p)), some (B2, .poly (q)), some (B3, .poly (r)), some (B6, .poly (gcdQ p q)), x7]))
    ⟨_, _, _, _, _, _, _, _, none, rfl, hidD ⟨by simp, by simp, by simp, by simp, by simp, by simp, by simp, by simp⟩, hidD ((M5.out).none).drew⟩ ?step7 ?fin7
  case step7 =>
    rintro D act V i ds hcl hi hds hDi ⟨t24x, t25x, t26x, t27x, t28x, t29x, t30x, t11x, x7, rfl, GG, MM⟩
    have hi6 : i < 9 := (List.getElem?_eq_some_iff.1 hi).1
    obtain rfl | rfl | rfl | rfl | rfl | rfl | rfl | rfl | rfl : i = 0 ∨ i = 1 ∨ i = 2 ∨ i = 3 ∨ i = 4 ∨ i = 5 ∨ i = 6 ∨ i = 7 ∨ i = 8 := by omega
    all_goals
      simp only [List.getElem?_cons_zero, List.getElem?_cons_succ, Option.some.injEq] at hi
      subst hi
    · clear hds
      obtain ⟨a, l, c, n, r⟩ := MM.out.poly2 (i := 0) rfl
      have e0 := n.cell
      refine wpOp_go rfl rfl (fun K hK => ?_)
      go_simp
      exact hK _ _ ⟨_, _, _, _, _, _, _, _, _, rfl, hidD ⟨fun _ => r, GG.out.2.1, GG.out.2.2.1, GG.out.2.2.2.1, GG.out.2.2.2.2.1, GG.out.2.2.2.2.2.1, GG.out.2.2.2.2.2.2.1, GG.out.2.2.2.2.2.2.2⟩, hidD (MM.out)⟩
    · clear hds
      obtain ⟨a, l, c, n, r⟩ := MM.out.poly2 (i := 2) rfl
      have e0 := n.cell
      refine wpOp_go rfl rfl (fun K hK => ?_)
      go_simp
      exact hK _ _ ⟨_, _, _, _, _, _, _, _, _, rfl, hidD ⟨GG.out.1, fun _ => r, GG.out.2.2.1, GG.out.2.2.2.1, GG.out.2.2.2.2.1, GG.out.2.2.2.2.2.1, GG.out.2.2.2.2.2.2.1, GG.out.2.2.2.2.2.2.2⟩, hidD (MM.out)⟩
    · have h0 := (GG.out.1 (hds 0 (by simp)))
      have h1 := (GG.out.2.1 (hds 1 (by simp)))
      have HC := hidD (C2.out V _ _ h0 h1)
      clear hds h0 h1
      refine wpOp_go rfl rfl (fun K hK => ?_)
      go_simp
      go_wp2_with (go_at_call 9; refine HC.out.mono ?_; rintro e w5 ⟨v5, rfl, hv5, hb5⟩)
      exact ⟨_, _, _, _, _, _, _, _, _, rfl, hidD ⟨fun h => (GG.out.1 h).below hb5, fun h => (GG.out.2.1 h).below hb5, fun _ => hv5, fun h => (GG.out.2.2.2.1 h).below hb5, fun h => (GG.out.2.2.2.2.1 h).below hb5, fun h => (GG.out.2.2.2.2.2.1 h).below hb5, fun h => (GG.out.2.2.2.2.2.2.1 h).below hb5, GG.out.2.2.2.2.2.2.2⟩, hidD (MM.out.below hb5)⟩
    · clear hds
      obtain ⟨a, l, c, n, r⟩ := MM.out.poly2 (i := 1) rfl
      have e0 := n.cell
      refine wpOp_go rfl rfl (fun K hK => ?_)
      go_simp
      exact hK _ _ ⟨_, _, _, _, _, _, _, _, _, rfl, hidD ⟨GG.out.1, GG.out.2.1, GG.out.2.2.1, fun _ => r, GG.out.2.2.2.2.1, GG.out.2.2.2.2.2.1, GG.out.2.2.2.2.2.2.1, GG.out.2.2.2.2.2.2.2⟩, hidD (MM.out)⟩
    · clear hds
      obtain ⟨a, l, c, n, r⟩ := MM.out.poly2 (i := 2) rfl
      have e0 := n.cell
      refine wpOp_go rfl rfl (fun K hK => ?_)
      go_simp
      exact hK _ _ ⟨_, _, _, _, _, _, _, _, _, rfl, hidD ⟨GG.out.1, GG.out.2.1, GG.out.2.2.1, GG.out.2.2.2.1, fun _ => r, GG.out.2.2.2.2.2.1, GG.out.2.2.2.2.2.2.1, GG.out.2.2.2.2.2.2.2⟩, hidD (MM.out)⟩
    · have h0 := (GG.out.2.2.2.1 (hds 3 (by simp)))
      have h1 := (GG.out.2.2.2.2.1 (hds 4 (by simp)))
      have HC := hidD (C3.out V _ _ h0 h1)
      clear hds h0 h1
      refine wpOp_go rfl rfl (fun K hK => ?_)
      go_simp
      go_wp2_with (go_at_call 9; refine HC.out.mono ?_; rintro e w5 ⟨v5, rfl, hv5, hb5⟩)
      exact ⟨_, _, _, _, _, _, _, _, _, rfl, hidD ⟨fun h => (GG.out.1 h).below hb5, fun h => (GG.out.2.1 h).below hb5, fun h => (GG.out.2.2.1 h).below hb5, fun h => (GG.out.2.2.2.1 h).below hb5, fun h => (GG.out.2.2.2.2.1 h).below hb5, fun _ => hv5, fun h => (GG.out.2.2.2.2.2.2.1 h).below hb5, GG.out.2.2.2.2.2.2.2⟩, hidD (MM.out.below hb5)⟩
    · have h0 := (GG.out.2.2.1 (hds 2 (by simp)))
      have h1 := (GG.out.2.2.2.2.2.1 (hds 5 (by simp)))
      have HC := hidD (C4.out V _ _ h0 h1)
      clear hds h0 h1
      refine wpOp_go rfl rfl (fun K hK => ?_)
      go_simp
      go_wp2_with (go_at_call 8; refine HC.out.mono ?_; rintro e w5 ⟨v5, rfl, hv5, hb5⟩)
      exact ⟨_, _, _, _, _, _, _, _, _, rfl, hidD ⟨fun h => (GG.out.1 h).below hb5, fun h => (GG.out.2.1 h).below hb5, fun h => (GG.out.2.2.1 h).below hb5, fun h => (GG.out.2.2.2.1 h).below hb5, fun h => (GG.out.2.2.2.2.1 h).below hb5, fun h => (GG.out.2.2.2.2.2.1 h).below hb5, fun _ => hv5, GG.out.2.2.2.2.2.2.2⟩, hidD (MM.out.below hb5)⟩
    · have hf : D 8 = false := by
        cases h : D 8 with
        | false => rfl
        | true => rw [hcl 8 _ rfl h 7 (by simp)] at hDi; cases hDi
      obtain rfl := GG.out.2.2.2.2.2.2.2.1 hDi
      clear hds
      refine wpOp_go rfl rfl (fun K hK => ?_)
      go_simp
      exact hK _ _ ⟨_, _, _, _, _, _, _, _, _, rfl, hidD ⟨fun h => (GG.out.1 h).alloc _, fun h => (GG.out.2.1 h).alloc _, fun h => (GG.out.2.2.1 h).alloc _, fun h => (GG.out.2.2.2.1 h).alloc _, fun h => (GG.out.2.2.2.2.1 h).alloc _, fun h => (GG.out.2.2.2.2.2.1 h).alloc _, fun h => (GG.out.2.2.2.2.2.2.1 h).alloc _, ⟨fun h => by simp at h, fun _ _ => ⟨_, rfl, rfl⟩, fun h => by simp [hf] at h⟩⟩, hidD (MM.out.fill (i := 4) rfl (.poly []) (poly0 _))⟩
    · obtain ⟨B, rfl, rfl⟩ := GG.out.2.2.2.2.2.2.2.2.1 (hds 7 (by simp)) hDi
      have hds0 := hds 7 (by simp)
      have hv := (GG.out.2.2.2.2.2.2.1 (hds 6 (by simp)))
      obtain ⟨a1, l1, c1, rfl⟩ := IsPoly.form (show IsPoly V _ _ from hv)
      obtain ⟨a, l, c, n, r⟩ := MM.out.poly2 (i := 4) rfl
      have e0 := n.cell
      have f0 := n.frozen
      clear hds
      refine wpOp_go rfl rfl (fun K hK => ?_)
      go_simp
      exact hK _ _ ⟨_, _, _, _, _, _, _, _, _, rfl, hidD ⟨fun h => (GG.out.1 h).set1 n rfl _, fun h => (GG.out.2.1 h).set1 n rfl _, fun h => (GG.out.2.2.1 h).set1 n rfl _, fun h => (GG.out.2.2.2.1 h).set1 n rfl _, fun h => (GG.out.2.2.2.2.1 h).set1 n rfl _, fun h => (GG.out.2.2.2.2.2.1 h).set1 n rfl _, fun h => (GG.out.2.2.2.2.2.2.1 h).set1 n rfl _, ⟨fun h => by simp [hds0] at h, fun _ h => by simp at h, fun _ => ⟨B, rfl, rfl⟩⟩⟩, hidD (MM.out.putPoly (i := 4) rfl hv)⟩
  rintro D act V8 hDD ⟨t24x, t25x, t26x, t27x, t28x, t29x, t30x, t11x, x7, rfl, GG, MM⟩
  obtain ⟨B9, rfl, rfl⟩ := GG.out.2.2.2.2.2.2.2.2.2 (hDD 8 (by decide))
  clear GG hDD M5
  have M6 : Hid (Mem w V8 [some (B1, .poly (p)), some (B2, .poly (q)), some (B3, .poly (r)), some (B6, .poly (gcdQ p q)), some (B9, .poly (gcdQ (mulQ p r) (mulQ q r)))]) := MM
  clear MM
  obtain ⟨a10, l10, c10, n10, r10⟩ := M6.out.poly2 (i := 0) rfl
  obtain ⟨a11, l11, c11, n11, r11⟩ := M6.out.poly2 (i := 1) rfl
  obtain ⟨a12, l12, c12, n12, r12⟩ := M6.out.poly2 (i := 3) rfl
  obtain ⟨a13, l13, c13, n13, r13⟩ := M6.out.poly2 (i := 4) rfl
  have nP := n10
  have rP := r10
  clear n10 r10
  have nQ := n11
  have rQ := r11
  clear n11 r11
  have nA := n12
  have rA := r12
  clear n12 r12
  have nB := n13
  have rB := r13
  clear n13 r13
  have M := hidD M6.out.2.2
  clear M6 C1 C2 C3 C4
  have hq : Below V8.heap.size V8 V8 := Below.refl _ _
  go_upto_region 7 with (go_at_call 10; refine (HR1.out _).mono ?_; clear HR1; rintro e w6 ⟨u6, rfl, hu6, hb6⟩; obtain ⟨xa6, xl6, xc6, rfl⟩ := hu6.form)
  have rX := hu6
  replace hq := Below.then hq hb6
  clear hu6 hb6
  go_upto_region 8 with (go_at_call 10; refine (HR2.out _).mono ?_; clear HR2; rintro e w7 ⟨u7, rfl, hu7, hb7⟩; obtain ⟨xa7, xl7, xc7, rfl⟩ := hu7.form)
  replace rX := rX.below hb7
  have rY := hu7
  replace hq := Below.then hq hb7
  clear hu7 hb7
  go_upto_region 9 with (go_at_call 10; refine (HR3.out _).mono ?_; clear HR3; rintro e w8 ⟨u8, rfl, hu8, hb8⟩; obtain ⟨xa8, xl8, xc8, rfl⟩ := hu8.form)
  replace rX := rX.below hb8
  replace rY := rY.below hb8
  have rZ := hu8
  replace hq := Below.then hq hb8
  clear hu8 hb8
  replace nP := nP.bel hq
  replace rP := rP.below hq
  replace nQ := nQ.bel hq
  replace rQ := rQ.below hq
  replace nA := nA.bel hq
  replace rA := rA.below hq
  replace nB := nB.bel hq
  replace rB := rB.below hq
  replace M := hidD (M.out.trans (hq.mono M.out.size))
  clear hq
  have HTB := hidD (fun (V : World) (h : Below w8.heap.size w8 V) => show Pow10 V from tab_below HT.out (M.out.trans (h.mono M.out.size)))
  have HC := hidD (fun (V : World) (h : Below w8.heap.size w8 V) => show V.cell? _ = _ ∧ V.cell? _ = _ ∧ V.cell? _ = _ ∧ V.cell? _ = _ from ⟨(nA.bel h).cell, (nB.bel h).cell, (nP.bel h).cell, (nQ.bel h).cell⟩)
  have hq : Below w8.heap.size w8 w8 := Below.refl _ _
  obtain ⟨eA, eB, eP, eQ⟩ := HC.out _ hq
  go_wp2_with (first
    | (go_at_call 11; refine (TA.out _ _ (rA.below hq) (HTB.out _ hq)).mono ?_; clear TA; rintro e x1 ⟨rfl, hb⟩; replace hq := Below.then hq hb; clear hb eA eB eP eQ; obtain ⟨eA, eB, eP, eQ⟩ := HC.out _ hq)
    | (go_at_call 13; refine (D1.out _ _ _ (rX.below hq) (rY.below hq)).mono ?_; clear D1; rintro e x2 ⟨v1, rfl, hv1, hb⟩; replace hq := Below.then hq hb; clear hb eA eB eP eQ; obtain ⟨eA, eB, eP, eQ⟩ := HC.out _ hq)
    | (go_at_call 12; refine (XA.out _ _ hv1 (HTB.out _ hq)).mono ?_; clear XA; rintro e x3 ⟨rfl, hb⟩; replace hq := Below.then hq hb; clear hb eA eB eP eQ; obtain ⟨eA, eB, eP, eQ⟩ := HC.out _ hq)
    | (go_at_call 11; refine (TB.out _ _ (rB.below hq) (HTB.out _ hq)).mono ?_; clear TB; rintro e x4 ⟨rfl, hb⟩; replace hq := Below.then hq hb; clear hb eA eB eP eQ; obtain ⟨eA, eB, eP, eQ⟩ := HC.out _ hq)
    | (go_at_call 14; refine (D2.out _ _ _ (rX.below hq) (rZ.below hq)).mono ?_; clear D2; rintro e x5 ⟨v2, rfl, hv2, hb⟩; replace hq := Below.then hq hb; clear hb eA eB eP eQ; obtain ⟨eA, eB, eP, eQ⟩ := HC.out _ hq)
    | (go_at_call 14; refine (D3.out _ _ _ (rY.below hq) (rZ.below hq)).mono ?_; clear D3; rintro e x6 ⟨v3, rfl, hv3, hb⟩; replace hq := Below.then hq hb; replace hv2 := hv2.below hb; clear hb eA eB eP eQ; obtain ⟨eA, eB, eP, eQ⟩ := HC.out _ hq)
    | (go_at_call 13; refine (D4.out _ _ _ hv2 hv3).mono ?_; clear D4; rintro e x7 ⟨v4, rfl, hv4, hb⟩; replace hq := Below.then hq hb; clear hb eA eB eP eQ; obtain ⟨eA, eB, eP, eQ⟩ := HC.out _ hq)
    | (go_at_call 12; refine (XB.out _ _ hv4 (HTB.out _ hq)).mono ?_; clear XB; rintro e x8 ⟨rfl, hb⟩; replace hq := Below.then hq hb; clear hb eA eB eP eQ; obtain ⟨eA, eB, eP, eQ⟩ := HC.out _ hq)
    | (go_at_call 11; refine (TP.out _ _ (rP.below hq) (HTB.out _ hq)).mono ?_; clear TP; rintro e x9 ⟨rfl, hb⟩; replace hq := Below.then hq hb; clear hb eA eB eP eQ; obtain ⟨eA, eB, eP, eQ⟩ := HC.out _ hq)
    | (go_at_call 12; refine (XP.out _ _ (rX.below hq) (HTB.out _ hq)).mono ?_; clear XP; rintro e x10 ⟨rfl, hb⟩; replace hq := Below.then hq hb; clear hb eA eB eP eQ; obtain ⟨eA, eB, eP, eQ⟩ := HC.out _ hq)
    | (go_at_call 11; refine (TQ.out _ _ (rQ.below hq) (HTB.out _ hq)).mono ?_; clear TQ; rintro e x11 ⟨rfl, hb⟩; replace hq := Below.then hq hb; clear hb eA eB eP eQ; obtain ⟨eA, eB, eP, eQ⟩ := HC.out _ hq)
    | (go_at_call 12; refine (XQ.out _ _ (rY.below hq) (HTB.out _ hq)).mono ?_; clear XQ; rintro e x12 ⟨rfl, hb⟩; replace hq := Below.then hq hb; clear hb eA eB eP eQ; obtain ⟨eA, eB, eP, eQ⟩ := HC.out _ hq)
    | (go_at_call 15; refine (AL.out _ (HTB.out _ hq)).mono ?_; clear AL; rintro e x13 ⟨rfl, hb⟩; replace hq := Below.then hq hb; clear hb eA eB eP eQ; obtain ⟨eA, eB, eP, eQ⟩ := HC.out _ hq))
  go_ret
  exact ⟨rfl, M.out.trans (hq.mono M.out.size)⟩
end M3
end Go.Proofs.YteldjhhjnchdeaaGreatDoor
