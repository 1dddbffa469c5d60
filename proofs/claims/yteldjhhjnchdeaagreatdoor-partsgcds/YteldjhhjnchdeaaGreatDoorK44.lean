import Derived.Test.YteldjhhjnchdeaaGreatDoorK41
import Derived.Test.YteldjhhjnchdeaaGreatDoorK09
import Derived.Test.YteldjhhjnchdeaaGreatDoorK43
namespace Go.Proofs.YteldjhhjnchdeaaGreatDoor
open Go.RowKit Go.Shelf

attribute [local go_sem] Oper.semAt_some

/-- A slice's length. -/
def lenOf : Value → Nat | .slice _ l _ => l | _ => 0
/-- A quotient and a rest, as rows. -/
def XsB (w V : World) (qv rv : Value) (Q R : List Rat) : Prop := RowK false V qv Q ∧ RowK false V rv R ∧ Below w.heap.size w V
theorem XsB.below {w V V' : World} {qv rv : Value} {Q R : List Rat} (h : XsB w V qv rv Q R) (hb : Below V.heap.size V V') : XsB w V' qv rv Q R := ⟨h.1.below hb, h.2.1.below hb, h.2.2.trans (hb.mono h.2.2.size)⟩

def XsS (w wr V : World) (qv rv : Value) (Q R : List Rat) : Prop := XsB w V qv rv Q R ∧ Below wr.heap.size wr V
theorem XsS.below {w wr V V' : World} {qv rv : Value} {Q R : List Rat} (h : XsS w wr V qv rv Q R) (hb : Below V.heap.size V V') : XsS w wr V' qv rv Q R := ⟨h.1.below hb, Below.then h.2 hb⟩

/-- A division behind k steps; S says how great its numbers are. -/
def DivG (S : Nat → List Rat → List Rat → Prop) (la : Nat) (ps qs R Q : List Rat) (k : Nat) : Prop :=
  trimQ R = R ∧ trimQ Q = Q ∧ k + R.length ≤ la ∧ Q.length ≤ la ∧ (∀ x, ev ps x = ev qs x * ev Q x + ev R x) ∧ (∀ i, i + qs.length ≤ R.length → cf Q i = 0) ∧ S k R Q
structure DivS (A la : Nat) (S : Nat → List Rat → List Rat → Prop) (qs : List Rat) : Prop where
  next : ∀ (k : Nat) (R Q : List Rat) (n : Nat) (a : Rat), S k R Q → (∀ i, i + qs.length ≤ R.length → cf Q i = 0) → qs.length ≤ R.length → n = R.length - qs.length → a = cf R (R.length - 1) / cf qs (qs.length - 1) →
    (∀ i, cf (subQ R (mulQ (trimQ (upR n [a])) qs)) i = cf R i - (if n ≤ i then a * cf qs (i - n) else 0)) → (∀ i, cf (addQ Q (trimQ (upR n [a]))) i = if i = n then a else cf Q i) → S (k + 1) (subQ R (mulQ (trimQ (upR n [a])) qs)) (addQ Q (trimQ (upR n [a])))
  size : ∀ (k : Nat) (R Q : List Rat), k ≤ la → S k R Q → Sqs R ∧ Sqs Q ∧ ∃ z, z + (2 * A + 1) ≤ 1000000 ∧ ∀ i, SmQ z (cf R i)
theorem DivG.start {S : Nat → List Rat → List Rat → Prop} {ps qs : List Rat} (ht : trimQ ps = ps) (h : S 0 ps []) : DivG S ps.length ps qs ps [] 0 := by
  refine ⟨ht, rfl, by omega, by simp, fun x => ?_, fun i _ => cf_nil i, h⟩
  show _ = ev qs x * 0 + _
  grind
theorem DivG.next {A la : Nat} {S : Nat → List Rat → List Rat → Prop} {ps qs R Q : List Rat} {k n : Nat} {a : Rat} (hS : DivS A la S qs) (h : DivG S la ps qs R Q k) (htq : trimQ qs = qs) (hq0 : qs ≠ []) (hl : qs.length ≤ R.length) (hn : n = R.length - qs.length)
    (ha : a = cf R (R.length - 1) / cf qs (qs.length - 1)) : DivG S la ps qs (subQ R (mulQ (trimQ (upR n [a])) qs)) (addQ Q (trimQ (upR n [a]))) (k + 1) := by
  obtain ⟨h1, h2, h3, h4, h5, h6, h7⟩ := h
  have hql : 0 < qs.length := List.length_pos_iff.2 hq0
  have hcR : ∀ i, cf (subQ R (mulQ (trimQ (upR n [a])) qs)) i = cf R i - (if n ≤ i then a * cf qs (i - n) else 0) := fun i => by rw [cf_subQ, mono_mul]
  have hcQ : ∀ i, cf (addQ Q (trimQ (upR n [a]))) i = if i = n then a else cf Q i := fun i => by
    rw [cf_addQ, mono_cf]
    split
    · rename_i e; rw [e, h6 n (by omega), Rat.zero_add]
    · exact Rat.add_zero _
  have hlen := sub_shorter htq hq0 hl hn ha
  refine ⟨subQ_trim _ _, addQ_trim _ _, by omega, trim_len (addQ_trim _ _) (fun i hi => ?_), fun x => ?_, fun i hi => ?_, hS.next k R Q n a h7 h6 hl hn ha hcR hcQ⟩
  · rw [hcQ, if_neg (by omega), cf_ge (by omega)]
  · rw [ev_addQ, ev_subQ, ev_mulQ, ev_mono, h5 x]
    grind
  · rw [hcQ, if_neg (by omega)]
    exact h6 i (by omega)
theorem DivG.done {S : Nat → List Rat → List Rat → Prop} {la : Nat} {ps qs R Q : List Rat} {k : Nat} (h : DivG S la ps qs R Q k) (htq : trimQ qs = qs) (hq0 : qs ≠ []) (hl : R.length < qs.length) : Q = quoQ ps qs ∧ R = remQ ps qs := by
  obtain ⟨h1, h2, _, _, h5, _⟩ := h
  obtain ⟨g1, g2, g3, g4⟩ := split_ok ps qs htq hq0
  exact split_unique htq hq0 h2 g3 h1 g4 hl g2 (fun x => by rw [← h5 x, ← g1 x])

set_option maxRecDepth 100000 in
set_option maxHeartbeats 8000000 in
theorem xSplit_g (S : Nat → List Rat → List Rat → Prop) (A : Nat) (va vb : Value) (ps qs : List Rat) (w : World) (ha : RowK false w va ps) (hb : RowK false w vb qs) (hSZ : DivS A ps.length S qs) (hS0 : S 0 ps []) (hq : ∀ i, SmQ A (cf qs i)) (htp : trimQ ps = ps) (htq : trimQ qs = qs) (hq0 : qs ≠ []) (hpl : ps.length ≤ 1000) :
    Calls Tryz.prog 41 #[va, vb] w fun e w' => ∃ u v, e = .returned (.tuple #[u, v]) ∧ RowK false w' u (quoQ ps qs) ∧ RowK false w' v (remQ ps qs) ∧ Below w.heap.size w w' := by
  have hmx : Tryz.prog.follows .mixedOrders = true := by kernel_rfl
  obtain ⟨a, la, ca, rfl⟩ := ha.form
  obtain ⟨b, lb, cb, rfl⟩ := hb.form
  obtain ⟨hla, hca, hcma, hlma, _⟩ := ha.formsF
  obtain ⟨hlb, hcb, hcmb, hlmb, s', t', aa', bb', ll', cc', kk', dd', hc'⟩ := hb.formsF
  have hql : 0 < qs.length := List.length_pos_iff.2 hq0
  have HT0 := hidD (xTrim_c _ ps w ha)
  rw [htp] at HT0
  have HA := hidD ha
  have HB := hidD hc'
  have HBR := hidD hb
  have HQ := hidD hq
  have HTQ := hidD htq
  have HQ0 := hidD hq0
  have HLB := hidD hlb
  have HSZ := hidD hSZ
  have HLD := hidD (trim_last htq hq0)
  have HQS := hidD (show Sqs qs from Sqs.of fun i => Sq.of (hq i) (by
    obtain ⟨_, _, z, h1, _⟩ := hSZ.size 0 ps [] (Nat.zero_le _) hS0
    omega))
  have HST := hidD (DivG.start (qs := qs) htp hS0)
  obtain ⟨lp, hlp⟩ : ∃ l, ps.length = l := ⟨_, rfl⟩
  rw [hlp] at HST HSZ
  have hlb1 : 1 ≤ lb := by omega
  have hlb2 : lb ≤ 1099511627776 := hlmb
  have hlp2 : lp ≤ 1000 := by omega
  clear ha hb hS0 hSZ hq htp htq hq0 hla hlb hca hcma hcb hcmb hlma hlmb hc' hql hpl hlp
  go_enter Tryz.func41, Tryz.ntmps41
  go_wp2_with (go_at_call 45; refine HT0.out.mono ?_; clear HT0; rintro e w0 ⟨u0, rfl, hu0, hb0⟩; obtain ⟨a0, l0, c0, rfl⟩ := hu0.form)
  go_loopw [6, 7, 8] (fun qv rv _ wr => ∃ (k lr : Nat) (Q R : List Rat), (∃ ra rc, rv = .slice ra lr rc) ∧ (∃ qa ql qc, qv = .slice qa ql qc) ∧ lr ≤ 1000 ∧ Hid (lr = R.length) ∧ Hid (XsB w wr qv rv Q R) ∧ Hid (DivG S lp ps qs R Q k)) (fun _ rv _ _ => lenOf rv)
  case atStart => exact ⟨0, _, [], ps, ⟨_, _, rfl⟩, ⟨_, _, _, rfl⟩, by obtain ⟨_, _, e, _⟩ := id hu0; cases e; have := HST.out.2.2.1; omega, hidD (by obtain ⟨_, _, e, _⟩ := id hu0; cases e; rfl), hidD ⟨RowK.nil _ _, hu0, hb0⟩, HST⟩
  case round =>
    clear hu0 hb0 HST
    obtain ⟨k, lr, Q, R, ⟨ra, rc, rfl⟩, ⟨qa, ql, qc, rfl⟩, hlr, HLR, HX, HD⟩ := hrel
    by_cases hge : lb ≤ lr
    · have hge2 : (lb : Int) ≤ (lr : Int) := by omega
      obtain ⟨n, hn⟩ : ∃ n : Nat, lr - lb = n := ⟨_, rfl⟩
      obtain ⟨m, hm⟩ : ∃ m : Nat, lr - 1 = m := ⟨_, rfl⟩
      obtain ⟨jq, hjq⟩ : ∃ j : Nat, lb - 1 = j := ⟨_, rfl⟩
      have hn1 : (lr : Int) - (lb : Int) = (n : Int) := by omega
      have hm1 : (lr : Int) - 1 = (m : Int) := by omega
      have hj1 : (lb : Int) - 1 = (jq : Int) := by omega
      have hn2 : IntKind.i64.wrap (n : Int) = (n : Int) := by rw [IntKind.wrap_i64]; omega
      have hm2 : IntKind.i64.wrap (m : Int) = (m : Int) := by rw [IntKind.wrap_i64]; omega
      have hj2 : IntKind.i64.wrap (jq : Int) = (jq : Int) := by rw [IntKind.wrap_i64]; omega
      have hml : (m : Int) < (lr : Int) := by omega
      have hjl : (jq : Int) < (lb : Int) := by omega
      have HNN := hidD (show n = R.length - qs.length ∧ m = R.length - 1 ∧ jq = qs.length - 1 ∧ qs.length ≤ R.length by have := HLR.out; have := HLB.out; omega)
      have HMN := hidD (show n < 1099511627775 ∧ n + 1 ≤ 1001 by omega)
      obtain ⟨hx1, hx2, hx3, hx4, s, t, aa, bb, ll, cc, kk, dd, hcR⟩ := HX.out.2.1.formsF
      clear hx1 hx2 hx3 hx4
      obtain ⟨hi1, b1, rfl, hb1, c10, c11, c12, c13⟩ := hcR m (by omega)
      obtain ⟨hi2, b2, rfl, hb2, c20, c21, c22, c23⟩ := HB.out jq (by omega)
      have HCL1 := hidD (show ∀ V, Below wr.heap.size wr V → (V.cell? ⟨b1, m * 4, none⟩ = some (.slice (aa m) (ll m) (cc m)) ∧ V.cell? ⟨b1, m * 4 + 1, none⟩ = some (.bool (s m)) ∧ V.cell? ⟨b1, m * 4 + 2, none⟩ = some (.slice (bb m) (kk m) (dd m)) ∧ V.cell? ⟨b1, m * 4 + 3, none⟩ = some (.bool (t m))) ∧ IsRef V (.agg #[.slice (aa m) (ll m) (cc m), .bool (s m), .slice (bb m) (kk m) (dd m), .bool (t m)]) (cf R m) from fun V hB => by
        exact ⟨⟨(hB.cell (p := ⟨b1, _, none⟩) hb1).trans c10, (hB.cell (p := ⟨b1, _, none⟩) hb1).trans c11, (hB.cell (p := ⟨b1, _, none⟩) hb1).trans c12, (hB.cell (p := ⟨b1, _, none⟩) hb1).trans c13⟩, hi1.below hB⟩)
      have HCL2 := hidD (show ∀ V, Below w.heap.size w V → (V.cell? ⟨b2, jq * 4, none⟩ = some (.slice (aa' jq) (ll' jq) (cc' jq)) ∧ V.cell? ⟨b2, jq * 4 + 1, none⟩ = some (.bool (s' jq)) ∧ V.cell? ⟨b2, jq * 4 + 2, none⟩ = some (.slice (bb' jq) (kk' jq) (dd' jq)) ∧ V.cell? ⟨b2, jq * 4 + 3, none⟩ = some (.bool (t' jq))) ∧ IsRef V (.agg #[.slice (aa' jq) (ll' jq) (cc' jq), .bool (s' jq), .slice (bb' jq) (kk' jq) (dd' jq), .bool (t' jq)]) (cf qs jq) from fun V hB => by
        exact ⟨⟨(hB.cell (p := ⟨b2, _, none⟩) hb2).trans c20, (hB.cell (p := ⟨b2, _, none⟩) hb2).trans c21, (hB.cell (p := ⟨b2, _, none⟩) hb2).trans c22, (hB.cell (p := ⟨b2, _, none⟩) hb2).trans c23⟩, hi2.below hB⟩)
      obtain ⟨sR, sQ, z, hz, hzR⟩ := HSZ.out.size k R Q (by have := HD.out.2.2.1; omega) HD.out.2.2.2.2.2.2
      obtain ⟨x, hx⟩ : ∃ x, cf R m / cf qs jq = x := ⟨_, rfl⟩
      have HAX := hidD (show x = cf R (R.length - 1) / cf qs (qs.length - 1) by rw [← hx, ← HNN.out.2.1, ← HNN.out.2.2.1])
      have HQN := hidD (show cf qs jq ≠ 0 by rw [HNN.out.2.2.1]; exact HLD.out)
      have hxs : SmQ (z + A) x := by rw [← hx]; exact (hzR m).div2 (HQ.out jq) HQN.out
      have HSX := hidD (show Sq x from Sq.of hxs (by omega))
      have HPX := hidD (show ∀ j, Sq (x * cf qs j) from fun j => Sq.of (hxs.mul2 (HQ.out j)) (by omega))
      have HSR := hidD sR
      have HSQ := hidD sQ
      have HX1 := hidD hx
      have HDN := hidD (HD.out.next HSZ.out HTQ.out HQ0.out HNN.out.2.2.2 HNN.out.1 HAX.out)
      have HSH := hidD (sub_shorter HTQ.out HQ0.out HNN.out.2.2.2 HNN.out.1 HAX.out)
      have HMS := hidD (show Sqs (trimQ (upR n [x])) from Sqs.of fun i => by
        rw [mono_cf]
        split
        · exact HSX.out
        · exact Sq.of (SmQ.zero 1 (by omega)) (by omega))
      have HTS := hidD (show Sqs (mulQ (trimQ (upR n [x])) qs) from Sqs.of fun i => by
        rw [mono_mul]
        split
        · exact HPX.out _
        · exact Sq.of (SmQ.zero 1 (by omega)) (by omega))
      have HOK := hidD (show M3.TimesOk (trimQ (upR n [x])) qs from mono_ok (n := n) (fun i hi => by rw [mono_cf, if_neg hi]) (fun j => by rw [mono_cf, if_pos rfl]; exact HPX.out j))
      have HLM := hidD (mono_len n x)
      have HLT := hidD (show (mulQ (trimQ (upR n [x])) qs).length < 1099511627776 by
        have h1 : (mulQ (trimQ (upR n [x])) qs).length ≤ R.length := trim_len (mulQ_trim _ _) (fun i hi => by
          rw [mono_mul]
          split
          · rw [cf_ge (p := qs) (by have := HNN.out; omega), Rat.mul_zero]
          · rfl)
        have := HLR.out
        omega)
      have HLQ := hidD (show Q.length < 1099511627776 ∧ R.length < 1099511627776 by have := HD.out.2.2.2.1; have := HLR.out; omega)
      clear hi1 hb1 c10 c11 c12 c13 hi2 hb2 c20 c21 c22 c23 hcR hz hzR sR sQ hx hxs hn hm hjq
      go_wp2_with fail
      have ST0 : XsS w wr wr.drew (.slice qa ql qc) (.slice (some ⟨b1, 0, none⟩) lr rc) Q R := ⟨HX.out.below ((Below.refl _ wr).drew), (Below.refl _ wr).drew⟩
      refine wp_region_tab hmx [[], [0], [], [2], [1, 3], [], [], [6], [7], [5, 8], [9], [], [], [12], [13], [11, 14], [15], [10, 16], [4, 17, 17], [18, 18, 0, 1, 2, 3, 4, 5, 6, 7, 8, 9, 10, 11, 12, 13, 14, 15, 16, 17, 18]] (by kernel_rfl) (by decide)
        (fun D act V => ∃ (t16x t17x t18x t19x t20x t21x t22x t23x t24x t25x t26x t27x t28x t29x t30x t31x t32x t33x t34x t8x : Value), act = { tmps := #[Value.slice a la ca, Value.slice (some { block := b2, off := 0 }) lb cb, undef, undef, Value.slice none 0 0, Value.slice none 0 0, Value.slice qa ql qc, Value.slice (some { block := b1, off := 0 }) lr rc, t8x, Value.slice a la ca, Value.slice a0 l0 c0, Value.slice (some { block := b1, off := 0 }) lr rc, Value.int IntKind.i64 ↑lr, Value.slice (some { block := b2, off := 0 }) lb cb, Value.int IntKind.i64 ↑lb, Value.bool true, t16x, t17x, t18x, t19x, t20x, t21x, t22x, t23x, t24x, t25x, t26x, t27x, t28x, t29x, t30x, t31x, t32x, t33x, t34x, u35, u36, u37, u38, u39, u40, u41, u42, undef, undef], defers := [] } ∧ Hid ((D 0 = true → t16x = .slice (some ⟨b1, 0, none⟩) lr rc) ∧ (D 1 = true → t17x = .int .i64 (lr : Int)) ∧ (D 2 = true → t18x = .slice (some ⟨b2, 0, none⟩) lb cb) ∧ (D 3 = true → t19x = .int .i64 (lb : Int)) ∧ (D 4 = true → t20x = .int .i64 (n : Int)) ∧ (D 5 = true → t21x = .slice (some ⟨b1, 0, none⟩) lr rc) ∧ (D 6 = true → t22x = .slice (some ⟨b1, 0, none⟩) lr rc) ∧ (D 7 = true → t23x = .int .i64 (lr : Int)) ∧ (D 8 = true → t24x = .int .i64 (m : Int)) ∧ (D 9 = true → t25x = .pointer (some ⟨b1, m * 4, none⟩)) ∧ (D 10 = true → IsRef V t26x (cf R m)) ∧ (D 11 = true → t27x = .slice (some ⟨b2, 0, none⟩) lb cb) ∧ (D 12 = true → t28x = .slice (some ⟨b2, 0, none⟩) lb cb) ∧ (D 13 = true → t29x = .int .i64 (lb : Int)) ∧ (D 14 = true → t30x = .int .i64 (jq : Int)) ∧ (D 15 = true → t31x = .pointer (some ⟨b2, jq * 4, none⟩)) ∧ (D 16 = true → IsRef V t32x (cf qs jq)) ∧ (D 17 = true → IsRef V t33x x) ∧ (D 18 = true → RowK false V t34x (trimQ (upR n [x]))) ∧ (D 19 = true → RowK false V t8x (trimQ (upR n [x])))) ∧ Hid (XsS w wr V (.slice qa ql qc) (.slice (some ⟨b1, 0, none⟩) lr rc) Q R))
        ⟨_, _, _, _, _, _, _, _, _, _, _, _, _, _, _, _, _, _, _, _, rfl, hidD ⟨by simp, by simp, by simp, by simp, by simp, by simp, by simp, by simp, by simp, by simp, by simp, by simp, by simp, by simp, by simp, by simp, by simp, by simp, by simp, by simp⟩, hidD ST0⟩ ?step1 ?fin1
      case step1 =>
        rintro D act V i ds hcl hi hds hDi ⟨t16x, t17x, t18x, t19x, t20x, t21x, t22x, t23x, t24x, t25x, t26x, t27x, t28x, t29x, t30x, t31x, t32x, t33x, t34x, t8x, rfl, GG, SS0⟩
        have hi6 : i < 20 := (List.getElem?_eq_some_iff.1 hi).1
        obtain rfl | rfl | rfl | rfl | rfl | rfl | rfl | rfl | rfl | rfl | rfl | rfl | rfl | rfl | rfl | rfl | rfl | rfl | rfl | rfl : i = 0 ∨ i = 1 ∨ i = 2 ∨ i = 3 ∨ i = 4 ∨ i = 5 ∨ i = 6 ∨ i = 7 ∨ i = 8 ∨ i = 9 ∨ i = 10 ∨ i = 11 ∨ i = 12 ∨ i = 13 ∨ i = 14 ∨ i = 15 ∨ i = 16 ∨ i = 17 ∨ i = 18 ∨ i = 19 := by omega
        all_goals
          simp only [List.getElem?_cons_zero, List.getElem?_cons_succ, Option.some.injEq] at hi
          subst hi
        · have hS0 := SS0.out
          clear hds
          refine wpOp_go rfl rfl (fun K hK => ?_)
          go_simp
          exact hK _ _ ⟨_, _, _, _, _, _, _, _, _, _, _, _, _, _, _, _, _, _, _, _, rfl, hidD ⟨fun _ => rfl, GG.out.2.1, GG.out.2.2.1, GG.out.2.2.2.1, GG.out.2.2.2.2.1, GG.out.2.2.2.2.2.1, GG.out.2.2.2.2.2.2.1, GG.out.2.2.2.2.2.2.2.1, GG.out.2.2.2.2.2.2.2.2.1, GG.out.2.2.2.2.2.2.2.2.2.1, GG.out.2.2.2.2.2.2.2.2.2.2.1, GG.out.2.2.2.2.2.2.2.2.2.2.2.1, GG.out.2.2.2.2.2.2.2.2.2.2.2.2.1, GG.out.2.2.2.2.2.2.2.2.2.2.2.2.2.1, GG.out.2.2.2.2.2.2.2.2.2.2.2.2.2.2.1, GG.out.2.2.2.2.2.2.2.2.2.2.2.2.2.2.2.1, GG.out.2.2.2.2.2.2.2.2.2.2.2.2.2.2.2.2.1, GG.out.2.2.2.2.2.2.2.2.2.2.2.2.2.2.2.2.2.1, GG.out.2.2.2.2.2.2.2.2.2.2.2.2.2.2.2.2.2.2.1, GG.out.2.2.2.2.2.2.2.2.2.2.2.2.2.2.2.2.2.2.2⟩, hidD (SS0.out)⟩
        · have hS0 := SS0.out
          obtain rfl := GG.out.1 (hds 0 (by simp))
          clear hds
          refine wpOp_go rfl rfl (fun K hK => ?_)
          go_simp
          exact hK _ _ ⟨_, _, _, _, _, _, _, _, _, _, _, _, _, _, _, _, _, _, _, _, rfl, hidD ⟨fun _ => rfl, fun _ => rfl, GG.out.2.2.1, GG.out.2.2.2.1, GG.out.2.2.2.2.1, GG.out.2.2.2.2.2.1, GG.out.2.2.2.2.2.2.1, GG.out.2.2.2.2.2.2.2.1, GG.out.2.2.2.2.2.2.2.2.1, GG.out.2.2.2.2.2.2.2.2.2.1, GG.out.2.2.2.2.2.2.2.2.2.2.1, GG.out.2.2.2.2.2.2.2.2.2.2.2.1, GG.out.2.2.2.2.2.2.2.2.2.2.2.2.1, GG.out.2.2.2.2.2.2.2.2.2.2.2.2.2.1, GG.out.2.2.2.2.2.2.2.2.2.2.2.2.2.2.1, GG.out.2.2.2.2.2.2.2.2.2.2.2.2.2.2.2.1, GG.out.2.2.2.2.2.2.2.2.2.2.2.2.2.2.2.2.1, GG.out.2.2.2.2.2.2.2.2.2.2.2.2.2.2.2.2.2.1, GG.out.2.2.2.2.2.2.2.2.2.2.2.2.2.2.2.2.2.2.1, GG.out.2.2.2.2.2.2.2.2.2.2.2.2.2.2.2.2.2.2.2⟩, hidD (SS0.out)⟩
        · have hS0 := SS0.out
          clear hds
          refine wpOp_go rfl rfl (fun K hK => ?_)
          go_simp
          exact hK _ _ ⟨_, _, _, _, _, _, _, _, _, _, _, _, _, _, _, _, _, _, _, _, rfl, hidD ⟨GG.out.1, GG.out.2.1, fun _ => rfl, GG.out.2.2.2.1, GG.out.2.2.2.2.1, GG.out.2.2.2.2.2.1, GG.out.2.2.2.2.2.2.1, GG.out.2.2.2.2.2.2.2.1, GG.out.2.2.2.2.2.2.2.2.1, GG.out.2.2.2.2.2.2.2.2.2.1, GG.out.2.2.2.2.2.2.2.2.2.2.1, GG.out.2.2.2.2.2.2.2.2.2.2.2.1, GG.out.2.2.2.2.2.2.2.2.2.2.2.2.1, GG.out.2.2.2.2.2.2.2.2.2.2.2.2.2.1, GG.out.2.2.2.2.2.2.2.2.2.2.2.2.2.2.1, GG.out.2.2.2.2.2.2.2.2.2.2.2.2.2.2.2.1, GG.out.2.2.2.2.2.2.2.2.2.2.2.2.2.2.2.2.1, GG.out.2.2.2.2.2.2.2.2.2.2.2.2.2.2.2.2.2.1, GG.out.2.2.2.2.2.2.2.2.2.2.2.2.2.2.2.2.2.2.1, GG.out.2.2.2.2.2.2.2.2.2.2.2.2.2.2.2.2.2.2.2⟩, hidD (SS0.out)⟩
        · have hS0 := SS0.out
          obtain rfl := GG.out.2.2.1 (hds 2 (by simp))
          clear hds
          refine wpOp_go rfl rfl (fun K hK => ?_)
          go_simp
          exact hK _ _ ⟨_, _, _, _, _, _, _, _, _, _, _, _, _, _, _, _, _, _, _, _, rfl, hidD ⟨GG.out.1, GG.out.2.1, fun _ => rfl, fun _ => rfl, GG.out.2.2.2.2.1, GG.out.2.2.2.2.2.1, GG.out.2.2.2.2.2.2.1, GG.out.2.2.2.2.2.2.2.1, GG.out.2.2.2.2.2.2.2.2.1, GG.out.2.2.2.2.2.2.2.2.2.1, GG.out.2.2.2.2.2.2.2.2.2.2.1, GG.out.2.2.2.2.2.2.2.2.2.2.2.1, GG.out.2.2.2.2.2.2.2.2.2.2.2.2.1, GG.out.2.2.2.2.2.2.2.2.2.2.2.2.2.1, GG.out.2.2.2.2.2.2.2.2.2.2.2.2.2.2.1, GG.out.2.2.2.2.2.2.2.2.2.2.2.2.2.2.2.1, GG.out.2.2.2.2.2.2.2.2.2.2.2.2.2.2.2.2.1, GG.out.2.2.2.2.2.2.2.2.2.2.2.2.2.2.2.2.2.1, GG.out.2.2.2.2.2.2.2.2.2.2.2.2.2.2.2.2.2.2.1, GG.out.2.2.2.2.2.2.2.2.2.2.2.2.2.2.2.2.2.2.2⟩, hidD (SS0.out)⟩
        · have hS0 := SS0.out
          obtain rfl := GG.out.2.1 (hds 1 (by simp))
          obtain rfl := GG.out.2.2.2.1 (hds 3 (by simp))
          clear hds
          refine wpOp_go rfl rfl (fun K hK => ?_)
          go_simp
          exact hK _ _ ⟨_, _, _, _, _, _, _, _, _, _, _, _, _, _, _, _, _, _, _, _, rfl, hidD ⟨GG.out.1, fun _ => rfl, GG.out.2.2.1, fun _ => rfl, fun _ => rfl, GG.out.2.2.2.2.2.1, GG.out.2.2.2.2.2.2.1, GG.out.2.2.2.2.2.2.2.1, GG.out.2.2.2.2.2.2.2.2.1, GG.out.2.2.2.2.2.2.2.2.2.1, GG.out.2.2.2.2.2.2.2.2.2.2.1, GG.out.2.2.2.2.2.2.2.2.2.2.2.1, GG.out.2.2.2.2.2.2.2.2.2.2.2.2.1, GG.out.2.2.2.2.2.2.2.2.2.2.2.2.2.1, GG.out.2.2.2.2.2.2.2.2.2.2.2.2.2.2.1, GG.out.2.2.2.2.2.2.2.2.2.2.2.2.2.2.2.1, GG.out.2.2.2.2.2.2.2.2.2.2.2.2.2.2.2.2.1, GG.out.2.2.2.2.2.2.2.2.2.2.2.2.2.2.2.2.2.1, GG.out.2.2.2.2.2.2.2.2.2.2.2.2.2.2.2.2.2.2.1, GG.out.2.2.2.2.2.2.2.2.2.2.2.2.2.2.2.2.2.2.2⟩, hidD (SS0.out)⟩
        · have hS0 := SS0.out
          clear hds
          refine wpOp_go rfl rfl (fun K hK => ?_)
          go_simp
          exact hK _ _ ⟨_, _, _, _, _, _, _, _, _, _, _, _, _, _, _, _, _, _, _, _, rfl, hidD ⟨GG.out.1, GG.out.2.1, GG.out.2.2.1, GG.out.2.2.2.1, GG.out.2.2.2.2.1, fun _ => rfl, GG.out.2.2.2.2.2.2.1, GG.out.2.2.2.2.2.2.2.1, GG.out.2.2.2.2.2.2.2.2.1, GG.out.2.2.2.2.2.2.2.2.2.1, GG.out.2.2.2.2.2.2.2.2.2.2.1, GG.out.2.2.2.2.2.2.2.2.2.2.2.1, GG.out.2.2.2.2.2.2.2.2.2.2.2.2.1, GG.out.2.2.2.2.2.2.2.2.2.2.2.2.2.1, GG.out.2.2.2.2.2.2.2.2.2.2.2.2.2.2.1, GG.out.2.2.2.2.2.2.2.2.2.2.2.2.2.2.2.1, GG.out.2.2.2.2.2.2.2.2.2.2.2.2.2.2.2.2.1, GG.out.2.2.2.2.2.2.2.2.2.2.2.2.2.2.2.2.2.1, GG.out.2.2.2.2.2.2.2.2.2.2.2.2.2.2.2.2.2.2.1, GG.out.2.2.2.2.2.2.2.2.2.2.2.2.2.2.2.2.2.2.2⟩, hidD (SS0.out)⟩
        · have hS0 := SS0.out
          clear hds
          refine wpOp_go rfl rfl (fun K hK => ?_)
          go_simp
          exact hK _ _ ⟨_, _, _, _, _, _, _, _, _, _, _, _, _, _, _, _, _, _, _, _, rfl, hidD ⟨GG.out.1, GG.out.2.1, GG.out.2.2.1, GG.out.2.2.2.1, GG.out.2.2.2.2.1, GG.out.2.2.2.2.2.1, fun _ => rfl, GG.out.2.2.2.2.2.2.2.1, GG.out.2.2.2.2.2.2.2.2.1, GG.out.2.2.2.2.2.2.2.2.2.1, GG.out.2.2.2.2.2.2.2.2.2.2.1, GG.out.2.2.2.2.2.2.2.2.2.2.2.1, GG.out.2.2.2.2.2.2.2.2.2.2.2.2.1, GG.out.2.2.2.2.2.2.2.2.2.2.2.2.2.1, GG.out.2.2.2.2.2.2.2.2.2.2.2.2.2.2.1, GG.out.2.2.2.2.2.2.2.2.2.2.2.2.2.2.2.1, GG.out.2.2.2.2.2.2.2.2.2.2.2.2.2.2.2.2.1, GG.out.2.2.2.2.2.2.2.2.2.2.2.2.2.2.2.2.2.1, GG.out.2.2.2.2.2.2.2.2.2.2.2.2.2.2.2.2.2.2.1, GG.out.2.2.2.2.2.2.2.2.2.2.2.2.2.2.2.2.2.2.2⟩, hidD (SS0.out)⟩
        · have hS0 := SS0.out
          obtain rfl := GG.out.2.2.2.2.2.2.1 (hds 6 (by simp))
          clear hds
          refine wpOp_go rfl rfl (fun K hK => ?_)
          go_simp
          exact hK _ _ ⟨_, _, _, _, _, _, _, _, _, _, _, _, _, _, _, _, _, _, _, _, rfl, hidD ⟨GG.out.1, GG.out.2.1, GG.out.2.2.1, GG.out.2.2.2.1, GG.out.2.2.2.2.1, GG.out.2.2.2.2.2.1, fun _ => rfl, fun _ => rfl, GG.out.2.2.2.2.2.2.2.2.1, GG.out.2.2.2.2.2.2.2.2.2.1, GG.out.2.2.2.2.2.2.2.2.2.2.1, GG.out.2.2.2.2.2.2.2.2.2.2.2.1, GG.out.2.2.2.2.2.2.2.2.2.2.2.2.1, GG.out.2.2.2.2.2.2.2.2.2.2.2.2.2.1, GG.out.2.2.2.2.2.2.2.2.2.2.2.2.2.2.1, GG.out.2.2.2.2.2.2.2.2.2.2.2.2.2.2.2.1, GG.out.2.2.2.2.2.2.2.2.2.2.2.2.2.2.2.2.1, GG.out.2.2.2.2.2.2.2.2.2.2.2.2.2.2.2.2.2.1, GG.out.2.2.2.2.2.2.2.2.2.2.2.2.2.2.2.2.2.2.1, GG.out.2.2.2.2.2.2.2.2.2.2.2.2.2.2.2.2.2.2.2⟩, hidD (SS0.out)⟩
        · have hS0 := SS0.out
          obtain rfl := GG.out.2.2.2.2.2.2.2.1 (hds 7 (by simp))
          clear hds
          refine wpOp_go rfl rfl (fun K hK => ?_)
          go_simp
          exact hK _ _ ⟨_, _, _, _, _, _, _, _, _, _, _, _, _, _, _, _, _, _, _, _, rfl, hidD ⟨GG.out.1, GG.out.2.1, GG.out.2.2.1, GG.out.2.2.2.1, GG.out.2.2.2.2.1, GG.out.2.2.2.2.2.1, GG.out.2.2.2.2.2.2.1, fun _ => rfl, fun _ => rfl, GG.out.2.2.2.2.2.2.2.2.2.1, GG.out.2.2.2.2.2.2.2.2.2.2.1, GG.out.2.2.2.2.2.2.2.2.2.2.2.1, GG.out.2.2.2.2.2.2.2.2.2.2.2.2.1, GG.out.2.2.2.2.2.2.2.2.2.2.2.2.2.1, GG.out.2.2.2.2.2.2.2.2.2.2.2.2.2.2.1, GG.out.2.2.2.2.2.2.2.2.2.2.2.2.2.2.2.1, GG.out.2.2.2.2.2.2.2.2.2.2.2.2.2.2.2.2.1, GG.out.2.2.2.2.2.2.2.2.2.2.2.2.2.2.2.2.2.1, GG.out.2.2.2.2.2.2.2.2.2.2.2.2.2.2.2.2.2.2.1, GG.out.2.2.2.2.2.2.2.2.2.2.2.2.2.2.2.2.2.2.2⟩, hidD (SS0.out)⟩
        · have hS0 := SS0.out
          obtain rfl := GG.out.2.2.2.2.2.1 (hds 5 (by simp))
          obtain rfl := GG.out.2.2.2.2.2.2.2.2.1 (hds 8 (by simp))
          clear hds
          refine wpOp_go rfl rfl (fun K hK => ?_)
          go_simp
          exact hK _ _ ⟨_, _, _, _, _, _, _, _, _, _, _, _, _, _, _, _, _, _, _, _, rfl, hidD ⟨GG.out.1, GG.out.2.1, GG.out.2.2.1, GG.out.2.2.2.1, GG.out.2.2.2.2.1, fun _ => rfl, GG.out.2.2.2.2.2.2.1, GG.out.2.2.2.2.2.2.2.1, fun _ => rfl, fun _ => rfl, GG.out.2.2.2.2.2.2.2.2.2.2.1, GG.out.2.2.2.2.2.2.2.2.2.2.2.1, GG.out.2.2.2.2.2.2.2.2.2.2.2.2.1, GG.out.2.2.2.2.2.2.2.2.2.2.2.2.2.1, GG.out.2.2.2.2.2.2.2.2.2.2.2.2.2.2.1, GG.out.2.2.2.2.2.2.2.2.2.2.2.2.2.2.2.1, GG.out.2.2.2.2.2.2.2.2.2.2.2.2.2.2.2.2.1, GG.out.2.2.2.2.2.2.2.2.2.2.2.2.2.2.2.2.2.1, GG.out.2.2.2.2.2.2.2.2.2.2.2.2.2.2.2.2.2.2.1, GG.out.2.2.2.2.2.2.2.2.2.2.2.2.2.2.2.2.2.2.2⟩, hidD (SS0.out)⟩
        · have hS0 := SS0.out
          obtain rfl := GG.out.2.2.2.2.2.2.2.2.2.1 (hds 9 (by simp))
          obtain ⟨⟨e0, e1, e2, e3⟩, hr⟩ := HCL1.out V hS0.2
          clear hds
          refine wpOp_go rfl rfl (fun K hK => ?_)
          go_simp
          exact hK _ _ ⟨_, _, _, _, _, _, _, _, _, _, _, _, _, _, _, _, _, _, _, _, rfl, hidD ⟨GG.out.1, GG.out.2.1, GG.out.2.2.1, GG.out.2.2.2.1, GG.out.2.2.2.2.1, GG.out.2.2.2.2.2.1, GG.out.2.2.2.2.2.2.1, GG.out.2.2.2.2.2.2.2.1, GG.out.2.2.2.2.2.2.2.2.1, fun _ => rfl, fun _ => hr, GG.out.2.2.2.2.2.2.2.2.2.2.2.1, GG.out.2.2.2.2.2.2.2.2.2.2.2.2.1, GG.out.2.2.2.2.2.2.2.2.2.2.2.2.2.1, GG.out.2.2.2.2.2.2.2.2.2.2.2.2.2.2.1, GG.out.2.2.2.2.2.2.2.2.2.2.2.2.2.2.2.1, GG.out.2.2.2.2.2.2.2.2.2.2.2.2.2.2.2.2.1, GG.out.2.2.2.2.2.2.2.2.2.2.2.2.2.2.2.2.2.1, GG.out.2.2.2.2.2.2.2.2.2.2.2.2.2.2.2.2.2.2.1, GG.out.2.2.2.2.2.2.2.2.2.2.2.2.2.2.2.2.2.2.2⟩, hidD (SS0.out)⟩
        · have hS0 := SS0.out
          clear hds
          refine wpOp_go rfl rfl (fun K hK => ?_)
          go_simp
          exact hK _ _ ⟨_, _, _, _, _, _, _, _, _, _, _, _, _, _, _, _, _, _, _, _, rfl, hidD ⟨GG.out.1, GG.out.2.1, GG.out.2.2.1, GG.out.2.2.2.1, GG.out.2.2.2.2.1, GG.out.2.2.2.2.2.1, GG.out.2.2.2.2.2.2.1, GG.out.2.2.2.2.2.2.2.1, GG.out.2.2.2.2.2.2.2.2.1, GG.out.2.2.2.2.2.2.2.2.2.1, GG.out.2.2.2.2.2.2.2.2.2.2.1, fun _ => rfl, GG.out.2.2.2.2.2.2.2.2.2.2.2.2.1, GG.out.2.2.2.2.2.2.2.2.2.2.2.2.2.1, GG.out.2.2.2.2.2.2.2.2.2.2.2.2.2.2.1, GG.out.2.2.2.2.2.2.2.2.2.2.2.2.2.2.2.1, GG.out.2.2.2.2.2.2.2.2.2.2.2.2.2.2.2.2.1, GG.out.2.2.2.2.2.2.2.2.2.2.2.2.2.2.2.2.2.1, GG.out.2.2.2.2.2.2.2.2.2.2.2.2.2.2.2.2.2.2.1, GG.out.2.2.2.2.2.2.2.2.2.2.2.2.2.2.2.2.2.2.2⟩, hidD (SS0.out)⟩
        · have hS0 := SS0.out
          clear hds
          refine wpOp_go rfl rfl (fun K hK => ?_)
          go_simp
          exact hK _ _ ⟨_, _, _, _, _, _, _, _, _, _, _, _, _, _, _, _, _, _, _, _, rfl, hidD ⟨GG.out.1, GG.out.2.1, GG.out.2.2.1, GG.out.2.2.2.1, GG.out.2.2.2.2.1, GG.out.2.2.2.2.2.1, GG.out.2.2.2.2.2.2.1, GG.out.2.2.2.2.2.2.2.1, GG.out.2.2.2.2.2.2.2.2.1, GG.out.2.2.2.2.2.2.2.2.2.1, GG.out.2.2.2.2.2.2.2.2.2.2.1, GG.out.2.2.2.2.2.2.2.2.2.2.2.1, fun _ => rfl, GG.out.2.2.2.2.2.2.2.2.2.2.2.2.2.1, GG.out.2.2.2.2.2.2.2.2.2.2.2.2.2.2.1, GG.out.2.2.2.2.2.2.2.2.2.2.2.2.2.2.2.1, GG.out.2.2.2.2.2.2.2.2.2.2.2.2.2.2.2.2.1, GG.out.2.2.2.2.2.2.2.2.2.2.2.2.2.2.2.2.2.1, GG.out.2.2.2.2.2.2.2.2.2.2.2.2.2.2.2.2.2.2.1, GG.out.2.2.2.2.2.2.2.2.2.2.2.2.2.2.2.2.2.2.2⟩, hidD (SS0.out)⟩
        · have hS0 := SS0.out
          obtain rfl := GG.out.2.2.2.2.2.2.2.2.2.2.2.2.1 (hds 12 (by simp))
          clear hds
          refine wpOp_go rfl rfl (fun K hK => ?_)
          go_simp
          exact hK _ _ ⟨_, _, _, _, _, _, _, _, _, _, _, _, _, _, _, _, _, _, _, _, rfl, hidD ⟨GG.out.1, GG.out.2.1, GG.out.2.2.1, GG.out.2.2.2.1, GG.out.2.2.2.2.1, GG.out.2.2.2.2.2.1, GG.out.2.2.2.2.2.2.1, GG.out.2.2.2.2.2.2.2.1, GG.out.2.2.2.2.2.2.2.2.1, GG.out.2.2.2.2.2.2.2.2.2.1, GG.out.2.2.2.2.2.2.2.2.2.2.1, GG.out.2.2.2.2.2.2.2.2.2.2.2.1, fun _ => rfl, fun _ => rfl, GG.out.2.2.2.2.2.2.2.2.2.2.2.2.2.2.1, GG.out.2.2.2.2.2.2.2.2.2.2.2.2.2.2.2.1, GG.out.2.2.2.2.2.2.2.2.2.2.2.2.2.2.2.2.1, GG.out.2.2.2.2.2.2.2.2.2.2.2.2.2.2.2.2.2.1, GG.out.2.2.2.2.2.2.2.2.2.2.2.2.2.2.2.2.2.2.1, GG.out.2.2.2.2.2.2.2.2.2.2.2.2.2.2.2.2.2.2.2⟩, hidD (SS0.out)⟩
        · have hS0 := SS0.out
          obtain rfl := GG.out.2.2.2.2.2.2.2.2.2.2.2.2.2.1 (hds 13 (by simp))
          clear hds
          refine wpOp_go rfl rfl (fun K hK => ?_)
          go_simp
          exact hK _ _ ⟨_, _, _, _, _, _, _, _, _, _, _, _, _, _, _, _, _, _, _, _, rfl, hidD ⟨GG.out.1, GG.out.2.1, GG.out.2.2.1, GG.out.2.2.2.1, GG.out.2.2.2.2.1, GG.out.2.2.2.2.2.1, GG.out.2.2.2.2.2.2.1, GG.out.2.2.2.2.2.2.2.1, GG.out.2.2.2.2.2.2.2.2.1, GG.out.2.2.2.2.2.2.2.2.2.1, GG.out.2.2.2.2.2.2.2.2.2.2.1, GG.out.2.2.2.2.2.2.2.2.2.2.2.1, GG.out.2.2.2.2.2.2.2.2.2.2.2.2.1, fun _ => rfl, fun _ => rfl, GG.out.2.2.2.2.2.2.2.2.2.2.2.2.2.2.2.1, GG.out.2.2.2.2.2.2.2.2.2.2.2.2.2.2.2.2.1, GG.out.2.2.2.2.2.2.2.2.2.2.2.2.2.2.2.2.2.1, GG.out.2.2.2.2.2.2.2.2.2.2.2.2.2.2.2.2.2.2.1, GG.out.2.2.2.2.2.2.2.2.2.2.2.2.2.2.2.2.2.2.2⟩, hidD (SS0.out)⟩
        · have hS0 := SS0.out
          obtain rfl := GG.out.2.2.2.2.2.2.2.2.2.2.2.1 (hds 11 (by simp))
          obtain rfl := GG.out.2.2.2.2.2.2.2.2.2.2.2.2.2.2.1 (hds 14 (by simp))
          clear hds
          refine wpOp_go rfl rfl (fun K hK => ?_)
          go_simp
          exact hK _ _ ⟨_, _, _, _, _, _, _, _, _, _, _, _, _, _, _, _, _, _, _, _, rfl, hidD ⟨GG.out.1, GG.out.2.1, GG.out.2.2.1, GG.out.2.2.2.1, GG.out.2.2.2.2.1, GG.out.2.2.2.2.2.1, GG.out.2.2.2.2.2.2.1, GG.out.2.2.2.2.2.2.2.1, GG.out.2.2.2.2.2.2.2.2.1, GG.out.2.2.2.2.2.2.2.2.2.1, GG.out.2.2.2.2.2.2.2.2.2.2.1, fun _ => rfl, GG.out.2.2.2.2.2.2.2.2.2.2.2.2.1, GG.out.2.2.2.2.2.2.2.2.2.2.2.2.2.1, fun _ => rfl, fun _ => rfl, GG.out.2.2.2.2.2.2.2.2.2.2.2.2.2.2.2.2.1, GG.out.2.2.2.2.2.2.2.2.2.2.2.2.2.2.2.2.2.1, GG.out.2.2.2.2.2.2.2.2.2.2.2.2.2.2.2.2.2.2.1, GG.out.2.2.2.2.2.2.2.2.2.2.2.2.2.2.2.2.2.2.2⟩, hidD (SS0.out)⟩
        · have hS0 := SS0.out
          obtain rfl := GG.out.2.2.2.2.2.2.2.2.2.2.2.2.2.2.2.1 (hds 15 (by simp))
          obtain ⟨⟨e0, e1, e2, e3⟩, hr⟩ := HCL2.out V hS0.1.2.2
          clear hds
          refine wpOp_go rfl rfl (fun K hK => ?_)
          go_simp
          exact hK _ _ ⟨_, _, _, _, _, _, _, _, _, _, _, _, _, _, _, _, _, _, _, _, rfl, hidD ⟨GG.out.1, GG.out.2.1, GG.out.2.2.1, GG.out.2.2.2.1, GG.out.2.2.2.2.1, GG.out.2.2.2.2.2.1, GG.out.2.2.2.2.2.2.1, GG.out.2.2.2.2.2.2.2.1, GG.out.2.2.2.2.2.2.2.2.1, GG.out.2.2.2.2.2.2.2.2.2.1, GG.out.2.2.2.2.2.2.2.2.2.2.1, GG.out.2.2.2.2.2.2.2.2.2.2.2.1, GG.out.2.2.2.2.2.2.2.2.2.2.2.2.1, GG.out.2.2.2.2.2.2.2.2.2.2.2.2.2.1, GG.out.2.2.2.2.2.2.2.2.2.2.2.2.2.2.1, fun _ => rfl, fun _ => hr, GG.out.2.2.2.2.2.2.2.2.2.2.2.2.2.2.2.2.2.1, GG.out.2.2.2.2.2.2.2.2.2.2.2.2.2.2.2.2.2.2.1, GG.out.2.2.2.2.2.2.2.2.2.2.2.2.2.2.2.2.2.2.2⟩, hidD (SS0.out)⟩
        · have hS0 := SS0.out
          have h0 := GG.out.2.2.2.2.2.2.2.2.2.2.1 (hds 10 (by simp))
          have h1 := GG.out.2.2.2.2.2.2.2.2.2.2.2.2.2.2.2.2.1 (hds 16 (by simp))
          clear hds
          have HC := hidD (sover_c _ _ (cf R m) (cf qs jq) V h0 h1 (HSR.out.at m) (HQS.out.at jq) HQN.out)
          rw [HX1.out] at HC
          clear h0 h1
          refine wpOp_go rfl rfl (fun K hK => ?_)
          go_simp
          go_wp2_with (go_at_call 77; refine HC.out.mono ?_; rintro e w5 ⟨v5, rfl, hv5, hb5⟩)
          exact ⟨_, _, _, _, _, _, _, _, _, _, _, _, _, _, _, _, _, _, _, _, rfl, hidD ⟨GG.out.1, GG.out.2.1, GG.out.2.2.1, GG.out.2.2.2.1, GG.out.2.2.2.2.1, GG.out.2.2.2.2.2.1, GG.out.2.2.2.2.2.2.1, GG.out.2.2.2.2.2.2.2.1, GG.out.2.2.2.2.2.2.2.2.1, GG.out.2.2.2.2.2.2.2.2.2.1, fun h => (GG.out.2.2.2.2.2.2.2.2.2.2.1 h).below hb5, GG.out.2.2.2.2.2.2.2.2.2.2.2.1, GG.out.2.2.2.2.2.2.2.2.2.2.2.2.1, GG.out.2.2.2.2.2.2.2.2.2.2.2.2.2.1, GG.out.2.2.2.2.2.2.2.2.2.2.2.2.2.2.1, GG.out.2.2.2.2.2.2.2.2.2.2.2.2.2.2.2.1, fun h => (GG.out.2.2.2.2.2.2.2.2.2.2.2.2.2.2.2.2.1 h).below hb5, fun _ => hv5, fun h => (GG.out.2.2.2.2.2.2.2.2.2.2.2.2.2.2.2.2.2.2.1 h).below hb5, fun h => (GG.out.2.2.2.2.2.2.2.2.2.2.2.2.2.2.2.2.2.2.2 h).below hb5⟩, hidD (SS0.out.below hb5)⟩
        · have hS0 := SS0.out
          have h0 := GG.out.2.2.2.2.2.2.2.2.2.2.2.2.2.2.2.2.2.1 (hds 17 (by simp))
          obtain rfl := GG.out.2.2.2.2.1 (hds 4 (by simp))
          clear hds
          have HC := hidD (xPower_c _ n x V h0 HMN.out.1)
          clear h0
          refine wpOp_go rfl rfl (fun K hK => ?_)
          go_simp
          go_wp2_with (go_at_call 78; refine HC.out.mono ?_; rintro e w5 ⟨v5, rfl, hv5, hb5⟩)
          exact ⟨_, _, _, _, _, _, _, _, _, _, _, _, _, _, _, _, _, _, _, _, rfl, hidD ⟨GG.out.1, GG.out.2.1, GG.out.2.2.1, GG.out.2.2.2.1, fun _ => rfl, GG.out.2.2.2.2.2.1, GG.out.2.2.2.2.2.2.1, GG.out.2.2.2.2.2.2.2.1, GG.out.2.2.2.2.2.2.2.2.1, GG.out.2.2.2.2.2.2.2.2.2.1, fun h => (GG.out.2.2.2.2.2.2.2.2.2.2.1 h).below hb5, GG.out.2.2.2.2.2.2.2.2.2.2.2.1, GG.out.2.2.2.2.2.2.2.2.2.2.2.2.1, GG.out.2.2.2.2.2.2.2.2.2.2.2.2.2.1, GG.out.2.2.2.2.2.2.2.2.2.2.2.2.2.2.1, GG.out.2.2.2.2.2.2.2.2.2.2.2.2.2.2.2.1, fun h => (GG.out.2.2.2.2.2.2.2.2.2.2.2.2.2.2.2.2.1 h).below hb5, fun h => (GG.out.2.2.2.2.2.2.2.2.2.2.2.2.2.2.2.2.2.1 h).below hb5, fun _ => hv5, fun h => (GG.out.2.2.2.2.2.2.2.2.2.2.2.2.2.2.2.2.2.2.2 h).below hb5⟩, hidD (SS0.out.below hb5)⟩
        · have hS0 := SS0.out
          have h0 := GG.out.2.2.2.2.2.2.2.2.2.2.2.2.2.2.2.2.2.2.1 (hds 18 (by simp))
          clear hds
          refine wpOp_go rfl rfl (fun K hK => ?_)
          go_simp
          exact hK _ _ ⟨_, _, _, _, _, _, _, _, _, _, _, _, _, _, _, _, _, _, _, _, rfl, hidD ⟨GG.out.1, GG.out.2.1, GG.out.2.2.1, GG.out.2.2.2.1, GG.out.2.2.2.2.1, GG.out.2.2.2.2.2.1, GG.out.2.2.2.2.2.2.1, GG.out.2.2.2.2.2.2.2.1, GG.out.2.2.2.2.2.2.2.2.1, GG.out.2.2.2.2.2.2.2.2.2.1, GG.out.2.2.2.2.2.2.2.2.2.2.1, GG.out.2.2.2.2.2.2.2.2.2.2.2.1, GG.out.2.2.2.2.2.2.2.2.2.2.2.2.1, GG.out.2.2.2.2.2.2.2.2.2.2.2.2.2.1, GG.out.2.2.2.2.2.2.2.2.2.2.2.2.2.2.1, GG.out.2.2.2.2.2.2.2.2.2.2.2.2.2.2.2.1, GG.out.2.2.2.2.2.2.2.2.2.2.2.2.2.2.2.2.1, GG.out.2.2.2.2.2.2.2.2.2.2.2.2.2.2.2.2.2.1, GG.out.2.2.2.2.2.2.2.2.2.2.2.2.2.2.2.2.2.2.1, fun _ => h0⟩, hidD (SS0.out)⟩
      case fin1 =>
        rintro D act V hDD ⟨t16x, t17x, t18x, t19x, t20x, t21x, t22x, t23x, t24x, t25x, t26x, t27x, t28x, t29x, t30x, t31x, t32x, t33x, t34x, t8x, rfl, GG, SS0⟩
        have hM := GG.out.2.2.2.2.2.2.2.2.2.2.2.2.2.2.2.2.2.2.2 (hDD 19 (by decide))
        have HV := hidD SS0.out.1
        clear GG SS0 hDD
        obtain ⟨a9, l9, c9, rfl⟩ := hM.form
        have HM := hidD hM
        clear hM
        have H1 := hidD (xSum_c _ _ Q (trimQ (upR n [x])) V HV.out.1 HM.out HSQ.out HMS.out ⟨HLQ.out.1, by have := HLM.out; have := HMN.out; omega⟩)
        have H2 := hidD (fun (U : World) (h : Below V.heap.size V U) => xTimes_c _ _ (trimQ (upR n [x])) qs U (HM.out.below h) (HBR.out.below (HV.out.2.2.trans (h.mono HV.out.2.2.size))) HMS.out HQS.out HOK.out (by have := HLM.out; have := HMN.out; have := HLB.out; omega))
        have H3 := hidD (fun (U : World) (h : Below V.heap.size V U) (v : Value) (hv : RowK false U v (mulQ (trimQ (upR n [x])) qs)) => xLess_c _ v R _ U (HV.out.2.1.below h) hv HSR.out HTS.out ⟨HLQ.out.2, HLT.out⟩)
        go_wp2_with (first
          | (go_at_call 64; refine H1.out.mono ?_; clear H1; rintro e w1 ⟨u1, rfl, hu1, hq1⟩; obtain ⟨a1, l1, c1, rfl⟩ := hu1.form; have HU1 := hidD hu1; clear hu1)
          | (go_at_call 14; refine (H2.out _ hq1).mono ?_; clear H2; rintro e w2 ⟨u2, rfl, hu2, hb2⟩; have hq2 := Below.then hq1 hb2; have HU2 := hidD (HU1.out.below hb2); clear hb2)
          | (go_at_call 63; refine (H3.out _ hq2 _ hu2).mono ?_; clear H3; rintro e w3 ⟨u3, rfl, hu3, hb3⟩; obtain ⟨a3, c3, rfl, _⟩ := id hu3; have HU3 := hidD hu3; have HQ3 := hidD (Below.then hq2 hb3); have HU4 := hidD (HU2.out.below hb3); clear hu2 hu3 hb3 hq1 hq2))
        go_roundw
        case rel => exact ⟨k + 1, _, _, _, ⟨_, _, rfl⟩, ⟨_, _, _, rfl⟩, by have := HSH.out; have := HLR.out; omega, hidD rfl, hidD ⟨HU4.out, HU3.out, HV.out.2.2.trans (HQ3.out.mono HV.out.2.2.size)⟩, HDN⟩
        case measure =>
          show (subQ R _).length < lr
          have := HSH.out
          have := HLR.out
          omega
    · have hge2 : ¬ (lb : Int) ≤ (lr : Int) := by omega
      have HDD := hidD (HD.out.done HTQ.out HQ0.out (by have := HLR.out; have := HLB.out; omega))
      go_wp2_with fail
      exact bodyPost_ret (v := .tuple #[.slice qa ql qc, .slice ra lr rc]) (by simp [results, Tryz.results41, go_sem]) rfl ⟨_, _, rfl, by rw [← HDD.out.1]; exact HX.out.1, by rw [← HDD.out.2]; exact HX.out.2.1, HX.out.2.2⟩
theorem xSplit_c (A : Nat) (va vb : Value) (ps qs : List Rat) (w : World) (ha : RowK false w va ps) (hb : RowK false w vb qs) (hA : 1 ≤ A) (hp : ∀ i, SmQ A (cf ps i)) (hq : ∀ i, SmQ A (cf qs i)) (htp : trimQ ps = ps) (htq : trimQ qs = qs) (hq0 : qs ≠ []) (hL : 2 ^ ps.length * (3 * A + 1) ≤ 1000000) :
    Calls Tryz.prog 41 #[va, vb] w fun e w' => ∃ u v, e = .returned (.tuple #[u, v]) ∧ RowK false w' u (quoQ ps qs) ∧ RowK false w' v (remQ ps qs) ∧ Below w.heap.size w w' := by
  have hpl : ps.length ≤ 1000 := by
    by_cases h : ps.length ≤ 20
    · omega
    · exfalso
      have h1 : 2 ^ 20 ≤ 2 ^ ps.length := Nat.pow_le_pow_right (by omega) (by omega)
      have h2 : 2 ^ ps.length * 1 ≤ 2 ^ ps.length * (3 * A + 1) := Nat.mul_le_mul_left _ (by omega)
      omega
  have hlead := trim_last htq hq0
  refine xSplit_g (fun k R Q => ∃ z, z + (2 * A + 1) ≤ 2 ^ k * (3 * A + 1) ∧ (∀ i, SmQ z (cf R i)) ∧ ∀ i, SmQ (z + A) (cf Q i)) A va vb ps qs w ha hb ⟨?_, ?_⟩ ⟨A, by omega, hp, fun i => by rw [cf_nil]; exact SmQ.zero _ (by omega)⟩ hq htp htq hq0 hpl
  · rintro k R Q n a ⟨z, h7, h8, h9⟩ _ _ _ ha hcR hcQ
    have hsa : SmQ (z + A) a := by rw [ha]; exact (h8 _).div2 (hq _) hlead
    refine ⟨2 * z + (2 * A + 1), ?_, fun i => ?_, fun i => ?_⟩
    · rw [Nat.pow_succ, Nat.mul_comm (2 ^ k) 2, Nat.mul_assoc]; omega
    · rw [hcR]
      split
      · exact ((h8 i).sub2 (hsa.mul2 (hq _))).mono (by omega)
      · rw [Rat.sub_eq_add_neg, Rat.neg_zero, Rat.add_zero]; exact (h8 i).mono (by omega)
    · rw [hcQ]
      split
      · exact hsa.mono (by omega)
      · exact (h9 i).mono (by omega)
  · rintro k R Q h3 ⟨z, h7, h8, h9⟩
    have h1 : 2 ^ k * (3 * A + 1) ≤ 2 ^ ps.length * (3 * A + 1) := Nat.mul_le_mul_right _ (Nat.pow_le_pow_right (by omega) (by omega))
    exact ⟨Sqs.of fun i => Sq.of (h8 i) (by omega), Sqs.of fun i => Sq.of (h9 i) (by omega), z, by omega, h8⟩
end Go.Proofs.YteldjhhjnchdeaaGreatDoor
namespace Go.Proofs.YteldjhhjnchdeaaGreatDoor
open Go.RowKit Go.Shelf

/-! How great the numbers of a division are, over one denominator. -/
section
variable {D E l : Int} {K A : Nat} {ps qs : List Rat}
/-- What a division needs: p over D, q over E with the highest coefficient l. -/
structure Dvn (D E l : Int) (K A : Nat) (ps qs : List Rat) : Prop where
  hD : D ≠ 0
  sD : Sm K D
  hp : CDL D K ps
  hE : E ≠ 0
  sE : Sm A E
  hq : CDL E A qs
  hl : l ≠ 0
  sl : Sm A l
  lead : cf qs (qs.length - 1) = Rat.divInt l E
theorem Dvn.lne (h : Dvn D E l K A ps qs) : cf qs (qs.length - 1) ≠ 0 := by
  rw [h.lead]
  intro e
  have hE : (E : Rat) ≠ 0 := by exact_mod_cast h.hE
  have h1 : (l : Rat) / (E : Rat) * (E : Rat) = l := Rat.div_mul_cancel hE
  rw [← Rat.divInt_eq_div, e, Rat.zero_mul] at h1
  exact h.hl (by exact_mod_cast h1.symm)
theorem Dvn.sq (h : Dvn D E l K A ps qs) (i : Nat) : SmQ A (cf qs i) := (h.hq i).smq h.hE h.sE
theorem Dvn.den (h : Dvn D E l K A ps qs) (k : Nat) : D * l ^ k ≠ 0 ∧ Sm (K + k * (A + 1) + 1) (D * l ^ k) := by
  refine ⟨Int.mul_ne_zero h.hD (Int.pow_ne_zero h.hl), (h.sD.mul (h.sl.powZ k)).mono ?_⟩
  rw [Nat.mul_add]
  omega
theorem Dvn.at {m : Nat} (h : Dvn D E l K A ps qs) (k : Nat) : (∀ i, SmQ (K + k * (A + 1) + 1) (cf (splitAt ps qs (qs.length - 1) m k).2 i)) ∧ ∀ i, SmQ (K + k * (A + 1) + 1) (cf (splitAt ps qs (qs.length - 1) m k).1 i) := by
  have h1 := splitAt_cd (m := m) h.hD h.hp h.hE h.sE h.hq h.hl h.sl h.lead h.lne k
  have h2 := h.den k
  exact ⟨fun i => ((h1.1 i).mono (by omega)).smq h2.1 h2.2, fun i => ((h1.2 i).mono (by omega)).smq h2.1 h2.2⟩
theorem Dvn.sizes {m : Nat} (h : Dvn D E l K A ps qs) (hb : 2 * (K + m * (A + 1) + 1) + 2 * (2 * A + 1) ≤ 1000000) : ∀ k, k ≤ m → ∃ z, z + (2 * A + 1) ≤ 1000000 ∧ (k < m → 2 * z + 2 * (2 * A + 1) ≤ 1000000) ∧ (∀ i, SmQ z (cf (splitAt ps qs (qs.length - 1) m k).2 i)) ∧ ∀ i, SmQ (z + A) (cf (splitAt ps qs (qs.length - 1) m k).1 i) := by
  intro k hk
  have h1 : k * (A + 1) ≤ m * (A + 1) := Nat.mul_le_mul_right _ hk
  exact ⟨K + k * (A + 1) + 1, by omega, fun _ => by omega, (h.at k).1, fun i => ((h.at k).2 i).mono (by omega)⟩
theorem Dvn.rem (h : Dvn D E l K A ps qs) {m : Nat} (hm : ps.length - (qs.length - 1) = m) : CDL (D * l ^ m) (K + m * (A + 1)) (remQ ps qs) ∧ CDL (D * l ^ m) (K + m * (A + 1)) (quoQ ps qs) := by
  have h1 := splitAt_cd (m := m) h.hD h.hp h.hE h.sE h.hq h.hl h.sl h.lead h.lne m
  refine ⟨fun i => ?_, fun i => ?_⟩
  · unfold remQ; rw [cf_trim, hm]; exact h1.1 i
  · unfold quoQ; rw [cf_trim, hm]; exact h1.2 i
/-- The same for the reference's way. -/
theorem Dvn.divS (h : Dvn D E l K A ps qs) (la : Nat) (hb : K + la * (A + 1) + 1 + (2 * A + 1) ≤ 1000000) : DivS A la (fun k R Q => CDL (D * l ^ k) (K + k * (A + 1)) R ∧ CDL (D * l ^ k) (K + k * (A + 1)) Q) qs := by
  refine ⟨?_, ?_⟩
  · rintro k R Q n a ⟨h1, h2⟩ _ _ _ ha hcR hcQ
    have hDk : D * l ^ k ≠ 0 := (h.den k).1
    have e : D * l ^ (k + 1) = D * l ^ k * l := by rw [Int.pow_succ, Int.mul_assoc]
    rw [e]
    have hDl : D * l ^ k * l ≠ 0 := Int.mul_ne_zero hDk h.hl
    obtain ⟨r, er, hr⟩ := h1 (R.length - 1)
    have ec : a = Rat.divInt (r * E) (D * l ^ k * l) := by
      rw [ha]
      have e2 : cf R (R.length - 1) = Rat.divInt (r * E) (D * l ^ k * l) * cf qs (qs.length - 1) := by
        rw [h.lead, Rat.divInt_mul_divInt, er, show r * E * l = r * (E * l) from Int.mul_assoc _ _ _, show D * l ^ k * l * E = D * l ^ k * (E * l) by rw [Int.mul_assoc (D * l ^ k), Int.mul_comm l E], Rat.divInt_mul_right (Int.mul_ne_zero h.hE h.hl)]
      rw [e2, Rat.mul_div_cancel h.lne]
    have hcd : CD (D * l ^ k * l) (K + (k + 1) * (A + 1)) a := ⟨r * E, ec, (hr.mul h.sE).mono (by rw [Nat.add_mul]; omega)⟩
    have hcq : ∀ j, CD (D * l ^ k * l) (K + k * (A + 1) + A) (a * cf qs j) := fun j => by
      obtain ⟨x, ex, hx⟩ := h.hq j
      refine ⟨r * x, ?_, hr.mul hx⟩
      rw [ec, ex, Rat.divInt_mul_divInt, show r * E * x = r * x * E by rw [Int.mul_assoc, Int.mul_comm E x, Int.mul_assoc], Rat.divInt_mul_right h.hE]
    refine ⟨fun i => ?_, fun i => ?_⟩
    · rw [hcR]
      split
      · rw [Rat.sub_eq_add_neg]
        exact (((h1 i).wide h.sl h.hl).add (cd_neg (hcq _)) hDl).mono (by rw [Nat.add_mul]; omega)
      · rw [Rat.sub_eq_add_neg, Rat.neg_zero, Rat.add_zero]; exact ((h1 i).wide h.sl h.hl).mono (by rw [Nat.add_mul]; omega)
    · rw [hcQ]
      split
      · exact hcd
      · exact ((h2 i).wide h.sl h.hl).mono (by rw [Nat.add_mul]; omega)
  · rintro k R Q hk ⟨h1, h2⟩
    have h3 : k * (A + 1) ≤ la * (A + 1) := Nat.mul_le_mul_right _ hk
    have h4 := h.den k
    exact ⟨Sqs.of fun i => Sq.of (((h1 i).mono (by omega)).smq h4.1 h4.2) (by omega), Sqs.of fun i => Sq.of (((h2 i).mono (by omega)).smq h4.1 h4.2) (by omega), K + k * (A + 1) + 1, by omega, fun i => ((h1 i).mono (by omega)).smq h4.1 h4.2⟩
theorem Dvn.start (h : Dvn D E l K A ps qs) : CDL (D * l ^ 0) (K + 0 * (A + 1)) ps ∧ CDL (D * l ^ 0) (K + 0 * (A + 1)) [] := by
  rw [Int.pow_zero, Int.mul_one]
  exact ⟨fun i => (h.hp i).mono (by omega), fun i => by rw [cf_nil]; exact CD.zero _ _⟩
end
/-- Whole coefficients of at most A words. -/
def Whl (A : Nat) (p : List Rat) : Prop := ∀ i, ∃ z : Int, Sm A z ∧ cf p i = (z : Rat)
theorem Whl.cdl {A : Nat} {p : List Rat} (h : Whl A p) : CDL 1 A p := fun i => by
  obtain ⟨z, h1, h2⟩ := h i
  exact mul_cd (by decide) h1 (by rw [h2]; grind)
theorem Whl.mono {A B : Nat} {p : List Rat} (h : Whl A p) (hb : A ≤ B) : Whl B p := fun i => by
  obtain ⟨z, h1, h2⟩ := h i
  exact ⟨z, h1.mono hb, h2⟩
theorem Whl.ln {A : Nat} {p : List Rat} (h : Whl A p) : Ln A p := h.cdl.ln (by decide)
theorem Whl.smq {A : Nat} {p : List Rat} (h : Whl A p) (hA : 1 ≤ A) (i : Nat) : SmQ A (cf p i) := (h.cdl i).smq (by decide) (Sm.one A hA)
/-- Divided by the highest coefficient: over one denominator. -/
theorem mon_cd {A : Nat} {p : List Rat} (hp : trimQ p = p) (h0 : p ≠ []) (h : Ln A p) : ∃ E : Int, E ≠ 0 ∧ Sm A E ∧ CDL E A (monQ p) := by
  obtain ⟨c, hc, hz⟩ := h
  have hl := trim_last hp h0
  obtain ⟨E, h1, h2⟩ := hz (p.length - 1)
  have hE : E ≠ 0 := fun e => by
    rw [e] at h2
    exact mul_ne hl hc h2
  refine ⟨E, hE, h1, fun i => ?_⟩
  obtain ⟨z, h3, h4⟩ := hz i
  refine mul_cd hE h3 ?_
  unfold monQ
  rw [cf_scQ, ← h4, ← h2]
  have h5 : (1 / cf p (p.length - 1)) * cf p (p.length - 1) = 1 := Rat.div_mul_cancel hl
  grind
theorem Ln.sqs {A : Nat} {p : List Rat} (hp : trimQ p = p) (h : Ln A p) (hA1 : 1 ≤ A) : ∀ i, SmQ A (cf (monQ p) i) := by
  by_cases h0 : p = []
  · subst h0; intro i; rw [monQ_nil, cf_nil]; exact SmQ.zero _ hA1
  · obtain ⟨E, h1, h2, h3⟩ := mon_cd hp h0 h
    exact fun i => (h3 i).smq h1 h2
end Go.Proofs.YteldjhhjnchdeaaGreatDoor
namespace Go.Proofs.YteldjhhjnchdeaaGreatDoor

/-! The chain of remainders, as the code and as the reference make it. -/
theorem absQ_of (c : Rat) : absQ c = c ∨ absQ c = -c := by
  unfold absQ
  split
  · exact Or.inr rfl
  · exact Or.inl rfl
theorem absQ_ne {c : Rat} (h : c ≠ 0) : absQ c ≠ 0 := by
  rcases absQ_of c with e | e
  · rw [e]; exact h
  · rw [e]; intro e2; exact h (by rw [← Rat.neg_neg c, e2]; rfl)
theorem powQ_ne {c : Rat} (h : c ≠ 0) : ∀ n : Nat, c ^ n ≠ 0 := by
  intro n
  induction n with
  | zero => rw [Rat.pow_zero]; decide
  | succ n ih => rw [Rat.pow_succ]; exact mul_ne ih h
/-- p, multiplied so that its quotient by q is whole. -/
def widF (p q : List Rat) : Rat := absQ (cf q (q.length - 1)) ^ (p.length + 1 - q.length)
def widQ (p q : List Rat) : List Rat := scQ (widF p q) p
/-- What is left of p by q, with the other sign, in least numbers. -/
def lftQ (p q : List Rat) : List Rat := subQ [] (lstQ (remQ (widQ p q) q))
theorem lst_nil : lstQ [] = [] := rfl
theorem lst_trim (p : List Rat) : trimQ (lstQ p) = lstQ p := scQ_trim _ _
theorem lst_sc {p : List Rat} (hp : trimQ p = p) : ∃ c : Rat, 0 < c ∧ lstQ p = scQ c p := by
  by_cases h0 : p = []
  · subst h0; exact ⟨1, by decide, rfl⟩
  · exact ⟨_, lst_pos hp h0, rfl⟩
theorem lst_whl {p : List Rat} (hp : trimQ p = p) {K : Nat} (h : Ln K p) : Whl K (lstQ p) := by
  by_cases h0 : p = []
  · subst h0; exact fun i => ⟨0, Sm.zero K, by rw [lst_nil, cf_nil]; rfl⟩
  · exact lst_ln hp h0 h
theorem widF_ne {p q : List Rat} (hq : trimQ q = q) (h0 : q ≠ []) : widF p q ≠ 0 := powQ_ne (absQ_ne (trim_last hq h0)) _
theorem lft_trim (p q : List Rat) : trimQ (lftQ p q) = lftQ p q := subQ_trim _ _
theorem lft_sc {p q : List Rat} (hq : trimQ q = q) (h0 : q ≠ []) : ∃ c : Rat, c ≠ 0 ∧ lftQ p q = scQ c (remQ p q) ∧ lftQ p q = scQ (-1) (lstQ (remQ (widQ p q) q)) := by
  have e1 : lftQ p q = scQ (-1) (lstQ (remQ (widQ p q) q)) := ev_eq (lft_trim _ _) (scQ_trim _ _) fun x => by
    unfold lftQ
    rw [ev_subQ, ev_scQ]
    simp [ev]
    grind
  have h1 := (rem_scale (c := widF p q) (d := 1) (by decide) p q hq h0).2
  rw [scQ_one hq] at h1
  obtain ⟨c, hc, e2⟩ := lst_sc (rem_trim (widQ p q) q)
  have hc0 : c ≠ 0 := fun e => by rw [e] at hc; exact absurd hc (by decide)
  refine ⟨widF p q * c * -1, mul_ne (mul_ne (widF_ne hq h0) hc0) (by decide), ?_, e1⟩
  rw [e1, e2]
  unfold widQ
  rw [h1, scQ_scQ, scQ_scQ, Rat.mul_assoc]
theorem lft_whl {p q : List Rat} (hq : trimQ q = q) (h0 : q ≠ []) {A : Nat} (h : Ln A (remQ p q)) : Whl A (lstQ (remQ (widQ p q) q)) ∧ Whl A (lftQ p q) := by
  have h1 := (rem_scale (c := widF p q) (d := 1) (by decide) p q hq h0).2
  rw [scQ_one hq] at h1
  have h2 : Whl A (lstQ (remQ (widQ p q) q)) := lst_whl (rem_trim _ _) (by unfold widQ; rw [h1]; exact h.sc (widF_ne hq h0))
  refine ⟨h2, fun i => ?_⟩
  obtain ⟨z, h3, h4⟩ := h2 i
  obtain ⟨_, _, _, e⟩ := lft_sc (p := p) hq h0
  exact ⟨-z, h3.neg, by rw [e, cf_scQ, h4, Rat.intCast_neg]; grind⟩
theorem Whl.nil (A : Nat) : Whl A [] := fun i => ⟨0, Sm.zero A, by rw [cf_nil]; rfl⟩
/-- The code's chain from p and q has come to a and b. -/
structure Chn (p q : List Rat) (A : Nat) (a b : List Rat) : Prop where
  ta : trimQ a = a
  tb : trimQ b = b
  wa : Whl A a
  wb : Whl A b
  gc : gcdQ a b = gcdQ p q
  la : a.length ≤ max p.length q.length
  lb : b.length ≤ q.length
  nx : b ≠ [] → Ln A (remQ a b)
  eu : Eu (lstQ p) (lstQ q) a b
def ChA (K : Nat) (p q : List Rat) : Nat := (K + 1) * (p.length + q.length + 1)
theorem ChA_ge (K : Nat) (p q : List Rat) : K + 1 ≤ ChA K p q := by
  unfold ChA
  have : (K + 1) * 1 ≤ (K + 1) * (p.length + q.length + 1) := Nat.mul_le_mul_left _ (by omega)
  omega
theorem ChA_le (K : Nat) (p q : List Rat) : (K + 1) * (p.length + q.length) ≤ ChA K p q := Nat.mul_le_mul_left _ (by omega)
theorem lstQ_length {p : List Rat} (hp : trimQ p = p) : (lstQ p).length = p.length := by
  obtain ⟨c, hc, e⟩ := lst_sc hp
  rw [e]
  exact scQ_length (fun e2 => by rw [e2] at hc; exact absurd hc (by decide)) hp
theorem gcd_lst {p q : List Rat} (hp : trimQ p = p) (hq : trimQ q = q) : gcdQ (lstQ p) (lstQ q) = gcdQ p q := by
  obtain ⟨c, hc, e⟩ := lst_sc hp
  obtain ⟨d, hd, e2⟩ := lst_sc hq
  rw [e, e2]
  exact gcdQ_sc (fun e3 => by rw [e3] at hc; exact absurd hc (by decide)) (fun e3 => by rw [e3] at hd; exact absurd hd (by decide)) hp hq
section
variable {K : Nat} {p q a b : List Rat}
theorem Chn.ln_rem (hp : trimQ p = p) (hq : trimQ q = q) (h1 : Ln K p) (h2 : Ln K q) (hl : p.length + q.length ≤ 1000000) (h : Eu (lstQ p) (lstQ q) a b) (hb : b ≠ []) : Ln (ChA K p q) (remQ a b) := by
  have h3 := chain_ln (lst_trim p) (lst_trim q) (lst_whl hp h1).ln (lst_whl hq h2).ln (by rw [lstQ_length hp, lstQ_length hq]; exact hl) h hb
  rw [lstQ_length hp, lstQ_length hq] at h3
  exact h3.mono (ChA_le _ _ _)
theorem Chn.start (hp : trimQ p = p) (hq : trimQ q = q) (h1 : Ln K p) (h2 : Ln K q) (hl : p.length + q.length ≤ 1000000) : Chn p q (ChA K p q) (lstQ p) (lstQ q) where
  ta := lst_trim p
  tb := lst_trim q
  wa := (lst_whl hp h1).mono (by have := ChA_ge K p q; omega)
  wb := (lst_whl hq h2).mono (by have := ChA_ge K p q; omega)
  gc := gcd_lst hp hq
  la := by rw [lstQ_length hp]; exact Nat.le_max_left _ _
  lb := by rw [lstQ_length hq]; exact Nat.le_refl _
  nx := Chn.ln_rem hp hq h1 h2 hl (.base _ _)
  eu := .base _ _
theorem Chn.next (hp : trimQ p = p) (hq : trimQ q = q) (h1 : Ln K p) (h2 : Ln K q) (hl : p.length + q.length ≤ 1000000) (h : Chn p q (ChA K p q) a b) (hb : b ≠ []) : Chn p q (ChA K p q) b (lftQ a b) := by
  obtain ⟨c, hc, e, _⟩ := lft_sc (p := a) h.tb hb
  have heu : Eu (lstQ p) (lstQ q) b (lftQ a b) := by rw [e]; exact h.eu.tail hb hc
  have hlen : (lftQ a b).length < b.length := by
    rw [e, scQ_length hc (rem_trim _ _)]
    exact (split_ok a b h.tb hb).2.1
  have hlb := h.lb
  exact ⟨h.tb, lft_trim _ _, h.wb, (lft_whl h.tb hb (h.nx hb)).2, by rw [← heu.gcd (lst_trim p) (lst_trim q)]; exact gcd_lst hp hq, by omega, by omega, Chn.ln_rem hp hq h1 h2 hl heu, heu⟩
end
theorem lft_shorter {a b : List Rat} (hb : trimQ b = b) (h0 : b ≠ []) : (lftQ a b).length < b.length := by
  obtain ⟨c, hc, e, _⟩ := lft_sc (p := a) hb h0
  rw [e, scQ_length hc (rem_trim _ _)]
  exact (split_ok a b hb h0).2.1

/-- The reference's chain from p and q has come to a and b. -/
structure Rhn (p q : List Rat) (A : Nat) (a b : List Rat) : Prop where
  ta : trimQ a = a
  tb : trimQ b = b
  ca : ∃ D : Int, D ≠ 0 ∧ Sm A D ∧ CDL D A a
  cb : ∃ E : Int, E ≠ 0 ∧ Sm A E ∧ CDL E A b
  mb : b ≠ [] → cf b (b.length - 1) = 1
  ma : monQ a = a
  gc : gcdQ a b = gcdQ p q
  la : a.length ≤ max p.length q.length
  lb : b.length ≤ q.length
  nx : b ≠ [] → Ln A (remQ a b)
  eu : Eu (monQ p) (monQ q) a b
theorem cd_nil {A : Nat} (hA : 1 ≤ A) : ∃ D : Int, D ≠ 0 ∧ Sm A D ∧ CDL D A [] := ⟨1, by decide, Sm.one A hA, fun i => by rw [cf_nil]; exact CD.zero _ _⟩
theorem mon_cd' {A : Nat} {p : List Rat} (hp : trimQ p = p) (h : Ln A p) (hA : 1 ≤ A) : ∃ E : Int, E ≠ 0 ∧ Sm A E ∧ CDL E A (monQ p) := by
  by_cases h0 : p = []
  · subst h0; exact cd_nil hA
  · exact mon_cd hp h0 h
theorem mon_ln {K : Nat} {p : List Rat} (hp : trimQ p = p) (h : Ln K p) : Ln K (monQ p) := by
  by_cases h0 : p = []
  · subst h0; exact h
  · exact h.sc (inv_ne (trim_last hp h0))
theorem mon_lead' {p : List Rat} (hp : trimQ p = p) (h : monQ p ≠ []) : cf (monQ p) ((monQ p).length - 1) = 1 := monQ_lead hp (fun e => h (by rw [e]; rfl))
section
variable {K : Nat} {p q a b : List Rat}
theorem Rhn.ln_rem (hp : trimQ p = p) (hq : trimQ q = q) (h1 : Ln K p) (h2 : Ln K q) (hl : p.length + q.length ≤ 1000000) (h : Eu (monQ p) (monQ q) a b) (hb : b ≠ []) : Ln (ChA K p q) (remQ a b) := by
  have h3 := chain_ln (monQ_trim p) (monQ_trim q) (mon_ln hp h1) (mon_ln hq h2) (by rw [monQ_length hp, monQ_length hq]; exact hl) h hb
  rw [monQ_length hp, monQ_length hq] at h3
  exact h3.mono (ChA_le _ _ _)
theorem Rhn.start (hp : trimQ p = p) (hq : trimQ q = q) (h1 : Ln K p) (h2 : Ln K q) (hl : p.length + q.length ≤ 1000000) : Rhn p q (ChA K p q) (monQ p) (monQ q) where
  ta := monQ_trim p
  tb := monQ_trim q
  ca := mon_cd' hp (h1.mono (by have := ChA_ge K p q; omega)) (by have := ChA_ge K p q; omega)
  cb := mon_cd' hq (h2.mono (by have := ChA_ge K p q; omega)) (by have := ChA_ge K p q; omega)
  mb := mon_lead' hq
  ma := monQ_mon hp
  gc := gcdQ_mon p q hp hq
  la := by rw [monQ_length hp]; exact Nat.le_max_left _ _
  lb := by rw [monQ_length hq]; exact Nat.le_refl _
  nx := Rhn.ln_rem hp hq h1 h2 hl (.base _ _)
  eu := .base _ _
theorem Rhn.next (hp : trimQ p = p) (hq : trimQ q = q) (h1 : Ln K p) (h2 : Ln K q) (hl : p.length + q.length ≤ 1000000) (h : Rhn p q (ChA K p q) a b) (hb : b ≠ []) : Rhn p q (ChA K p q) b (monQ (remQ a b)) := by
  have hr := rem_trim a b
  have heu : Eu (monQ p) (monQ q) b (monQ (remQ a b)) := by
    by_cases h0 : remQ a b = []
    · have := h.eu.tail (c := 1) hb (by decide)
      rw [h0] at this ⊢
      exact this
    · exact h.eu.tail hb (inv_ne (trim_last hr h0))
  have hlen : (monQ (remQ a b)).length < b.length := by
    rw [monQ_length hr]
    exact (split_ok a b h.tb hb).2.1
  have hlb := h.lb
  refine ⟨h.tb, monQ_trim _, h.cb, mon_cd' hr (h.nx hb) (by have := ChA_ge K p q; omega), mon_lead' hr, ?_, by rw [← heu.gcd (monQ_trim p) (monQ_trim q)]; exact gcdQ_mon p q hp hq, by omega, by omega, Rhn.ln_rem hp hq h1 h2 hl heu, heu⟩
  unfold monQ
  rw [h.mb hb, show (1 : Rat) / 1 = 1 by grind]
  exact scQ_one h.tb
end
end Go.Proofs.YteldjhhjnchdeaaGreatDoor
namespace Go.Proofs.YteldjhhjnchdeaaGreatDoor
open Go.RowKit Go.Shelf

theorem cmpQ_neg (q : Rat) : cmpQ q 0 < 0 ↔ q < 0 := by
  rw [Rat.lt_iff]
  unfold cmpQ cmpI
  split <;> (try split) <;> omega
theorem lcm_mul (a b : Nat) : (a : Int) * ((b : Int) / ((Int.gcd a b : Nat) : Int)) = ((Nat.lcm a b : Nat) : Int) := by
  show (a : Int) * ((b : Int) / ((Nat.gcd a b : Nat) : Int)) = _
  rw [← Int.natCast_ediv, ← Int.natCast_mul]
  congr 1
  rw [Nat.lcm, Nat.mul_div_assoc _ (Nat.gcd_dvd_right a b)]
theorem cfI_nat (ps : List Rat) (i : Nat) : (if ((i : Nat) : Int) < 0 then (0 : Rat) else cf ps ((i : Nat) : Int).toNat) = cf ps i := by
  rw [if_neg (by omega), Int.toNat_natCast]
/-- Where something is divided by something. -/
theorem ySplit_n (A : Nat) (va vb : Value) (ps qs : List Rat) (w : World) (ha : IsPoly w va ps) (hb : IsPoly w vb qs) (hs : Sqs ps) (hq : ∀ i, SmQ A (cf qs i)) (htp : trimQ ps = ps) (htq : trimQ qs = qs) (h0 : qs ≠ [])
    (hL : ∀ k, k ≤ ps.length - (qs.length - 1) → ∃ z, z + (2 * A + 1) ≤ 1000000 ∧ (k < ps.length - (qs.length - 1) → 2 * z + 2 * (2 * A + 1) ≤ 1000000) ∧ (∀ i, SmQ z (cf (splitAt ps qs (qs.length - 1) (ps.length - (qs.length - 1)) k).2 i)) ∧ ∀ i, SmQ (z + A) (cf (splitAt ps qs (qs.length - 1) (ps.length - (qs.length - 1)) k).1 i)) :
    Calls Tryz.prog 22 #[va, vb] w fun e w' => ∃ u v, e = .returned (.tuple #[u, v, .bool true]) ∧ IsPoly w' u (quoQ ps qs) ∧ IsPoly w' v (remQ ps qs) ∧ Below w.heap.size w w' := by
  have h := M3.ySplit_g A va vb ps qs w ha hb hs hq htp htq (fun _ => hL)
  rw [decide_eq_true h0, if_neg h0, if_neg h0] at h
  exact h
end Go.Proofs.YteldjhhjnchdeaaGreatDoor
namespace Go.Proofs.YteldjhhjnchdeaaGreatDoor.M3
open Go.RowKit Go.Shelf
theorem make_rats0 (n : Nat) (h : n ≤ 2199023255552) (w : World) : (Instr.makeSlice 22 (.int .i64 (n : Int)) (.int .i64 (n : Int))).run Tryz.prog w = .ok (.slice (some ⟨w.heap.size, 0, none⟩) n n) (w.alloc (.cells (zeroQ n) 65)) := by
  obtain ⟨i, hi, hzz⟩ := Option.map_eq_some_iff.1 Tryz.infoRat
  simp only [Prod.mk.injEq] at hzz
  obtain ⟨hz, hs, hb⟩ := hzz
  have hr := run_make (P := Tryz.prog) w 22 65 i _ Tryz.underlying22 hi hz .i64 .i64 n n (by omega) (Int.le_refl _) (by rw [hb]; omega) (by omega)
  simp only [Int.toNat_natCast, hs] at hr
  exact hr
theorem poly0 (V : World) : Has V (.agg #[.slice Option.none 0 0]) (.poly []) := ⟨_, rfl, row_zero V Option.none⟩
theorem poly_zero (V : World) : IsPoly V (.agg #[.slice Option.none 0 0]) [] := ⟨_, rfl, row_zero V Option.none⟩
theorem Mem.poly2 {w V : World} {bs : List (Option (Nat × Dat))} (M : Mem w V bs) {i B : Nat} {ps : List Rat} (h : bs[i]? = some (some (B, .poly ps))) : ∃ a l c, Boxed V B 25 (.slice a l c) ∧ IsPoly V (.agg #[.slice a l c]) ps := by
  obtain ⟨a, l, c, h1, h2⟩ := M.poly h
  exact ⟨a, l, c, h1, _, rfl, h2⟩
theorem boxPoly {W : World} {B : Nat} {a : Option Addr} {l c : Nat} (b : Boxed W B 25 (.slice a l c)) {x v : Value} {qs : List Rat} (h : IsPoly W v qs) : IsPoly (W.setCell ⟨B, 0, Option.none⟩ x) v qs := by
  obtain ⟨u, e, h⟩ := h
  exact ⟨u, e, boxP b x h⟩
theorem Has.set1 {V : World} {v : Value} {d : Dat} (h : Has V v d) {B : Nat} {a : Option Addr} {l c : Nat} (q : Boxed V B 25 (.slice a l c)) (n0 : noInt (.slice a l c) = true) (x' : Value) : Has (V.setCell ⟨B, 0, Option.none⟩ x') v d :=
  h.keep (keep1 q n0 x') (Or.inr fun _ _ g => boxP q x' g)
theorem Tup2.set1 {V : World} {v : Value} {d1 d2 : Dat} (h : Tup2 V v d1 d2) {B : Nat} {a : Option Addr} {l c : Nat} (q : Boxed V B 25 (.slice a l c)) (n0 : noInt (.slice a l c) = true) (x' : Value) : Tup2 (V.setCell ⟨B, 0, Option.none⟩ x') v d1 d2 := by
  obtain ⟨u1, u2, e, h1, h2⟩ := h
  exact ⟨u1, u2, e, h1.set1 q n0 x', h2.set1 q n0 x'⟩
end Go.Proofs.YteldjhhjnchdeaaGreatDoor.M3
namespace Go.Proofs.YteldjhhjnchdeaaGreatDoor.M3
open Go.RowKit Go.Shelf

attribute [local go_sem] Oper.semAt_some

set_option maxRecDepth 100000 in
set_option maxHeartbeats 8000000 in
theorem csize_c (va : Value) (q : Rat) (w : World) (ha : IsRat w va q) (hsq : Sq q) :
    Calls Tryz.prog 129 #[va] w fun e w' => ∃ u, e = .returned u ∧ IsRat w' u (absQ q) ∧ Below w.heap.size w w' := by
  obtain ⟨s900, a900, l900, c900, t900, b900, k900, d900, rfl⟩ := IsRat.form ha
  have M0 := (((Mem.nil w).push (.rat (q)) ha).push (.rat 0) (rat0 _))
  simp only [World.size_alloc] at M0
  have M0 : Mem w ((w.alloc (.cells #[.bool s900, .slice a900 l900 c900, .bool t900, .slice b900 k900 d900] 65)).alloc (.cells #[.bool false, .slice none 0 0, .bool false, .slice none 0 0] 65)) [some (w.heap.size, .rat (q)), some (w.heap.size + 1, .rat (0))] := M0
  obtain ⟨W0, hW0⟩ : ∃ W0, (w.alloc (.cells #[.bool s900, .slice a900 l900 c900, .bool t900, .slice b900 k900 d900] 65)).alloc (.cells #[.bool false, .slice none 0 0, .bool false, .slice none 0 0] 65) = W0 := ⟨_, rfl⟩
  have HW0 := hidD hW0
  rw [hW0] at M0
  have M1 : Hid (Mem w W0 [some (w.heap.size, .rat (q)), some (w.heap.size + 1, .rat (0))]) := hidD M0
  have HHSQ := hidD hsq
  clear M0 hW0 ha hsq
  go_enter Tryz.func129, Tryz.ntmps129
  go_upto_region 1 with fail
  rw [HW0.out]
  clear HW0
  obtain ⟨s1, a1, l1, c1, t1, b1, k1, d1, n1, r1, i1, j1⟩ := M1.out.rat (i := 0) rfl
  have e1a := n1.c0
  have e1b := n1.c1
  have e1c := n1.c2
  have e1d := n1.c3
  obtain ⟨s2, a2, l2, c2, t2, b2, k2, d2, n2, r2, i2, j2⟩ := M1.out.rat (i := 1) rfl
  have e2a := n2.c0
  have e2b := n2.c1
  have e2c := n2.c2
  have e2d := n2.c3
  have f2a := n2.f0
  have f2b := n2.f1
  have f2c := n2.f2
  have f2d := n2.f3
  have H1 := hidD (qorder_c _ _ q 0 W0 r1 (rat0 _) HHSQ.out sq0)
  have H2 := hidD (fun (V : World) (h : Below W0.heap.size W0 V) => qminus_c _ _ 0 q V (rat0 _) (r1.below h) sq0 HHSQ.out)
  have HR := hidD r1
  obtain ⟨n, hn⟩ : ∃ n, cmpQ q 0 = n := ⟨_, rfl⟩
  rw [hn] at H1
  have HN := hidD hn
  clear hn r1 i1 j1
  by_cases hlt : n < 0
  · have HA := hidD (show 0 - q = absQ q by
        have h1 := (cmpQ_neg q).1 (by rw [HN.out]; exact hlt)
        unfold absQ
        rw [if_pos h1]
        grind)
    rw [HA.out] at H2
    go_wp2_with (first
      | (go_at_call 68; refine H1.out.mono ?_; clear H1; rintro e w1 ⟨rfl, hq⟩; clear e1a e1b e1c e1d; have e1a := (n1.below hq).c0; have e1b := (n1.below hq).c1; have e1c := (n1.below hq).c2; have e1d := (n1.below hq).c3; clear e2a e2b e2c e2d; have e2a := (n2.below hq).c0; have e2b := (n2.below hq).c1; have e2c := (n2.below hq).c2; have e2d := (n2.below hq).c3; clear f2a f2b f2c f2d; have f2a := (n2.below hq).f0; have f2b := (n2.below hq).f1; have f2c := (n2.below hq).f2; have f2d := (n2.below hq).f3)
      | (go_at_call 51; refine (H2.out _ hq).mono ?_; clear H2; rintro e w2 ⟨u2, rfl, hu2, hb2⟩; obtain ⟨s91, a91, l91, c91, t91, b91, k91, d91, rfl⟩ := IsRat.form hu2; have hq := Below.then hq hb2; clear e1a e1b e1c e1d; have e1a := (n1.below hq).c0; have e1b := (n1.below hq).c1; have e1c := (n1.below hq).c2; have e1d := (n1.below hq).c3; clear e2a e2b e2c e2d; have e2a := (n2.below hq).c0; have e2b := (n2.below hq).c1; have e2c := (n2.below hq).c2; have e2d := (n2.below hq).c3; clear f2a f2b f2c f2d; have f2a := (n2.below hq).f0; have f2b := (n2.below hq).f1; have f2c := (n2.below hq).f2; have f2d := (n2.below hq).f3))
    have hq2 := M1.out.2.2.trans (hq.mono M1.out.2.2.size)
    have hge := M1.out.ge 1 rfl
    exact bodyPost_ret (v := .agg #[.bool s91, .slice a91 l91 c91, .bool t91, .slice b91 k91 d91]) (by simp [results, Tryz.results129, go_sem, e2a, e2b, e2c, e2d]) rfl ⟨_, rfl, hu2.put4 (n2.below hq) rfl rfl rfl rfl _ _ _ _, below_put4 hq2 hge _ _ _ _⟩
  · have HA := hidD (show absQ q = q by
        have h1 : ¬ q < 0 := fun h => hlt (by rw [← HN.out]; exact (cmpQ_neg q).2 h)
        unfold absQ
        rw [if_neg h1])
    go_wp2_with (go_at_call 68; refine H1.out.mono ?_; clear H1; rintro e w1 ⟨rfl, hq⟩; clear e1a e1b e1c e1d; have e1a := (n1.below hq).c0; have e1b := (n1.below hq).c1; have e1c := (n1.below hq).c2; have e1d := (n1.below hq).c3; clear e2a e2b e2c e2d; have e2a := (n2.below hq).c0; have e2b := (n2.below hq).c1; have e2c := (n2.below hq).c2; have e2d := (n2.below hq).c3; clear f2a f2b f2c f2d; have f2a := (n2.below hq).f0; have f2b := (n2.below hq).f1; have f2c := (n2.below hq).f2; have f2d := (n2.below hq).f3)
    have hu2 := HR.out.below hq
    rw [← HA.out] at hu2
    have hq2 := M1.out.2.2.trans (hq.mono M1.out.2.2.size)
    have hge := M1.out.ge 1 rfl
    exact bodyPost_ret (v := .agg #[.bool s1, .slice a1 l1 c1, .bool t1, .slice b1 k1 d1]) (by simp [results, Tryz.results129, go_sem, e2a, e2b, e2c, e2d]) rfl ⟨_, rfl, hu2.put4 (n2.below hq) rfl rfl rfl rfl _ _ _ _, below_put4 hq2 hge _ _ _ _⟩

set_option maxRecDepth 100000 in
set_option maxHeartbeats 8000000 in
theorem cmultiple_c (va vb : Value) (x y : Nat) (w : World) (ha : IsInt w va (x : Int)) (hb : IsInt w vb (y : Int)) (hx : 0 < x) (hsx : Sok (x : Int)) (hsy : Sok (y : Int)) :
    Calls Tryz.prog 97 #[va, vb] w fun e w' => ∃ u, e = .returned u ∧ IsInt w' u ((Nat.lcm x y : Nat) : Int) ∧ Below w.heap.size w w' := by
  have hmx : Tryz.prog.follows .mixedOrders = true := by kernel_rfl
  have HG := hidD (show ((Int.gcd x y : Nat) : Int) ≠ 0 by have := Nat.gcd_pos_of_pos_left y hx; exact Int.natCast_ne_zero.2 (by show Nat.gcd x y ≠ 0; omega))
  obtain ⟨s900, a900, l900, c900, rfl⟩ := IsInt.form2 ha
  obtain ⟨s901, a901, l901, c901, rfl⟩ := IsInt.form2 hb
  have M0 := ((((Mem.nil w).push (.int ((x : Int))) ha).push (.int ((y : Int))) (Has.alloc (d := .int ((y : Int))) hb _)).push (.int 0) (int0 _))
  simp only [World.size_alloc] at M0
  have M0 : Mem w (((w.alloc (.cells #[.bool s900, .slice a900 l900 c900] 63)).alloc (.cells #[.bool s901, .slice a901 l901 c901] 63)).alloc (.cells #[.bool false, .slice none 0 0] 63)) [some (w.heap.size, .int ((x : Int))), some (w.heap.size + 1, .int ((y : Int))), some (w.heap.size + 1 + 1, .int (0))] := M0
  obtain ⟨W0, hW0⟩ : ∃ W0, ((w.alloc (.cells #[.bool s900, .slice a900 l900 c900] 63)).alloc (.cells #[.bool s901, .slice a901 l901 c901] 63)).alloc (.cells #[.bool false, .slice none 0 0] 63) = W0 := ⟨_, rfl⟩
  have HW0 := hidD hW0
  rw [hW0] at M0
  have M1 : Hid (Mem w W0 [some (w.heap.size, .int ((x : Int))), some (w.heap.size + 1, .int ((y : Int))), some (w.heap.size + 1 + 1, .int (0))]) := hidD M0
  have HHSX := hidD hsx
  have HHSY := hidD hsy
  clear M0 hW0 ha hb hsx hsy
  go_enter Tryz.func97, Tryz.ntmps97
  go_upto_region 1 with fail
  rw [HW0.out]
  clear HW0
  clear hx
  refine wp_region_tab hmx [[], [], [], [1, 2], [0, 3, 3], [4], [5], [5], [5], [], [], [9, 6, 4, 0, 1, 2, 3, 4, 5, 6, 9, 10], [10, 7, 11, 0, 1, 2, 3, 4, 5, 6, 7, 9, 10, 11], [8, 12, 0, 1, 2, 3, 4, 5, 6, 7, 8, 9, 10, 11, 12]] (by kernel_rfl) (by decide)
    (fun D act V => ∃ (t9x t10x t11x t12x t13x t8x t14x t15x t16x t5x t6x t7x : Value) (x9 x10 : Option (Nat × Dat)), act = { tmps := #[Value.agg #[Value.bool s900, Value.slice a900 l900 c900], Value.agg #[Value.bool s901, Value.slice a901 l901 c901], Value.pointer (some { block := w.heap.size, off := 0 }), Value.pointer (some { block := w.heap.size + 1, off := 0 }), Value.pointer (some { block := w.heap.size + 1 + 1, off := 0 }), t5x, t6x, t7x, t8x, t9x, t10x, t11x, t12x, t13x, t14x, t15x, t16x, undef, undef, undef], defers := [] } ∧ Hid ((D 0 = true → Has V t9x (.int ((y : Int)))) ∧ (D 1 = true → Has V t10x (.int ((x : Int)))) ∧ (D 2 = true → Has V t11x (.int ((y : Int)))) ∧ (D 3 = true → Has V t12x (.int (((Int.gcd x y : Nat) : Int)))) ∧ (D 4 = true → Tup2 V t13x (.int ((y : Int) / ((Int.gcd x y : Nat) : Int))) (.int ((y : Int) % ((Int.gcd x y : Nat) : Int)))) ∧ (D 5 = true → Tup2 V t8x (.int ((y : Int) / ((Int.gcd x y : Nat) : Int))) (.int ((y : Int) % ((Int.gcd x y : Nat) : Int)))) ∧ (D 6 = true → Has V t14x (.int ((y : Int) / ((Int.gcd x y : Nat) : Int)))) ∧ (D 7 = true → Has V t15x (.int ((y : Int) % ((Int.gcd x y : Nat) : Int)))) ∧ (D 8 = true → t16x = .bool true) ∧ ((D 9 = false → x9 = none) ∧ (D 9 = true → D 11 = false → ∃ B : Nat, t5x = .pointer (some ⟨B, 0, none⟩) ∧ x9 = some (B, .int 0)) ∧ (D 11 = true → ∃ B : Nat, t5x = .pointer (some ⟨B, 0, none⟩) ∧ x9 = some (B, .int ((y : Int) / ((Int.gcd x y : Nat) : Int))))) ∧ ((D 10 = false → x10 = none) ∧ (D 10 = true → D 12 = false → ∃ B : Nat, t6x = .pointer (some ⟨B, 0, none⟩) ∧ x10 = some (B, .int 0)) ∧ (D 12 = true → ∃ B : Nat, t6x = .pointer (some ⟨B, 0, none⟩) ∧ x10 = some (B, .int ((y : Int) % ((Int.gcd x y : Nat) : Int))))) ∧ (D 13 = true → t7x = .bool true)) ∧ Hid (Mem w V [some (w.heap.size, .int ((x : Int))), some (w.heap.size + 1, .int ((y : Int))), some (w.heap.size + 1 + 1, .int (0)), x9, x10]))
    ⟨_, _, _, _, _, _, _, _, _, _, _, _, none, none, rfl, hidD ⟨by simp, by simp, by simp, by simp, by simp, by simp, by simp, by simp, by simp, by simp, by simp, by simp⟩, hidD (((M1.out).none).none).drew⟩ ?step1 ?fin1
  case step1 =>
    rintro D act V i ds hcl hi hds hDi ⟨t9x, t10x, t11x, t12x, t13x, t8x, t14x, t15x, t16x, t5x, t6x, t7x, x9, x10, rfl, GG, MM⟩
    have hi6 : i < 14 := (List.getElem?_eq_some_iff.1 hi).1
    obtain rfl | rfl | rfl | rfl | rfl | rfl | rfl | rfl | rfl | rfl | rfl | rfl | rfl | rfl : i = 0 ∨ i = 1 ∨ i = 2 ∨ i = 3 ∨ i = 4 ∨ i = 5 ∨ i = 6 ∨ i = 7 ∨ i = 8 ∨ i = 9 ∨ i = 10 ∨ i = 11 ∨ i = 12 ∨ i = 13 := by omega
    all_goals
      simp only [List.getElem?_cons_zero, List.getElem?_cons_succ, Option.some.injEq] at hi
      subst hi
    · clear hds
      obtain ⟨s, a, l, c, n, i⟩ := MM.out.int (i := 1) rfl
      have e0 := n.c0
      have e1 := n.c1
      refine wpOp_go rfl rfl (fun K hK => ?_)
      go_simp
      exact hK _ _ ⟨_, _, _, _, _, _, _, _, _, _, _, _, _, _, rfl, hidD ⟨fun _ => i, GG.out.2.1, GG.out.2.2.1, GG.out.2.2.2.1, GG.out.2.2.2.2.1, GG.out.2.2.2.2.2.1, GG.out.2.2.2.2.2.2.1, GG.out.2.2.2.2.2.2.2.1, GG.out.2.2.2.2.2.2.2.2.1, GG.out.2.2.2.2.2.2.2.2.2.1, GG.out.2.2.2.2.2.2.2.2.2.2.1, GG.out.2.2.2.2.2.2.2.2.2.2.2⟩, hidD (MM.out)⟩
    · clear hds
      obtain ⟨s, a, l, c, n, i⟩ := MM.out.int (i := 0) rfl
      have e0 := n.c0
      have e1 := n.c1
      refine wpOp_go rfl rfl (fun K hK => ?_)
      go_simp
      exact hK _ _ ⟨_, _, _, _, _, _, _, _, _, _, _, _, _, _, rfl, hidD ⟨GG.out.1, fun _ => i, GG.out.2.2.1, GG.out.2.2.2.1, GG.out.2.2.2.2.1, GG.out.2.2.2.2.2.1, GG.out.2.2.2.2.2.2.1, GG.out.2.2.2.2.2.2.2.1, GG.out.2.2.2.2.2.2.2.2.1, GG.out.2.2.2.2.2.2.2.2.2.1, GG.out.2.2.2.2.2.2.2.2.2.2.1, GG.out.2.2.2.2.2.2.2.2.2.2.2⟩, hidD (MM.out)⟩
    · clear hds
      obtain ⟨s, a, l, c, n, i⟩ := MM.out.int (i := 1) rfl
      have e0 := n.c0
      have e1 := n.c1
      refine wpOp_go rfl rfl (fun K hK => ?_)
      go_simp
      exact hK _ _ ⟨_, _, _, _, _, _, _, _, _, _, _, _, _, _, rfl, hidD ⟨GG.out.1, GG.out.2.1, fun _ => i, GG.out.2.2.2.1, GG.out.2.2.2.2.1, GG.out.2.2.2.2.2.1, GG.out.2.2.2.2.2.2.1, GG.out.2.2.2.2.2.2.2.1, GG.out.2.2.2.2.2.2.2.2.1, GG.out.2.2.2.2.2.2.2.2.2.1, GG.out.2.2.2.2.2.2.2.2.2.2.1, GG.out.2.2.2.2.2.2.2.2.2.2.2⟩, hidD (MM.out)⟩
    · have h0 := (GG.out.2.1 (hds 1 (by simp)))
      have h1 := (GG.out.2.2.1 (hds 2 (by simp)))
      have HC := hidD (igcd_c _ _ (x : Int) (y : Int) V h0 h1 (by have := HHSX.out.words; omega) (by have := HHSY.out.words; omega))
      clear hds h0 h1
      refine wpOp_go rfl rfl (fun K hK => ?_)
      go_simp
      go_wp2_with (go_at_call 90; refine HC.out.mono ?_; rintro e w5 ⟨v5, rfl, hv5, hb5⟩)
      exact ⟨_, _, _, _, _, _, _, _, _, _, _, _, _, _, rfl, hidD ⟨fun h => (GG.out.1 h).below hb5, fun h => (GG.out.2.1 h).below hb5, fun h => (GG.out.2.2.1 h).below hb5, fun _ => hv5, fun h => (GG.out.2.2.2.2.1 h).below hb5, fun h => (GG.out.2.2.2.2.2.1 h).below hb5, fun h => (GG.out.2.2.2.2.2.2.1 h).below hb5, fun h => (GG.out.2.2.2.2.2.2.2.1 h).below hb5, GG.out.2.2.2.2.2.2.2.2.1, GG.out.2.2.2.2.2.2.2.2.2.1, GG.out.2.2.2.2.2.2.2.2.2.2.1, GG.out.2.2.2.2.2.2.2.2.2.2.2⟩, hidD (MM.out.below hb5)⟩
    · have h0 := (GG.out.1 (hds 0 (by simp)))
      have h1 := (GG.out.2.2.2.1 (hds 3 (by simp)))
      have HC := hidD (isplit_c _ _ (y : Int) ((Int.gcd x y : Nat) : Int) V h0 h1 HG.out (by have := HHSY.out.words; omega) (by have := (HHSX.out.gcd HHSY.out).words; omega))
      clear hds h0 h1
      refine wpOp_go rfl rfl (fun K hK => ?_)
      go_simp
      go_wp2_with (go_at_call 123; refine HC.out.mono ?_; rintro e w5 ⟨v5, v6, rfl, hv5, hv6, hb5⟩)
      exact ⟨_, _, _, _, _, _, _, _, _, _, _, _, _, _, rfl, hidD ⟨fun h => (GG.out.1 h).below hb5, fun h => (GG.out.2.1 h).below hb5, fun h => (GG.out.2.2.1 h).below hb5, fun h => (GG.out.2.2.2.1 h).below hb5, fun _ => ⟨v5, v6, rfl, hv5, hv6⟩, fun h => (GG.out.2.2.2.2.2.1 h).below hb5, fun h => (GG.out.2.2.2.2.2.2.1 h).below hb5, fun h => (GG.out.2.2.2.2.2.2.2.1 h).below hb5, GG.out.2.2.2.2.2.2.2.2.1, GG.out.2.2.2.2.2.2.2.2.2.1, GG.out.2.2.2.2.2.2.2.2.2.2.1, GG.out.2.2.2.2.2.2.2.2.2.2.2⟩, hidD (MM.out.below hb5)⟩
    · have h0 := (GG.out.2.2.2.2.1 (hds 4 (by simp)))
      clear hds
      refine wpOp_go rfl rfl (fun K hK => ?_)
      go_simp
      exact hK _ _ ⟨_, _, _, _, _, _, _, _, _, _, _, _, _, _, rfl, hidD ⟨GG.out.1, GG.out.2.1, GG.out.2.2.1, GG.out.2.2.2.1, GG.out.2.2.2.2.1, fun _ => h0, GG.out.2.2.2.2.2.2.1, GG.out.2.2.2.2.2.2.2.1, GG.out.2.2.2.2.2.2.2.2.1, GG.out.2.2.2.2.2.2.2.2.2.1, GG.out.2.2.2.2.2.2.2.2.2.2.1, GG.out.2.2.2.2.2.2.2.2.2.2.2⟩, hidD (MM.out)⟩
    · obtain ⟨y1, y2, rfl, h1, h2⟩ := (GG.out.2.2.2.2.2.1 (hds 5 (by simp)))
      clear hds
      refine wpOp_go rfl rfl (fun K hK => ?_)
      go_simp
      exact hK _ _ ⟨_, _, _, _, _, _, _, _, _, _, _, _, _, _, rfl, hidD ⟨GG.out.1, GG.out.2.1, GG.out.2.2.1, GG.out.2.2.2.1, GG.out.2.2.2.2.1, GG.out.2.2.2.2.2.1, fun _ => h1, GG.out.2.2.2.2.2.2.2.1, GG.out.2.2.2.2.2.2.2.2.1, GG.out.2.2.2.2.2.2.2.2.2.1, GG.out.2.2.2.2.2.2.2.2.2.2.1, GG.out.2.2.2.2.2.2.2.2.2.2.2⟩, hidD (MM.out)⟩
    · obtain ⟨y1, y2, rfl, h1, h2⟩ := (GG.out.2.2.2.2.2.1 (hds 5 (by simp)))
      clear hds
      refine wpOp_go rfl rfl (fun K hK => ?_)
      go_simp
      exact hK _ _ ⟨_, _, _, _, _, _, _, _, _, _, _, _, _, _, rfl, hidD ⟨GG.out.1, GG.out.2.1, GG.out.2.2.1, GG.out.2.2.2.1, GG.out.2.2.2.2.1, GG.out.2.2.2.2.2.1, GG.out.2.2.2.2.2.2.1, fun _ => h2, GG.out.2.2.2.2.2.2.2.2.1, GG.out.2.2.2.2.2.2.2.2.2.1, GG.out.2.2.2.2.2.2.2.2.2.2.1, GG.out.2.2.2.2.2.2.2.2.2.2.2⟩, hidD (MM.out)⟩
    · obtain ⟨y1, y2, rfl, h1, h2⟩ := (GG.out.2.2.2.2.2.1 (hds 5 (by simp)))
      clear hds
      refine wpOp_go rfl rfl (fun K hK => ?_)
      go_simp
      exact hK _ _ ⟨_, _, _, _, _, _, _, _, _, _, _, _, _, _, rfl, hidD ⟨GG.out.1, GG.out.2.1, GG.out.2.2.1, GG.out.2.2.2.1, GG.out.2.2.2.2.1, GG.out.2.2.2.2.2.1, GG.out.2.2.2.2.2.2.1, GG.out.2.2.2.2.2.2.2.1, fun _ => rfl, GG.out.2.2.2.2.2.2.2.2.2.1, GG.out.2.2.2.2.2.2.2.2.2.2.1, GG.out.2.2.2.2.2.2.2.2.2.2.2⟩, hidD (MM.out)⟩
    · have hf : D 11 = false := by
        cases h : D 11 with
        | false => rfl
        | true => rw [hcl 11 _ rfl h 9 (by simp)] at hDi; cases hDi
      obtain rfl := GG.out.2.2.2.2.2.2.2.2.2.1.1 hDi
      clear hds
      refine wpOp_go rfl rfl (fun K hK => ?_)
      go_simp
      exact hK _ _ ⟨_, _, _, _, _, _, _, _, _, _, _, _, _, _, rfl, hidD ⟨fun h => (GG.out.1 h).alloc _, fun h => (GG.out.2.1 h).alloc _, fun h => (GG.out.2.2.1 h).alloc _, fun h => (GG.out.2.2.2.1 h).alloc _, fun h => (GG.out.2.2.2.2.1 h).alloc _, fun h => (GG.out.2.2.2.2.2.1 h).alloc _, fun h => (GG.out.2.2.2.2.2.2.1 h).alloc _, fun h => (GG.out.2.2.2.2.2.2.2.1 h).alloc _, GG.out.2.2.2.2.2.2.2.2.1, ⟨fun h => by simp at h, fun _ _ => ⟨_, rfl, rfl⟩, fun h => by simp [hf] at h⟩, GG.out.2.2.2.2.2.2.2.2.2.2.1, GG.out.2.2.2.2.2.2.2.2.2.2.2⟩, hidD (MM.out.fill (i := 3) rfl (.int 0) (int0 _))⟩
    · have hf : D 12 = false := by
        cases h : D 12 with
        | false => rfl
        | true => rw [hcl 12 _ rfl h 10 (by simp)] at hDi; cases hDi
      obtain rfl := GG.out.2.2.2.2.2.2.2.2.2.2.1.1 hDi
      clear hds
      refine wpOp_go rfl rfl (fun K hK => ?_)
      go_simp
      exact hK _ _ ⟨_, _, _, _, _, _, _, _, _, _, _, _, _, _, rfl, hidD ⟨fun h => (GG.out.1 h).alloc _, fun h => (GG.out.2.1 h).alloc _, fun h => (GG.out.2.2.1 h).alloc _, fun h => (GG.out.2.2.2.1 h).alloc _, fun h => (GG.out.2.2.2.2.1 h).alloc _, fun h => (GG.out.2.2.2.2.2.1 h).alloc _, fun h => (GG.out.2.2.2.2.2.2.1 h).alloc _, fun h => (GG.out.2.2.2.2.2.2.2.1 h).alloc _, GG.out.2.2.2.2.2.2.2.2.1, GG.out.2.2.2.2.2.2.2.2.2.1, ⟨fun h => by simp at h, fun _ _ => ⟨_, rfl, rfl⟩, fun h => by simp [hf] at h⟩, GG.out.2.2.2.2.2.2.2.2.2.2.2⟩, hidD (MM.out.fill (i := 4) rfl (.int 0) (int0 _))⟩
    · obtain ⟨B, rfl, rfl⟩ := GG.out.2.2.2.2.2.2.2.2.2.1.2.1 (hds 9 (by simp)) hDi
      have hds0 := hds 9 (by simp)
      have hv := (GG.out.2.2.2.2.2.2.1 (hds 6 (by simp)))
      obtain ⟨s1, a1, l1, c1, rfl⟩ := IsInt.form2 (show IsInt V _ _ from hv)
      obtain ⟨s, a, l, c, n, i⟩ := MM.out.int (i := 3) rfl
      have e0 := n.c0
      have f0 := n.f0
      have e1 := n.c1
      have f1 := n.f1
      clear hds
      refine wpOp_go rfl rfl (fun K hK => ?_)
      go_simp
      exact hK _ _ ⟨_, _, _, _, _, _, _, _, _, _, _, _, _, _, rfl, hidD ⟨fun h => (GG.out.1 h).set2 n rfl rfl _ _, fun h => (GG.out.2.1 h).set2 n rfl rfl _ _, fun h => (GG.out.2.2.1 h).set2 n rfl rfl _ _, fun h => (GG.out.2.2.2.1 h).set2 n rfl rfl _ _, fun h => (GG.out.2.2.2.2.1 h).set2 n rfl rfl _ _, fun h => (GG.out.2.2.2.2.2.1 h).set2 n rfl rfl _ _, fun h => (GG.out.2.2.2.2.2.2.1 h).set2 n rfl rfl _ _, fun h => (GG.out.2.2.2.2.2.2.2.1 h).set2 n rfl rfl _ _, GG.out.2.2.2.2.2.2.2.2.1, ⟨fun h => by simp [hds0] at h, fun _ h => by simp at h, fun _ => ⟨B, rfl, rfl⟩⟩, GG.out.2.2.2.2.2.2.2.2.2.2.1, GG.out.2.2.2.2.2.2.2.2.2.2.2⟩, hidD (MM.out.putInt (i := 3) rfl hv)⟩
    · obtain ⟨B, rfl, rfl⟩ := GG.out.2.2.2.2.2.2.2.2.2.2.1.2.1 (hds 10 (by simp)) hDi
      have hds0 := hds 10 (by simp)
      have hv := (GG.out.2.2.2.2.2.2.2.1 (hds 7 (by simp)))
      obtain ⟨s1, a1, l1, c1, rfl⟩ := IsInt.form2 (show IsInt V _ _ from hv)
      obtain ⟨s, a, l, c, n, i⟩ := MM.out.int (i := 4) rfl
      have e0 := n.c0
      have f0 := n.f0
      have e1 := n.c1
      have f1 := n.f1
      clear hds
      refine wpOp_go rfl rfl (fun K hK => ?_)
      go_simp
      exact hK _ _ ⟨_, _, _, _, _, _, _, _, _, _, _, _, _, _, rfl, hidD ⟨fun h => (GG.out.1 h).set2 n rfl rfl _ _, fun h => (GG.out.2.1 h).set2 n rfl rfl _ _, fun h => (GG.out.2.2.1 h).set2 n rfl rfl _ _, fun h => (GG.out.2.2.2.1 h).set2 n rfl rfl _ _, fun h => (GG.out.2.2.2.2.1 h).set2 n rfl rfl _ _, fun h => (GG.out.2.2.2.2.2.1 h).set2 n rfl rfl _ _, fun h => (GG.out.2.2.2.2.2.2.1 h).set2 n rfl rfl _ _, fun h => (GG.out.2.2.2.2.2.2.2.1 h).set2 n rfl rfl _ _, GG.out.2.2.2.2.2.2.2.2.1, GG.out.2.2.2.2.2.2.2.2.2.1, ⟨fun h => by simp [hds0] at h, fun _ h => by simp at h, fun _ => ⟨B, rfl, rfl⟩⟩, GG.out.2.2.2.2.2.2.2.2.2.2.2⟩, hidD (MM.out.putInt (i := 4) rfl hv)⟩
    · obtain rfl := (GG.out.2.2.2.2.2.2.2.2.1 (hds 8 (by simp)))
      clear hds
      refine wpOp_go rfl rfl (fun K hK => ?_)
      go_simp
      exact hK _ _ ⟨_, _, _, _, _, _, _, _, _, _, _, _, _, _, rfl, hidD ⟨GG.out.1, GG.out.2.1, GG.out.2.2.1, GG.out.2.2.2.1, GG.out.2.2.2.2.1, GG.out.2.2.2.2.2.1, GG.out.2.2.2.2.2.2.1, GG.out.2.2.2.2.2.2.2.1, fun _ => rfl, GG.out.2.2.2.2.2.2.2.2.2.1, GG.out.2.2.2.2.2.2.2.2.2.2.1, fun _ => rfl⟩, hidD (MM.out)⟩
  rintro D act V2 hDD ⟨t9x, t10x, t11x, t12x, t13x, t8x, t14x, t15x, t16x, t5x, t6x, t7x, x9, x10, rfl, GG, MM⟩
  obtain ⟨B3, rfl, rfl⟩ := GG.out.2.2.2.2.2.2.2.2.2.1.2.2 (hDD 11 (by decide))
  obtain ⟨B4, rfl, rfl⟩ := GG.out.2.2.2.2.2.2.2.2.2.2.1.2.2 (hDD 12 (by decide))
  obtain rfl := GG.out.2.2.2.2.2.2.2.2.1 (hDD 8 (by decide))
  obtain rfl := GG.out.2.2.2.2.2.2.2.2.2.2.2 (hDD 13 (by decide))
  clear GG hDD M1
  have M2 : Hid (Mem w V2 [some (w.heap.size, .int ((x : Int))), some (w.heap.size + 1, .int ((y : Int))), some (w.heap.size + 1 + 1, .int (0)), some (B3, .int ((y : Int) / ((Int.gcd x y : Nat) : Int))), some (B4, .int ((y : Int) % ((Int.gcd x y : Nat) : Int)))]) := MM
  clear MM
  obtain ⟨s5, a5, l5, c5, n5, i5⟩ := M2.out.int (i := 0) rfl
  have e5a := n5.c0
  have e5b := n5.c1
  obtain ⟨s6, a6, l6, c6, n6, i6⟩ := M2.out.int (i := 3) rfl
  have e6a := n6.c0
  have e6b := n6.c1
  obtain ⟨s7, a7, l7, c7, n7, i7⟩ := M2.out.int (i := 2) rfl
  have e7a := n7.c0
  have e7b := n7.c1
  have f7a := n7.f0
  have f7b := n7.f1
  have H1 := hidD (itimes_c _ _ (x : Int) ((y : Int) / ((Int.gcd x y : Nat) : Int)) V2 i5 i6 (by have h1 := HHSX.out.words; have h2 := (HHSY.out.div (y := ((Int.gcd x y : Nat) : Int))).words; omega))
  rw [lcm_mul] at H1
  go_wp2_with (go_at_call 85; refine H1.out.mono ?_; clear H1; rintro e w2 ⟨u2, rfl, hu2, hq⟩; obtain ⟨s91, a91, l91, c91, rfl⟩ := IsInt.form2 hu2; clear e7a e7b; have e7a := (n7.below hq).c0; have e7b := (n7.below hq).c1; clear f7a f7b; have f7a := (n7.below hq).f0; have f7b := (n7.below hq).f1)
  have hq2 := M2.out.2.2.trans (hq.mono M2.out.2.2.size)
  have hge := M2.out.ge 2 rfl
  exact bodyPost_ret (v := .agg #[.bool s91, .slice a91 l91 c91]) (by simp [results, Tryz.results97, go_sem, e7a, e7b]) rfl ⟨_, rfl, hu2.box (n7.below hq) rfl rfl, (hq2.setCell (p := ⟨_, 0, none⟩) hge _).setCell (p := ⟨_, 1, none⟩) hge _⟩
end Go.Proofs.YteldjhhjnchdeaaGreatDoor.M3
namespace Go.Proofs.YteldjhhjnchdeaaGreatDoor.M3
open Go.RowKit Go.Shelf

attribute [local go_sem] Oper.semAt_some

/-- A row, its first i told. -/
def FnAt (F : Nat → Rat) (n i : Nat) (S : List Rat) : Prop := S.length = n ∧ ∀ j, cf S j = if j < i then F j else 0
theorem FnAt.next {F : Nat → Rat} {n i : Nat} {S : List Rat} (h : FnAt F n i S) (hi : i < n) : FnAt F n (i + 1) (S.set i (F i)) := by
  refine ⟨by rw [List.length_set]; exact h.1, fun j => ?_⟩
  rw [cf_set _ _ _ _ (by rw [h.1]; exact hi), h.2 j]
  by_cases e : j = i
  · rw [if_pos e, if_pos (by omega), e]
  · rw [if_neg e]
    by_cases e2 : j < i
    · rw [if_pos e2, if_pos (by omega)]
    · rw [if_neg e2, if_neg (by omega)]
theorem FnAt.done {F : Nat → Rat} {n : Nat} {S T : List Rat} (h : FnAt F n n S) (hT : trimQ T = T) (hF : ∀ j, j < n → cf T j = F j) (h0 : ∀ j, n ≤ j → cf T j = 0) : trimQ S = T := by
  rw [← hT]
  refine trim_ext fun j => ?_
  rw [h.2 j]
  split
  · exact (hF j (by assumption)).symm
  · exact (h0 j (by omega)).symm

set_option maxRecDepth 100000 in
set_option maxHeartbeats 8000000 in
theorem cscaled_c (v vf : Value) (ps : List Rat) (f : Rat) (w : World) (h : IsPoly w v ps) (hf : IsRat w vf f) (hps : Sqs ps) (hsf : Sq f) (hsr : ∀ i, Sq (cf ps i * f)) :
    Calls Tryz.prog 98 #[v, vf] w fun e w' => ∃ u, e = .returned u ∧ IsPoly w' u (scQ f ps) ∧ Below w.heap.size w w' := by
  have hmx : Tryz.prog.follows .mixedOrders = true := by kernel_rfl
  obtain ⟨pa, la, pc, rfl⟩ := h.form
  obtain ⟨s, a, l, c, t, b, k, d, rfl⟩ := IsRat.form hf
  obtain ⟨hla, hca, hcma, hlma, _⟩ := h.row.forms
  have M0 := ((((Mem.nil w).push (.cell 25 (.slice pa la pc)) (cs := #[.slice pa la pc]) ⟨rfl, rfl⟩).push (.rat f) (cs := #[.bool s, .slice a l c, .bool t, .slice b k d]) (Has.alloc (d := .rat f) hf _)).push (.cell 25 (.slice none 0 0)) (cs := #[.slice none 0 0]) ⟨rfl, rfl⟩)
  simp only [World.size_alloc] at M0
  obtain ⟨V0, hV0⟩ : ∃ V, ((w.alloc (.cells #[.slice pa la pc] 25)).alloc (.cells #[.bool s, .slice a l c, .bool t, .slice b k d] 65)).alloc (.cells #[.slice none 0 0] 25) = V := ⟨_, rfl⟩
  have M1 : Mem w V0 [some (w.heap.size, .cell 25 (.slice pa la pc)), some (w.heap.size + 1, .rat f), some (w.heap.size + 1 + 1, .cell 25 (.slice none 0 0))] := by rw [← hV0]; exact M0
  have HM1 := hidD M1
  obtain ⟨n, hn⟩ : ∃ n : Nat, ps.length = n := ⟨_, rfl⟩
  obtain ⟨e0, he0⟩ : ∃ e0 : Int, (n : Int) - 1 = e0 := ⟨_, rfl⟩
  have HDG := hidD (yDegree_c (.agg #[.slice pa la pc]) ps V0 (h.below M1.2.2))
  rw [hn, he0] at HDG
  have hd1 : e0 + 1 = (n : Int) := by omega
  have hdw : IntKind.i64.wrap (n : Int) = (n : Int) := by rw [IntKind.wrap_i64]; omega
  have hmk : ∀ W : World, (Instr.makeSlice 22 (.int .i64 (n : Int)) (.int .i64 (n : Int))).run Tryz.prog W = .ok (.slice (some ⟨W.heap.size, 0, none⟩) n n) (W.alloc (.cells (zeroQ n) 65)) := fun W => make_rats0 n (by omega) W
  have HP := hidD (fun (V : World) (hB : Below w.heap.size w V) => h.below hB)
  have HPS := hidD hps
  have HSR := hidD hsr
  have HN := hidD (show ps.length = n from hn)
  have hnle : n ≤ 1099511627776 := by omega
  have HV0 := hidD hV0
  have HSF := hidD hsf
  clear h hps hsr hla hca hcma hn he0 M0 M1 hV0 hlma hf hsf
  go_enter Tryz.func98, Tryz.ntmps98
  go_upto_region 1 with fail
  rw [HV0.out]
  have c0 := (HM1.out.cell (i := 0) rfl).1.cell
  go_upto_region 2 with (go_at_call 20; refine HDG.out.mono ?_; clear HDG; rintro e w1 ⟨rfl, hb1⟩)
  have hM2 : Mem w (w1.alloc (.cells (zeroQ n) 65)) [some (w.heap.size, .cell 25 (.slice pa la pc)), some (w.heap.size + 1, .rat f), some (w.heap.size + 1 + 1, .cell 25 (.slice none 0 0)), some (w1.heap.size, .rats (List.replicate n 0))] := (HM1.out.below hb1).push (.rats (List.replicate n 0)) (has_zeros _ n)
  obtain ⟨V1, hV1⟩ : ∃ V, w1.alloc (.cells (zeroQ n) 65) = V := ⟨_, rfl⟩
  obtain ⟨gS, hgS⟩ : ∃ g, w1.heap.size = g := ⟨_, rfl⟩
  rw [hV1, hgS] at hM2
  rw [hV1, hgS]
  have HM2 := hidD hM2
  clear hM2 hV1 hgS hb1 c0 HM1 HV0 hmk
  go_wp2
  go_loopw [13] (fun iv wr => ∃ (i : Nat) (S : List Rat), i ≤ n ∧ iv = .int .i64 (i : Int) ∧ Hid (FnAt (fun j => cf ps j * f) n i S) ∧ Hid (Mem w wr [some (w.heap.size, .cell 25 (.slice pa la pc)), some (w.heap.size + 1, .rat f), some (w.heap.size + 1 + 1, .cell 25 (.slice none 0 0)), some (gS, .rats S)])) (fun iv _ => n - (intOf iv).toNat)
  case atStart => exact ⟨0, _, Nat.zero_le _, rfl, hidD ⟨List.length_replicate, fun j => by rw [cf_replicate, if_neg (by omega)]⟩, HM2⟩
  case round =>
    obtain ⟨i, S, hi, rfl, HS, HM⟩ := hrel
    clear HM2
    by_cases hlt : i < n
    · have hlt2 : (i : Int) < (n : Int) := by omega
      have HIL := hidD (show i < S.length by rw [HS.out.1]; exact hlt)
      have HLT := hidD (show i < ps.length by rw [HN.out]; exact hlt)
      go_wp2_with fail
      have ST0 := HM.out.drew
      refine wp_region_tab hmx [[], [], [], [], [2, 3], [], [4, 5, 4], [0, 1, 0, 1, 2, 3, 4, 5, 6], [7, 6, 6, 0, 1, 2, 3, 4, 5, 6]] (by kernel_rfl) (by decide)
        (fun D act V => ∃ (t16x t17x t18x t19x t20x t21x t22x t23x : Value), act = { tmps := #[Value.agg #[Value.slice pa la pc], Value.agg #[Value.bool s, Value.slice a l c, Value.bool t, Value.slice b k d], Value.pointer (some { block := w.heap.size, off := 0 }), Value.pointer (some { block := w.heap.size + 1, off := 0 }), Value.pointer (some { block := w.heap.size + 1 + 1, off := 0 }), Value.slice (some { block := gS, off := 0 }) n n, Value.int IntKind.i64 ↑i, Value.agg #[Value.slice pa la pc], Value.int IntKind.i64 e0, Value.int IntKind.i64 ↑n, Value.slice (some { block := gS, off := 0 }) n n, Value.slice (some { block := gS, off := 0 }) n n, Value.int IntKind.i64 ↑n, Value.int IntKind.i64 ↑i, Value.bool true, Value.int IntKind.i64 ↑i, t16x, t17x, t18x, t19x, t20x, t21x, t22x, t23x, u24, undef, undef], defers := [] } ∧ Hid ((D 0 = true → t16x = .slice (some ⟨gS, 0, none⟩) n n) ∧ (D 1 = true → t17x = .int .i64 (i : Int)) ∧ (D 2 = true → t18x = .agg #[.slice pa la pc]) ∧ (D 3 = true → t19x = .int .i64 (i : Int)) ∧ (D 4 = true → D 8 = false → IsRat V t20x (cf ps i)) ∧ (D 5 = true → D 8 = false → IsRat V t21x f) ∧ (D 6 = true → D 8 = false → IsRat V t22x (cf ps i * f)) ∧ (D 7 = true → t23x = .pointer (some ⟨gS, i * 4, none⟩))) ∧ Hid ((D 8 = false → Mem w V [some (w.heap.size, .cell 25 (.slice pa la pc)), some (w.heap.size + 1, .rat f), some (w.heap.size + 1 + 1, .cell 25 (.slice none 0 0)), some (gS, .rats (S))]) ∧ (D 8 = true → Mem w V [some (w.heap.size, .cell 25 (.slice pa la pc)), some (w.heap.size + 1, .rat f), some (w.heap.size + 1 + 1, .cell 25 (.slice none 0 0)), some (gS, .rats (S.set i (cf ps i * f)))])))
        ⟨_, _, _, _, _, _, _, _, rfl, hidD ⟨by simp, by simp, by simp, by simp, by simp, by simp, by simp, by simp⟩, hidD ⟨fun _ => ST0, by simp⟩⟩ ?step1 ?fin1
      case step1 =>
        rintro D act V i ds hcl hi hds hDi ⟨t16x, t17x, t18x, t19x, t20x, t21x, t22x, t23x, rfl, GG, SS0⟩
        have hi6 : i < 9 := (List.getElem?_eq_some_iff.1 hi).1
        obtain rfl | rfl | rfl | rfl | rfl | rfl | rfl | rfl | rfl : i = 0 ∨ i = 1 ∨ i = 2 ∨ i = 3 ∨ i = 4 ∨ i = 5 ∨ i = 6 ∨ i = 7 ∨ i = 8 := by omega
        all_goals
          simp only [List.getElem?_cons_zero, List.getElem?_cons_succ, Option.some.injEq] at hi
          subst hi
        · have hf0 : D 8 = false := by
            cases h : D 8 with
            | false => rfl
            | true => rw [(hcl 8 _ rfl h 0 (by simp))] at hDi; cases hDi
          have hS0 := SS0.out.1 hf0
          clear hds
          refine wpOp_go rfl rfl (fun K hK => ?_)
          go_simp
          exact hK _ _ ⟨_, _, _, _, _, _, _, _, rfl, hidD ⟨fun _ => rfl, GG.out.2.1, GG.out.2.2.1, GG.out.2.2.2.1, fun h h2 => (GG.out.2.2.2.2.1 h (by simpa using h2)), fun h h2 => (GG.out.2.2.2.2.2.1 h (by simpa using h2)), fun h h2 => (GG.out.2.2.2.2.2.2.1 h (by simpa using h2)), GG.out.2.2.2.2.2.2.2⟩, hidD ⟨fun h => (SS0.out.1 (by simpa using h)), fun h => (SS0.out.2 (by simpa using h))⟩⟩
        · have hf0 : D 8 = false := by
            cases h : D 8 with
            | false => rfl
            | true => rw [(hcl 8 _ rfl h 1 (by simp))] at hDi; cases hDi
          have hS0 := SS0.out.1 hf0
          clear hds
          refine wpOp_go rfl rfl (fun K hK => ?_)
          go_simp
          exact hK _ _ ⟨_, _, _, _, _, _, _, _, rfl, hidD ⟨GG.out.1, fun _ => rfl, GG.out.2.2.1, GG.out.2.2.2.1, fun h h2 => (GG.out.2.2.2.2.1 h (by simpa using h2)), fun h h2 => (GG.out.2.2.2.2.2.1 h (by simpa using h2)), fun h h2 => (GG.out.2.2.2.2.2.2.1 h (by simpa using h2)), GG.out.2.2.2.2.2.2.2⟩, hidD ⟨fun h => (SS0.out.1 (by simpa using h)), fun h => (SS0.out.2 (by simpa using h))⟩⟩
        · have hf0 : D 8 = false := by
            cases h : D 8 with
            | false => rfl
            | true => rw [(hcl 8 _ rfl h 2 (by simp))] at hDi; cases hDi
          have hS0 := SS0.out.1 hf0
          have e0 := (hS0.cell (i := 0) rfl).1.cell
          clear hds
          refine wpOp_go rfl rfl (fun K hK => ?_)
          go_simp
          exact hK _ _ ⟨_, _, _, _, _, _, _, _, rfl, hidD ⟨GG.out.1, GG.out.2.1, fun _ => rfl, GG.out.2.2.2.1, fun h h2 => (GG.out.2.2.2.2.1 h (by simpa using h2)), fun h h2 => (GG.out.2.2.2.2.2.1 h (by simpa using h2)), fun h h2 => (GG.out.2.2.2.2.2.2.1 h (by simpa using h2)), GG.out.2.2.2.2.2.2.2⟩, hidD ⟨fun h => (SS0.out.1 (by simpa using h)), fun h => (SS0.out.2 (by simpa using h))⟩⟩
        · have hf0 : D 8 = false := by
            cases h : D 8 with
            | false => rfl
            | true => rw [(hcl 8 _ rfl h 3 (by simp))] at hDi; cases hDi
          have hS0 := SS0.out.1 hf0
          clear hds
          refine wpOp_go rfl rfl (fun K hK => ?_)
          go_simp
          exact hK _ _ ⟨_, _, _, _, _, _, _, _, rfl, hidD ⟨GG.out.1, GG.out.2.1, GG.out.2.2.1, fun _ => rfl, fun h h2 => (GG.out.2.2.2.2.1 h (by simpa using h2)), fun h h2 => (GG.out.2.2.2.2.2.1 h (by simpa using h2)), fun h h2 => (GG.out.2.2.2.2.2.2.1 h (by simpa using h2)), GG.out.2.2.2.2.2.2.2⟩, hidD ⟨fun h => (SS0.out.1 (by simpa using h)), fun h => (SS0.out.2 (by simpa using h))⟩⟩
        · have hf0 : D 8 = false := by
            cases h : D 8 with
            | false => rfl
            | true => rw [(hcl 8 _ rfl h 4 (by simp))] at hDi; cases hDi
          have hS0 := SS0.out.1 hf0
          obtain rfl := GG.out.2.2.1 (hds 2 (by simp))
          obtain rfl := GG.out.2.2.2.1 (hds 3 (by simp))
          clear hds
          have HC := hidD (yCoef_c _ ps (i : Int) V (HP.out V hS0.2.2))
          rw [cfI_nat] at HC
          refine wpOp_go rfl rfl (fun K hK => ?_)
          go_simp
          go_wp2_with (go_at_call 58; refine HC.out.mono ?_; rintro e w5 ⟨v5, rfl, hv5, hb5⟩)
          exact ⟨_, _, _, _, _, _, _, _, rfl, hidD ⟨GG.out.1, GG.out.2.1, fun _ => rfl, fun _ => rfl, fun _ _ => hv5, fun h h2 => (GG.out.2.2.2.2.2.1 h (by simpa using h2)).below hb5, fun h h2 => (GG.out.2.2.2.2.2.2.1 h (by simpa using h2)).below hb5, GG.out.2.2.2.2.2.2.2⟩, hidD ⟨fun h => (SS0.out.1 (by simpa using h)).below hb5, fun h => (SS0.out.2 (by simpa using h)).below hb5⟩⟩
        · have hf0 : D 8 = false := by
            cases h : D 8 with
            | false => rfl
            | true => rw [(hcl 8 _ rfl h 5 (by simp))] at hDi; cases hDi
          have hS0 := SS0.out.1 hf0
          obtain ⟨x1, x2, x3, x4, x5, x6, x7, x8, n, r, _, _⟩ := hS0.rat (i := 1) rfl
          have e0 := n.c0
          have e1 := n.c1
          have e2 := n.c2
          have e3 := n.c3
          clear hds
          refine wpOp_go rfl rfl (fun K hK => ?_)
          go_simp
          exact hK _ _ ⟨_, _, _, _, _, _, _, _, rfl, hidD ⟨GG.out.1, GG.out.2.1, GG.out.2.2.1, GG.out.2.2.2.1, fun h h2 => (GG.out.2.2.2.2.1 h (by simpa using h2)), fun _ _ => r, fun h h2 => (GG.out.2.2.2.2.2.2.1 h (by simpa using h2)), GG.out.2.2.2.2.2.2.2⟩, hidD ⟨fun h => (SS0.out.1 (by simpa using h)), fun h => (SS0.out.2 (by simpa using h))⟩⟩
        · have hf0 : D 8 = false := by
            cases h : D 8 with
            | false => rfl
            | true => rw [(hcl 8 _ rfl h 6 (by simp))] at hDi; cases hDi
          have hS0 := SS0.out.1 hf0
          have h0 := GG.out.2.2.2.2.1 (hds 4 (by simp)) hf0
          have h1 := GG.out.2.2.2.2.2.1 (hds 5 (by simp)) hf0
          clear hds
          have HC := hidD (qtimes_c _ _ (cf ps i) f V h0 h1 (HPS.out.at i) HSF.out)
          clear h0 h1
          refine wpOp_go rfl rfl (fun K hK => ?_)
          go_simp
          go_wp2_with (go_at_call 52; refine HC.out.mono ?_; rintro e w5 ⟨v5, rfl, hv5, hb5⟩)
          exact ⟨_, _, _, _, _, _, _, _, rfl, hidD ⟨GG.out.1, GG.out.2.1, GG.out.2.2.1, GG.out.2.2.2.1, fun h h2 => (GG.out.2.2.2.2.1 h (by simpa using h2)).below hb5, fun h h2 => (GG.out.2.2.2.2.2.1 h (by simpa using h2)).below hb5, fun _ _ => hv5, GG.out.2.2.2.2.2.2.2⟩, hidD ⟨fun h => (SS0.out.1 (by simpa using h)).below hb5, fun h => (SS0.out.2 (by simpa using h)).below hb5⟩⟩
        · have hf0 : D 8 = false := by
            cases h : D 8 with
            | false => rfl
            | true => rw [(hcl 8 _ rfl h 7 (by simp))] at hDi; cases hDi
          have hS0 := SS0.out.1 hf0
          obtain rfl := GG.out.1 (hds 0 (by simp))
          obtain rfl := GG.out.2.1 (hds 1 (by simp))
          clear hds
          refine wpOp_go rfl rfl (fun K hK => ?_)
          go_simp
          exact hK _ _ ⟨_, _, _, _, _, _, _, _, rfl, hidD ⟨fun _ => rfl, fun _ => rfl, GG.out.2.2.1, GG.out.2.2.2.1, fun h h2 => (GG.out.2.2.2.2.1 h (by simpa using h2)), fun h h2 => (GG.out.2.2.2.2.2.1 h (by simpa using h2)), fun h h2 => (GG.out.2.2.2.2.2.2.1 h (by simpa using h2)), fun _ => rfl⟩, hidD ⟨fun h => (SS0.out.1 (by simpa using h)), fun h => (SS0.out.2 (by simpa using h))⟩⟩
        · have hS0 := SS0.out.1 hDi
          have h0 := GG.out.2.2.2.2.2.2.1 (hds 6 (by simp)) hDi
          obtain rfl := GG.out.2.2.2.2.2.2.2 (hds 7 (by simp))
          have hE := hS0.rats (i := 3) rfl
          obtain ⟨xa, xb, xc, xd, e0, e1, e2, e3, _⟩ := hE.at HIL.out
          have f0 := hE.frozen (i * 4)
          have f1 := hE.frozen (i * 4 + 1)
          have f2 := hE.frozen (i * 4 + 2)
          have f3 := hE.frozen (i * 4 + 3)
          obtain ⟨s9, a9, l9, c9, t9, b9, k9, d9, rfl⟩ := IsRat.form h0
          clear hds
          refine wpOp_go rfl rfl (fun K hK => ?_)
          go_simp
          exact hK _ _ ⟨_, _, _, _, _, _, _, _, rfl, hidD ⟨GG.out.1, GG.out.2.1, GG.out.2.2.1, GG.out.2.2.2.1, fun _ h => by simp at h, fun _ h => by simp at h, fun _ h => by simp at h, fun _ => rfl⟩, hidD ⟨fun h => by simp at h, fun _ => hS0.putRats (i := 3) rfl HIL.out h0⟩⟩
      case fin1 =>
        rintro D act V hDD ⟨t16x, t17x, t18x, t19x, t20x, t21x, t22x, t23x, rfl, GG, SS0⟩
        have HO := hidD (SS0.out.2 (hDD 8 (by decide)))
        clear GG SS0 hDD
        go_wp2_with fail
        go_roundw
        case rel => exact ⟨i + 1, _, by omega, by go_num, hidD (HS.out.next hlt), HO⟩
        case measure => simp [intOf]; omega
    · obtain rfl : i = n := by omega
      have hE := HM.out.rats (i := 3) rfl
      have hrow := hE.row (n := i) (cap := i) (by rw [HS.out.1]; exact Nat.le_refl _) (Nat.le_refl _) (by omega) hnle
      rw [List.take_of_length_le (by rw [HS.out.1]; exact Nat.le_refl _)] at hrow
      have HMD := hidD (yOf_c _ S wr hrow (Sqs.of fun j => by
        rw [HS.out.2 j]
        split
        · exact HSR.out j
        · exact sq0))
      rw [HS.out.done (T := scQ f ps) (scQ_trim _ _) (fun j hj => cf_scQ _ _ _) (fun j hj => by rw [cf_scQ, cf_ge (by rw [HN.out]; exact hj), Rat.zero_mul])] at HMD
      clear hE hrow
      go_wp2_with (go_at_call 59; refine HMD.out.mono ?_; clear HMD; rintro e w5 ⟨u5, rfl, hu5, _, hb5⟩; obtain ⟨a7, l7, c7, rfl⟩ := hu5.form; have n5 := boxed_below (HM.out.cell (i := 2) rfl).1 hb5; have x0 := n5.cell; have x1 := n5.frozen; have HU5 := hidD (boxP n5 (.slice a7 l7 c7) hu5.row); have HB5 := hidD ((HM.out.2.2.trans (hb5.mono HM.out.2.2.size)).setCell (p := ⟨w.heap.size + 1 + 1, 0, none⟩) (by show w.heap.size ≤ w.heap.size + 1 + 1; omega) (.slice a7 l7 c7)); clear hu5 hb5 n5)
      exact bodyPost_ret (v := .agg #[.slice a7 l7 c7]) (by simp [results, Tryz.results98, go_sem, x0]) rfl ⟨_, rfl, ⟨_, rfl, HU5.out⟩, HB5.out⟩
end Go.Proofs.YteldjhhjnchdeaaGreatDoor.M3
