import Derived.Test.YteldjhhjnchdeaaGreatDoorK33
import Derived.WalkLawsBesides
import Derived.Test.YteldjhhjnchdeaaGreatDoorK09
import Derived.Test.YteldjhhjnchdeaaGreatDoorK20
import Derived.Test.YteldjhhjnchdeaaGreatDoorK24
namespace Go.Proofs.YteldjhhjnchdeaaGreatDoor
open Go.RowKit Go.Shelf

attribute [local go_sem] Oper.semAt_some

theorem SmQ.add2 {k m : Nat} {p q : Rat} (hp : SmQ k p) (hq : SmQ m q) : SmQ (k + m + 1) (p + q) := by
  rw [← sum_eq]
  refine SmQ.divInt ?_ ((hp.1.mul hq.2).add (by have := hq.1.mul hp.2; rwa [Nat.add_comm] at this)) ((hp.2.mul hq.2).mono (by omega))
  exact Int.mul_ne_zero (by have := p.den_nz; omega) (by have := q.den_nz; omega)
theorem Frac.sm {c : Rat} (h : Frac c) : SmQ 1 c := by
  obtain ⟨x, y, rfl, h1, h2, h3⟩ := h
  exact SmQ.divInt (by omega) (by unfold Sm B64; omega) (by unfold Sm B64; omega)
theorem SmQ.zero (k : Nat) (hk : 1 ≤ k) : SmQ k 0 := ⟨Sm.zero k, Sm.one k hk⟩
theorem cf_term (n : Nat) (c : Rat) (i : Nat) : cf (upR n [c]) i = if i = n then c else 0 := by
  rw [cf_upR]
  by_cases h : n ≤ i
  · rw [if_pos h]
    by_cases h2 : i = n
    · rw [if_pos h2, h2, Nat.sub_self, cf_zero]
    · rw [if_neg h2, cf_ge (by simp; omega)]
  · rw [if_neg h, if_neg (by omega)]
theorem sqs_term {n : Nat} {c : Rat} (h : Frac c) : Sqs (trimQ (upR n [c])) := Sqs.of fun i => by
  rw [cf_trim, cf_term]
  split
  · exact Sq.of h.sm (by omega)
  · exact Sq.of (SmQ.zero 1 (by omega)) (by omega)
theorem len_term (n : Nat) (c : Rat) : (trimQ (upR n [c])).length ≤ n + 1 := Nat.le_trans (trim_length_le _) (by simp [upR])
theorem add_term {S : List Rat} {n : Nat} (c : Rat) (h : n < S.length) : addQ (trimQ S) (trimQ (upR n [c])) = trimQ (S.set n (cf S n + c)) := by
  unfold addQ
  refine trim_ext fun i => ?_
  rw [cf_addR, cf_trim, cf_trim, cf_term, cf_set _ _ _ _ h]
  split
  · rename_i h; rw [h]
  · grind
theorem sub_term {S : List Rat} {n : Nat} (c : Rat) (h : n < S.length) : subQ (trimQ S) (trimQ (upR n [c])) = trimQ (S.set n (cf S n - c)) := by
  unfold subQ
  refine trim_ext fun i => ?_
  rw [cf_addR, cf_scaleR, cf_trim, cf_trim, cf_term, cf_set _ _ _ _ h]
  split
  · rename_i h; rw [h]; grind
  · grind
/-- The sums, while they are read. -/
def SumsAt (S : List Rat) (m : Nat) : Prop := S.length = 9 ∧ ∀ i, SmQ (2 * m + 1) (cf S i)
theorem SumsAt.start : SumsAt (List.replicate 9 0) 0 := ⟨rfl, fun i => by rw [cf_replicate]; exact SmQ.zero 1 (by omega)⟩
theorem SumsAt.sqs {S : List Rat} {m : Nat} (h : SumsAt S m) (hm : m ≤ 300) : Sqs (trimQ S) := Sqs.of fun i => by rw [cf_trim]; exact Sq.of (h.2 i) (by omega)
theorem SumsAt.next {S : List Rat} {m n : Nat} {c : Rat} (h : SumsAt S m) (hc : Frac c) (hn : n ≤ 8) (b : Bool) : SumsAt (S.set n (if b then cf S n - c else cf S n + c)) (m + 1) := by
  refine ⟨by rw [List.length_set]; exact h.1, fun i => ?_⟩
  rw [cf_set _ _ _ _ (by rw [h.1]; omega)]
  split
  · cases b
    · exact ((h.2 n).add2 hc.sm).mono (by omega)
    · rw [if_pos rfl, Rat.sub_eq_add_neg]
      exact ((h.2 n).add2 hc.sm.neg).mono (by omega)
  · exact (h.2 i).mono (by omega)
theorem isAt_one {l : List UInt8} {j : Nat} {c d : UInt8} (h1 : isAt l j c = true) (h2 : isAt l j d = true) : c = d := by
  unfold isAt at h1 h2
  rw [beq_iff_eq] at h1 h2
  exact Option.some.inj (h1.symm.trans h2)
theorem sumS_bad {l : List UInt8} {f : Nat} {b : Bool} {I : Nat} {S : List Rat} {e p : Nat} (h : termS l I = .bad e p) : sumS l (f + 1) b I S = .bad e p := by
  rw [sumS, h]
theorem sumS_ok {l : List UInt8} {f : Nat} {b : Bool} {I : Nat} {S : List Rat} {c : Rat} {n k : Nat} (h : termS l I = .ok (c, n) k) : sumS l (f + 1) b I S =
    if isAt l (skB l k) 43 then sumS l f false (skB l k + 1) (S.set n (if b then cf S n - c else cf S n + c)) else if isAt l (skB l k) 45 then sumS l f true (skB l k + 1) (S.set n (if b then cf S n - c else cf S n + c)) else if skB l k = l.length then .ok (S.set n (if b then cf S n - c else cf S n + c)) (skB l k) else .bad 2 (skB l k) := by
  rw [sumS, h]
theorem termS_pos (l : List UInt8) (i : Nat) : (termS l i).pos := by
  intro e p h
  rw [termS_eq] at h
  split at h
  · rename_i e' p' h1
    cases h
    exact headS_pos l i _ _ h1
  · split at h
    · split at h
      · rename_i e' p' h1
        cases h
        exact powS_pos _ _ _ _ h1
      · cases h
    · cases h

/-- What the whole text comes to. -/
def totS (l : List UInt8) : Rd (List Rat) := if isAt l (skB l 0) 45 then sumS l (l.length + 1) true (skB l 0 + 1) (List.replicate 9 0) else sumS l (l.length + 1) false (skB l 0) (List.replicate 9 0)
def finS (r : Rd (List Rat)) : List Rat × Nat × Nat := match r with | .bad e p => ([], e, p) | .ok s _ => (trimQ s, 0, 0)
theorem parseP_eq {l : List UInt8} (h : ¬ 300 < l.length) : parseP l = finS (totS l) := by
  unfold parseP totS finS
  rw [if_neg h]
  split <;> (rename_i heq; rw [heq])
/-- What is handed back. -/
def ParOk (l : List UInt8) (w' : World) (u : Value) (e p : Int) : Prop := e = ((parseP l).2.1 : Int) ∧ p = ((parseP l).2.2 : Int) ∧ RowK false w' u (parseP l).1 ∧ (parseP l).1.length ≤ 9 ∧ ∀ i, SmQ 601 (cf (parseP l).1 i)
theorem ParOk.bad {l : List UInt8} {w' : World} {e p : Nat} (h : parseP l = ([], e, p)) : ParOk l w' (.slice none 0 0) e p := by
  rw [ParOk, h]
  exact ⟨rfl, rfl, RowK.nil _ _, by simp, fun i => by rw [cf_nil]; exact SmQ.zero _ (by omega)⟩
theorem ParOk.ok {l : List UInt8} {w' : World} {u : Value} {S : List Rat} {m : Nat} (h : parseP l = (trimQ S, 0, 0)) (hs : SumsAt S m) (hm : m ≤ 300) (hu : RowK false w' u (trimQ S)) : ParOk l w' u 0 0 := by
  rw [ParOk, h]
  exact ⟨rfl, rfl, hu, Nat.le_trans (trim_length_le _) (by rw [hs.1]; exact Nat.le_refl _), fun i => by rw [cf_trim]; exact (hs.2 i).mono (by omega)⟩
theorem below_drewN {w W : World} (h : Below w.heap.size w W) (k : Nat) : Below w.heap.size w (W.drewN k) := h.grown (grown_drewN W k none) h.size (fun k e => by cases e)
theorem RdB.new (w : World) (s : ByteArray) : RdB (w.alloc (.cells #[.string s, .int .i64 0, .int .i64 0, .int .i64 0] 106)) w.heap.size s 0 0 0 := World.alloc_heap_new w _

set_option maxRecDepth 100000 in
set_option maxHeartbeats 4000000 in
theorem xParse_c (s : ByteArray) (hs0 : s.size ≤ 140737488351232) (w : World) :
    Calls Tryz.prog 29 #[.string s] w fun r w' => ∃ (u : Value) (e p : Int), r = .returned (.tuple #[u, .int .i64 e, .int .i64 p]) ∧ ParOk (wlst s) w' u e p ∧ Below w.heap.size w w' := by
  by_cases hlong : 300 < s.size
  · have hlong' : (300 : Int) < (s.size : Int) := by omega
    have HP := hidD (show parseP (wlst s) = ([], 1, 0) by unfold parseP; rw [if_pos (by rw [wlst_len]; exact hlong)])
    go_enter Tryz.func29, Tryz.ntmps29
    go_wp2
    exact bodyPost_ret (v := .tuple #[.slice none 0 0, .int .i64 1, .int .i64 0]) (by simp [results, Tryz.results29, go_sem]) rfl ⟨_, _, _, rfl, ParOk.bad HP.out, Below.refl _ _⟩
  · have hlong' : ¬ (300 : Int) < (s.size : Int) := by omega
    have hs : s.size ≤ 300 := by omega
    have HP := hidD (parseP_eq (l := wlst s) (by rw [wlst_len]; exact hlong))
    clear hlong hs0
    have hB0 : Below w.heap.size w (w.alloc (.cells #[.string s, .int .i64 0, .int .i64 0, .int .i64 0] 106)) := (Below.refl _ w).alloc (Nat.le_refl _) _
    have hR0 := RdB.new w s
    obtain ⟨W0, hW0⟩ : ∃ W0, w.alloc (.cells #[.string s, .int .i64 0, .int .i64 0, .int .i64 0] 106) = W0 := ⟨_, rfl⟩
    rw [hW0] at hB0 hR0
    obtain ⟨R, hR⟩ : ∃ R, w.heap.size = R := ⟨_, rfl⟩
    rw [hR] at hR0
    have HR := hidD hR
    have HW0 := hidD hW0
    have HB0 := hidD hB0
    have HR0 := hidD hR0
    obtain ⟨b0, hb0⟩ : ∃ b, b = (decide ((0 : Int) = 0) && isAt (wlst s) (skB (wlst s) 0) 45) := ⟨_, rfl⟩
    have HHS := hidD (xrhas_c R s 0 0 0 45 W0 hR0 (by omega) hs b0 hb0)
    have HB := hidD (show isAt (wlst s) (skB (wlst s) 0) 45 = b0 by rw [hb0]; simp)
    clear hB0 hR0 hb0 hR hW0
    go_enter Tryz.func29, Tryz.ntmps29
    go_upto_region 4 with fail
    rw [HW0.out, HR.out]
    go_wp2_with (first
      | (go_at_call 61; refine HHS.out.mono ?_; clear HHS; rintro e w1 ⟨rfl, hr1, hg1⟩; have HR1 := hidD hr1; have HG1 := hidD (below_grown HB0.out hg1 (by rw [HR.out]; exact Nat.le_refl _)); clear hr1 hg1))
    go_loopw [6, 7, 8] (fun mv pv _ wr => ∃ (b : Bool) (I f m : Nat) (S : List Rat) (a : Option Addr) (la ca : Nat), mv = .bool b ∧ pv = .slice a la ca ∧ I ≤ s.size ∧ Hid (RdB wr R s (I : Int) 0 0) ∧ Hid (RowK false wr (.slice a la ca) (trimQ S)) ∧ Hid (SumsAt S m) ∧ Hid (m ≤ I ∧ s.size - I < f ∧ sumS (wlst s) f b I S = totS (wlst s)) ∧ Hid (Below w.heap.size w wr)) (fun _ _ _ wr => s.size - rdI wr R)
    case atStart =>
      have hsk : skB (wlst s) 0 ≤ s.size := by rw [← wlst_len]; exact skB_le (by omega)
      refine ⟨b0, skB (wlst s) 0 + (if b0 then 1 else 0), s.size + 1, 0, List.replicate 9 0, none, 0, 0, rfl, rfl, ?_, hidD HR1.out, hidD ?_, hidD SumsAt.start, hidD ⟨by omega, by omega, ?_⟩, hidD HG1.out⟩
      · cases hb : b0
        · simpa using hsk
        · have h1 := HB.out
          rw [hb] at h1
          have h2 := isAt_lt h1
          rw [wlst_len] at h2
          simp
          omega
      · rw [trimQ_nil (fun i => cf_replicate 9 i)]; exact RowK.nil _ _
      · unfold totS
        rw [HB.out, wlst_len]
        cases b0 <;> rfl
    case round =>
      clear HR1 HG1 HB HB0 HR0 HW0
      obtain ⟨b, I, f, m, S, a, la, ca, rfl, rfl, hI, HRr, HRow, HS, HT, HG⟩ := hrel
      have HTM := hidD (xrterm_c R s I 0 0 wr HRr.out hI hs)
      go_upto_if 19 with (first
        | (go_at_call 62; refine HTM.out.mono ?_; clear HTM; rintro e w1 ⟨u, c, n, I1, rfl, hu, hn8, hF, hI1, hr1, hok, hg1⟩; have HRow1 := hidD (HRow.out.rd HRr.out hg1); have HRd1 := hidD hr1; have HU := hidD hu; have HF := hidD hF; have HOK := hidD (hok rfl); have HG1 := hidD (below_grown HG.out hg1 (by rw [HR.out]; exact Nat.le_refl _)); obtain ⟨a2, l2, c2, rfl⟩ := hu.form; clear hr1 hu hF hok hg1))
      obtain ⟨I5, hI5⟩ : ∃ x, skB (wlst s) I1 = x := ⟨_, rfl⟩
      have HI5 := hidD hI5
      have hI5s : I5 ≤ s.size := by rw [← hI5, ← wlst_len]; exact skB_le (by rw [wlst_len]; exact hI1)
      have HI55 := hidD (show skB (wlst s) I5 = I5 by rw [← hI5]; exact skB_idem _ _)
      clear hI5
      obtain ⟨f, rfl⟩ : ∃ g, f = g + 1 := ⟨f - 1, by have := HT.out.2.1; omega⟩
      cases b with
      | false =>
        have HS1 := hidD (show SumsAt (S.set n (if false then cf S n - c else cf S n + c)) (m + 1) from HS.out.next HF.out hn8 false)
        by_cases hE1 : rdE (termS (wlst s) I) 0 = 0
        · obtain ⟨_, ⟨c0, n0⟩, k, hk⟩ := rd_zero (termS_pos _ _) hE1
          obtain ⟨rfl, rfl, rfl⟩ := HOK.out c0 n0 k hk
          rw [hE1, (rd_ok hk 0 0).2] at HRd1
          have HLT := hidD (show m ≤ I ∧ I < I1 ∧ I1 ≤ I5 ∧ I5 ≤ s.size ∧ s.size - I < f + 1 from ⟨HT.out.1, (termS_lt (by rw [wlst_len]; exact hI) hk).1, by rw [← HI5.out]; exact skB_ge _ _, hI5s, HT.out.2.1⟩)
          have HSE := hidD (sumS_ok (f := f) (b := false) (S := S) hk)
          rw [HI5.out, HT.out.2.2] at HSE
          clear hE1 hk
          cases hc43 : isAt (wlst s) I5 43 with
          | true =>
            have HC43 := hidD hc43
            have HC45 := hidD (show isAt (wlst s) I5 45 = false from Bool.eq_false_iff.2 (fun h => absurd (isAt_one hc43 h) (by decide)))
            have HTT := hidD (show sumS (wlst s) f false (I5 + 1) (S.set n (if false then cf S n - c else cf S n + c)) = totS (wlst s) by rw [HSE.out, if_pos hc43])
            have hI51 : I5 + 1 ≤ s.size := by have := isAt_lt hc43; rw [wlst_len] at this; omega
            clear hc43
            have HSM := hidD (fun (V : World) (h1 : RowK false V (.slice a la ca) (trimQ S)) (h2 : RowK false V (.slice a2 l2 c2) (trimQ (upR n [c]))) => xSum_c _ _ _ _ V h1 h2 (HS.out.sqs (by have := HT.out.1; omega)) (sqs_term HF.out) ⟨(by have := trim_length_le S; have := HS.out.1; omega), (by have := len_term n c; omega)⟩)
            have H5 := hidD (fun (V : World) (hh : RdB V R s (I1 : Int) 0 0) => xris_c R s I1 0 0 45 V hh hI1 hs)
            rw [show (decide ((0 : Int) = 0) && isAt (wlst s) (skB (wlst s) I1) 45) = false from by rw [HI5.out]; simp [HC45.out], HI5.out] at H5
            have H6 := hidD (fun (V : World) (hh : RdB V R s (I5 : Int) 0 0) => xrhas_c R s I5 0 0 43 V hh hI5s hs true (by rw [HI55.out]; simp [HC43.out]))
            rw [HI55.out] at H6
            go_wp2_with (first
              | (go_at_call 64; refine (HSM.out _ HRow1.out HU.out).mono ?_; clear HSM; rintro e w2 ⟨u2, rfl, hu2, hq2⟩; rw [add_term c (by rw [HS.out.1]; omega)] at hu2; obtain ⟨a3, l3, c3, rfl⟩ := hu2.form; have HRow2 := hidD hu2; have HRd2 := hidD (HRd1.out.below hq2); have HG2 := hidD (HG1.out.trans (hq2.mono HG1.out.size)); clear hu2 hq2)
              | (go_at_call 65; refine (H5.out _ HRd2.out).mono ?_; clear H5; rintro e w3 ⟨rfl, hr3, hg3⟩; have HRow3 := hidD (HRow2.out.rd HRd2.out hg3); have HRd3 := hidD hr3; have HG3 := hidD (below_grown HG2.out hg3 (by rw [HR.out]; exact Nat.le_refl _)); clear hr3 hg3)
              | (go_at_call 61; refine (H6.out _ HRd3.out).mono ?_; clear H6; rintro e w4 ⟨rfl, hr4, hg4⟩; have HRow4 := hidD (HRow3.out.rd HRd3.out hg4); have HRd4 := hidD hr4; have HG4 := hidD (below_grown HG3.out hg4 (by rw [HR.out]; exact Nat.le_refl _)); clear hr4 hg4))
            go_roundw
            case rel => exact ⟨_, I5 + 1, f, m + 1, _, _, _, _, rfl, rfl, hI51, hidD HRd4.out, hidD HRow4.out, hidD HS1.out, hidD ⟨by have := HLT.out; omega, by have := HLT.out; omega, HTT.out⟩, hidD HG4.out⟩
            case measure =>
              have e1 := rdI_of (I := I5 + 1) HRd4.out
              have e2 := rdI_of HRr.out
              rw [e1, e2]
              have := HLT.out
              omega
          | false =>
            have HC43 := hidD hc43
            cases hc45 : isAt (wlst s) I5 45 with
            | true =>
              have HC45 := hidD hc45
              have HTT := hidD (show sumS (wlst s) f true (I5 + 1) (S.set n (if false then cf S n - c else cf S n + c)) = totS (wlst s) by rw [HSE.out, if_neg (show ¬ isAt (wlst s) I5 43 = true by rw [hc43]; decide), if_pos hc45])
              have hI51 : I5 + 1 ≤ s.size := by have := isAt_lt hc45; rw [wlst_len] at this; omega
              clear hc43 hc45
              have HSM := hidD (fun (V : World) (h1 : RowK false V (.slice a la ca) (trimQ S)) (h2 : RowK false V (.slice a2 l2 c2) (trimQ (upR n [c]))) => xSum_c _ _ _ _ V h1 h2 (HS.out.sqs (by have := HT.out.1; omega)) (sqs_term HF.out) ⟨(by have := trim_length_le S; have := HS.out.1; omega), (by have := len_term n c; omega)⟩)
              have H5 := hidD (fun (V : World) (hh : RdB V R s (I1 : Int) 0 0) => xris_c R s I1 0 0 45 V hh hI1 hs)
              rw [show (decide ((0 : Int) = 0) && isAt (wlst s) (skB (wlst s) I1) 45) = true from by rw [HI5.out]; simp [HC45.out], HI5.out] at H5
              have H6 := hidD (fun (V : World) (hh : RdB V R s (I5 : Int) 0 0) => xrhas_c R s I5 0 0 43 V hh hI5s hs false (by rw [HI55.out]; simp [HC43.out]))
              rw [HI55.out] at H6
              have H7 := hidD (fun (V : World) (hh : RdB V R s (I5 : Int) 0 0) => xrhas_c R s I5 0 0 45 V hh hI5s hs true (by rw [HI55.out]; simp [HC45.out]))
              rw [HI55.out] at H7
              go_wp2_with (first
                | (go_at_call 64; refine (HSM.out _ HRow1.out HU.out).mono ?_; clear HSM; rintro e w2 ⟨u2, rfl, hu2, hq2⟩; rw [add_term c (by rw [HS.out.1]; omega)] at hu2; obtain ⟨a3, l3, c3, rfl⟩ := hu2.form; have HRow2 := hidD hu2; have HRd2 := hidD (HRd1.out.below hq2); have HG2 := hidD (HG1.out.trans (hq2.mono HG1.out.size)); clear hu2 hq2)
                | (go_at_call 65; refine (H5.out _ HRd2.out).mono ?_; clear H5; rintro e w3 ⟨rfl, hr3, hg3⟩; have HRow3 := hidD (HRow2.out.rd HRd2.out hg3); have HRd3 := hidD hr3; have HG3 := hidD (below_grown HG2.out hg3 (by rw [HR.out]; exact Nat.le_refl _)); clear hr3 hg3)
                | (go_at_call 61; refine (H6.out _ HRd3.out).mono ?_; clear H6; rintro e w4 ⟨rfl, hr4, hg4⟩; have HRow4 := hidD (HRow3.out.rd HRd3.out hg4); have HRd4 := hidD hr4; have HG4 := hidD (below_grown HG3.out hg4 (by rw [HR.out]; exact Nat.le_refl _)); clear hr4 hg4)
                | (go_at_call 61; refine (H7.out _ HRd4.out).mono ?_; clear H7; rintro e w5 ⟨rfl, hr5, hg5⟩; have HRow5 := hidD (HRow4.out.rd HRd4.out hg5); have HRd5 := hidD hr5; have HG5 := hidD (below_grown HG4.out hg5 (by rw [HR.out]; exact Nat.le_refl _)); clear hr5 hg5))
              go_roundw
              case rel => exact ⟨_, I5 + 1, f, m + 1, _, _, _, _, rfl, rfl, hI51, hidD HRd5.out, hidD HRow5.out, hidD HS1.out, hidD ⟨by have := HLT.out; omega, by have := HLT.out; omega, HTT.out⟩, hidD HG5.out⟩
              case measure =>
                have e1 := rdI_of (I := I5 + 1) HRd5.out
                have e2 := rdI_of HRr.out
                rw [e1, e2]
                have := HLT.out
                omega
            | false =>
              have HC45 := hidD hc45
              by_cases hlt5 : I5 < s.size
              · have HFIN := hidD (show parseP (wlst s) = ([], 2, I5) by rw [HP.out, HSE.out, if_neg (show ¬ isAt (wlst s) I5 43 = true by rw [hc43]; decide), if_neg (show ¬ isAt (wlst s) I5 45 = true by rw [hc45]; decide), if_neg (by rw [wlst_len]; omega)]; rfl)
                clear hc43 hc45
                have HSM := hidD (fun (V : World) (h1 : RowK false V (.slice a la ca) (trimQ S)) (h2 : RowK false V (.slice a2 l2 c2) (trimQ (upR n [c]))) => xSum_c _ _ _ _ V h1 h2 (HS.out.sqs (by have := HT.out.1; omega)) (sqs_term HF.out) ⟨(by have := trim_length_le S; have := HS.out.1; omega), (by have := len_term n c; omega)⟩)
                have H5 := hidD (fun (V : World) (hh : RdB V R s (I1 : Int) 0 0) => xris_c R s I1 0 0 45 V hh hI1 hs)
                rw [show (decide ((0 : Int) = 0) && isAt (wlst s) (skB (wlst s) I1) 45) = false from by rw [HI5.out]; simp [HC45.out], HI5.out] at H5
                have H6 := hidD (fun (V : World) (hh : RdB V R s (I5 : Int) 0 0) => xrhas_c R s I5 0 0 43 V hh hI5s hs false (by rw [HI55.out]; simp [HC43.out]))
                rw [HI55.out] at H6
                have H7 := hidD (fun (V : World) (hh : RdB V R s (I5 : Int) 0 0) => xrhas_c R s I5 0 0 45 V hh hI5s hs false (by rw [HI55.out]; simp [HC45.out]))
                rw [HI55.out] at H7
                have H8 := hidD (fun (V : World) (hh : RdB V R s (I5 : Int) 0 0) => xris_c R s I5 0 0 32 V hh hI5s hs)
                rw [HI55.out] at H8
                have HFF := hidD (fun (V : World) (hh : RdB V R s (I5 : Int) 0 0) => xrfail_c R s (I5 : Int) 0 0 2 (I5 : Int) V hh)
                have hlt5' : (I5 : Int) < (s.size : Int) := by omega
                go_wp2_with (first
                  | (go_at_call 64; refine (HSM.out _ HRow1.out HU.out).mono ?_; clear HSM; rintro e w2 ⟨u2, rfl, hu2, hq2⟩; rw [add_term c (by rw [HS.out.1]; omega)] at hu2; obtain ⟨a3, l3, c3, rfl⟩ := hu2.form; have HRow2 := hidD hu2; have HRd2 := hidD (HRd1.out.below hq2); have HG2 := hidD (HG1.out.trans (hq2.mono HG1.out.size)); clear hu2 hq2)
                  | (go_at_call 65; refine (H5.out _ HRd2.out).mono ?_; clear H5; rintro e w3 ⟨rfl, hr3, hg3⟩; have HRow3 := hidD (HRow2.out.rd HRd2.out hg3); have HRd3 := hidD hr3; have HG3 := hidD (below_grown HG2.out hg3 (by rw [HR.out]; exact Nat.le_refl _)); clear hr3 hg3)
                  | (go_at_call 61; refine (H6.out _ HRd3.out).mono ?_; clear H6; rintro e w4 ⟨rfl, hr4, hg4⟩; have HRow4 := hidD (HRow3.out.rd HRd3.out hg4); have HRd4 := hidD hr4; have HG4 := hidD (below_grown HG3.out hg4 (by rw [HR.out]; exact Nat.le_refl _)); clear hr4 hg4)
                  | (go_at_call 61; refine (H7.out _ HRd4.out).mono ?_; clear H7; rintro e w5 ⟨rfl, hr5, hg5⟩; have HRow5 := hidD (HRow4.out.rd HRd4.out hg5); have HRd5 := hidD hr5; have HG5 := hidD (below_grown HG4.out hg5 (by rw [HR.out]; exact Nat.le_refl _)); clear hr5 hg5)
                  | (go_at_call 65; refine (H8.out _ HRd5.out).mono ?_; clear H8; rintro e w6 ⟨rfl, hr6, hg6⟩; have HRow6 := hidD (HRow5.out.rd HRd5.out hg6); have HRd6 := hidD hr6; have k61 := hr6.c1; have k62 := hr6.c2; have k63 := hr6.c3; have HG6 := hidD (below_grown HG5.out hg6 (by rw [HR.out]; exact Nat.le_refl _)); clear hr6 hg6)
                  | (go_at_call 66; refine (HFF.out _ HRd6.out).mono ?_; clear HFF; rintro e w7 ⟨rfl, hr7, hg7⟩; clear k61 k62 k63; have k72 : w7.cell? ⟨R, 2, none⟩ = some (.int .i64 2) := hr7.c2; have k73 : w7.cell? ⟨R, 3, none⟩ = some (.int .i64 (I5 : Int)) := hr7.c3; have HG7 := hidD (below_grown HG6.out hg7 (by rw [HR.out]; exact Nat.le_refl _)); clear hr7 hg7))
                go_quiet (fail)
                go_wp2_with fail
                exact bodyPost_ret (v := .tuple #[.slice none 0 0, .int .i64 2, .int .i64 (I5 : Int)]) (by simp [results, Tryz.results29, go_sem]) rfl ⟨_, _, _, rfl, ParOk.bad (e := 2) HFIN.out, below_drewN HG7.out _⟩
              · have HFIN := hidD (show parseP (wlst s) = (trimQ (S.set n (if false then cf S n - c else cf S n + c)), 0, 0) by rw [HP.out, HSE.out, if_neg (show ¬ isAt (wlst s) I5 43 = true by rw [hc43]; decide), if_neg (show ¬ isAt (wlst s) I5 45 = true by rw [hc45]; decide), if_pos (by rw [wlst_len]; omega)]; rfl)
                clear hc43 hc45
                have HSM := hidD (fun (V : World) (h1 : RowK false V (.slice a la ca) (trimQ S)) (h2 : RowK false V (.slice a2 l2 c2) (trimQ (upR n [c]))) => xSum_c _ _ _ _ V h1 h2 (HS.out.sqs (by have := HT.out.1; omega)) (sqs_term HF.out) ⟨(by have := trim_length_le S; have := HS.out.1; omega), (by have := len_term n c; omega)⟩)
                have H5 := hidD (fun (V : World) (hh : RdB V R s (I1 : Int) 0 0) => xris_c R s I1 0 0 45 V hh hI1 hs)
                rw [show (decide ((0 : Int) = 0) && isAt (wlst s) (skB (wlst s) I1) 45) = false from by rw [HI5.out]; simp [HC45.out], HI5.out] at H5
                have H6 := hidD (fun (V : World) (hh : RdB V R s (I5 : Int) 0 0) => xrhas_c R s I5 0 0 43 V hh hI5s hs false (by rw [HI55.out]; simp [HC43.out]))
                rw [HI55.out] at H6
                have H7 := hidD (fun (V : World) (hh : RdB V R s (I5 : Int) 0 0) => xrhas_c R s I5 0 0 45 V hh hI5s hs false (by rw [HI55.out]; simp [HC45.out]))
                rw [HI55.out] at H7
                have H8 := hidD (fun (V : World) (hh : RdB V R s (I5 : Int) 0 0) => xris_c R s I5 0 0 32 V hh hI5s hs)
                rw [HI55.out] at H8
                have hd5 : decide (I5 < s.size) = false := decide_eq_false hlt5
                go_wp2_with (first
                  | (go_at_call 64; refine (HSM.out _ HRow1.out HU.out).mono ?_; clear HSM; rintro e w2 ⟨u2, rfl, hu2, hq2⟩; rw [add_term c (by rw [HS.out.1]; omega)] at hu2; obtain ⟨a3, l3, c3, rfl⟩ := hu2.form; have HRow2 := hidD hu2; have HRd2 := hidD (HRd1.out.below hq2); have HG2 := hidD (HG1.out.trans (hq2.mono HG1.out.size)); clear hu2 hq2)
                  | (go_at_call 65; refine (H5.out _ HRd2.out).mono ?_; clear H5; rintro e w3 ⟨rfl, hr3, hg3⟩; have HRow3 := hidD (HRow2.out.rd HRd2.out hg3); have HRd3 := hidD hr3; have HG3 := hidD (below_grown HG2.out hg3 (by rw [HR.out]; exact Nat.le_refl _)); clear hr3 hg3)
                  | (go_at_call 61; refine (H6.out _ HRd3.out).mono ?_; clear H6; rintro e w4 ⟨rfl, hr4, hg4⟩; have HRow4 := hidD (HRow3.out.rd HRd3.out hg4); have HRd4 := hidD hr4; have HG4 := hidD (below_grown HG3.out hg4 (by rw [HR.out]; exact Nat.le_refl _)); clear hr4 hg4)
                  | (go_at_call 61; refine (H7.out _ HRd4.out).mono ?_; clear H7; rintro e w5 ⟨rfl, hr5, hg5⟩; have HRow5 := hidD (HRow4.out.rd HRd4.out hg5); have HRd5 := hidD hr5; have HG5 := hidD (below_grown HG4.out hg5 (by rw [HR.out]; exact Nat.le_refl _)); clear hr5 hg5)
                  | (go_at_call 65; refine (H8.out _ HRd5.out).mono ?_; clear H8; rintro e w6 ⟨rfl, hr6, hg6⟩; have HRow6 := hidD (HRow5.out.rd HRd5.out hg6); have HRd6 := hidD hr6; have k61 := hr6.c1; have k62 := hr6.c2; have k63 := hr6.c3; have HG6 := hidD (below_grown HG5.out hg6 (by rw [HR.out]; exact Nat.le_refl _)); clear hr6 hg6))
                exact bodyPost_ret (v := .tuple #[.slice a3 l3 c3, .int .i64 0, .int .i64 0]) (by simp [results, Tryz.results29, go_sem]) rfl ⟨_, _, _, rfl, ParOk.ok HFIN.out HS1.out (by have := HLT.out; omega) HRow6.out, HG6.out⟩
        · obtain ⟨E1, hE⟩ : ∃ x, rdE (termS (wlst s) I) 0 = x := ⟨_, rfl⟩
          obtain ⟨A1, hA⟩ : ∃ x, rdA (termS (wlst s) I) 0 0 = x := ⟨_, rfl⟩
          have hbad : ∃ e p : Nat, termS (wlst s) I = .bad e p := by
            cases hk : termS (wlst s) I with
            | bad e p => exact ⟨e, p, rfl⟩
            | ok a k => exact absurd (rd_ok hk 0 0).1 hE1
          obtain ⟨e0, p0, hbad⟩ := hbad
          have HEA := hidD (show E1 = (e0 : Int) ∧ A1 = (p0 : Int) by rw [← hE, ← hA, hbad]; exact ⟨rfl, rfl⟩)
          have HFIN := hidD (show parseP (wlst s) = ([], e0, p0) by rw [HP.out, ← HT.out.2.2, sumS_bad hbad]; rfl)
          rw [hE, hA] at HRd1
          rw [hE] at hE1
          have hE1b : (E1 == 0) = false := by rw [beq_eq_false_iff_ne]; exact hE1
          clear hE hA hbad
          by_cases hlt5 : I5 < s.size
          · skip
            have HSM := hidD (fun (V : World) (h1 : RowK false V (.slice a la ca) (trimQ S)) (h2 : RowK false V (.slice a2 l2 c2) (trimQ (upR n [c]))) => xSum_c _ _ _ _ V h1 h2 (HS.out.sqs (by have := HT.out.1; omega)) (sqs_term HF.out) ⟨(by have := trim_length_le S; have := HS.out.1; omega), (by have := len_term n c; omega)⟩)
            have H5 := hidD (fun (V : World) (hh : RdB V R s (I1 : Int) E1 A1) => xris_c R s I1 E1 A1 45 V hh hI1 hs)
            rw [show (decide ((E1 : Int) = 0) && isAt (wlst s) (skB (wlst s) I1) 45) = false from by simp [hE1], HI5.out] at H5
            have H6 := hidD (fun (V : World) (hh : RdB V R s (I5 : Int) E1 A1) => xrhas_c R s I5 E1 A1 43 V hh hI5s hs false (by simp [hE1]))
            rw [HI55.out] at H6
            have H7 := hidD (fun (V : World) (hh : RdB V R s (I5 : Int) E1 A1) => xrhas_c R s I5 E1 A1 45 V hh hI5s hs false (by simp [hE1]))
            rw [HI55.out] at H7
            have H8 := hidD (fun (V : World) (hh : RdB V R s (I5 : Int) E1 A1) => xris_c R s I5 E1 A1 32 V hh hI5s hs)
            rw [HI55.out] at H8
            have HFF := hidD (fun (V : World) (hh : RdB V R s (I5 : Int) E1 A1) => xrfail_c R s (I5 : Int) E1 A1 2 (I5 : Int) V hh)
            have hlt5' : (I5 : Int) < (s.size : Int) := by omega
            go_wp2_with (first
              | (go_at_call 64; refine (HSM.out _ HRow1.out HU.out).mono ?_; clear HSM; rintro e w2 ⟨u2, rfl, hu2, hq2⟩; rw [add_term c (by rw [HS.out.1]; omega)] at hu2; obtain ⟨a3, l3, c3, rfl⟩ := hu2.form; have HRow2 := hidD hu2; have HRd2 := hidD (HRd1.out.below hq2); have HG2 := hidD (HG1.out.trans (hq2.mono HG1.out.size)); clear hu2 hq2)
              | (go_at_call 65; refine (H5.out _ HRd2.out).mono ?_; clear H5; rintro e w3 ⟨rfl, hr3, hg3⟩; have HRow3 := hidD (HRow2.out.rd HRd2.out hg3); have HRd3 := hidD hr3; have HG3 := hidD (below_grown HG2.out hg3 (by rw [HR.out]; exact Nat.le_refl _)); clear hr3 hg3)
              | (go_at_call 61; refine (H6.out _ HRd3.out).mono ?_; clear H6; rintro e w4 ⟨rfl, hr4, hg4⟩; have HRow4 := hidD (HRow3.out.rd HRd3.out hg4); have HRd4 := hidD hr4; have HG4 := hidD (below_grown HG3.out hg4 (by rw [HR.out]; exact Nat.le_refl _)); clear hr4 hg4)
              | (go_at_call 61; refine (H7.out _ HRd4.out).mono ?_; clear H7; rintro e w5 ⟨rfl, hr5, hg5⟩; have HRow5 := hidD (HRow4.out.rd HRd4.out hg5); have HRd5 := hidD hr5; have HG5 := hidD (below_grown HG4.out hg5 (by rw [HR.out]; exact Nat.le_refl _)); clear hr5 hg5)
              | (go_at_call 65; refine (H8.out _ HRd5.out).mono ?_; clear H8; rintro e w6 ⟨rfl, hr6, hg6⟩; have HRow6 := hidD (HRow5.out.rd HRd5.out hg6); have HRd6 := hidD hr6; have k61 := hr6.c1; have k62 := hr6.c2; have k63 := hr6.c3; have HG6 := hidD (below_grown HG5.out hg6 (by rw [HR.out]; exact Nat.le_refl _)); clear hr6 hg6)
              | (go_at_call 66; refine (HFF.out _ HRd6.out).mono ?_; clear HFF; rintro e w7 ⟨rfl, hr7, hg7⟩; clear k61 k62 k63; have k72 := hr7.c2; have k73 := hr7.c3; rw [if_neg hE1] at k72; rw [if_neg hE1] at k73; have HG7 := hidD (below_grown HG6.out hg7 (by rw [HR.out]; exact Nat.le_refl _)); clear hr7 hg7))
            go_quiet (fail)
            go_wp2_with fail
            exact bodyPost_ret (v := .tuple #[.slice none 0 0, .int .i64 E1, .int .i64 A1]) (by simp [results, Tryz.results29, go_sem]) rfl ⟨_, _, _, rfl, by rw [HEA.out.1, HEA.out.2]; exact ParOk.bad HFIN.out, below_drewN HG7.out _⟩
          · skip
            have HSM := hidD (fun (V : World) (h1 : RowK false V (.slice a la ca) (trimQ S)) (h2 : RowK false V (.slice a2 l2 c2) (trimQ (upR n [c]))) => xSum_c _ _ _ _ V h1 h2 (HS.out.sqs (by have := HT.out.1; omega)) (sqs_term HF.out) ⟨(by have := trim_length_le S; have := HS.out.1; omega), (by have := len_term n c; omega)⟩)
            have H5 := hidD (fun (V : World) (hh : RdB V R s (I1 : Int) E1 A1) => xris_c R s I1 E1 A1 45 V hh hI1 hs)
            rw [show (decide ((E1 : Int) = 0) && isAt (wlst s) (skB (wlst s) I1) 45) = false from by simp [hE1], HI5.out] at H5
            have H6 := hidD (fun (V : World) (hh : RdB V R s (I5 : Int) E1 A1) => xrhas_c R s I5 E1 A1 43 V hh hI5s hs false (by simp [hE1]))
            rw [HI55.out] at H6
            have H7 := hidD (fun (V : World) (hh : RdB V R s (I5 : Int) E1 A1) => xrhas_c R s I5 E1 A1 45 V hh hI5s hs false (by simp [hE1]))
            rw [HI55.out] at H7
            have H8 := hidD (fun (V : World) (hh : RdB V R s (I5 : Int) E1 A1) => xris_c R s I5 E1 A1 32 V hh hI5s hs)
            rw [HI55.out] at H8
            have hd5 : decide (I5 < s.size) = false := decide_eq_false hlt5
            go_wp2_with (first
              | (go_at_call 64; refine (HSM.out _ HRow1.out HU.out).mono ?_; clear HSM; rintro e w2 ⟨u2, rfl, hu2, hq2⟩; rw [add_term c (by rw [HS.out.1]; omega)] at hu2; obtain ⟨a3, l3, c3, rfl⟩ := hu2.form; have HRow2 := hidD hu2; have HRd2 := hidD (HRd1.out.below hq2); have HG2 := hidD (HG1.out.trans (hq2.mono HG1.out.size)); clear hu2 hq2)
              | (go_at_call 65; refine (H5.out _ HRd2.out).mono ?_; clear H5; rintro e w3 ⟨rfl, hr3, hg3⟩; have HRow3 := hidD (HRow2.out.rd HRd2.out hg3); have HRd3 := hidD hr3; have HG3 := hidD (below_grown HG2.out hg3 (by rw [HR.out]; exact Nat.le_refl _)); clear hr3 hg3)
              | (go_at_call 61; refine (H6.out _ HRd3.out).mono ?_; clear H6; rintro e w4 ⟨rfl, hr4, hg4⟩; have HRow4 := hidD (HRow3.out.rd HRd3.out hg4); have HRd4 := hidD hr4; have HG4 := hidD (below_grown HG3.out hg4 (by rw [HR.out]; exact Nat.le_refl _)); clear hr4 hg4)
              | (go_at_call 61; refine (H7.out _ HRd4.out).mono ?_; clear H7; rintro e w5 ⟨rfl, hr5, hg5⟩; have HRow5 := hidD (HRow4.out.rd HRd4.out hg5); have HRd5 := hidD hr5; have HG5 := hidD (below_grown HG4.out hg5 (by rw [HR.out]; exact Nat.le_refl _)); clear hr5 hg5)
              | (go_at_call 65; refine (H8.out _ HRd5.out).mono ?_; clear H8; rintro e w6 ⟨rfl, hr6, hg6⟩; have HRow6 := hidD (HRow5.out.rd HRd5.out hg6); have HRd6 := hidD hr6; have k61 := hr6.c1; have k62 := hr6.c2; have k63 := hr6.c3; have HG6 := hidD (below_grown HG5.out hg6 (by rw [HR.out]; exact Nat.le_refl _)); clear hr6 hg6))
            go_quiet (fail)
            go_wp2_with fail
            exact bodyPost_ret (v := .tuple #[.slice none 0 0, .int .i64 E1, .int .i64 A1]) (by simp [results, Tryz.results29, go_sem]) rfl ⟨_, _, _, rfl, by rw [HEA.out.1, HEA.out.2]; exact ParOk.bad HFIN.out, below_drewN HG6.out _⟩
      | true =>
        have HS1 := hidD (show SumsAt (S.set n (if true then cf S n - c else cf S n + c)) (m + 1) from HS.out.next HF.out hn8 true)
        by_cases hE1 : rdE (termS (wlst s) I) 0 = 0
        · obtain ⟨_, ⟨c0, n0⟩, k, hk⟩ := rd_zero (termS_pos _ _) hE1
          obtain ⟨rfl, rfl, rfl⟩ := HOK.out c0 n0 k hk
          rw [hE1, (rd_ok hk 0 0).2] at HRd1
          have HLT := hidD (show m ≤ I ∧ I < I1 ∧ I1 ≤ I5 ∧ I5 ≤ s.size ∧ s.size - I < f + 1 from ⟨HT.out.1, (termS_lt (by rw [wlst_len]; exact hI) hk).1, by rw [← HI5.out]; exact skB_ge _ _, hI5s, HT.out.2.1⟩)
          have HSE := hidD (sumS_ok (f := f) (b := true) (S := S) hk)
          rw [HI5.out, HT.out.2.2] at HSE
          clear hE1 hk
          cases hc43 : isAt (wlst s) I5 43 with
          | true =>
            have HC43 := hidD hc43
            have HC45 := hidD (show isAt (wlst s) I5 45 = false from Bool.eq_false_iff.2 (fun h => absurd (isAt_one hc43 h) (by decide)))
            have HTT := hidD (show sumS (wlst s) f false (I5 + 1) (S.set n (if true then cf S n - c else cf S n + c)) = totS (wlst s) by rw [HSE.out, if_pos hc43])
            have hI51 : I5 + 1 ≤ s.size := by have := isAt_lt hc43; rw [wlst_len] at this; omega
            clear hc43
            have HSM := hidD (fun (V : World) (h1 : RowK false V (.slice a la ca) (trimQ S)) (h2 : RowK false V (.slice a2 l2 c2) (trimQ (upR n [c]))) => xLess_c _ _ _ _ V h1 h2 (HS.out.sqs (by have := HT.out.1; omega)) (sqs_term HF.out) ⟨(by have := trim_length_le S; have := HS.out.1; omega), (by have := len_term n c; omega)⟩)
            have H5 := hidD (fun (V : World) (hh : RdB V R s (I1 : Int) 0 0) => xris_c R s I1 0 0 45 V hh hI1 hs)
            rw [show (decide ((0 : Int) = 0) && isAt (wlst s) (skB (wlst s) I1) 45) = false from by rw [HI5.out]; simp [HC45.out], HI5.out] at H5
            have H6 := hidD (fun (V : World) (hh : RdB V R s (I5 : Int) 0 0) => xrhas_c R s I5 0 0 43 V hh hI5s hs true (by rw [HI55.out]; simp [HC43.out]))
            rw [HI55.out] at H6
            go_wp2_with (first
              | (go_at_call 63; refine (HSM.out _ HRow1.out HU.out).mono ?_; clear HSM; rintro e w2 ⟨u2, rfl, hu2, hq2⟩; rw [sub_term c (by rw [HS.out.1]; omega)] at hu2; obtain ⟨a3, l3, c3, rfl⟩ := hu2.form; have HRow2 := hidD hu2; have HRd2 := hidD (HRd1.out.below hq2); have HG2 := hidD (HG1.out.trans (hq2.mono HG1.out.size)); clear hu2 hq2)
              | (go_at_call 65; refine (H5.out _ HRd2.out).mono ?_; clear H5; rintro e w3 ⟨rfl, hr3, hg3⟩; have HRow3 := hidD (HRow2.out.rd HRd2.out hg3); have HRd3 := hidD hr3; have HG3 := hidD (below_grown HG2.out hg3 (by rw [HR.out]; exact Nat.le_refl _)); clear hr3 hg3)
              | (go_at_call 61; refine (H6.out _ HRd3.out).mono ?_; clear H6; rintro e w4 ⟨rfl, hr4, hg4⟩; have HRow4 := hidD (HRow3.out.rd HRd3.out hg4); have HRd4 := hidD hr4; have HG4 := hidD (below_grown HG3.out hg4 (by rw [HR.out]; exact Nat.le_refl _)); clear hr4 hg4))
            go_roundw
            case rel => exact ⟨_, I5 + 1, f, m + 1, _, _, _, _, rfl, rfl, hI51, hidD HRd4.out, hidD HRow4.out, hidD HS1.out, hidD ⟨by have := HLT.out; omega, by have := HLT.out; omega, HTT.out⟩, hidD HG4.out⟩
            case measure =>
              have e1 := rdI_of (I := I5 + 1) HRd4.out
              have e2 := rdI_of HRr.out
              rw [e1, e2]
              have := HLT.out
              omega
          | false =>
            have HC43 := hidD hc43
            cases hc45 : isAt (wlst s) I5 45 with
            | true =>
              have HC45 := hidD hc45
              have HTT := hidD (show sumS (wlst s) f true (I5 + 1) (S.set n (if true then cf S n - c else cf S n + c)) = totS (wlst s) by rw [HSE.out, if_neg (show ¬ isAt (wlst s) I5 43 = true by rw [hc43]; decide), if_pos hc45])
              have hI51 : I5 + 1 ≤ s.size := by have := isAt_lt hc45; rw [wlst_len] at this; omega
              clear hc43 hc45
              have HSM := hidD (fun (V : World) (h1 : RowK false V (.slice a la ca) (trimQ S)) (h2 : RowK false V (.slice a2 l2 c2) (trimQ (upR n [c]))) => xLess_c _ _ _ _ V h1 h2 (HS.out.sqs (by have := HT.out.1; omega)) (sqs_term HF.out) ⟨(by have := trim_length_le S; have := HS.out.1; omega), (by have := len_term n c; omega)⟩)
              have H5 := hidD (fun (V : World) (hh : RdB V R s (I1 : Int) 0 0) => xris_c R s I1 0 0 45 V hh hI1 hs)
              rw [show (decide ((0 : Int) = 0) && isAt (wlst s) (skB (wlst s) I1) 45) = true from by rw [HI5.out]; simp [HC45.out], HI5.out] at H5
              have H6 := hidD (fun (V : World) (hh : RdB V R s (I5 : Int) 0 0) => xrhas_c R s I5 0 0 43 V hh hI5s hs false (by rw [HI55.out]; simp [HC43.out]))
              rw [HI55.out] at H6
              have H7 := hidD (fun (V : World) (hh : RdB V R s (I5 : Int) 0 0) => xrhas_c R s I5 0 0 45 V hh hI5s hs true (by rw [HI55.out]; simp [HC45.out]))
              rw [HI55.out] at H7
              go_wp2_with (first
                | (go_at_call 63; refine (HSM.out _ HRow1.out HU.out).mono ?_; clear HSM; rintro e w2 ⟨u2, rfl, hu2, hq2⟩; rw [sub_term c (by rw [HS.out.1]; omega)] at hu2; obtain ⟨a3, l3, c3, rfl⟩ := hu2.form; have HRow2 := hidD hu2; have HRd2 := hidD (HRd1.out.below hq2); have HG2 := hidD (HG1.out.trans (hq2.mono HG1.out.size)); clear hu2 hq2)
                | (go_at_call 65; refine (H5.out _ HRd2.out).mono ?_; clear H5; rintro e w3 ⟨rfl, hr3, hg3⟩; have HRow3 := hidD (HRow2.out.rd HRd2.out hg3); have HRd3 := hidD hr3; have HG3 := hidD (below_grown HG2.out hg3 (by rw [HR.out]; exact Nat.le_refl _)); clear hr3 hg3)
                | (go_at_call 61; refine (H6.out _ HRd3.out).mono ?_; clear H6; rintro e w4 ⟨rfl, hr4, hg4⟩; have HRow4 := hidD (HRow3.out.rd HRd3.out hg4); have HRd4 := hidD hr4; have HG4 := hidD (below_grown HG3.out hg4 (by rw [HR.out]; exact Nat.le_refl _)); clear hr4 hg4)
                | (go_at_call 61; refine (H7.out _ HRd4.out).mono ?_; clear H7; rintro e w5 ⟨rfl, hr5, hg5⟩; have HRow5 := hidD (HRow4.out.rd HRd4.out hg5); have HRd5 := hidD hr5; have HG5 := hidD (below_grown HG4.out hg5 (by rw [HR.out]; exact Nat.le_refl _)); clear hr5 hg5))
              go_roundw
              case rel => exact ⟨_, I5 + 1, f, m + 1, _, _, _, _, rfl, rfl, hI51, hidD HRd5.out, hidD HRow5.out, hidD HS1.out, hidD ⟨by have := HLT.out; omega, by have := HLT.out; omega, HTT.out⟩, hidD HG5.out⟩
              case measure =>
                have e1 := rdI_of (I := I5 + 1) HRd5.out
                have e2 := rdI_of HRr.out
                rw [e1, e2]
                have := HLT.out
                omega
            | false =>
              have HC45 := hidD hc45
              by_cases hlt5 : I5 < s.size
              · have HFIN := hidD (show parseP (wlst s) = ([], 2, I5) by rw [HP.out, HSE.out, if_neg (show ¬ isAt (wlst s) I5 43 = true by rw [hc43]; decide), if_neg (show ¬ isAt (wlst s) I5 45 = true by rw [hc45]; decide), if_neg (by rw [wlst_len]; omega)]; rfl)
                clear hc43 hc45
                have HSM := hidD (fun (V : World) (h1 : RowK false V (.slice a la ca) (trimQ S)) (h2 : RowK false V (.slice a2 l2 c2) (trimQ (upR n [c]))) => xLess_c _ _ _ _ V h1 h2 (HS.out.sqs (by have := HT.out.1; omega)) (sqs_term HF.out) ⟨(by have := trim_length_le S; have := HS.out.1; omega), (by have := len_term n c; omega)⟩)
                have H5 := hidD (fun (V : World) (hh : RdB V R s (I1 : Int) 0 0) => xris_c R s I1 0 0 45 V hh hI1 hs)
                rw [show (decide ((0 : Int) = 0) && isAt (wlst s) (skB (wlst s) I1) 45) = false from by rw [HI5.out]; simp [HC45.out], HI5.out] at H5
                have H6 := hidD (fun (V : World) (hh : RdB V R s (I5 : Int) 0 0) => xrhas_c R s I5 0 0 43 V hh hI5s hs false (by rw [HI55.out]; simp [HC43.out]))
                rw [HI55.out] at H6
                have H7 := hidD (fun (V : World) (hh : RdB V R s (I5 : Int) 0 0) => xrhas_c R s I5 0 0 45 V hh hI5s hs false (by rw [HI55.out]; simp [HC45.out]))
                rw [HI55.out] at H7
                have H8 := hidD (fun (V : World) (hh : RdB V R s (I5 : Int) 0 0) => xris_c R s I5 0 0 32 V hh hI5s hs)
                rw [HI55.out] at H8
                have HFF := hidD (fun (V : World) (hh : RdB V R s (I5 : Int) 0 0) => xrfail_c R s (I5 : Int) 0 0 2 (I5 : Int) V hh)
                have hlt5' : (I5 : Int) < (s.size : Int) := by omega
                go_wp2_with (first
                  | (go_at_call 63; refine (HSM.out _ HRow1.out HU.out).mono ?_; clear HSM; rintro e w2 ⟨u2, rfl, hu2, hq2⟩; rw [sub_term c (by rw [HS.out.1]; omega)] at hu2; obtain ⟨a3, l3, c3, rfl⟩ := hu2.form; have HRow2 := hidD hu2; have HRd2 := hidD (HRd1.out.below hq2); have HG2 := hidD (HG1.out.trans (hq2.mono HG1.out.size)); clear hu2 hq2)
                  | (go_at_call 65; refine (H5.out _ HRd2.out).mono ?_; clear H5; rintro e w3 ⟨rfl, hr3, hg3⟩; have HRow3 := hidD (HRow2.out.rd HRd2.out hg3); have HRd3 := hidD hr3; have HG3 := hidD (below_grown HG2.out hg3 (by rw [HR.out]; exact Nat.le_refl _)); clear hr3 hg3)
                  | (go_at_call 61; refine (H6.out _ HRd3.out).mono ?_; clear H6; rintro e w4 ⟨rfl, hr4, hg4⟩; have HRow4 := hidD (HRow3.out.rd HRd3.out hg4); have HRd4 := hidD hr4; have HG4 := hidD (below_grown HG3.out hg4 (by rw [HR.out]; exact Nat.le_refl _)); clear hr4 hg4)
                  | (go_at_call 61; refine (H7.out _ HRd4.out).mono ?_; clear H7; rintro e w5 ⟨rfl, hr5, hg5⟩; have HRow5 := hidD (HRow4.out.rd HRd4.out hg5); have HRd5 := hidD hr5; have HG5 := hidD (below_grown HG4.out hg5 (by rw [HR.out]; exact Nat.le_refl _)); clear hr5 hg5)
                  | (go_at_call 65; refine (H8.out _ HRd5.out).mono ?_; clear H8; rintro e w6 ⟨rfl, hr6, hg6⟩; have HRow6 := hidD (HRow5.out.rd HRd5.out hg6); have HRd6 := hidD hr6; have k61 := hr6.c1; have k62 := hr6.c2; have k63 := hr6.c3; have HG6 := hidD (below_grown HG5.out hg6 (by rw [HR.out]; exact Nat.le_refl _)); clear hr6 hg6)
                  | (go_at_call 66; refine (HFF.out _ HRd6.out).mono ?_; clear HFF; rintro e w7 ⟨rfl, hr7, hg7⟩; clear k61 k62 k63; have k72 : w7.cell? ⟨R, 2, none⟩ = some (.int .i64 2) := hr7.c2; have k73 : w7.cell? ⟨R, 3, none⟩ = some (.int .i64 (I5 : Int)) := hr7.c3; have HG7 := hidD (below_grown HG6.out hg7 (by rw [HR.out]; exact Nat.le_refl _)); clear hr7 hg7))
                go_quiet (fail)
                go_wp2_with fail
                exact bodyPost_ret (v := .tuple #[.slice none 0 0, .int .i64 2, .int .i64 (I5 : Int)]) (by simp [results, Tryz.results29, go_sem]) rfl ⟨_, _, _, rfl, ParOk.bad (e := 2) HFIN.out, below_drewN HG7.out _⟩
              · have HFIN := hidD (show parseP (wlst s) = (trimQ (S.set n (if true then cf S n - c else cf S n + c)), 0, 0) by rw [HP.out, HSE.out, if_neg (show ¬ isAt (wlst s) I5 43 = true by rw [hc43]; decide), if_neg (show ¬ isAt (wlst s) I5 45 = true by rw [hc45]; decide), if_pos (by rw [wlst_len]; omega)]; rfl)
                clear hc43 hc45
                have HSM := hidD (fun (V : World) (h1 : RowK false V (.slice a la ca) (trimQ S)) (h2 : RowK false V (.slice a2 l2 c2) (trimQ (upR n [c]))) => xLess_c _ _ _ _ V h1 h2 (HS.out.sqs (by have := HT.out.1; omega)) (sqs_term HF.out) ⟨(by have := trim_length_le S; have := HS.out.1; omega), (by have := len_term n c; omega)⟩)
                have H5 := hidD (fun (V : World) (hh : RdB V R s (I1 : Int) 0 0) => xris_c R s I1 0 0 45 V hh hI1 hs)
                rw [show (decide ((0 : Int) = 0) && isAt (wlst s) (skB (wlst s) I1) 45) = false from by rw [HI5.out]; simp [HC45.out], HI5.out] at H5
                have H6 := hidD (fun (V : World) (hh : RdB V R s (I5 : Int) 0 0) => xrhas_c R s I5 0 0 43 V hh hI5s hs false (by rw [HI55.out]; simp [HC43.out]))
                rw [HI55.out] at H6
                have H7 := hidD (fun (V : World) (hh : RdB V R s (I5 : Int) 0 0) => xrhas_c R s I5 0 0 45 V hh hI5s hs false (by rw [HI55.out]; simp [HC45.out]))
                rw [HI55.out] at H7
                have H8 := hidD (fun (V : World) (hh : RdB V R s (I5 : Int) 0 0) => xris_c R s I5 0 0 32 V hh hI5s hs)
                rw [HI55.out] at H8
                have hd5 : decide (I5 < s.size) = false := decide_eq_false hlt5
                go_wp2_with (first
                  | (go_at_call 63; refine (HSM.out _ HRow1.out HU.out).mono ?_; clear HSM; rintro e w2 ⟨u2, rfl, hu2, hq2⟩; rw [sub_term c (by rw [HS.out.1]; omega)] at hu2; obtain ⟨a3, l3, c3, rfl⟩ := hu2.form; have HRow2 := hidD hu2; have HRd2 := hidD (HRd1.out.below hq2); have HG2 := hidD (HG1.out.trans (hq2.mono HG1.out.size)); clear hu2 hq2)
                  | (go_at_call 65; refine (H5.out _ HRd2.out).mono ?_; clear H5; rintro e w3 ⟨rfl, hr3, hg3⟩; have HRow3 := hidD (HRow2.out.rd HRd2.out hg3); have HRd3 := hidD hr3; have HG3 := hidD (below_grown HG2.out hg3 (by rw [HR.out]; exact Nat.le_refl _)); clear hr3 hg3)
                  | (go_at_call 61; refine (H6.out _ HRd3.out).mono ?_; clear H6; rintro e w4 ⟨rfl, hr4, hg4⟩; have HRow4 := hidD (HRow3.out.rd HRd3.out hg4); have HRd4 := hidD hr4; have HG4 := hidD (below_grown HG3.out hg4 (by rw [HR.out]; exact Nat.le_refl _)); clear hr4 hg4)
                  | (go_at_call 61; refine (H7.out _ HRd4.out).mono ?_; clear H7; rintro e w5 ⟨rfl, hr5, hg5⟩; have HRow5 := hidD (HRow4.out.rd HRd4.out hg5); have HRd5 := hidD hr5; have HG5 := hidD (below_grown HG4.out hg5 (by rw [HR.out]; exact Nat.le_refl _)); clear hr5 hg5)
                  | (go_at_call 65; refine (H8.out _ HRd5.out).mono ?_; clear H8; rintro e w6 ⟨rfl, hr6, hg6⟩; have HRow6 := hidD (HRow5.out.rd HRd5.out hg6); have HRd6 := hidD hr6; have k61 := hr6.c1; have k62 := hr6.c2; have k63 := hr6.c3; have HG6 := hidD (below_grown HG5.out hg6 (by rw [HR.out]; exact Nat.le_refl _)); clear hr6 hg6))
                exact bodyPost_ret (v := .tuple #[.slice a3 l3 c3, .int .i64 0, .int .i64 0]) (by simp [results, Tryz.results29, go_sem]) rfl ⟨_, _, _, rfl, ParOk.ok HFIN.out HS1.out (by have := HLT.out; omega) HRow6.out, HG6.out⟩
        · obtain ⟨E1, hE⟩ : ∃ x, rdE (termS (wlst s) I) 0 = x := ⟨_, rfl⟩
          obtain ⟨A1, hA⟩ : ∃ x, rdA (termS (wlst s) I) 0 0 = x := ⟨_, rfl⟩
          have hbad : ∃ e p : Nat, termS (wlst s) I = .bad e p := by
            cases hk : termS (wlst s) I with
            | bad e p => exact ⟨e, p, rfl⟩
            | ok a k => exact absurd (rd_ok hk 0 0).1 hE1
          obtain ⟨e0, p0, hbad⟩ := hbad
          have HEA := hidD (show E1 = (e0 : Int) ∧ A1 = (p0 : Int) by rw [← hE, ← hA, hbad]; exact ⟨rfl, rfl⟩)
          have HFIN := hidD (show parseP (wlst s) = ([], e0, p0) by rw [HP.out, ← HT.out.2.2, sumS_bad hbad]; rfl)
          rw [hE, hA] at HRd1
          rw [hE] at hE1
          have hE1b : (E1 == 0) = false := by rw [beq_eq_false_iff_ne]; exact hE1
          clear hE hA hbad
          by_cases hlt5 : I5 < s.size
          · skip
            have HSM := hidD (fun (V : World) (h1 : RowK false V (.slice a la ca) (trimQ S)) (h2 : RowK false V (.slice a2 l2 c2) (trimQ (upR n [c]))) => xLess_c _ _ _ _ V h1 h2 (HS.out.sqs (by have := HT.out.1; omega)) (sqs_term HF.out) ⟨(by have := trim_length_le S; have := HS.out.1; omega), (by have := len_term n c; omega)⟩)
            have H5 := hidD (fun (V : World) (hh : RdB V R s (I1 : Int) E1 A1) => xris_c R s I1 E1 A1 45 V hh hI1 hs)
            rw [show (decide ((E1 : Int) = 0) && isAt (wlst s) (skB (wlst s) I1) 45) = false from by simp [hE1], HI5.out] at H5
            have H6 := hidD (fun (V : World) (hh : RdB V R s (I5 : Int) E1 A1) => xrhas_c R s I5 E1 A1 43 V hh hI5s hs false (by simp [hE1]))
            rw [HI55.out] at H6
            have H7 := hidD (fun (V : World) (hh : RdB V R s (I5 : Int) E1 A1) => xrhas_c R s I5 E1 A1 45 V hh hI5s hs false (by simp [hE1]))
            rw [HI55.out] at H7
            have H8 := hidD (fun (V : World) (hh : RdB V R s (I5 : Int) E1 A1) => xris_c R s I5 E1 A1 32 V hh hI5s hs)
            rw [HI55.out] at H8
            have HFF := hidD (fun (V : World) (hh : RdB V R s (I5 : Int) E1 A1) => xrfail_c R s (I5 : Int) E1 A1 2 (I5 : Int) V hh)
            have hlt5' : (I5 : Int) < (s.size : Int) := by omega
            go_wp2_with (first
              | (go_at_call 63; refine (HSM.out _ HRow1.out HU.out).mono ?_; clear HSM; rintro e w2 ⟨u2, rfl, hu2, hq2⟩; rw [sub_term c (by rw [HS.out.1]; omega)] at hu2; obtain ⟨a3, l3, c3, rfl⟩ := hu2.form; have HRow2 := hidD hu2; have HRd2 := hidD (HRd1.out.below hq2); have HG2 := hidD (HG1.out.trans (hq2.mono HG1.out.size)); clear hu2 hq2)
              | (go_at_call 65; refine (H5.out _ HRd2.out).mono ?_; clear H5; rintro e w3 ⟨rfl, hr3, hg3⟩; have HRow3 := hidD (HRow2.out.rd HRd2.out hg3); have HRd3 := hidD hr3; have HG3 := hidD (below_grown HG2.out hg3 (by rw [HR.out]; exact Nat.le_refl _)); clear hr3 hg3)
              | (go_at_call 61; refine (H6.out _ HRd3.out).mono ?_; clear H6; rintro e w4 ⟨rfl, hr4, hg4⟩; have HRow4 := hidD (HRow3.out.rd HRd3.out hg4); have HRd4 := hidD hr4; have HG4 := hidD (below_grown HG3.out hg4 (by rw [HR.out]; exact Nat.le_refl _)); clear hr4 hg4)
              | (go_at_call 61; refine (H7.out _ HRd4.out).mono ?_; clear H7; rintro e w5 ⟨rfl, hr5, hg5⟩; have HRow5 := hidD (HRow4.out.rd HRd4.out hg5); have HRd5 := hidD hr5; have HG5 := hidD (below_grown HG4.out hg5 (by rw [HR.out]; exact Nat.le_refl _)); clear hr5 hg5)
              | (go_at_call 65; refine (H8.out _ HRd5.out).mono ?_; clear H8; rintro e w6 ⟨rfl, hr6, hg6⟩; have HRow6 := hidD (HRow5.out.rd HRd5.out hg6); have HRd6 := hidD hr6; have k61 := hr6.c1; have k62 := hr6.c2; have k63 := hr6.c3; have HG6 := hidD (below_grown HG5.out hg6 (by rw [HR.out]; exact Nat.le_refl _)); clear hr6 hg6)
              | (go_at_call 66; refine (HFF.out _ HRd6.out).mono ?_; clear HFF; rintro e w7 ⟨rfl, hr7, hg7⟩; clear k61 k62 k63; have k72 := hr7.c2; have k73 := hr7.c3; rw [if_neg hE1] at k72; rw [if_neg hE1] at k73; have HG7 := hidD (below_grown HG6.out hg7 (by rw [HR.out]; exact Nat.le_refl _)); clear hr7 hg7))
            go_quiet (fail)
            go_wp2_with fail
            exact bodyPost_ret (v := .tuple #[.slice none 0 0, .int .i64 E1, .int .i64 A1]) (by simp [results, Tryz.results29, go_sem]) rfl ⟨_, _, _, rfl, by rw [HEA.out.1, HEA.out.2]; exact ParOk.bad HFIN.out, below_drewN HG7.out _⟩
          · skip
            have HSM := hidD (fun (V : World) (h1 : RowK false V (.slice a la ca) (trimQ S)) (h2 : RowK false V (.slice a2 l2 c2) (trimQ (upR n [c]))) => xLess_c _ _ _ _ V h1 h2 (HS.out.sqs (by have := HT.out.1; omega)) (sqs_term HF.out) ⟨(by have := trim_length_le S; have := HS.out.1; omega), (by have := len_term n c; omega)⟩)
            have H5 := hidD (fun (V : World) (hh : RdB V R s (I1 : Int) E1 A1) => xris_c R s I1 E1 A1 45 V hh hI1 hs)
            rw [show (decide ((E1 : Int) = 0) && isAt (wlst s) (skB (wlst s) I1) 45) = false from by simp [hE1], HI5.out] at H5
            have H6 := hidD (fun (V : World) (hh : RdB V R s (I5 : Int) E1 A1) => xrhas_c R s I5 E1 A1 43 V hh hI5s hs false (by simp [hE1]))
            rw [HI55.out] at H6
            have H7 := hidD (fun (V : World) (hh : RdB V R s (I5 : Int) E1 A1) => xrhas_c R s I5 E1 A1 45 V hh hI5s hs false (by simp [hE1]))
            rw [HI55.out] at H7
            have H8 := hidD (fun (V : World) (hh : RdB V R s (I5 : Int) E1 A1) => xris_c R s I5 E1 A1 32 V hh hI5s hs)
            rw [HI55.out] at H8
            have hd5 : decide (I5 < s.size) = false := decide_eq_false hlt5
            go_wp2_with (first
              | (go_at_call 63; refine (HSM.out _ HRow1.out HU.out).mono ?_; clear HSM; rintro e w2 ⟨u2, rfl, hu2, hq2⟩; rw [sub_term c (by rw [HS.out.1]; omega)] at hu2; obtain ⟨a3, l3, c3, rfl⟩ := hu2.form; have HRow2 := hidD hu2; have HRd2 := hidD (HRd1.out.below hq2); have HG2 := hidD (HG1.out.trans (hq2.mono HG1.out.size)); clear hu2 hq2)
              | (go_at_call 65; refine (H5.out _ HRd2.out).mono ?_; clear H5; rintro e w3 ⟨rfl, hr3, hg3⟩; have HRow3 := hidD (HRow2.out.rd HRd2.out hg3); have HRd3 := hidD hr3; have HG3 := hidD (below_grown HG2.out hg3 (by rw [HR.out]; exact Nat.le_refl _)); clear hr3 hg3)
              | (go_at_call 61; refine (H6.out _ HRd3.out).mono ?_; clear H6; rintro e w4 ⟨rfl, hr4, hg4⟩; have HRow4 := hidD (HRow3.out.rd HRd3.out hg4); have HRd4 := hidD hr4; have HG4 := hidD (below_grown HG3.out hg4 (by rw [HR.out]; exact Nat.le_refl _)); clear hr4 hg4)
              | (go_at_call 61; refine (H7.out _ HRd4.out).mono ?_; clear H7; rintro e w5 ⟨rfl, hr5, hg5⟩; have HRow5 := hidD (HRow4.out.rd HRd4.out hg5); have HRd5 := hidD hr5; have HG5 := hidD (below_grown HG4.out hg5 (by rw [HR.out]; exact Nat.le_refl _)); clear hr5 hg5)
              | (go_at_call 65; refine (H8.out _ HRd5.out).mono ?_; clear H8; rintro e w6 ⟨rfl, hr6, hg6⟩; have HRow6 := hidD (HRow5.out.rd HRd5.out hg6); have HRd6 := hidD hr6; have k61 := hr6.c1; have k62 := hr6.c2; have k63 := hr6.c3; have HG6 := hidD (below_grown HG5.out hg6 (by rw [HR.out]; exact Nat.le_refl _)); clear hr6 hg6))
            go_quiet (fail)
            go_wp2_with fail
            exact bodyPost_ret (v := .tuple #[.slice none 0 0, .int .i64 E1, .int .i64 A1]) (by simp [results, Tryz.results29, go_sem]) rfl ⟨_, _, _, rfl, by rw [HEA.out.1, HEA.out.2]; exact ParOk.bad HFIN.out, below_drewN HG6.out _⟩
end Go.Proofs.YteldjhhjnchdeaaGreatDoor
namespace Go.Proofs.YteldjhhjnchdeaaGreatDoor
open Go.RowKit Go.Shelf

attribute [local go_sem] Oper.semAt_some

/-- The code's reader. -/
def RcB (W : World) (R : Nat) (s : ByteArray) (I : Int) : Prop := W.heap[R]? = some (.cells #[.string s, .int .i64 I] 130 (0, 0))
section
variable {W W' : World} {R : Nat} {s : ByteArray} {I : Int}
theorem RcB.lt (h : RcB W R s I) : R < W.heap.size := (Array.getElem?_eq_some_iff.1 h).1
theorem RcB.c0 (h : RcB W R s I) : W.cell? ⟨R, 0, none⟩ = some (.string s) := by simp [World.cell?, show W.heap[R]? = _ from h]
theorem RcB.c1 (h : RcB W R s I) : W.cell? ⟨R, 1, none⟩ = some (.int .i64 I) := by simp [World.cell?, show W.heap[R]? = _ from h]
theorem RcB.f (h : RcB W R s I) (o : Nat) : W.frozen? ⟨R, o, none⟩ = false := by simp [World.frozen?, show W.heap[R]? = _ from h]
theorem RcB.below (h : RcB W R s I) (hb : Below W.heap.size W W') : RcB W' R s I := (hb.block R h.lt).trans h
theorem RcB.set1 (h : RcB W R s I) (x : Int) : RcB (W.setCell ⟨R, 1, none⟩ (.int .i64 x)) R s x := by
  have := setCell_heap (o := 1) h (.int .i64 x)
  exact this
theorem RcB.drewN (h : RcB W R s I) (n : Nat) : RcB (W.drewN n) R s I := h
theorem rc_typ (h : RcB W R s I) {cs : Array Value} {t : TypeId} {m : Nat × Nat} {b : Nat} (hb : W.heap[b]? = some (.cells cs t m)) (ht : t ≠ 130) : b ≠ R := by
  intro e
  subst e
  have := hb.symm.trans h
  simp only [Option.some.injEq, Obj.cells.injEq] at this
  exact ht this.2.1
theorem row_rc (h : RcB W R s I) (hg : W.grownBy W' (some R)) : ∀ k v ds, Row k W v ds → Row k W' v ds := by
  intro k v ds hr
  obtain ⟨a, cap, e, _⟩ := id hr
  subst e
  refine hr.grown hg (fun p ep hl => ?_)
  obtain ⟨b, off, ea, cs, m, ht⟩ := hr.typ hl
  rw [ea] at ep
  cases ep
  exact rc_typ h ht (by cases k <;> (show _ ≠ _; decide))
end
theorem rcI_of {W : World} {R : Nat} {s : ByteArray} {I : Nat} (h : RcB W R s I) : rdI W R = I := by
  unfold rdI; rw [h.c1]; simp [intOf]

set_option maxRecDepth 100000 in
set_option maxHeartbeats 1000000 in
theorem yisDigit_c (c : UInt8) (w : World) : Calls Tryz.prog 171 #[.int .u8 (c.toNat : Int)] w fun r w' => r = .returned (.bool (isD c)) ∧ w' = w := by
  by_cases h1 : 48 ≤ c.toNat
  · have g1 : decide ((48 : Int) ≤ (c.toNat : Int)) = true := decide_eq_true (by omega)
    by_cases h2 : c.toNat ≤ 57
    · have HD := hidD (show isD c = true by simp [isD, h1, h2])
      go_enter Tryz.func171, Tryz.ntmps171
      go_wp2
      go_ret
      exact ⟨by rw [HD.out]; simp; omega, rfl⟩
    · have HD := hidD (show isD c = false by simp [isD, h2])
      go_enter Tryz.func171, Tryz.ntmps171
      go_wp2
      go_ret
      exact ⟨by rw [HD.out]; simp; omega, rfl⟩
  · have HD := hidD (show isD c = false by simp [isD, h1])
    go_enter Tryz.func171, Tryz.ntmps171
    go_wp2
    go_ret
    exact ⟨by rw [HD.out]; rfl, rfl⟩

set_option maxRecDepth 100000 in
set_option maxHeartbeats 4000000 in
theorem ended_c (R : Nat) (s : ByteArray) (I : Nat) (w : World) (h : RcB w R s I) (hI : I ≤ s.size) (hs : s.size ≤ 300) :
    Calls Tryz.prog 126 #[.pointer (some ⟨R, 0, none⟩)] w fun r w' => r = .returned (.bool (decide (skB (wlst s) I = s.size))) ∧ RcB w' R s (skB (wlst s) I : Nat) ∧ w.grownBy w' (some R) := by
  have HH := hidD h
  clear h
  go_enter Tryz.func126, Tryz.ntmps126
  go_wp2
  go_loopw [] (fun wr => ∃ j : Nat, I ≤ j ∧ j ≤ s.size ∧ Hid (RcB wr R s j ∧ w.grownBy wr (some R) ∧ ∀ k (hk : k < s.size), I ≤ k → k < j → s[k] = 32)) (fun wr => s.size - rdI wr R)
  case atStart => exact ⟨I, Nat.le_refl _, hI, hidD ⟨HH.out, grown_refl _ _, fun k _ h1 h2 => by omega⟩⟩
  case round =>
    obtain ⟨j, h1, h2, HR⟩ := hrel
    have c0 := HR.out.1.c0
    have c1 := HR.out.1.c1
    have f1 := HR.out.1.f 1
    by_cases hlt : j < s.size
    · have hlt2 : (j : Int) < (s.size : Int) := by omega
      have hj0 : (0 : Int) ≤ (j : Int) := by omega
      by_cases h32 : s[j] = 32
      · have hb : ((s[j].toNat : Int) == 32) = true := by rw [h32]; rfl
        have H32 := hidD h32
        clear h32
        go_wp2_with fail
        go_quiet (fail)
        go_wp2
        go_roundw
        case rel =>
          refine ⟨j + 1, by omega, by omega, hidD ⟨?_, grown_trans (grown_trans HR.out.2.1 (grown_drewN _ _ _)) (grown_set _ R 1 _), fun k hk g1 g2 => ?_⟩⟩
          · have := (HR.out.1.drewN nq).set1 ((j : Int) + 1)
            rw [show ((j : Int) + 1) = ((j + 1 : Nat) : Int) from by omega] at this
            exact this
          · by_cases e : k = j
            · subst e; exact H32.out
            · exact HR.out.2.2 k hk g1 (by omega)
        case measure =>
          have e1 := rcI_of HR.out.1
          have e2 : rdI ((wr.drewN nq).setCell ⟨R, 1, none⟩ (.int .i64 ((j : Int) + 1))) R = j + 1 := by
            have := (HR.out.1.drewN nq).set1 ((j : Int) + 1)
            rw [show ((j : Int) + 1) = ((j + 1 : Nat) : Int) from by omega] at this ⊢
            exact rcI_of this
          show s.size - rdI ((wr.drewN nq).setCell ⟨R, 1, none⟩ (.int .i64 ((j : Int) + 1))) R < s.size - rdI wr R
          rw [e1, e2]
          omega
      · have hb : ((s[j].toNat : Int) == 32) = false := byte_ne (d := 32) h32
        have HSK := hidD (show skB (wlst s) I = j from run_bytes h1 h2 (fun k hk g1 g2 => by rw [HR.out.2.2 k hk g1 g2]; rfl) (fun _ => beq_eq_false_iff_ne.2 h32))
        have hjn : ¬ j = s.size := by omega
        have hjb : ((j : Int) == (s.size : Int)) = false := by rw [beq_eq_false_iff_ne]; omega
        clear h32
        go_wp2_with fail
        go_quiet (fail)
        go_wp2
        have HG := hidD (show w.grownBy (wr.drewN nq) (some R) from grown_trans HR.out.2.1 (grown_drewN _ _ _))
        have HD := hidD (HR.out.1.drewN nq)
        go_quiet (fail)
        go_wp2
        go_ret
        exact ⟨by rw [HSK.out]; simp [hjn], by rw [HSK.out]; exact HD.out.drewN _, grown_trans HG.out (grown_drewN _ _ _)⟩
    · have hje : j = s.size := by omega
      have hd : decide (j < s.size) = false := decide_eq_false (by omega)
      have HSK := hidD (show skB (wlst s) I = j from run_bytes h1 h2 (fun k hk g1 g2 => by rw [HR.out.2.2 k hk g1 g2]; rfl) (fun h => by omega))
      have hjb : ((j : Int) == (s.size : Int)) = true := by rw [hje]; exact beq_self_eq_true _
      have HJE := hidD hje
      clear hlt hje
      go_wp2_with fail
      go_quiet (fail)
      go_wp2
      have HG := hidD (show w.grownBy (wr.drewN nq) (some R) from grown_trans HR.out.2.1 (grown_drewN _ _ _))
      have HD := hidD (HR.out.1.drewN nq)
      go_quiet (fail)
      go_wp2
      go_ret
      exact ⟨by rw [HSK.out]; simp [HJE.out], by rw [HSK.out]; exact HD.out.drewN _, grown_trans HG.out (grown_drewN _ _ _)⟩
end Go.Proofs.YteldjhhjnchdeaaGreatDoor
namespace Go.Proofs.YteldjhhjnchdeaaGreatDoor
open Go.RowKit Go.Shelf

attribute [local go_sem] Oper.semAt_some

/-- What a reader panics with. -/
def faultV (e p : Int) : Value := .iface 97 (.agg #[.int .i64 e, .int .i64 p])

set_option maxRecDepth 100000 in
set_option maxHeartbeats 1000000 in
theorem dfail_c (v : Value) (e p : Int) (w : World) : Calls Tryz.prog 127 #[v, .int .i64 e, .int .i64 p] w fun r w' => r = .panicked [{ v := faultV e p, recovered := false }] ∧ w' = w := by
  go_enter Tryz.func127, Tryz.ntmps127
  go_wp2
  exact ⟨rfl, rfl, rfl⟩
end Go.Proofs.YteldjhhjnchdeaaGreatDoor
namespace Go.Proofs.YteldjhhjnchdeaaGreatDoor
open Go.RowKit Go.Shelf

attribute [local go_sem] Oper.semAt_some

/-- The code's reader, and what it keeps. -/
def FdS (w V : World) (R : Nat) (s : ByteArray) (I : Int) : Prop := RcB V R s I ∧ w.grownBy V (some R)
theorem FdS.below {w V V' : World} {R : Nat} {s : ByteArray} {I : Int} (h : FdS w V R s I) (hb : Below V.heap.size V V') : FdS w V' R s I := ⟨h.1.below hb, grown_trans h.2 (grown_below hb _)⟩

set_option maxRecDepth 100000 in
set_option maxHeartbeats 4000000 in
theorem found_c (R : Nat) (s : ByteArray) (I : Nat) (c : UInt8) (w : World) (h : RcB w R s I) (hI : I ≤ s.size) (hs : s.size ≤ 300) (b : Bool) (hb : b = isAt (wlst s) (skB (wlst s) I) c) :
    Calls Tryz.prog 124 #[.pointer (some ⟨R, 0, none⟩), .int .u8 (c.toNat : Int)] w fun r w' => r = .returned (.bool b) ∧ RcB w' R s ((skB (wlst s) I + (if b then 1 else 0) : Nat) : Int) ∧ w.grownBy w' (some R) := by
  have hmx : Tryz.prog.follows .mixedOrders = true := by kernel_rfl
  have HEN := hidD (fun (V : World) (hh : RcB V R s I) => ended_c R s I V hh hI hs)
  obtain ⟨j, hj⟩ : ∃ j, skB (wlst s) I = j := ⟨_, rfl⟩
  have hjs : j ≤ s.size := by rw [← hj, ← wlst_len]; exact skB_le (by rw [wlst_len]; exact hI)
  rw [hj] at HEN hb ⊢
  have HH := hidD h
  clear h hj
  by_cases hje : j = s.size
  · obtain rfl : b = false := by rw [hb]; exact isAt_end (by omega)
    rw [show decide (j = s.size) = true from decide_eq_true hje] at HEN
    clear hb hje
    go_enter Tryz.func124, Tryz.ntmps124
    go_wp2_with fail
    have ST0 : FdS w w.drew R s I := ⟨HH.out, rfl, rfl, rfl, Nat.le_refl _, fun _ _ _ => rfl⟩
    refine wp_region_tab hmx [[], [0], [1, 1], [2], [3, 2], [4, 2], [5, 2], [2], [7, 2], [8, 2], [9, 2], [6, 10, 2], [2], [11, 12, 2], [2, 13]] (by kernel_rfl) (by decide)
      (fun D act V => ∃ (t5x t6x t7x t8x t9x t10x t11x t12x t13x t14x t15x t16x t17x t18x t19x : Value), act = { tmps := #[Value.pointer (some { block := R, off := 0 }), Value.int IntKind.u8 ↑c.toNat, undef, undef, Value.bool false, t5x, t6x, t7x, t8x, t9x, t10x, t11x, t12x, t13x, t14x, t15x, t16x, t17x, t18x, t19x, undef, undef, undef, undef, undef, undef, undef], defers := [] } ∧ Hid ((D 0 = true → t5x = .pointer (some ⟨R, 0, none⟩)) ∧ (D 1 = true → t6x = .bool true) ∧ (D 2 = true → t7x = .bool true) ∧ (D 3 = true → True) ∧ (D 4 = true → True) ∧ (D 5 = true → True) ∧ (D 6 = true → True) ∧ (D 7 = true → True) ∧ (D 8 = true → True) ∧ (D 9 = true → True) ∧ (D 10 = true → True) ∧ (D 11 = true → True) ∧ (D 12 = true → True) ∧ (D 13 = true → True) ∧ (D 14 = true → t19x = .bool true)) ∧ Hid ((D 1 = false → FdS w V R s I) ∧ (D 1 = true → FdS w V R s (j : Int))))
      ⟨_, _, _, _, _, _, _, _, _, _, _, _, _, _, _, rfl, hidD ⟨by simp, by simp, by simp, by simp, by simp, by simp, by simp, by simp, by simp, by simp, by simp, by simp, by simp, by simp, by simp⟩, hidD ⟨fun _ => ST0, by simp⟩⟩ ?step1 ?fin1
    case step1 =>
      rintro D act V i ds hcl hi hds hDi ⟨t5x, t6x, t7x, t8x, t9x, t10x, t11x, t12x, t13x, t14x, t15x, t16x, t17x, t18x, t19x, rfl, GG, SS0⟩
      have hi6 : i < 15 := (List.getElem?_eq_some_iff.1 hi).1
      obtain rfl | rfl | rfl | rfl | rfl | rfl | rfl | rfl | rfl | rfl | rfl | rfl | rfl | rfl | rfl : i = 0 ∨ i = 1 ∨ i = 2 ∨ i = 3 ∨ i = 4 ∨ i = 5 ∨ i = 6 ∨ i = 7 ∨ i = 8 ∨ i = 9 ∨ i = 10 ∨ i = 11 ∨ i = 12 ∨ i = 13 ∨ i = 14 := by omega
      all_goals
        simp only [List.getElem?_cons_zero, List.getElem?_cons_succ, Option.some.injEq] at hi
        subst hi
      · have hf0 : D 1 = false := by
          cases h : D 1 with
          | false => rfl
          | true => rw [(hcl 1 _ rfl h 0 (by simp))] at hDi; cases hDi
        have hS0 := SS0.out.1 hf0
        clear hds
        refine wpOp_go rfl rfl (fun K hK => ?_)
        go_simp
        exact hK _ _ ⟨_, _, _, _, _, _, _, _, _, _, _, _, _, _, _, rfl, hidD ⟨fun _ => rfl, GG.out.2.1, GG.out.2.2.1, GG.out.2.2.2.1, GG.out.2.2.2.2.1, GG.out.2.2.2.2.2.1, GG.out.2.2.2.2.2.2.1, GG.out.2.2.2.2.2.2.2.1, GG.out.2.2.2.2.2.2.2.2.1, GG.out.2.2.2.2.2.2.2.2.2.1, GG.out.2.2.2.2.2.2.2.2.2.2.1, GG.out.2.2.2.2.2.2.2.2.2.2.2.1, GG.out.2.2.2.2.2.2.2.2.2.2.2.2.1, GG.out.2.2.2.2.2.2.2.2.2.2.2.2.2.1, GG.out.2.2.2.2.2.2.2.2.2.2.2.2.2.2⟩, hidD ⟨fun h => (SS0.out.1 (by simpa using h)), fun h => (SS0.out.2 (by simpa using h))⟩⟩
      · have hS0 := SS0.out.1 hDi
        obtain rfl := GG.out.1 (hds 0 (by simp))
        clear hds
        have HC := hidD (HEN.out V hS0.1)
        refine wpOp_go rfl rfl (fun K hK => ?_)
        go_simp
        go_wp2_with (go_at_call 126; refine HC.out.mono ?_; rintro e w5 ⟨rfl, hr5, hg5⟩)
        exact ⟨_, _, _, _, _, _, _, _, _, _, _, _, _, _, _, rfl, hidD ⟨fun _ => rfl, fun _ => rfl, GG.out.2.2.1, GG.out.2.2.2.1, GG.out.2.2.2.2.1, GG.out.2.2.2.2.2.1, GG.out.2.2.2.2.2.2.1, GG.out.2.2.2.2.2.2.2.1, GG.out.2.2.2.2.2.2.2.2.1, GG.out.2.2.2.2.2.2.2.2.2.1, GG.out.2.2.2.2.2.2.2.2.2.2.1, GG.out.2.2.2.2.2.2.2.2.2.2.2.1, GG.out.2.2.2.2.2.2.2.2.2.2.2.2.1, GG.out.2.2.2.2.2.2.2.2.2.2.2.2.2.1, GG.out.2.2.2.2.2.2.2.2.2.2.2.2.2.2⟩, hidD ⟨fun h => by simp at h, fun _ => ⟨hr5, grown_trans hS0.2 hg5⟩⟩⟩
      · obtain rfl := GG.out.2.1 (hds 1 (by simp))
        clear hds
        refine wpOp_go rfl rfl (fun K hK => ?_)
        go_simp
        exact hK _ _ ⟨_, _, _, _, _, _, _, _, _, _, _, _, _, _, _, rfl, hidD ⟨GG.out.1, fun _ => rfl, fun _ => rfl, GG.out.2.2.2.1, GG.out.2.2.2.2.1, GG.out.2.2.2.2.2.1, GG.out.2.2.2.2.2.2.1, GG.out.2.2.2.2.2.2.2.1, GG.out.2.2.2.2.2.2.2.2.1, GG.out.2.2.2.2.2.2.2.2.2.1, GG.out.2.2.2.2.2.2.2.2.2.2.1, GG.out.2.2.2.2.2.2.2.2.2.2.2.1, GG.out.2.2.2.2.2.2.2.2.2.2.2.2.1, GG.out.2.2.2.2.2.2.2.2.2.2.2.2.2.1, GG.out.2.2.2.2.2.2.2.2.2.2.2.2.2.2⟩, hidD ⟨fun h => (SS0.out.1 (by simpa using h)), fun h => (SS0.out.2 (by simpa using h))⟩⟩
      · obtain rfl := GG.out.2.2.1 (hds 2 (by simp))
        clear hds
        refine wpOp_no rfl rfl ?_
        exact ⟨_, _, _, _, _, _, _, _, _, _, _, _, _, _, _, rfl, hidD ⟨GG.out.1, GG.out.2.1, fun _ => rfl, fun _ => trivial, GG.out.2.2.2.2.1, GG.out.2.2.2.2.2.1, GG.out.2.2.2.2.2.2.1, GG.out.2.2.2.2.2.2.2.1, GG.out.2.2.2.2.2.2.2.2.1, GG.out.2.2.2.2.2.2.2.2.2.1, GG.out.2.2.2.2.2.2.2.2.2.2.1, GG.out.2.2.2.2.2.2.2.2.2.2.2.1, GG.out.2.2.2.2.2.2.2.2.2.2.2.2.1, GG.out.2.2.2.2.2.2.2.2.2.2.2.2.2.1, GG.out.2.2.2.2.2.2.2.2.2.2.2.2.2.2⟩, hidD ⟨fun h => (SS0.out.1 (by simpa using h)), fun h => (SS0.out.2 (by simpa using h))⟩⟩
      · obtain rfl := GG.out.2.2.1 (hds 2 (by simp))
        clear hds
        refine wpOp_no rfl rfl ?_
        exact ⟨_, _, _, _, _, _, _, _, _, _, _, _, _, _, _, rfl, hidD ⟨GG.out.1, GG.out.2.1, fun _ => rfl, GG.out.2.2.2.1, fun _ => trivial, GG.out.2.2.2.2.2.1, GG.out.2.2.2.2.2.2.1, GG.out.2.2.2.2.2.2.2.1, GG.out.2.2.2.2.2.2.2.2.1, GG.out.2.2.2.2.2.2.2.2.2.1, GG.out.2.2.2.2.2.2.2.2.2.2.1, GG.out.2.2.2.2.2.2.2.2.2.2.2.1, GG.out.2.2.2.2.2.2.2.2.2.2.2.2.1, GG.out.2.2.2.2.2.2.2.2.2.2.2.2.2.1, GG.out.2.2.2.2.2.2.2.2.2.2.2.2.2.2⟩, hidD ⟨fun h => (SS0.out.1 (by simpa using h)), fun h => (SS0.out.2 (by simpa using h))⟩⟩
      · obtain rfl := GG.out.2.2.1 (hds 2 (by simp))
        clear hds
        refine wpOp_no rfl rfl ?_
        exact ⟨_, _, _, _, _, _, _, _, _, _, _, _, _, _, _, rfl, hidD ⟨GG.out.1, GG.out.2.1, fun _ => rfl, GG.out.2.2.2.1, GG.out.2.2.2.2.1, fun _ => trivial, GG.out.2.2.2.2.2.2.1, GG.out.2.2.2.2.2.2.2.1, GG.out.2.2.2.2.2.2.2.2.1, GG.out.2.2.2.2.2.2.2.2.2.1, GG.out.2.2.2.2.2.2.2.2.2.2.1, GG.out.2.2.2.2.2.2.2.2.2.2.2.1, GG.out.2.2.2.2.2.2.2.2.2.2.2.2.1, GG.out.2.2.2.2.2.2.2.2.2.2.2.2.2.1, GG.out.2.2.2.2.2.2.2.2.2.2.2.2.2.2⟩, hidD ⟨fun h => (SS0.out.1 (by simpa using h)), fun h => (SS0.out.2 (by simpa using h))⟩⟩
      · obtain rfl := GG.out.2.2.1 (hds 2 (by simp))
        clear hds
        refine wpOp_no rfl rfl ?_
        exact ⟨_, _, _, _, _, _, _, _, _, _, _, _, _, _, _, rfl, hidD ⟨GG.out.1, GG.out.2.1, fun _ => rfl, GG.out.2.2.2.1, GG.out.2.2.2.2.1, GG.out.2.2.2.2.2.1, fun _ => trivial, GG.out.2.2.2.2.2.2.2.1, GG.out.2.2.2.2.2.2.2.2.1, GG.out.2.2.2.2.2.2.2.2.2.1, GG.out.2.2.2.2.2.2.2.2.2.2.1, GG.out.2.2.2.2.2.2.2.2.2.2.2.1, GG.out.2.2.2.2.2.2.2.2.2.2.2.2.1, GG.out.2.2.2.2.2.2.2.2.2.2.2.2.2.1, GG.out.2.2.2.2.2.2.2.2.2.2.2.2.2.2⟩, hidD ⟨fun h => (SS0.out.1 (by simpa using h)), fun h => (SS0.out.2 (by simpa using h))⟩⟩
      · obtain rfl := GG.out.2.2.1 (hds 2 (by simp))
        clear hds
        refine wpOp_no rfl rfl ?_
        exact ⟨_, _, _, _, _, _, _, _, _, _, _, _, _, _, _, rfl, hidD ⟨GG.out.1, GG.out.2.1, fun _ => rfl, GG.out.2.2.2.1, GG.out.2.2.2.2.1, GG.out.2.2.2.2.2.1, GG.out.2.2.2.2.2.2.1, fun _ => trivial, GG.out.2.2.2.2.2.2.2.2.1, GG.out.2.2.2.2.2.2.2.2.2.1, GG.out.2.2.2.2.2.2.2.2.2.2.1, GG.out.2.2.2.2.2.2.2.2.2.2.2.1, GG.out.2.2.2.2.2.2.2.2.2.2.2.2.1, GG.out.2.2.2.2.2.2.2.2.2.2.2.2.2.1, GG.out.2.2.2.2.2.2.2.2.2.2.2.2.2.2⟩, hidD ⟨fun h => (SS0.out.1 (by simpa using h)), fun h => (SS0.out.2 (by simpa using h))⟩⟩
      · obtain rfl := GG.out.2.2.1 (hds 2 (by simp))
        clear hds
        refine wpOp_no rfl rfl ?_
        exact ⟨_, _, _, _, _, _, _, _, _, _, _, _, _, _, _, rfl, hidD ⟨GG.out.1, GG.out.2.1, fun _ => rfl, GG.out.2.2.2.1, GG.out.2.2.2.2.1, GG.out.2.2.2.2.2.1, GG.out.2.2.2.2.2.2.1, GG.out.2.2.2.2.2.2.2.1, fun _ => trivial, GG.out.2.2.2.2.2.2.2.2.2.1, GG.out.2.2.2.2.2.2.2.2.2.2.1, GG.out.2.2.2.2.2.2.2.2.2.2.2.1, GG.out.2.2.2.2.2.2.2.2.2.2.2.2.1, GG.out.2.2.2.2.2.2.2.2.2.2.2.2.2.1, GG.out.2.2.2.2.2.2.2.2.2.2.2.2.2.2⟩, hidD ⟨fun h => (SS0.out.1 (by simpa using h)), fun h => (SS0.out.2 (by simpa using h))⟩⟩
      · obtain rfl := GG.out.2.2.1 (hds 2 (by simp))
        clear hds
        refine wpOp_no rfl rfl ?_
        exact ⟨_, _, _, _, _, _, _, _, _, _, _, _, _, _, _, rfl, hidD ⟨GG.out.1, GG.out.2.1, fun _ => rfl, GG.out.2.2.2.1, GG.out.2.2.2.2.1, GG.out.2.2.2.2.2.1, GG.out.2.2.2.2.2.2.1, GG.out.2.2.2.2.2.2.2.1, GG.out.2.2.2.2.2.2.2.2.1, fun _ => trivial, GG.out.2.2.2.2.2.2.2.2.2.2.1, GG.out.2.2.2.2.2.2.2.2.2.2.2.1, GG.out.2.2.2.2.2.2.2.2.2.2.2.2.1, GG.out.2.2.2.2.2.2.2.2.2.2.2.2.2.1, GG.out.2.2.2.2.2.2.2.2.2.2.2.2.2.2⟩, hidD ⟨fun h => (SS0.out.1 (by simpa using h)), fun h => (SS0.out.2 (by simpa using h))⟩⟩
      · obtain rfl := GG.out.2.2.1 (hds 2 (by simp))
        clear hds
        refine wpOp_no rfl rfl ?_
        exact ⟨_, _, _, _, _, _, _, _, _, _, _, _, _, _, _, rfl, hidD ⟨GG.out.1, GG.out.2.1, fun _ => rfl, GG.out.2.2.2.1, GG.out.2.2.2.2.1, GG.out.2.2.2.2.2.1, GG.out.2.2.2.2.2.2.1, GG.out.2.2.2.2.2.2.2.1, GG.out.2.2.2.2.2.2.2.2.1, GG.out.2.2.2.2.2.2.2.2.2.1, fun _ => trivial, GG.out.2.2.2.2.2.2.2.2.2.2.2.1, GG.out.2.2.2.2.2.2.2.2.2.2.2.2.1, GG.out.2.2.2.2.2.2.2.2.2.2.2.2.2.1, GG.out.2.2.2.2.2.2.2.2.2.2.2.2.2.2⟩, hidD ⟨fun h => (SS0.out.1 (by simpa using h)), fun h => (SS0.out.2 (by simpa using h))⟩⟩
      · obtain rfl := GG.out.2.2.1 (hds 2 (by simp))
        clear hds
        refine wpOp_no rfl rfl ?_
        exact ⟨_, _, _, _, _, _, _, _, _, _, _, _, _, _, _, rfl, hidD ⟨GG.out.1, GG.out.2.1, fun _ => rfl, GG.out.2.2.2.1, GG.out.2.2.2.2.1, GG.out.2.2.2.2.2.1, GG.out.2.2.2.2.2.2.1, GG.out.2.2.2.2.2.2.2.1, GG.out.2.2.2.2.2.2.2.2.1, GG.out.2.2.2.2.2.2.2.2.2.1, GG.out.2.2.2.2.2.2.2.2.2.2.1, fun _ => trivial, GG.out.2.2.2.2.2.2.2.2.2.2.2.2.1, GG.out.2.2.2.2.2.2.2.2.2.2.2.2.2.1, GG.out.2.2.2.2.2.2.2.2.2.2.2.2.2.2⟩, hidD ⟨fun h => (SS0.out.1 (by simpa using h)), fun h => (SS0.out.2 (by simpa using h))⟩⟩
      · obtain rfl := GG.out.2.2.1 (hds 2 (by simp))
        clear hds
        refine wpOp_no rfl rfl ?_
        exact ⟨_, _, _, _, _, _, _, _, _, _, _, _, _, _, _, rfl, hidD ⟨GG.out.1, GG.out.2.1, fun _ => rfl, GG.out.2.2.2.1, GG.out.2.2.2.2.1, GG.out.2.2.2.2.2.1, GG.out.2.2.2.2.2.2.1, GG.out.2.2.2.2.2.2.2.1, GG.out.2.2.2.2.2.2.2.2.1, GG.out.2.2.2.2.2.2.2.2.2.1, GG.out.2.2.2.2.2.2.2.2.2.2.1, GG.out.2.2.2.2.2.2.2.2.2.2.2.1, fun _ => trivial, GG.out.2.2.2.2.2.2.2.2.2.2.2.2.2.1, GG.out.2.2.2.2.2.2.2.2.2.2.2.2.2.2⟩, hidD ⟨fun h => (SS0.out.1 (by simpa using h)), fun h => (SS0.out.2 (by simpa using h))⟩⟩
      · obtain rfl := GG.out.2.2.1 (hds 2 (by simp))
        clear hds
        refine wpOp_no rfl rfl ?_
        exact ⟨_, _, _, _, _, _, _, _, _, _, _, _, _, _, _, rfl, hidD ⟨GG.out.1, GG.out.2.1, fun _ => rfl, GG.out.2.2.2.1, GG.out.2.2.2.2.1, GG.out.2.2.2.2.2.1, GG.out.2.2.2.2.2.2.1, GG.out.2.2.2.2.2.2.2.1, GG.out.2.2.2.2.2.2.2.2.1, GG.out.2.2.2.2.2.2.2.2.2.1, GG.out.2.2.2.2.2.2.2.2.2.2.1, GG.out.2.2.2.2.2.2.2.2.2.2.2.1, GG.out.2.2.2.2.2.2.2.2.2.2.2.2.1, fun _ => trivial, GG.out.2.2.2.2.2.2.2.2.2.2.2.2.2.2⟩, hidD ⟨fun h => (SS0.out.1 (by simpa using h)), fun h => (SS0.out.2 (by simpa using h))⟩⟩
      · obtain rfl := GG.out.2.2.1 (hds 2 (by simp))
        clear hds
        refine wpOp_go rfl rfl (fun K hK => ?_)
        go_simp
        exact hK _ _ ⟨_, _, _, _, _, _, _, _, _, _, _, _, _, _, _, rfl, hidD ⟨GG.out.1, GG.out.2.1, fun _ => rfl, GG.out.2.2.2.1, GG.out.2.2.2.2.1, GG.out.2.2.2.2.2.1, GG.out.2.2.2.2.2.2.1, GG.out.2.2.2.2.2.2.2.1, GG.out.2.2.2.2.2.2.2.2.1, GG.out.2.2.2.2.2.2.2.2.2.1, GG.out.2.2.2.2.2.2.2.2.2.2.1, GG.out.2.2.2.2.2.2.2.2.2.2.2.1, GG.out.2.2.2.2.2.2.2.2.2.2.2.2.1, GG.out.2.2.2.2.2.2.2.2.2.2.2.2.2.1, fun _ => rfl⟩, hidD ⟨fun h => (SS0.out.1 (by simpa using h)), fun h => (SS0.out.2 (by simpa using h))⟩⟩
    case fin1 =>
      rintro D act V hDD ⟨t5x, t6x, t7x, t8x, t9x, t10x, t11x, t12x, t13x, t14x, t15x, t16x, t17x, t18x, t19x, rfl, GG, SS0⟩
      have HF := hidD (SS0.out.2 (hDD 1 (by decide)))
      obtain rfl := GG.out.2.2.2.2.2.2.2.2.2.2.2.2.2.2 (hDD 14 (by decide))
      clear GG SS0 hDD
      go_wp2_with fail
      go_ret
      exact ⟨rfl, HF.out.1, HF.out.2⟩
  · have hlt : j < s.size := by omega
    have hlt2 : (j : Int) < (s.size : Int) := by omega
    rw [show decide (j = s.size) = false from decide_eq_false hje] at HEN
    rw [isAt_bytes hlt] at hb
    obtain ⟨nb, hnb⟩ : ∃ x, ((s[j].toNat : Int) != (c.toNat : Int)) = x := ⟨_, rfl⟩
    have HNB := hidD (show nb = !b by
      rw [← hnb, hb]
      by_cases e : s[j] = c
      · rw [e]; simp
      · rw [show (s[j] == c) = false from beq_eq_false_iff_ne.2 e, bne, byte_ne e])
    have HNE := hidD hnb
    clear hb hje hnb
    go_enter Tryz.func124, Tryz.ntmps124
    go_wp2_with fail
    have ST0 : FdS w w.drew R s I := ⟨HH.out, rfl, rfl, rfl, Nat.le_refl _, fun _ _ _ => rfl⟩
    refine wp_region_tab hmx [[], [0], [1, 1], [2], [3, 2], [4, 2], [5, 2], [2], [7, 2], [8, 2], [9, 2], [6, 10, 2], [2], [11, 12, 2], [2, 13]] (by kernel_rfl) (by decide)
      (fun D act V => ∃ (t5x t6x t7x t8x t9x t10x t11x t12x t13x t14x t15x t16x t17x t18x t19x : Value), act = { tmps := #[Value.pointer (some { block := R, off := 0 }), Value.int IntKind.u8 ↑c.toNat, undef, undef, Value.bool false, t5x, t6x, t7x, t8x, t9x, t10x, t11x, t12x, t13x, t14x, t15x, t16x, t17x, t18x, t19x, undef, undef, undef, undef, undef, undef, undef], defers := [] } ∧ Hid ((D 0 = true → t5x = .pointer (some ⟨R, 0, none⟩)) ∧ (D 1 = true → t6x = .bool false) ∧ (D 2 = true → t7x = .bool false) ∧ (D 3 = true → t8x = .pointer (some ⟨R, 0, none⟩)) ∧ (D 4 = true → t9x = .pointer (some ⟨R, 0, none⟩)) ∧ (D 5 = true → t10x = .pointer (some ⟨R, 0, none⟩)) ∧ (D 6 = true → t11x = .string s) ∧ (D 7 = true → t12x = .pointer (some ⟨R, 0, none⟩)) ∧ (D 8 = true → t13x = .pointer (some ⟨R, 0, none⟩)) ∧ (D 9 = true → t14x = .pointer (some ⟨R, 1, none⟩)) ∧ (D 10 = true → t15x = .int .i64 (j : Int)) ∧ (D 11 = true → t16x = .int .u8 (s[j].toNat : Int)) ∧ (D 12 = true → t17x = .int .u8 (c.toNat : Int)) ∧ (D 13 = true → t18x = .bool nb) ∧ (D 14 = true → t19x = .bool nb)) ∧ Hid ((D 1 = false → FdS w V R s I) ∧ (D 1 = true → FdS w V R s (j : Int))))
      ⟨_, _, _, _, _, _, _, _, _, _, _, _, _, _, _, rfl, hidD ⟨by simp, by simp, by simp, by simp, by simp, by simp, by simp, by simp, by simp, by simp, by simp, by simp, by simp, by simp, by simp⟩, hidD ⟨fun _ => ST0, by simp⟩⟩ ?step2 ?fin2
    case step2 =>
      rintro D act V i ds hcl hi hds hDi ⟨t5x, t6x, t7x, t8x, t9x, t10x, t11x, t12x, t13x, t14x, t15x, t16x, t17x, t18x, t19x, rfl, GG, SS0⟩
      have hi6 : i < 15 := (List.getElem?_eq_some_iff.1 hi).1
      obtain rfl | rfl | rfl | rfl | rfl | rfl | rfl | rfl | rfl | rfl | rfl | rfl | rfl | rfl | rfl : i = 0 ∨ i = 1 ∨ i = 2 ∨ i = 3 ∨ i = 4 ∨ i = 5 ∨ i = 6 ∨ i = 7 ∨ i = 8 ∨ i = 9 ∨ i = 10 ∨ i = 11 ∨ i = 12 ∨ i = 13 ∨ i = 14 := by omega
      all_goals
        simp only [List.getElem?_cons_zero, List.getElem?_cons_succ, Option.some.injEq] at hi
        subst hi
      · have hf0 : D 1 = false := by
          cases h : D 1 with
          | false => rfl
          | true => rw [(hcl 1 _ rfl h 0 (by simp))] at hDi; cases hDi
        have hS0 := SS0.out.1 hf0
        clear hds
        refine wpOp_go rfl rfl (fun K hK => ?_)
        go_simp
        exact hK _ _ ⟨_, _, _, _, _, _, _, _, _, _, _, _, _, _, _, rfl, hidD ⟨fun _ => rfl, GG.out.2.1, GG.out.2.2.1, GG.out.2.2.2.1, GG.out.2.2.2.2.1, GG.out.2.2.2.2.2.1, GG.out.2.2.2.2.2.2.1, GG.out.2.2.2.2.2.2.2.1, GG.out.2.2.2.2.2.2.2.2.1, GG.out.2.2.2.2.2.2.2.2.2.1, GG.out.2.2.2.2.2.2.2.2.2.2.1, GG.out.2.2.2.2.2.2.2.2.2.2.2.1, GG.out.2.2.2.2.2.2.2.2.2.2.2.2.1, GG.out.2.2.2.2.2.2.2.2.2.2.2.2.2.1, GG.out.2.2.2.2.2.2.2.2.2.2.2.2.2.2⟩, hidD ⟨fun h => (SS0.out.1 (by simpa using h)), fun h => (SS0.out.2 (by simpa using h))⟩⟩
      · have hS0 := SS0.out.1 hDi
        obtain rfl := GG.out.1 (hds 0 (by simp))
        clear hds
        have HC := hidD (HEN.out V hS0.1)
        refine wpOp_go rfl rfl (fun K hK => ?_)
        go_simp
        go_wp2_with (go_at_call 126; refine HC.out.mono ?_; rintro e w5 ⟨rfl, hr5, hg5⟩)
        exact ⟨_, _, _, _, _, _, _, _, _, _, _, _, _, _, _, rfl, hidD ⟨fun _ => rfl, fun _ => rfl, GG.out.2.2.1, GG.out.2.2.2.1, GG.out.2.2.2.2.1, GG.out.2.2.2.2.2.1, GG.out.2.2.2.2.2.2.1, GG.out.2.2.2.2.2.2.2.1, GG.out.2.2.2.2.2.2.2.2.1, GG.out.2.2.2.2.2.2.2.2.2.1, GG.out.2.2.2.2.2.2.2.2.2.2.1, GG.out.2.2.2.2.2.2.2.2.2.2.2.1, GG.out.2.2.2.2.2.2.2.2.2.2.2.2.1, GG.out.2.2.2.2.2.2.2.2.2.2.2.2.2.1, GG.out.2.2.2.2.2.2.2.2.2.2.2.2.2.2⟩, hidD ⟨fun h => by simp at h, fun _ => ⟨hr5, grown_trans hS0.2 hg5⟩⟩⟩
      · obtain rfl := GG.out.2.1 (hds 1 (by simp))
        clear hds
        refine wpOp_go rfl rfl (fun K hK => ?_)
        go_simp
        exact hK _ _ ⟨_, _, _, _, _, _, _, _, _, _, _, _, _, _, _, rfl, hidD ⟨GG.out.1, fun _ => rfl, fun _ => rfl, GG.out.2.2.2.1, GG.out.2.2.2.2.1, GG.out.2.2.2.2.2.1, GG.out.2.2.2.2.2.2.1, GG.out.2.2.2.2.2.2.2.1, GG.out.2.2.2.2.2.2.2.2.1, GG.out.2.2.2.2.2.2.2.2.2.1, GG.out.2.2.2.2.2.2.2.2.2.2.1, GG.out.2.2.2.2.2.2.2.2.2.2.2.1, GG.out.2.2.2.2.2.2.2.2.2.2.2.2.1, GG.out.2.2.2.2.2.2.2.2.2.2.2.2.2.1, GG.out.2.2.2.2.2.2.2.2.2.2.2.2.2.2⟩, hidD ⟨fun h => (SS0.out.1 (by simpa using h)), fun h => (SS0.out.2 (by simpa using h))⟩⟩
      · obtain rfl := GG.out.2.2.1 (hds 2 (by simp))
        clear hds
        refine wpOp_yes rfl rfl (fun K hK => ?_)
        go_simp
        exact hK _ _ ⟨_, _, _, _, _, _, _, _, _, _, _, _, _, _, _, rfl, hidD ⟨GG.out.1, GG.out.2.1, fun _ => rfl, fun _ => rfl, GG.out.2.2.2.2.1, GG.out.2.2.2.2.2.1, GG.out.2.2.2.2.2.2.1, GG.out.2.2.2.2.2.2.2.1, GG.out.2.2.2.2.2.2.2.2.1, GG.out.2.2.2.2.2.2.2.2.2.1, GG.out.2.2.2.2.2.2.2.2.2.2.1, GG.out.2.2.2.2.2.2.2.2.2.2.2.1, GG.out.2.2.2.2.2.2.2.2.2.2.2.2.1, GG.out.2.2.2.2.2.2.2.2.2.2.2.2.2.1, GG.out.2.2.2.2.2.2.2.2.2.2.2.2.2.2⟩, hidD ⟨fun h => (SS0.out.1 (by simpa using h)), fun h => (SS0.out.2 (by simpa using h))⟩⟩
      · obtain rfl := GG.out.2.2.2.1 (hds 3 (by simp))
        obtain rfl := GG.out.2.2.1 (hds 2 (by simp))
        clear hds
        refine wpOp_yes rfl rfl (fun K hK => ?_)
        go_simp
        exact hK _ _ ⟨_, _, _, _, _, _, _, _, _, _, _, _, _, _, _, rfl, hidD ⟨GG.out.1, GG.out.2.1, fun _ => rfl, fun _ => rfl, fun _ => rfl, GG.out.2.2.2.2.2.1, GG.out.2.2.2.2.2.2.1, GG.out.2.2.2.2.2.2.2.1, GG.out.2.2.2.2.2.2.2.2.1, GG.out.2.2.2.2.2.2.2.2.2.1, GG.out.2.2.2.2.2.2.2.2.2.2.1, GG.out.2.2.2.2.2.2.2.2.2.2.2.1, GG.out.2.2.2.2.2.2.2.2.2.2.2.2.1, GG.out.2.2.2.2.2.2.2.2.2.2.2.2.2.1, GG.out.2.2.2.2.2.2.2.2.2.2.2.2.2.2⟩, hidD ⟨fun h => (SS0.out.1 (by simpa using h)), fun h => (SS0.out.2 (by simpa using h))⟩⟩
      · obtain rfl := GG.out.2.2.2.2.1 (hds 4 (by simp))
        obtain rfl := GG.out.2.2.1 (hds 2 (by simp))
        clear hds
        refine wpOp_yes rfl rfl (fun K hK => ?_)
        go_simp
        exact hK _ _ ⟨_, _, _, _, _, _, _, _, _, _, _, _, _, _, _, rfl, hidD ⟨GG.out.1, GG.out.2.1, fun _ => rfl, GG.out.2.2.2.1, fun _ => rfl, fun _ => rfl, GG.out.2.2.2.2.2.2.1, GG.out.2.2.2.2.2.2.2.1, GG.out.2.2.2.2.2.2.2.2.1, GG.out.2.2.2.2.2.2.2.2.2.1, GG.out.2.2.2.2.2.2.2.2.2.2.1, GG.out.2.2.2.2.2.2.2.2.2.2.2.1, GG.out.2.2.2.2.2.2.2.2.2.2.2.2.1, GG.out.2.2.2.2.2.2.2.2.2.2.2.2.2.1, GG.out.2.2.2.2.2.2.2.2.2.2.2.2.2.2⟩, hidD ⟨fun h => (SS0.out.1 (by simpa using h)), fun h => (SS0.out.2 (by simpa using h))⟩⟩
      · obtain rfl := GG.out.2.2.2.2.2.1 (hds 5 (by simp))
        obtain rfl := GG.out.2.2.1 (hds 2 (by simp))
        have hD1 : D 1 = true := hcl 2 _ rfl (hds 2 (by simp)) 1 (by simp)
        have c0 := (SS0.out.2 hD1).1.c0
        clear hds
        refine wpOp_yes rfl rfl (fun K hK => ?_)
        go_simp
        exact hK _ _ ⟨_, _, _, _, _, _, _, _, _, _, _, _, _, _, _, rfl, hidD ⟨GG.out.1, GG.out.2.1, fun _ => rfl, GG.out.2.2.2.1, GG.out.2.2.2.2.1, fun _ => rfl, fun _ => rfl, GG.out.2.2.2.2.2.2.2.1, GG.out.2.2.2.2.2.2.2.2.1, GG.out.2.2.2.2.2.2.2.2.2.1, GG.out.2.2.2.2.2.2.2.2.2.2.1, GG.out.2.2.2.2.2.2.2.2.2.2.2.1, GG.out.2.2.2.2.2.2.2.2.2.2.2.2.1, GG.out.2.2.2.2.2.2.2.2.2.2.2.2.2.1, GG.out.2.2.2.2.2.2.2.2.2.2.2.2.2.2⟩, hidD ⟨fun h => (SS0.out.1 (by simpa using h)), fun h => (SS0.out.2 (by simpa using h))⟩⟩
      · obtain rfl := GG.out.2.2.1 (hds 2 (by simp))
        clear hds
        refine wpOp_yes rfl rfl (fun K hK => ?_)
        go_simp
        exact hK _ _ ⟨_, _, _, _, _, _, _, _, _, _, _, _, _, _, _, rfl, hidD ⟨GG.out.1, GG.out.2.1, fun _ => rfl, GG.out.2.2.2.1, GG.out.2.2.2.2.1, GG.out.2.2.2.2.2.1, GG.out.2.2.2.2.2.2.1, fun _ => rfl, GG.out.2.2.2.2.2.2.2.2.1, GG.out.2.2.2.2.2.2.2.2.2.1, GG.out.2.2.2.2.2.2.2.2.2.2.1, GG.out.2.2.2.2.2.2.2.2.2.2.2.1, GG.out.2.2.2.2.2.2.2.2.2.2.2.2.1, GG.out.2.2.2.2.2.2.2.2.2.2.2.2.2.1, GG.out.2.2.2.2.2.2.2.2.2.2.2.2.2.2⟩, hidD ⟨fun h => (SS0.out.1 (by simpa using h)), fun h => (SS0.out.2 (by simpa using h))⟩⟩
      · obtain rfl := GG.out.2.2.2.2.2.2.2.1 (hds 7 (by simp))
        obtain rfl := GG.out.2.2.1 (hds 2 (by simp))
        clear hds
        refine wpOp_yes rfl rfl (fun K hK => ?_)
        go_simp
        exact hK _ _ ⟨_, _, _, _, _, _, _, _, _, _, _, _, _, _, _, rfl, hidD ⟨GG.out.1, GG.out.2.1, fun _ => rfl, GG.out.2.2.2.1, GG.out.2.2.2.2.1, GG.out.2.2.2.2.2.1, GG.out.2.2.2.2.2.2.1, fun _ => rfl, fun _ => rfl, GG.out.2.2.2.2.2.2.2.2.2.1, GG.out.2.2.2.2.2.2.2.2.2.2.1, GG.out.2.2.2.2.2.2.2.2.2.2.2.1, GG.out.2.2.2.2.2.2.2.2.2.2.2.2.1, GG.out.2.2.2.2.2.2.2.2.2.2.2.2.2.1, GG.out.2.2.2.2.2.2.2.2.2.2.2.2.2.2⟩, hidD ⟨fun h => (SS0.out.1 (by simpa using h)), fun h => (SS0.out.2 (by simpa using h))⟩⟩
      · obtain rfl := GG.out.2.2.2.2.2.2.2.2.1 (hds 8 (by simp))
        obtain rfl := GG.out.2.2.1 (hds 2 (by simp))
        clear hds
        refine wpOp_yes rfl rfl (fun K hK => ?_)
        go_simp
        exact hK _ _ ⟨_, _, _, _, _, _, _, _, _, _, _, _, _, _, _, rfl, hidD ⟨GG.out.1, GG.out.2.1, fun _ => rfl, GG.out.2.2.2.1, GG.out.2.2.2.2.1, GG.out.2.2.2.2.2.1, GG.out.2.2.2.2.2.2.1, GG.out.2.2.2.2.2.2.2.1, fun _ => rfl, fun _ => rfl, GG.out.2.2.2.2.2.2.2.2.2.2.1, GG.out.2.2.2.2.2.2.2.2.2.2.2.1, GG.out.2.2.2.2.2.2.2.2.2.2.2.2.1, GG.out.2.2.2.2.2.2.2.2.2.2.2.2.2.1, GG.out.2.2.2.2.2.2.2.2.2.2.2.2.2.2⟩, hidD ⟨fun h => (SS0.out.1 (by simpa using h)), fun h => (SS0.out.2 (by simpa using h))⟩⟩
      · obtain rfl := GG.out.2.2.2.2.2.2.2.2.2.1 (hds 9 (by simp))
        obtain rfl := GG.out.2.2.1 (hds 2 (by simp))
        have hD1 : D 1 = true := hcl 2 _ rfl (hds 2 (by simp)) 1 (by simp)
        have c1 := (SS0.out.2 hD1).1.c1
        clear hds
        refine wpOp_yes rfl rfl (fun K hK => ?_)
        go_simp
        exact hK _ _ ⟨_, _, _, _, _, _, _, _, _, _, _, _, _, _, _, rfl, hidD ⟨GG.out.1, GG.out.2.1, fun _ => rfl, GG.out.2.2.2.1, GG.out.2.2.2.2.1, GG.out.2.2.2.2.2.1, GG.out.2.2.2.2.2.2.1, GG.out.2.2.2.2.2.2.2.1, GG.out.2.2.2.2.2.2.2.2.1, fun _ => rfl, fun _ => rfl, GG.out.2.2.2.2.2.2.2.2.2.2.2.1, GG.out.2.2.2.2.2.2.2.2.2.2.2.2.1, GG.out.2.2.2.2.2.2.2.2.2.2.2.2.2.1, GG.out.2.2.2.2.2.2.2.2.2.2.2.2.2.2⟩, hidD ⟨fun h => (SS0.out.1 (by simpa using h)), fun h => (SS0.out.2 (by simpa using h))⟩⟩
      · obtain rfl := GG.out.2.2.2.2.2.2.1 (hds 6 (by simp))
        obtain rfl := GG.out.2.2.2.2.2.2.2.2.2.2.1 (hds 10 (by simp))
        obtain rfl := GG.out.2.2.1 (hds 2 (by simp))
        clear hds
        refine wpOp_yes rfl rfl (fun K hK => ?_)
        go_simp
        exact hK _ _ ⟨_, _, _, _, _, _, _, _, _, _, _, _, _, _, _, rfl, hidD ⟨GG.out.1, GG.out.2.1, fun _ => rfl, GG.out.2.2.2.1, GG.out.2.2.2.2.1, GG.out.2.2.2.2.2.1, fun _ => rfl, GG.out.2.2.2.2.2.2.2.1, GG.out.2.2.2.2.2.2.2.2.1, GG.out.2.2.2.2.2.2.2.2.2.1, fun _ => rfl, fun _ => rfl, GG.out.2.2.2.2.2.2.2.2.2.2.2.2.1, GG.out.2.2.2.2.2.2.2.2.2.2.2.2.2.1, GG.out.2.2.2.2.2.2.2.2.2.2.2.2.2.2⟩, hidD ⟨fun h => (SS0.out.1 (by simpa using h)), fun h => (SS0.out.2 (by simpa using h))⟩⟩
      · obtain rfl := GG.out.2.2.1 (hds 2 (by simp))
        clear hds
        refine wpOp_yes rfl rfl (fun K hK => ?_)
        go_simp
        exact hK _ _ ⟨_, _, _, _, _, _, _, _, _, _, _, _, _, _, _, rfl, hidD ⟨GG.out.1, GG.out.2.1, fun _ => rfl, GG.out.2.2.2.1, GG.out.2.2.2.2.1, GG.out.2.2.2.2.2.1, GG.out.2.2.2.2.2.2.1, GG.out.2.2.2.2.2.2.2.1, GG.out.2.2.2.2.2.2.2.2.1, GG.out.2.2.2.2.2.2.2.2.2.1, GG.out.2.2.2.2.2.2.2.2.2.2.1, GG.out.2.2.2.2.2.2.2.2.2.2.2.1, fun _ => rfl, GG.out.2.2.2.2.2.2.2.2.2.2.2.2.2.1, GG.out.2.2.2.2.2.2.2.2.2.2.2.2.2.2⟩, hidD ⟨fun h => (SS0.out.1 (by simpa using h)), fun h => (SS0.out.2 (by simpa using h))⟩⟩
      · obtain rfl := GG.out.2.2.2.2.2.2.2.2.2.2.2.1 (hds 11 (by simp))
        obtain rfl := GG.out.2.2.2.2.2.2.2.2.2.2.2.2.1 (hds 12 (by simp))
        obtain rfl := GG.out.2.2.1 (hds 2 (by simp))
        have hne := HNE.out
        clear hds
        refine wpOp_yes rfl rfl (fun K hK => ?_)
        go_simp
        exact hK _ _ ⟨_, _, _, _, _, _, _, _, _, _, _, _, _, _, _, rfl, hidD ⟨GG.out.1, GG.out.2.1, fun _ => rfl, GG.out.2.2.2.1, GG.out.2.2.2.2.1, GG.out.2.2.2.2.2.1, GG.out.2.2.2.2.2.2.1, GG.out.2.2.2.2.2.2.2.1, GG.out.2.2.2.2.2.2.2.2.1, GG.out.2.2.2.2.2.2.2.2.2.1, GG.out.2.2.2.2.2.2.2.2.2.2.1, fun _ => rfl, fun _ => rfl, fun _ => rfl, GG.out.2.2.2.2.2.2.2.2.2.2.2.2.2.2⟩, hidD ⟨fun h => (SS0.out.1 (by simpa using h)), fun h => (SS0.out.2 (by simpa using h))⟩⟩
      · obtain rfl := GG.out.2.2.1 (hds 2 (by simp))
        obtain rfl := GG.out.2.2.2.2.2.2.2.2.2.2.2.2.2.1 (hds 13 (by simp))
        clear hds
        refine wpOp_go rfl rfl (fun K hK => ?_)
        go_simp
        exact hK _ _ ⟨_, _, _, _, _, _, _, _, _, _, _, _, _, _, _, rfl, hidD ⟨GG.out.1, GG.out.2.1, fun _ => rfl, GG.out.2.2.2.1, GG.out.2.2.2.2.1, GG.out.2.2.2.2.2.1, GG.out.2.2.2.2.2.2.1, GG.out.2.2.2.2.2.2.2.1, GG.out.2.2.2.2.2.2.2.2.1, GG.out.2.2.2.2.2.2.2.2.2.1, GG.out.2.2.2.2.2.2.2.2.2.2.1, GG.out.2.2.2.2.2.2.2.2.2.2.2.1, GG.out.2.2.2.2.2.2.2.2.2.2.2.2.1, fun _ => rfl, fun _ => rfl⟩, hidD ⟨fun h => (SS0.out.1 (by simpa using h)), fun h => (SS0.out.2 (by simpa using h))⟩⟩
    case fin2 =>
      rintro D act V hDD ⟨t5x, t6x, t7x, t8x, t9x, t10x, t11x, t12x, t13x, t14x, t15x, t16x, t17x, t18x, t19x, rfl, GG, SS0⟩
      have HF := hidD (SS0.out.2 (hDD 1 (by decide)))
      obtain rfl := GG.out.2.2.2.2.2.2.2.2.2.2.2.2.2.2 (hDD 14 (by decide))
      clear GG SS0 hDD
      have c1 := HF.out.1.c1
      have f1 := HF.out.1.f 1
      cases b with
      | true =>
        obtain rfl : nb = false := HNB.out
        go_wp2_with fail
        go_ret
        exact ⟨rfl, HF.out.1.set1 _, grown_trans HF.out.2 (grown_set _ R 1 _)⟩
      | false =>
        obtain rfl : nb = true := HNB.out
        go_wp2_with fail
        go_ret
        exact ⟨rfl, HF.out.1, HF.out.2⟩
end Go.Proofs.YteldjhhjnchdeaaGreatDoor
