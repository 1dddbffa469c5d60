import Derived.Test.YtjmmnpfedhkjbaaGreatDoorK21
import Derived.Lib.AppendZeros
namespace Go.Proofs.YtjmmnpfedhkjbaaGreatDoor
open Go.RowKit Go.Shelf

attribute [local go_sem] Oper.semAt_some

theorem val_drop_step' (ds : List Nat) (k : Nat) (h : k < ds.length) : val 10000 (ds.drop k) = ds[k]?.getD 0 + 10000 * val 10000 (ds.drop (k + 1)) := by
  rw [List.drop_eq_getElem_cons h, val_cons, List.getElem?_eq_getElem h]
  rfl

/-- What the rounds of the reference's long division know: k digits of the dividend are left. -/
def LonAt (ds : List Nat) (n k r : Nat) (Q : List Nat) : Prop :=
  Q.length = ds.length ∧ Dig 10000 Q ∧ r = val 10000 (ds.drop k) % n ∧ val 10000 Q = 10000 ^ k * (val 10000 (ds.drop k) / n) ∧ ∀ j, j < k → Q[j]?.getD 0 = 0

theorem LonAt.start (ds : List Nat) (n : Nat) : LonAt ds n ds.length 0 (List.replicate ds.length 0) := by
  refine ⟨List.length_replicate, fun x hx => by rw [List.eq_of_mem_replicate hx]; omega, ?_, ?_, fun j _ => ?_⟩
  · rw [List.drop_length, val_nil, Nat.zero_mod]
  · rw [List.drop_length, val_nil, Nat.zero_div, Nat.mul_zero, val_zeros]
  · by_cases hj : j < ds.length
    · rw [List.getElem?_replicate_of_lt hj]; rfl
    · rw [List.getElem?_eq_none (by rw [List.length_replicate]; omega)]; rfl

theorem LonAt.step {ds Q : List Nat} {n k r d : Nat} (h : LonAt ds n (k + 1) r Q) (hk : k < ds.length) (hd : d = ds[k]?.getD 0) (hn : 0 < n) (hdB : d < 10000) :
    d + 10000 * r < n * 10000 ∧ LonAt ds n k ((d + 10000 * r) % n) (Q.set k ((d + 10000 * r) / n)) := by
  obtain ⟨h1, h2, h3, h4, h5⟩ := h
  have hv := val_drop_step' ds k hk
  rw [← hd] at hv
  have hr : r < n := by rw [h3]; exact Nat.mod_lt _ hn
  have hlt : d + 10000 * r < n * 10000 := by omega
  have hh := halves (t := val 10000 (ds.drop (k + 1))) (k := 10000) (un0 := d) hn
  have e1 : val 10000 (ds.drop (k + 1)) * 10000 + d = val 10000 (ds.drop k) := by rw [hv, Nat.mul_comm, Nat.add_comm]
  have e2 : val 10000 (ds.drop (k + 1)) % n * 10000 + d = d + 10000 * r := by rw [← h3, Nat.mul_comm, Nat.add_comm]
  rw [e1, e2] at hh
  have hq : (d + 10000 * r) / n < 10000 := by rw [Nat.div_lt_iff_lt_mul hn, Nat.mul_comm 10000 n]; exact hlt
  refine ⟨hlt, by rw [List.length_set]; exact h1, h2.set k hq, hh.2, ?_, fun j hj => ?_⟩
  · have hs := val_set 10000 Q k ((d + 10000 * r) / n) (by omega)
    rw [h5 k (by omega), Nat.mul_zero, Nat.add_zero] at hs
    rw [hs, h4, ← hh.1, Nat.pow_succ]
    generalize val 10000 (ds.drop (k + 1)) / n = A
    grind
  · rw [List.getElem?_set_ne (by omega)]
    exact h5 j (by omega)

theorem LonAt.fin {ds Q : List Nat} {n r m : Nat} (h : LonAt ds n 0 r Q) (hd : ds = limbs 10000 m) : trimL Q = limbs 10000 (m / n) ∧ r = m % n := by
  obtain ⟨h1, h2, h3, h4, h5⟩ := h
  rw [List.drop_zero, hd, val_limbs (by omega)] at h3 h4
  rw [Nat.pow_zero, Nat.one_mul] at h4
  exact ⟨by rw [← limbs_val (by omega) h2, h4], h3⟩

theorem limbs_cons {d r : Nat} (hd : d < 10000) : trimL (d :: limbs 10000 r) = limbs 10000 (d + 10000 * r) := by
  have h := limbs_val (B := 10000) (by omega) (ds := d :: limbs 10000 r) (Dig.cons hd (dig_limbs (by omega) r))
  rw [val_cons, val_limbs (by omega)] at h
  exact h.symm

set_option maxRecDepth 100000 in
set_option maxHeartbeats 2000000 in
theorem rlong_c (a : Option Addr) (la ca : Nat) (b : Option Addr) (lb cb m n : Nat) (w : World) (ra : RN w (.slice a la ca) m) (rb : RN w (.slice b lb cb) n) (hn : n ≠ 0) (hla : la ≤ 100000000) (hlb : lb ≤ 100000000) :
    Calls Tryz.prog 31 #[.slice a la ca, .slice b lb cb] w fun e w' => ∃ u v, e = .returned (.tuple #[u, v]) ∧ RN w' u (m / n) ∧ RN w' v (m % n) ∧ Below w.heap.size w w' := by
  obtain ⟨hl1, hc1, hm1, hk1, hf1⟩ := row_fn ra
  have hl2 := (row_fn rb).1
  have hmk := make_ints la (by omega) w
  obtain ⟨W1, hW1⟩ : ∃ W1, W1 = w.alloc (.cells (cellsOf .i64 (List.replicate la 0)).toArray 3) := ⟨_, rfl⟩
  have hB1 : Below w.heap.size w W1 := by rw [hW1]; exact (Below.refl _ w).alloc (Nat.le_refl _) _
  have hA1 : ArI W1 w.heap.size (List.replicate la 0) := by rw [hW1]; exact ArI.made (World.alloc_heap_new w _)
  rw [← hW1] at hmk
  have HS := hidD (LonAt.start (limbs 10000 m) n)
  rw [← hl1] at HS
  have HF := hidD (fun Q r (h : LonAt (limbs 10000 m) n 0 r Q) => h.fin (m := m) rfl)
  have xa := dig_limbs (B := 10000) (by omega) m
  have HSZ := hidD (show szB (n : Int) ≤ 1000000000 by unfold szB; rw [Int.natAbs_natCast, ← hl2]; omega)
  generalize limbs 10000 m = ds at *
  have HL1 := hidD hl1
  have H1 := hidD hf1
  have HRB := hidD rb
  have HL2 := hidD hl2
  clear hl1 hf1 hW1 ra rb hl2
  go_enter Tryz.func31, Tryz.ntmps31
  go_wp2_with fail
  go_loopw [7, 8] (fun rv iv wr => ∃ (k r : Nat) (Q : List Nat) (ar : Option Addr) (lr cr : Nat), iv = .int .i64 ((k : Int) - 1) ∧ k ≤ la ∧ rv = .slice ar lr cr ∧ Hid (RN wr (.slice ar lr cr) r) ∧ r < n ∧ ArI wr w.heap.size Q ∧ Hid (LonAt ds n k r Q) ∧ Below w.heap.size w wr)
    (fun _ iv _ => (intOf iv + 1).toNat)
  case atStart => exact ⟨la, 0, List.replicate la 0, none, 0, 0, rfl, Nat.le_refl _, rfl, hidD (by unfold RN; rw [limbs_zero]; exact Row.nil _ _), by omega, hA1, HS, hB1⟩
  case round =>
    clear HS hA1 hB1 hmk
    obtain ⟨k, r, Q, ar, lr, cr, rfl, hk, rfl, HR, hrn, hA, HP, hB⟩ := hrel
    cases k with
    | zero =>
      obtain ⟨f1, f2⟩ := HF.out Q r HP.out
      have HF2 := hidD f2
      have hQl : Q.length = la := by rw [HP.out.1, HL1.out]
      have hrow : Row .i64 wr (.slice (some ⟨w.heap.size, 0, none⟩) la la) Q := by
        have h1 := hA.row 0 la la (by omega) (Nat.le_refl _) (by omega) (by omega)
        rwa [List.drop_zero, List.take_of_length_le (by omega)] at h1
      have HTR := hidD (trim_c _ Q wr hrow)
      rw [f1] at HTR
      clear f1 f2 hrow
      go_wp2_with (go_at_call 39; refine HTR.out.mono ?_; rintro e w2 ⟨u, rfl, hu, e2⟩; obtain ⟨ua, uc, rfl⟩ := RN.form hu; have e3 := e2.symm; subst e3; clear e2)
      exact bodyPost_ret (v := .tuple #[.slice ua (limbs 10000 (m / n)).length uc, .slice ar lr cr]) (by simp [results, Tryz.results31, go_sem]) rfl ⟨_, _, rfl, hu, by rw [← HF2.out]; exact HR.out, hB⟩
    | succ k =>
      obtain ⟨ab, ao, rfl, hab, hca⟩ := H1.out k (by omega)
      have e0 : (((k + 1 : Nat) : Int) - 1) = (k : Int) := by omega
      rw [e0]
      have hcx : wr.cell? ⟨ab, ao + k, none⟩ = some (.int .i64 (ds[k]?.getD 0 : Nat)) := (hB.cell (p := ⟨ab, ao + k, none⟩) hab).trans hca
      have hd := xa.getD (by omega) k
      obtain ⟨hT, hst⟩ := HP.out.step (by rw [← HL1.out]; omega) rfl (by omega) hd
      have HST := hidD hst
      have HLC := hidD (limbs_cons (r := r) hd)
      have hlr : lr ≤ 100000001 := by
        have h1 := (row_fn HR.out).1
        have h2 : (limbs 10000 r).length ≤ (limbs 10000 n).length := by
          rcases Nat.lt_or_ge (limbs 10000 n).length (limbs 10000 r).length with h | h
          · have := limbs_lt_length (by omega) h; omega
          · exact h
        have := HL2.out
        omega
      clear hst hca e0
      generalize ds[k]?.getD 0 = d at *
      obtain ⟨g', l', c', w2, hap, hr2, hg', hb2⟩ := append_head d 22 wr ar lr cr _ HR.out (by omega)
      have HTR := hidD (trim_a _ _ _ _ _ hr2)
      rw [HLC.out] at HTR
      go_upto_region 8 with (at_builtin; refine Lib.wpList_append_run _ rfl _ _ 22 22 rfl _ _ rfl rfl _ _ hap ?_)
      obtain ⟨T, hTe⟩ : ∃ T, d + 10000 * r = T := ⟨_, rfl⟩
      rw [hTe] at hT HST HTR HLC
      clear hTe hap hr2
      have hB2 : Below w.heap.size w w2 := hB.trans (hb2.mono hB.size)
      have hA2 := hA.below hb2
      have hgw : w.heap.size < wr.heap.size := hA.lt
      have hQl : Q.length = la := by rw [HP.out.1, HL1.out]
      have hQ0 : Q[k]?.getD 0 = 0 := HP.out.2.2.2.2 k (by omega)
      go_upto_region 9 with (go_at_call 39; refine HTR.out.mono ?_; rintro e w2' ⟨l2, rfl, hr3, rfl⟩)
      clear HTR HR HLC
      obtain ⟨cm, hcm⟩ : ∃ cm : Int, cmpN T n = cm := ⟨_, rfl⟩
      have HOR := hidD (order_c 10000 (by omega) _ _ (limbs 10000 T) (limbs 10000 n) _ hr3 (RN.below HRB.out hB2) (dig_limbs (by omega) _) (dig_limbs (by omega) _) (top_limbs (by omega) _) (top_limbs (by omega) _))
      rw [val_limbs (by omega), val_limbs (by omega), hcm] at HOR
      by_cases hTn : T < n
      · rw [cmpN_lt hTn] at hcm
        subst hcm
        have HQ := hidD (show Q.set k (T / n) = Q by
          rw [Nat.div_eq_of_lt hTn]
          apply List.ext_getElem?
          intro j
          rw [List.getElem?_set]
          split
          · rename_i e
            subst e
            rw [if_pos (by omega), List.getElem?_eq_getElem (by omega)]
            rw [List.getElem?_eq_getElem (show k < Q.length by omega)] at hQ0
            simp only [Option.getD_some] at hQ0
            rw [hQ0]
          · rfl)
        have HM := hidD (Nat.mod_eq_of_lt hTn)
        have hkm : (k : Int) - 1 = ((k : Int) - 1) := rfl
        have wk : IntKind.i64.wrap ((k : Int) - 1) = (k : Int) - 1 := IntWalk.i64_in _ (by omega)
        go_wp2_with (go_at_call 41; refine HOR.out.mono ?_; rintro e w3 ⟨rfl, hb3⟩)
        have h3 := HST.out
        rw [HQ.out, HM.out] at h3
        exact ⟨⟨k, T, Q, _, l2, c', rfl, by omega, rfl, hidD (RN.below hr3 hb3), by omega, hA2.below hb3, hidD h3, hB2.trans (hb3.mono hB2.size)⟩, by simp [intOf]⟩
      · have hc0 : ¬ (cm < 0) := by rw [← hcm]; unfold cmpN; rw [if_neg hTn]; split <;> omega
        have hc1 : (0 : Int) ≤ cm := by omega
        clear hcm
        go_upto_region 10 with (go_at_call 41; refine HOR.out.mono ?_; rintro e w3 ⟨rfl, hb3⟩)
        have hB3 : Below w.heap.size w w3 := hB2.trans (hb3.mono hB2.size)
        have hr4 := RN.below (n := T) hr3 hb3
        have hA3 := hA2.below hb3
        have HDG := hidD (rdigit_c _ l2 c' b lb cb T n w3 hr4 (RN.below HRB.out hB3) hT (by omega))
        obtain ⟨qd, hqd⟩ : ∃ qd, T / n = qd := ⟨_, rfl⟩
        rw [hqd] at HDG HST
        have hqB : qd < 10000 := by rw [← hqd, Nat.div_lt_iff_lt_mul (by omega), Nat.mul_comm]; exact hT
        have HQD := hidD hqd
        clear hqd
        have ki : (k : Int) < (la : Int) := by omega
        have kn : k < la := by omega
        go_upto_region 11 with (go_at_call 63; refine HDG.out.mono ?_; rintro e w4 ⟨rfl, hb4⟩; have kc := (hA3.below hb4).cell (j := k) (by omega); have kf := (hA3.below hb4).frozen k)
        obtain ⟨W5, hW5⟩ : ∃ W5, w4.setCell ⟨w.heap.size, k, none⟩ (.int .i64 (qd : Nat)) = W5 := ⟨_, rfl⟩
        have hA5 : ArI W5 w.heap.size (Q.set k qd) := by rw [← hW5]; exact (hA3.below hb4).set k qd
        have hB4 : Below w.heap.size w w4 := hB3.trans (hb4.mono hB3.size)
        have hB5 : Below w.heap.size w W5 := by rw [← hW5]; exact hB4.setCell (p := ⟨w.heap.size, k, none⟩) (Nat.le_refl _) _
        have hr5 : RN W5 (.slice (some ⟨g', 0, none⟩) l2 c') T := by
          rw [← hW5]
          exact Row.grown (RN.below hr4 hb4) (grown_set w4 w.heap.size k _) (fun p e _ => by cases e; simp only; omega)
        rw [hW5]
        have kc5 : W5.cell? ⟨w.heap.size, k, none⟩ = some (.int .i64 (qd : Nat)) := by
          have h := hA5.cell (j := k) (by rw [List.length_set]; omega)
          rw [h, List.getElem?_set_self (by omega)]
          rfl
        clear hW5 kc kf HDG HOR
        have HOF := hidD (of_c (qd : Nat) (by omega) (by omega) W5)
        have HTM := hidD (fun (V : World) (u : Value) (h : Below W5.heap.size W5 V) (hu : IsBig V u (qd : Nat)) => rtimes_c (.agg #[.slice b lb cb, .bool false]) u (n : Nat) (qd : Nat) V (bigOf (RN.below (RN.below HRB.out hB5) h)) hu HSZ.out (int_szB (by omega) (by omega)))
        go_upto_region 12 with (first
          | (go_at_call 20; refine HOF.out.mono ?_; rintro e w6 ⟨u6, rfl, hu6, hb6⟩; obtain ⟨a6, l6, c6, rfl⟩ := hu6.form; obtain ⟨s6, hs6⟩ : ∃ q, decide (((qd : Nat) : Int) < 0) = q := ⟨_, rfl⟩; rw [hs6] at hu6; rw [hs6]; clear hs6)
          | (go_at_call 22; refine (HTM.out _ _ hb6 hu6).mono ?_; rintro e w7 ⟨u7, rfl, hu7, hb7⟩; obtain ⟨a7, l7, c7, rfl⟩ := hu7.form; obtain ⟨s7, hs7⟩ : ∃ q, decide (((n : Nat) : Int) * ((qd : Nat) : Int) < 0) = q := ⟨_, rfl⟩; rw [hs7] at hu7; rw [hs7]; clear hs7))
        obtain ⟨hr7, rfl⟩ := rnOf (n := n * qd) hu7 (by rw [Int.natCast_mul])
        have bx := Box2.new w7 24 (.slice a7 l7 c7) (.bool false)
        obtain ⟨W8, hW8⟩ : ∃ W8, w7.alloc (.cells #[.slice a7 l7 c7, .bool false] 24) = W8 := ⟨_, rfl⟩
        have hb57 : Below W5.heap.size W5 w7 := hb6.trans (hb7.mono hb6.size)
        have hb58 : Below W5.heap.size W5 W8 := by rw [← hW8]; exact hb57.alloc hb57.size _
        have hr8 : RN W8 (.slice a7 l7 c7) (n * qd) := by rw [← hW8]; exact RN.below hr7 ((Below.refl _ w7).alloc (Nat.le_refl _) _)
        rw [hW8] at bx ⊢
        have k0 := bx.c0
        have k1 := bx.c1
        have hle : n * qd ≤ T := by rw [← HQD.out]; exact Nat.mul_div_le T n
        have HMI := hidD (minus_c _ _ T (n * qd) W8 (RN.below hr5 hb58) hr8 hle (by
          have h1 := (row_fn hr5).1
          rw [← h1]
          have h2 := (row_fn hr5).2.2.2.1
          have h3 := limbs_length_le (B := 10000) (by omega) (n := T) (k := (limbs 10000 n).length + 1) (by
            have h4 := val_lt (dig_limbs (B := 10000) (by omega) n)
            rw [val_limbs (by omega)] at h4
            rw [Nat.pow_succ]
            exact Nat.lt_of_lt_of_le hT (Nat.mul_le_mul_right _ (Nat.le_of_lt h4)))
          have h5 := HL2.out
          omega))
        have HME := hidD (show T - n * qd = T % n by rw [← HQD.out]; have := Nat.div_add_mod T n; omega)
        rw [HME.out] at HMI
        have hmod := Nat.mod_lt T (show n > 0 by omega)
        have wk : IntKind.i64.wrap ((k : Int) - 1) = (k : Int) - 1 := IntWalk.i64_in _ (by omega)
        clear hW8 HOF HTM hu6 hu7 hr7 hle
        go_wp2_with (go_at_call 34; refine HMI.out.mono ?_; rintro e w9 ⟨u9, rfl, hu9, hb9⟩; obtain ⟨a9, c9, rfl⟩ := RN.form hu9)
        have hb59 : Below W5.heap.size W5 w9 := hb58.trans (hb9.mono hb58.size)
        exact ⟨⟨k, T % n, Q.set k qd, a9, _, c9, rfl, by omega, rfl, hidD hu9, hmod, hA5.below hb59, HST, hB5.trans (hb59.mono hB5.size)⟩, by simp [intOf]⟩
end Go.Proofs.YtjmmnpfedhkjbaaGreatDoor
