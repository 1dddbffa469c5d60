import Derived.Test.YtahpgnkhophgpaaDoorHeld
namespace Go.Proofs.YtahpgnkhophgpaaDoor
open Go.RowKit Go.Shelf

attribute [local go_sem] Oper.semAt_some

/-- What the rounds of order keep. -/
def OrdI (w : World) (a : Option Addr) (len ca : Nat) (b : Option Addr) (lb cb : Nat) (xs ys : List Nat) (k : Nat) (W : World) : Prop :=
  (((Boxed W w.heap.size 23 (.slice b lb cb) ∧ Boxed W (w.heap.size + 1) 3 (.int .i64 0)) ∧ Boxed W (w.heap.size + 1 + 1) 23 (.slice a len ca)) ∧ Below w.heap.size w W) ∧ xs.drop (len - k) = ys.drop (len - k)

/-- What a round of order leaves that returns. -/
def OrdX (w : World) (xs ys : List Nat) (c : Code) (_k : Nat) (W : World) : Prop :=
  (Boxed W (w.heap.size + 1) 3 (.int .i64 (cmpN (val B64 xs) (val B64 ys))) ∧ Below w.heap.size w W) ∧ c = .ret

theorem ordI_own (w : World) (a : Option Addr) (len ca : Nat) (b : Option Addr) (lb cb : Nat) (xs ys : List Nat) : OwnFrom (w.heap.size + 1 + 1 + 1) (OrdI w a len ca b lb cb xs ys) :=
  OwnFrom.and (OwnFrom.and (OwnFrom.and (OwnFrom.and (Own.from (boxed_own _ _ (fun _ => .slice b lb cb)) _) (Own.from (boxed_own _ _ (fun _ => .int .i64 0)) _)) (Own.from (boxed_own _ _ (fun _ => .slice a len ca)) _)) (ownFrom_below (Nat.le_refl _) (by omega))) (ownFrom_pure _ _)

theorem ordX_own (w : World) (xs ys : List Nat) (c : Code) : OwnFrom (w.heap.size + 1 + 1 + 1) (OrdX w xs ys c) :=
  OwnFrom.and (OwnFrom.and (Own.from (boxed_own _ _ (fun _ => .int .i64 (cmpN (val B64 xs) (val B64 ys)))) _) (ownFrom_below (Nat.le_refl _) (by omega))) (ownFrom_pure _ _)

theorem sgn_cmp {m n : Nat} {c : Bool} (h : m ≠ n) (hc : c = decide (n < m)) : (if c then 1 else -1 : Int) = cmpN m n := by
  subst hc
  rcases Nat.lt_or_gt_of_ne h with h | h
  · rw [cmpN_lt h, if_neg (by simp; omega)]
  · rw [cmpN_gt h, if_pos (by simp; omega)]

set_option maxRecDepth 100000 in
set_option maxHeartbeats 2000000 in
theorem order_ne (a : Option Addr) (la ca : Nat) (b : Option Addr) (lb cb : Nat) (w : World) (m n : Nat) (hne : la ≠ lb) (hmn : la < lb ↔ m < n) (hne' : m ≠ n) :
    Calls Tryd.prog 34 #[.slice a la ca, .slice b lb cb] w fun e w' => e = .returned (.int .i64 (cmpN m n)) ∧ Below w.heap.size w w' := by
  have h1 : (((la : Nat) : Int) != (lb : Int)) = true := by rw [bne_iff_ne]; omega
  have H2 := hidD (show (if decide ((lb : Int) < (la : Int)) = true then 1 else -1 : Int) = cmpN m n from sgn_cmp hne' (by congr 1; apply propext; omega))
  clear hmn hne' hne
  refine (callsIn_wide (n := 3)).1 ?_
  refine callsIn_of_wp_marks Tryd.func34 rfl trivial ?_ rfl
  simp only [Tryd.ntmps34, List.size_toArray, List.length_cons, List.length_nil, Nat.reduceAdd, Nat.reduceSub, Array.replicate_succ, Array.replicate_zero, List.push_toArray, List.append_toArray, List.nil_append, List.cons_append]
  gi_wp2_with (refine ⟨trivial, ?_⟩; gi_at_call 36; refine ((callsIn_wide (n := _)).2 (sign_c _ _)).mono ?_; rintro e w' ⟨rfl, rfl⟩)
  · have hv : cmpN m n = 1 := by rw [← H2.out, if_pos (by simp; omega)]
    have q := (Boxed.new (w.alloc (.cells #[.slice b lb cb] 23)) 3 (.int .i64 1)).cell
    simp only [World.size_alloc] at q
    refine ⟨.int .i64 1, by simp [results, Tryd.results34, go_sem, q], by rw [hv], ?_⟩
    exact ((Below.refl _ w).alloc (Nat.le_refl _) _).alloc (by simp) _
  · have hv : cmpN m n = -1 := by rw [← H2.out, if_neg (by simp; omega)]
    have q := (Boxed.new (w.alloc (.cells #[.slice b lb cb] 23)) 3 (.int .i64 (-1))).cell
    simp only [World.size_alloc] at q
    refine ⟨.int .i64 (-1), by simp [results, Tryd.results34, go_sem, q], by rw [hv], ?_⟩
    exact ((Below.refl _ w).alloc (Nat.le_refl _) _).alloc (by simp) _

set_option maxRecDepth 100000 in
set_option maxHeartbeats 2000000 in
theorem order_eq (a : Option Addr) (len ca : Nat) (b : Option Addr) (cb : Nat) (xs ys : List Nat) (w : World) (ha : Row .u64 w (.slice a len ca) xs) (hb : Row .u64 w (.slice b len cb) ys) (xa : Dig B64 xs) (xb : Dig B64 ys) :
    Calls Tryd.prog 34 #[.slice a len ca, .slice b len cb] w fun e w' => e = .returned (.int .i64 (cmpN (val B64 xs) (val B64 ys))) ∧ Below w.heap.size w w' := by
  obtain ⟨hl, hcap, hcm, hlm, hc⟩ := row_fn ha
  obtain ⟨hl2, hcap2, hcm2, hlm2, hc2⟩ := row_fn hb
  have HL := hidD hl
  have HL2 := hidD hl2
  have HC := hidD hc
  have HC2 := hidD hc2
  clear hc hc2 hl hl2 ha hb
  refine (callsIn_wide (n := 3)).1 ?_
  refine callsIn_of_wp_marks Tryd.func34 rfl trivial ?_ rfl
  simp only [Tryd.ntmps34, List.size_toArray, List.length_cons, List.length_nil, Nat.reduceAdd, Nat.reduceSub, Array.replicate_succ, Array.replicate_zero, List.push_toArray, List.append_toArray, List.nil_append, List.cons_append]
  gi_wp2_with (refine ⟨trivial, ?_⟩; gi_at_call 53; refine (bwd_in Fence.wide _ trivial rfl _ _ _ _).mono ?_; rintro e w' ⟨rfl, rfl⟩)
  obtain ⟨W0, hW0⟩ : ∃ W0, ((w.alloc (.cells #[.slice b len cb] 23)).alloc (.cells #[.int .i64 0] 3)).alloc (.cells #[.slice a len ca] 23) = W0 := ⟨_, rfl⟩
  have b0 := ((Boxed.new w 23 (.slice b len cb)).alloc (.cells #[.int .i64 0] 3)).alloc (.cells #[.slice a len ca] 23)
  have b1 := (Boxed.new (w.alloc (.cells #[.slice b len cb] 23)) 3 (.int .i64 0)).alloc (.cells #[.slice a len ca] 23)
  have b2 := Boxed.new ((w.alloc (.cells #[.slice b len cb] 23)).alloc (.cells #[.int .i64 0] 3)) 23 (.slice a len ca)
  simp only [World.size_alloc] at b1 b2
  have hN : W0.heap.size = w.heap.size + 1 + 1 + 1 := by rw [← hW0]; simp
  have hB0 : Below w.heap.size w W0 := by rw [← hW0]; exact (((Below.refl _ w).alloc (Nat.le_refl _) _).alloc (by simp) _).alloc (by simp; omega) _
  rw [hW0] at b0 b1 b2 ⊢
  clear hW0
  refine wpIn_rangeN rfl (by omega) (gf := 71) (lb := #[.pointer (some ⟨w.heap.size + 1 + 1, 0, none⟩)]) rfl trivial (enters_of Tryd.func71 (by kernel_rfl) rfl)
    (bwd1_seq Fence.wide _ trivial rfl (by omega) (w.heap.size + 1 + 1) a len ca (fun j => xs[j]?.getD 0) hlm) (fun _ => rfl)
    (OrdI w a len ca b len cb xs ys) (OrdX w xs ys) (by rw [hN]; exact ordI_own w a len ca b len cb xs ys) (fun c => by rw [hN]; exact ordX_own w xs ys c)
    ⟨⟨⟨⟨b0, b1⟩, b2⟩, hB0⟩, by rw [Nat.sub_zero, List.drop_eq_nil_of_le (by rw [HL.out]; exact Nat.le_refl _), List.drop_eq_nil_of_le (by rw [HL2.out]; exact Nat.le_refl _)]⟩ ?rd
    (fun k => { tmps := #[.slice a len ca, .slice b len cb, undef, .pointer (some ⟨w.heap.size, 0, none⟩), .pointer (some ⟨w.heap.size + 1, 0, none⟩), .int .i64 ((len : Int) - 1 - k), .int .u64 (xs[len - 1 - k]?.getD 0 : Nat), .slice a len ca, .int .i64 (len : Nat), .slice b len cb, .int .i64 (len : Nat), .bool false, undef, undef, undef, undef, undef, undef, .slice a len ca, .func (.func 71) #[] #[.pointer (some ⟨w.heap.size + 1 + 1, 0, none⟩)], .int .i64 ((len : Int) - 1 - k), .int .u64 (xs[len - 1 - k]?.getD 0 : Nat), undef, undef, undef, undef, undef, undef, undef, undef, undef, undef, undef, undef, undef], defers := [] }) ?assign ?body ?done ?stop
  case rd =>
    rintro k W ⟨⟨⟨_, c2⟩, hB⟩, _⟩
    refine ⟨c2.cell, fun hk => ?_⟩
    obtain ⟨bb, off, ea, hbb, hc⟩ := HC.out (len - 1 - k) (by omega)
    exact ⟨bb, off, ea, (hB.cell (p := ⟨bb, off + (len - 1 - k), none⟩) hbb).trans hc⟩
  case assign =>
    intro l k W K hK
    unfold bwdArgs
    gi_wp2
    exact hK
  case body =>
    rintro l k W ⟨⟨⟨⟨c0, c1⟩, c2⟩, hB⟩, hz⟩ hk hsz
    have d0 := c0.cell
    have d1 := c1.cell
    have f1 := c1.frozen
    obtain ⟨bb, off, rfl, hbb, hcy⟩ := HC2.out (len - 1 - k) (by omega)
    have dy := (hB.cell (p := ⟨bb, off + (len - 1 - k), none⟩) hbb).trans hcy
    clear hcy
    have e1 : ((len : Int) - 1 - k) = ((len - 1 - k : Nat) : Int) := by omega
    rw [e1]
    have hm : len - 1 - k < len := by omega
    have es : len - 1 - k + 1 = len - k := by omega
    have hz1 : xs.drop (len - 1 - k + 1) = ys.drop (len - 1 - k + 1) := by rw [es]; exact hz
    have hlx : xs.length = ys.length := HL.out.symm.trans HL2.out
    have HD := hidD (fun (h : xs[len - 1 - k]?.getD 0 = ys[len - 1 - k]?.getD 0) => drop_eq_step hlx (len - 1 - k) (by rw [← HL.out]; exact hm) hz1 h)
    have HE := hidD (show xs[len - 1 - k]?.getD 0 ≠ ys[len - 1 - k]?.getD 0 → cmpN (val B64 xs) (val B64 ys) = cmpN (xs[len - 1 - k]?.getD 0) (ys[len - 1 - k]?.getD 0) from fun h => by
      rcases Nat.lt_or_gt_of_ne h with h | h
      · rw [cmpN_lt h, cmpN_lt (val_lt_at xa hlx (len - 1 - k) (by rw [← HL.out]; exact hm) hz1 h)]
      · rw [cmpN_gt h, cmpN_gt (val_lt_at xb hlx.symm (len - 1 - k) (by rw [← HL2.out]; exact hm) hz1.symm h)])
    have HK := hidD (show len - (k + 1) = len - 1 - k by omega)
    clear e1 es hz1 hz hlx
    generalize xs[len - 1 - k]?.getD 0 = x at HD HE ⊢
    generalize ys[len - 1 - k]?.getD 0 = y at HD HE dy
    generalize len - 1 - k = m at HD hm HK dy ⊢
    have hcb : len ≤ cb := hcap2
    by_cases hxy : x = y
    · subst hxy
      gi_wp2_with fail
      refine ⟨KeepsFrom.refl _ _, ⟨⟨⟨c0, c1⟩, c2⟩, hB⟩, ?_⟩
      rw [HK.out]; exact HD.out (by simp)
    · have hx2 : (((x : Nat) : Int) != (y : Int)) = true := by rw [bne_iff_ne]; omega
      have HX := hidD hxy
      clear hxy
      gi_wp2_with (refine ⟨trivial, ?_⟩; gi_at_call 36; refine (CallsIn.inRound l ((callsIn_wide (n := _)).2 (sign_c _ _))).mono ?_; rintro e w' ⟨rfl, rfl⟩)
      · refine ⟨(KeepsOthers.setCell _ _ _).from _, ⟨?_, hB.setCell (p := ⟨w.heap.size + 1, 0, none⟩) (by simp) _⟩, rfl⟩
        rw [HE.out HX.out, cmpN_gt ‹y < x›]
        exact c1.set _
      · refine ⟨(KeepsOthers.setCell _ _ _).from _, ⟨?_, hB.setCell (p := ⟨w.heap.size + 1, 0, none⟩) (by simp) _⟩, rfl⟩
        rw [HE.out HX.out, cmpN_lt (by have := HX.out; omega)]
        exact c1.set _
  case done =>
    rintro D W hD ⟨⟨⟨⟨c0, c1⟩, c2⟩, hB⟩, hz⟩ hK
    have d1 := c1.cell
    have f1 := c1.frozen
    have HZ := hidD hz
    clear hz
    gi_wp2
    have hK2 : (W.setCell ⟨w.heap.size + 1, 0, none⟩ (.int .i64 0)).heap[D]? = some (.deferred (some [])) := (KeepsOthers.setCell W ⟨w.heap.size + 1, 0, none⟩ (.int .i64 0)).same D _ hK rfl
    refine ⟨by simp, .inl ⟨_, _, rfl, run_takeDeferred hK2, ?_⟩⟩
    have b1' := (c1.set (.int .i64 0)).kept (grownBy_putObj' _ D (.deferred none)) (fun e => by cases e; rw [show (W.setCell ⟨w.heap.size + 1, 0, none⟩ (.int .i64 0)).heap[w.heap.size + 1]? = _ from c1.set (.int .i64 0)] at hK2; cases hK2)
    have q := b1'.cell
    have hv : cmpN (val B64 xs) (val B64 ys) = 0 := by
      have := HZ.out
      rw [Nat.sub_self, List.drop_zero, List.drop_zero] at this
      rw [this, cmpN_self]
    refine ⟨.int .i64 0, by simp [results, Tryd.results34, go_sem, q], by rw [hv], ?_⟩
    exact (hB.setCell (p := ⟨w.heap.size + 1, 0, none⟩) (by simp) _).trans (belowK_b (w := w) (Nat.le_refl _) _ D _ _ (by omega) hK2 rfl rfl)
  case stop =>
    rintro D c k W hD hk ⟨⟨c1, hB⟩, rfl⟩ hK
    have d1 := c1.cell
    gi_wp2
    refine ⟨by simp, .inl ⟨_, _, rfl, run_takeDeferred hK, ?_⟩⟩
    have b1' := c1.kept (grownBy_putObj' _ D (.deferred none)) (fun e => by cases e; rw [show W.heap[w.heap.size + 1]? = _ from c1] at hK; cases hK)
    have q := b1'.cell
    refine ⟨.int .i64 (cmpN (val B64 xs) (val B64 ys)), by simp [results, Tryd.results34, go_sem, q], rfl, ?_⟩
    exact hB.trans (belowK_b (w := w) (Nat.le_refl _) _ D _ _ (by omega) hK rfl rfl)

theorem morder_c (va vb : Value) (xs ys : List Nat) (w : World) (ha : Row .u64 w va xs) (hb : Row .u64 w vb ys) (xa : Dig B64 xs) (xb : Dig B64 ys) (ta : Top xs) (tb : Top ys) :
    Calls Tryd.prog 34 #[va, vb] w fun e w' => e = .returned (.int .i64 (cmpN (val B64 xs) (val B64 ys))) ∧ Below w.heap.size w w' := by
  obtain ⟨a, ca, rfl, h1⟩ := id ha
  obtain ⟨b, cb, rfl, h2⟩ := id hb
  have hB : 2 ≤ B64 := by unfold B64; omega
  by_cases hl : xs.length = ys.length
  · rw [← hl] at hb ⊢
    exact order_eq a xs.length ca b cb xs ys w ha hb xa xb
  · refine order_ne a _ ca b _ cb w _ _ hl ?_ ?_
    · constructor
      · exact fun h => val_lt_of_length hB xa xb ta tb h
      · intro h
        rcases Nat.lt_or_gt_of_ne hl with h' | h'
        · exact h'
        · have := val_lt_of_length hB xb xa tb ta h'; omega
    · rcases Nat.lt_or_gt_of_ne hl with h' | h'
      · have := val_lt_of_length hB xa xb ta tb h'; omega
      · have := val_lt_of_length hB xb xa tb ta h'; omega
end Go.Proofs.YtahpgnkhophgpaaDoor
