import Derived.Test.YtahpgnkhophgpaaDoorBwd
namespace Go.Proofs.YtahpgnkhophgpaaDoor
open Go.RowKit Go.Shelf

attribute [local go_sem] Oper.semAt_some

theorem row_fn {k : IntKind} {W : World} {a : Option Addr} {l cap : Nat} {ds : List Nat} (h : Row k W (.slice a l cap) ds) : l = ds.length ∧ l ≤ cap ∧ cap ≤ 9223372036854775807 ∧ l ≤ 1099511627776 ∧
    ∀ j, j < l → ∃ b off, a = some ⟨b, off, none⟩ ∧ b < W.heap.size ∧ W.cell? ⟨b, off + j, none⟩ = some (.int k (ds[j]?.getD 0 : Nat)) := by
  obtain ⟨a', c', e, h1, h2, h3, h4⟩ := Row.open h
  cases e
  exact ⟨rfl, h1, h2, h3, h4⟩

theorem getD_zero {ds : List Nat} {j : Nat} (hj : j < ds.length) (h : ds[j]?.getD 0 = 0) : ds[j]? = some 0 := by
  rw [List.getElem?_eq_getElem hj] at h ⊢
  exact congrArg some h

/-- What the rounds of trimmed keep. -/
def TrmI (w : World) (a : Option Addr) (len cap : Nat) (ds : List Nat) (k : Nat) (W : World) : Prop :=
  (((Boxed W w.heap.size 23 (.slice a len cap) ∧ Boxed W (w.heap.size + 1) 23 (.slice none 0 0)) ∧ Boxed W (w.heap.size + 1 + 1) 23 (.slice a len cap)) ∧ Below w.heap.size w W) ∧ ∀ j, len - k ≤ j → j < len → ds[j]?.getD 0 = 0

/-- What a round of trimmed leaves that returns. -/
def TrmX (w : World) (a : Option Addr) (len cap : Nat) (ds : List Nat) (c : Code) (k : Nat) (W : World) : Prop :=
  (Boxed W (w.heap.size + 1) 23 (.slice a (len - 1 - k + 1) cap) ∧ Below w.heap.size w W) ∧ (c = .ret ∧ ds[len - 1 - k]?.getD 0 ≠ 0 ∧ ∀ j, len - k ≤ j → j < len → ds[j]?.getD 0 = 0)

theorem trmI_own (w : World) (a : Option Addr) (len cap : Nat) (ds : List Nat) : OwnFrom (w.heap.size + 1 + 1 + 1) (TrmI w a len cap ds) :=
  OwnFrom.and (OwnFrom.and (OwnFrom.and (OwnFrom.and (Own.from (boxed_own _ _ (fun _ => .slice a len cap)) _) (Own.from (boxed_own _ _ (fun _ => .slice none 0 0)) _)) (Own.from (boxed_own _ _ (fun _ => .slice a len cap)) _)) (ownFrom_below (Nat.le_refl _) (by omega))) (ownFrom_pure _ _)

theorem trmX_own (w : World) (a : Option Addr) (len cap : Nat) (ds : List Nat) (c : Code) : OwnFrom (w.heap.size + 1 + 1 + 1) (TrmX w a len cap ds c) :=
  OwnFrom.and (OwnFrom.and (Own.from (boxed_own _ _ (fun k => .slice a (len - 1 - k + 1) cap)) _) (ownFrom_below (Nat.le_refl _) (by omega))) (ownFrom_pure _ _)

set_option maxRecDepth 100000 in
set_option maxHeartbeats 2000000 in
theorem trimmed_w (a : Option Addr) (len cap : Nat) (ds : List Nat) (w : World) (h : Row .u64 w (.slice a len cap) ds) :
    Calls Tryd.prog 31 #[.slice a len cap] w fun e w' => ∃ u, e = .returned u ∧ (Row .u64 w' u (trimL ds) ∧ Below w.heap.size w w') ∧ (u = .slice none 0 0 ∧ trimL ds = [] ∨ u = .slice a (trimL ds).length cap) := by
  obtain ⟨hl, hcap, hcm, hlm, hc⟩ := row_fn h
  have HL := Hid.out (p := Hid (len = ds.length)) hl
  have HC := Hid.out (p := Hid (∀ j, j < len → ∃ b off, a = some ⟨b, off, none⟩ ∧ b < w.heap.size ∧ w.cell? ⟨b, off + j, none⟩ = some (.int .u64 (ds[j]?.getD 0 : Nat)))) hc
  clear hc hl
  refine (callsIn_wide (n := 3)).1 ?_
  refine callsIn_of_wp_marks Tryd.func31 rfl trivial ?_ rfl
  simp only [Tryd.ntmps31, List.size_toArray, List.length_cons, List.length_nil, Nat.reduceAdd, Nat.reduceSub, Array.replicate_succ, Array.replicate_zero, List.push_toArray, List.append_toArray, List.nil_append, List.cons_append]
  gi_wp2_with (refine ⟨trivial, ?_⟩; gi_at_call 53; refine (bwd_in Fence.wide _ trivial rfl _ _ _ _).mono ?_; rintro e w' ⟨rfl, rfl⟩)
  have b0 := ((Boxed.new w 23 (.slice a len cap)).alloc (.cells #[.slice none 0 0] 23)).alloc (.cells #[.slice a len cap] 23)
  have b1 := (Boxed.new (w.alloc (.cells #[.slice a len cap] 23)) 23 (.slice none 0 0)).alloc (.cells #[.slice a len cap] 23)
  have b2 := Boxed.new ((w.alloc (.cells #[.slice a len cap] 23)).alloc (.cells #[.slice none 0 0] 23)) 23 (.slice a len cap)
  simp only [World.size_alloc] at b1 b2
  have hB0 : Below w.heap.size w (((w.alloc (.cells #[.slice a len cap] 23)).alloc (.cells #[.slice none 0 0] 23)).alloc (.cells #[.slice a len cap] 23)) := (((Below.refl _ w).alloc (Nat.le_refl _) _).alloc (by simp) _).alloc (by simp; omega) _
  have hN : (((w.alloc (.cells #[.slice a len cap] 23)).alloc (.cells #[.slice none 0 0] 23)).alloc (.cells #[.slice a len cap] 23)).heap.size = w.heap.size + 1 + 1 + 1 := by simp
  refine wpIn_rangeN rfl (by omega) (gf := 71) (lb := #[.pointer (some ⟨w.heap.size + 1 + 1, 0, none⟩)]) rfl trivial (enters_of Tryd.func71 (by kernel_rfl) rfl)
    (bwd1_seq Fence.wide _ trivial rfl (by omega) (w.heap.size + 1 + 1) a len cap (fun j => ds[j]?.getD 0) hlm) (fun _ => rfl)
    (TrmI w a len cap ds) (TrmX w a len cap ds) (by rw [hN]; exact trmI_own w a len cap ds) (fun c => by rw [hN]; exact trmX_own w a len cap ds c)
    ⟨⟨⟨⟨b0, b1⟩, b2⟩, hB0⟩, fun j h1 h2 => by omega⟩ ?rd
    (fun k => { tmps := #[.slice a len cap, .pointer (some ⟨w.heap.size, 0, none⟩), .pointer (some ⟨w.heap.size + 1, 0, none⟩), .int .i64 ((len : Int) - 1 - k), .int .u64 (ds[len - 1 - k]?.getD 0 : Nat), .slice a len cap, .func (.func 71) #[] #[.pointer (some ⟨w.heap.size + 1 + 1, 0, none⟩)], .int .i64 ((len : Int) - 1 - k), .int .u64 (ds[len - 1 - k]?.getD 0 : Nat), undef, undef, undef, undef, undef, undef], defers := [] }) ?assign ?body ?done ?stop
  case rd =>
    rintro k W ⟨⟨⟨_, c2⟩, hB⟩, _⟩
    refine ⟨c2.cell, fun hk => ?_⟩
    obtain ⟨b, off, ea, hb, hc⟩ := HC.out (len - 1 - k) (by omega)
    exact ⟨b, off, ea, (hB.cell (p := ⟨b, off + (len - 1 - k), none⟩) hb).trans hc⟩
  case assign =>
    intro l k W K hK
    unfold bwdArgs
    gi_wp2
    exact hK
  case body =>
    rintro l k W ⟨⟨⟨⟨c0, c1⟩, c2⟩, hB⟩, hz⟩ hk hsz
    have d0 := c0.cell
    have d1 := c1.cell
    have f1 := c1.frozen
    have HZ := Hid.out (p := Hid (∀ j, len - k ≤ j → j < len → ds[j]?.getD 0 = 0)) hz
    clear hz
    have e1 : ((len : Int) - 1 - k) = ((len - 1 - k : Nat) : Int) := by omega
    rw [e1]
    by_cases hx : ds[len - 1 - k]?.getD 0 = 0
    · have HX := Hid.out (p := Hid (ds[len - 1 - k]?.getD 0 = 0)) hx
      rw [hx]
      clear hx e1
      gi_wp2
      refine ⟨KeepsFrom.refl _ _, ⟨⟨⟨c0, c1⟩, c2⟩, hB⟩, fun j h1 h2 => ?_⟩
      by_cases hj : j = len - 1 - k
      · rw [hj]; exact HX.out
      · exact HZ.out j (by omega) h2
    · have hm : len - 1 - k < len := by omega
      have hx2 : (((ds[len - 1 - k]?.getD 0 : Nat) : Int) != 0) = true := by rw [bne_iff_ne]; omega
      have HX := Hid.out (p := Hid (ds[len - 1 - k]?.getD 0 ≠ 0)) hx
      clear hx e1
      have HK := Hid.out (p := Hid (ds[len - 1 - k]?.getD 0 ≠ 0 ∧ ∀ j, len - k ≤ j → j < len → ds[j]?.getD 0 = 0)) ⟨HX.out, HZ.out⟩
      clear HX HZ
      generalize ds[len - 1 - k]?.getD 0 = x at hx2 ⊢
      have HM := Hid.out (p := Hid (len - 1 - k = len - 1 - k)) rfl
      generalize hm0 : len - 1 - k = m at hm ⊢
      have HM0 := Hid.out (p := Hid (len - 1 - k = m)) hm0
      clear hm0 HM
      gi_wp2
      refine ⟨(KeepsOthers.setCell _ _ _).from _, ⟨?_, hB.setCell (p := ⟨w.heap.size + 1, 0, none⟩) (by simp) _⟩, rfl, HK.out⟩
      rw [HM0.out]
      exact c1.set _
  case done =>
    rintro D W hD ⟨⟨⟨⟨c0, c1⟩, c2⟩, hB⟩, hz⟩ hK
    have d1 := c1.cell
    have f1 := c1.frozen
    have HZ := Hid.out (p := Hid (∀ j, len - len ≤ j → j < len → ds[j]?.getD 0 = 0)) hz
    clear hz
    gi_wp2
    have hK2 : (W.setCell ⟨w.heap.size + 1, 0, none⟩ (.slice none 0 0)).heap[D]? = some (.deferred (some [])) := (KeepsOthers.setCell W ⟨w.heap.size + 1, 0, none⟩ (.slice none 0 0)).same D _ hK rfl
    refine ⟨by simp, .inl ⟨_, _, rfl, run_takeDeferred hK2, ?_⟩⟩
    have b1' := (c1.set (.slice none 0 0)).kept (grownBy_putObj' _ D (.deferred none)) (fun e => by cases e; rw [show (W.setCell ⟨w.heap.size + 1, 0, none⟩ (.slice none 0 0)).heap[w.heap.size + 1]? = _ from c1.set (.slice none 0 0)] at hK2; cases hK2)
    have q := b1'.cell
    have e0 : trimL ds = [] := trimL_none ds fun j hj => getD_zero hj (HZ.out j (by omega) (by rw [HL.out]; exact hj))
    refine ⟨.slice none 0 0, by simp [results, Tryd.results31, go_sem, q], _, rfl, ⟨?_, ?_⟩, Or.inl ⟨rfl, e0⟩⟩
    · rw [e0]
      exact Row.nil _ _
    · exact (hB.setCell (p := ⟨w.heap.size + 1, 0, none⟩) (by simp) _).trans (belowK_b (w := w) (Nat.le_refl _) _ D _ _ (by simp at hD; omega) hK2 rfl rfl)
  case stop =>
    rintro D c k W hD hk ⟨⟨c1, hB⟩, rfl, hx, hz⟩ hK
    have d1 := c1.cell
    have HZ := Hid.out (p := Hid (ds[len - 1 - k]?.getD 0 ≠ 0 ∧ ∀ j, len - k ≤ j → j < len → ds[j]?.getD 0 = 0)) ⟨hx, hz⟩
    clear hz hx
    gi_wp2
    refine ⟨by simp, .inl ⟨_, _, rfl, run_takeDeferred hK, ?_⟩⟩
    have b1' := c1.kept (grownBy_putObj' _ D (.deferred none)) (fun e => by cases e; rw [show W.heap[w.heap.size + 1]? = _ from c1] at hK; cases hK)
    have q := b1'.cell
    have hB2 : Below w.heap.size w (W.putObj D (.deferred none)) := hB.trans (belowK_b (w := w) (Nat.le_refl _) _ D _ _ (by simp at hD; omega) hK rfl rfl)
    have hlen := HL.out
    have e : trimL ds = ds.take (len - 1 - k + 1) := by
      refine trimL_at ds (len - 1 - k) (by omega) ?_ ?_
      · intro h0
        apply HZ.out.1
        rw [h0]; rfl
      · intro j h1 h2
        exact getD_zero h2 (HZ.out.2 j (by omega) (by omega))
    have el : (ds.take (len - 1 - k + 1)).length = len - 1 - k + 1 := by rw [List.length_take]; omega
    refine ⟨.slice a (len - 1 - k + 1) cap, by simp [results, Tryd.results31, go_sem, q], _, rfl, ⟨?_, hB2⟩, Or.inr (by rw [e, el])⟩
    rw [e]
    have hr := Row.below h hB2
    obtain ⟨_, _, _, _, hcs⟩ := row_fn hr
    obtain ⟨b, off, ea, hb, _⟩ := hcs (len - 1 - k) (by omega)
    refine ⟨a, cap, by rw [el], by omega, hcm, by omega, Or.inr ⟨b, off, ea, hb, fun j hj => ?_⟩⟩
    rw [el] at hj
    obtain ⟨b', off', ea', _, hc'⟩ := hcs j (by omega)
    rw [ea] at ea'
    cases ea'
    rw [hc', List.getElem?_take_of_lt hj]

theorem trimmed_c (v : Value) (ds : List Nat) (w : World) (h : Row .u64 w v ds) :
    Calls Tryd.prog 31 #[v] w fun e w' => ∃ u, e = .returned u ∧ Row .u64 w' u (trimL ds) ∧ Below w.heap.size w w' := by
  obtain ⟨a, cap, rfl, h1⟩ := id h
  refine (trimmed_w a _ cap ds w h).mono ?_
  rintro e w' ⟨u, rfl, ⟨h2, h3⟩, _⟩
  exact ⟨u, rfl, h2, h3⟩
end Go.Proofs.YtahpgnkhophgpaaDoor
