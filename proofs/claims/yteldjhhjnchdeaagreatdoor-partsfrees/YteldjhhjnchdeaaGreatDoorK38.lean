import Derived.Test.YteldjhhjnchdeaaGreatDoorK37
import Derived.Test.YteldjhhjnchdeaaGreatDoorK26
import Derived.Test.YteldjhhjnchdeaaGreatDoorK28
import Derived.Test.YteldjhhjnchdeaaGreatDoorK25
import Derived.Test.YteldjhhjnchdeaaGreatDoorK29
namespace Go.Proofs.YteldjhhjnchdeaaGreatDoor
open Go.RowKit Go.Shelf

attribute [local go_sem] Oper.semAt_some

/-- What a call of Parse leaves. -/
def ParseR (l : List UInt8) (w : World) (e : Ending) (w' : World) : Prop := ∃ u, e = .returned (.tuple #[u, .bool (parseQ l).isSome]) ∧ IsRat w' u (valQ l) ∧ Below w.heap.size w w'
theorem ParseR.of {l : List UInt8} {w w' : World} {u : Value} {o : Option Rat} (h : parseQ l = o) {b : Bool} (hb : o.isSome = b) (hu : IsRat w' u (o.getD 0)) (hB : Below w.heap.size w w') : ParseR l w (.returned (.tuple #[u, .bool b])) w' :=
  ⟨u, by rw [h, hb], by unfold valQ; rw [h]; exact hu, hB⟩

set_option maxRecDepth 100000 in
set_option maxHeartbeats 4000000 in
theorem qparseA (s : ByteArray) (h0 : 2000 < s.size) (w : World) : Calls Tryz.prog 173 #[.string s] w (ParseR (wlst s) w) := by
  have HL := hidD (pq_long (l := wlst s) (by have := wlst_length s; omega))
  have h1 : (2000 : Int) < (s.size : Int) := by omega
  have M0 := ((Mem.nil w).push (.rat 0) (rat0 _))
  have M0 : Mem w (w.alloc (.cells #[.bool false, .slice none 0 0, .bool false, .slice none 0 0] 65)) [some (w.heap.size, .rat (0))] := M0
  obtain ⟨W0, hW0⟩ : ∃ W0, w.alloc (.cells #[.bool false, .slice none 0 0, .bool false, .slice none 0 0] 65) = W0 := ⟨_, rfl⟩
  have HW0 := hidD hW0
  rw [hW0] at M0
  have M1 : Hid (Mem w W0 [some (w.heap.size, .rat (0))]) := hidD M0
  clear M0 hW0  
  go_enter Tryz.func173, Tryz.ntmps173
  go_upto_region 1 with fail
  rw [HW0.out]
  clear HW0
  obtain ⟨s1, a1, l1, c1, t1, b1, k1, d1, n1, r1, i1, j1⟩ := M1.out.rat (i := 0) rfl
  have e1a := n1.c0
  have e1b := n1.c1
  have e1c := n1.c2
  have e1d := n1.c3
  have f1a := n1.f0
  have f1b := n1.f1
  have f1c := n1.f2
  have f1d := n1.f3
  have hq : Below W0.heap.size W0 W0 := Below.refl _ _
  go_wp2_with fail
  have hq2 := M1.out.2.2.trans (hq.mono M1.out.2.2.size)
  have hge := M1.out.ge 0 rfl
  exact bodyPost_ret (v := .tuple #[.agg #[.bool false, .slice none 0 0, .bool false, .slice none 0 0], .bool false]) (by simp [results, Tryz.results173, go_sem, e1a, e1b, e1c, e1d]) rfl (ParseR.of (o := none) HL.out rfl ((rat0 _).put4 (n1.below hq) rfl rfl rfl rfl _ _ _ _) (below_put4 hq2 hge _ _ _ _))

set_option maxRecDepth 100000 in
set_option maxHeartbeats 4000000 in
theorem qparseB (s : ByteArray) (h0 : s.size ≤ 2000) (hs : slashAt (wlst s) = (wlst s).length) (w : World) : Calls Tryz.prog 173 #[.string s] w (ParseR (wlst s) w) := by
  have hl := wlst_length s
  have HL := hidD (pq_plain (l := wlst s) (by omega) hs)
  have HC := hidD (fun (V : World) => scut_no s (by rcases slash_index (wlst s) with ⟨h, _⟩ | ⟨_, h⟩; · omega
                                                    · exact h) V)
  have HP := hidD (fun (V : World) => iparse_u s (by omega) V)
  obtain ⟨zv, hzv⟩ : ∃ z, val0 (wlst s) = z := ⟨_, rfl⟩
  obtain ⟨ok, hok⟩ : ∃ b, good (wlst s) = b := ⟨_, rfl⟩
  rw [hzv, hok] at HP
  have HE := hidD (show (ok = true → valZ (wlst s) = zv) ∧ (ok = false → zv = 0) by rw [← hok, ← hzv]; unfold val0; exact ⟨fun h => by rw [if_pos h], fun h => by rw [h]; simp⟩)
  rw [hok] at HL
  have h1 : ¬ ((2000 : Int) < (s.size : Int)) := by omega
  clear hl hs hzv hok h0
  have M0 := ((Mem.nil w).push (.rat 0) (rat0 _))
  have M0 : Mem w (w.alloc (.cells #[.bool false, .slice none 0 0, .bool false, .slice none 0 0] 65)) [some (w.heap.size, .rat (0))] := M0
  obtain ⟨W0, hW0⟩ : ∃ W0, w.alloc (.cells #[.bool false, .slice none 0 0, .bool false, .slice none 0 0] 65) = W0 := ⟨_, rfl⟩
  have HW0 := hidD hW0
  rw [hW0] at M0
  have M1 : Hid (Mem w W0 [some (w.heap.size, .rat (0))]) := hidD M0
  clear M0 hW0  
  go_enter Tryz.func173, Tryz.ntmps173
  go_upto_region 1 with fail
  rw [HW0.out]
  clear HW0
  go_upto_region 5 with (first
    | (go_at_call 189; refine (HC.out _).mono ?_; clear HC; rintro e w1 ⟨rfl, hb1⟩)
    | (go_at_call 190; refine (HP.out _).mono ?_; clear HP; rintro e w2 ⟨u, rfl, hu, hb2⟩; obtain ⟨s90, a90, l90, c90, rfl⟩ := IsInt.form2 hu))
  obtain ⟨V1, hV⟩ : ∃ V, w2.alloc (.cells #[.bool s90, .slice a90 l90 c90] 63) = V := ⟨_, rfl⟩
  obtain ⟨B1, hBk⟩ : ∃ B, w2.heap.size = B := ⟨_, rfl⟩
  have MM : Mem w (w2.alloc (.cells #[.bool s90, .slice a90 l90 c90] 63)) [some (w.heap.size, .rat (0)), some (w2.heap.size, .int (zv))] := Mem.push ((M1.out.below hb1).below hb2) (.int (zv)) hu
  rw [hV, hBk] at MM
  rw [hV]
  rw [hBk]
  have M2 : Hid (Mem w V1 [some (w.heap.size, .rat (0)), some (B1, .int (zv))]) := hidD (MM)
  clear M1
  clear MM hV hBk
  clear hu hb1 hb2
  obtain ⟨s2, a2, l2, c2, n2, i2⟩ := M2.out.int (i := 1) rfl
  have e2a := n2.c0
  have e2b := n2.c1
  obtain ⟨s3, a3, l3, c3, t3, b3, k3, d3, n3, r3, i3, j3⟩ := M2.out.rat (i := 0) rfl
  have e3a := n3.c0
  have e3b := n3.c1
  have e3c := n3.c2
  have e3d := n3.c3
  have f3a := n3.f0
  have f3b := n3.f1
  have f3c := n3.f2
  have f3d := n3.f3
  have hge := M2.out.ge 0 rfl
  have hB := M2.out.2.2
  cases ok with
  | true =>
    have hr : IsRat V1 (.agg #[.bool s2, .slice a2 l2 c2, .bool false, .slice none 0 0]) ((some ((valZ (wlst s) : Int) : Rat)).getD 0) := IsRat.mk (by show IsInt _ _ (valZ (wlst s)); rw [HE.out.1 rfl]; exact i2) (int0 _)
    have HL2 := hidD (show parseQ (wlst s) = some ((valZ (wlst s) : Int) : Rat) by rw [HL.out]; rfl)
    go_wp2_with fail
    exact bodyPost_ret (v := .tuple #[.agg #[.bool s2, .slice a2 l2 c2, .bool false, .slice none 0 0], .bool true]) (by simp [results, Tryz.results173, go_sem, e3a, e3b, e3c, e3d]) rfl (ParseR.of HL2.out rfl (hr.put4 n3 rfl rfl rfl rfl _ _ _ _) (below_put4 hB hge _ _ _ _))
  | false =>
    have hr : IsRat V1 (.agg #[.bool s2, .slice a2 l2 c2, .bool false, .slice none 0 0]) ((none : Option Rat).getD 0) := IsRat.mk (by show IsInt _ _ 0; rw [← HE.out.2 rfl]; exact i2) (int0 _)
    have HL2 := hidD (show parseQ (wlst s) = none by rw [HL.out]; rfl)
    go_wp2_with fail
    exact bodyPost_ret (v := .tuple #[.agg #[.bool s2, .slice a2 l2 c2, .bool false, .slice none 0 0], .bool false]) (by simp [results, Tryz.results173, go_sem, e3a, e3b, e3c, e3d]) rfl (ParseR.of HL2.out rfl (hr.put4 n3 rfl rfl rfl rfl _ _ _ _) (below_put4 hB hge _ _ _ _))

set_option maxRecDepth 100000 in
set_option maxHeartbeats 8000000 in
theorem qparseC (s : ByteArray) (h0 : s.size ≤ 2000) (hs : slashAt (wlst s) < (wlst s).length) (w : World) : Calls Tryz.prog 173 #[.string s] w (ParseR (wlst s) w) := by
  have hl := wlst_length s
  have HL := hidD (pq_slash (l := wlst s) (by omega) hs)
  obtain ⟨k, hk⟩ : ∃ k, slashAt (wlst s) = k := ⟨_, rfl⟩
  have HC := hidD (fun (V : World) => scut_yes s k (by rcases slash_index (wlst s) with ⟨_, h⟩ | ⟨h, _⟩; · rw [← hk]; exact h
                                                       · omega) (by omega) h0 V)
  have HP1 := hidD (fun (V : World) => iparse_u (s.extract 0 k) (by rw [ByteArray.size_extract]; omega) V)
  have HP2 := hidD (fun (V : World) => iparse_u (s.extract (k + 1) s.size) (by rw [ByteArray.size_extract]; omega) V)
  rw [wlst_take] at HP1
  rw [wlst_drop] at HP2
  rw [hk] at HL
  obtain ⟨lA, hlA⟩ : ∃ l, (wlst s).take k = l := ⟨_, rfl⟩
  obtain ⟨lB, hlB⟩ : ∃ l, (wlst s).drop (k + 1) = l := ⟨_, rfl⟩
  rw [hlA, hlB] at HL
  rw [hlA] at HP1
  rw [hlB] at HP2
  obtain ⟨sA, hsA⟩ : ∃ t, s.extract 0 k = t := ⟨_, rfl⟩
  obtain ⟨sB, hsB⟩ : ∃ t, s.extract (k + 1) s.size = t := ⟨_, rfl⟩
  rw [hsA, hsB] at HC
  rw [hsA] at HP1
  rw [hsB] at HP2
  obtain ⟨za, hza⟩ : ∃ z, val0 lA = z := ⟨_, rfl⟩
  obtain ⟨zb, hzb⟩ : ∃ z, val0 lB = z := ⟨_, rfl⟩
  obtain ⟨oa, hoa⟩ : ∃ b, good lA = b := ⟨_, rfl⟩
  obtain ⟨ob, hob⟩ : ∃ b, good lB = b := ⟨_, rfl⟩
  have HZA := hidD (show Sok za by rw [← hza]; exact val0_sok _)
  have HZB := hidD (show Sok zb by rw [← hzb]; exact val0_sok _)
  have HA := hidD (show (oa = true → valZ lA = za) ∧ (oa = false → za = 0) by rw [← hoa, ← hza]; unfold val0; exact ⟨fun h => by rw [if_pos h], fun h => by rw [h]; simp⟩)
  have HB := hidD (show (ob = true → valZ lB = zb) by rw [← hob, ← hzb]; unfold val0; exact fun h => by rw [if_pos h])
  rw [hza, hoa] at HP1
  rw [hzb, hob] at HP2
  rw [hoa, hob] at HL
  have h1 : ¬ ((2000 : Int) < (s.size : Int)) := by omega
  clear hl hs hk hlA hlB hsA hsB hza hzb hoa hob h0
  have M0 := ((Mem.nil w).push (.rat 0) (rat0 _))
  have M0 : Mem w (w.alloc (.cells #[.bool false, .slice none 0 0, .bool false, .slice none 0 0] 65)) [some (w.heap.size, .rat (0))] := M0
  obtain ⟨W0, hW0⟩ : ∃ W0, w.alloc (.cells #[.bool false, .slice none 0 0, .bool false, .slice none 0 0] 65) = W0 := ⟨_, rfl⟩
  have HW0 := hidD hW0
  rw [hW0] at M0
  have M1 : Hid (Mem w W0 [some (w.heap.size, .rat (0))]) := hidD M0
  clear M0 hW0  
  go_enter Tryz.func173, Tryz.ntmps173
  go_upto_region 1 with fail
  rw [HW0.out]
  clear HW0
  go_upto_region 5 with (first
    | (go_at_call 189; refine (HC.out _).mono ?_; clear HC; rintro e w1 ⟨rfl, hb1⟩)
    | (go_at_call 190; refine (HP1.out _).mono ?_; clear HP1; rintro e w2 ⟨u, rfl, hu, hb2⟩; obtain ⟨s90, a90, l90, c90, rfl⟩ := IsInt.form2 hu))
  obtain ⟨V1, hV⟩ : ∃ V, w2.alloc (.cells #[.bool s90, .slice a90 l90 c90] 63) = V := ⟨_, rfl⟩
  obtain ⟨B1, hBk⟩ : ∃ B, w2.heap.size = B := ⟨_, rfl⟩
  have MM : Mem w (w2.alloc (.cells #[.bool s90, .slice a90 l90 c90] 63)) [some (w.heap.size, .rat (0)), some (w2.heap.size, .int (za))] := Mem.push ((M1.out.below hb1).below hb2) (.int (za)) hu
  rw [hV, hBk] at MM
  rw [hV]
  rw [hBk]
  have M2 : Hid (Mem w V1 [some (w.heap.size, .rat (0)), some (B1, .int (za))]) := hidD (MM)
  clear M1
  clear MM hV hBk
  clear hu hb1 hb2
  cases oa with
  | false =>
    obtain ⟨s2, a2, l2, c2, n2, i2⟩ := M2.out.int (i := 1) rfl
    have e2a := n2.c0
    have e2b := n2.c1
    obtain ⟨s3, a3, l3, c3, t3, b3, k3, d3, n3, r3, i3, j3⟩ := M2.out.rat (i := 0) rfl
    have e3a := n3.c0
    have e3b := n3.c1
    have e3c := n3.c2
    have e3d := n3.c3
    have f3a := n3.f0
    have f3b := n3.f1
    have f3c := n3.f2
    have f3d := n3.f3
    have hge := M2.out.ge 0 rfl
    have hB := M2.out.2.2
    have hr : IsRat V1 (.agg #[.bool s2, .slice a2 l2 c2, .bool false, .slice none 0 0]) ((none : Option Rat).getD 0) := IsRat.mk (by show IsInt _ _ 0; rw [← HA.out.2 rfl]; exact i2) (int0 _)
    have HL2 := hidD (show parseQ (wlst s) = none by rw [HL.out]; simp)
    go_wp2_with fail
    exact bodyPost_ret (v := .tuple #[.agg #[.bool s2, .slice a2 l2 c2, .bool false, .slice none 0 0], .bool false]) (by simp [results, Tryz.results173, go_sem, e3a, e3b, e3c, e3d]) rfl (ParseR.of HL2.out rfl (hr.put4 n3 rfl rfl rfl rfl _ _ _ _) (below_put4 hB hge _ _ _ _))
  | true =>
    go_upto_region 8 with (go_at_call 190; refine (HP2.out _).mono ?_; clear HP2; rintro e w3 ⟨u, rfl, hu, hb3⟩; obtain ⟨s91, a91, l91, c91, rfl⟩ := IsInt.form2 hu)
    obtain ⟨V4, hV⟩ : ∃ V, w3.alloc (.cells #[.bool s91, .slice a91 l91 c91] 63) = V := ⟨_, rfl⟩
    obtain ⟨B4, hBk⟩ : ∃ B, w3.heap.size = B := ⟨_, rfl⟩
    have MM : Mem w (w3.alloc (.cells #[.bool s91, .slice a91 l91 c91] 63)) [some (w.heap.size, .rat (0)), some (B1, .int (za)), some (w3.heap.size, .int (zb))] := Mem.push (M2.out.below hb3) (.int (zb)) hu
    rw [hV, hBk] at MM
    rw [hV]
    rw [hBk]
    have M3 : Hid (Mem w V4 [some (w.heap.size, .rat (0)), some (B1, .int (za)), some (B4, .int (zb))]) := hidD (MM)
    clear M2
    clear MM hV hBk
    clear hu hb3
    obtain ⟨s5, a5, l5, c5, n5, i5⟩ := M3.out.int (i := 1) rfl
    have e5a := n5.c0
    have e5b := n5.c1
    obtain ⟨s6, a6, l6, c6, n6, i6⟩ := M3.out.int (i := 2) rfl
    have e6a := n6.c0
    have e6b := n6.c1
    obtain ⟨s7, a7, l7, c7, t7, b7, k7, d7, n7, r7, i7, j7⟩ := M3.out.rat (i := 0) rfl
    have e7a := n7.c0
    have e7b := n7.c1
    have e7c := n7.c2
    have e7d := n7.c3
    have f7a := n7.f0
    have f7b := n7.f1
    have f7c := n7.f2
    have f7d := n7.f3
    have hge := M3.out.ge 0 rfl
    have hB := M3.out.2.2
    have hq0 : Below V4.heap.size V4 V4 := Below.refl _ _
    have HO := hidD (iorder_c _ _ zb 0 V4 i6 (int0 _))
    cases ob with
    | false =>
      have HL2 := hidD (show parseQ (wlst s) = none by rw [HL.out]; simp)
      clear HO
      go_wp2_with fail
      have hq2 := M3.out.2.2.trans (hq0.mono M3.out.2.2.size)
      have hge := M3.out.ge 0 rfl
      exact bodyPost_ret (v := .tuple #[.agg #[.bool false, .slice none 0 0, .bool false, .slice none 0 0], .bool false]) (by simp [results, Tryz.results173, go_sem, e7a, e7b, e7c, e7d]) rfl (ParseR.of (o := none) HL2.out rfl ((rat0 _).put4 (n7.below hq0) rfl rfl rfl rfl _ _ _ _) (below_put4 hq2 hge _ _ _ _))
    | true =>
      by_cases hz : 0 < zb
      · have HZ := hidD hz
        have HL2 := hidD (show parseQ (wlst s) = some (Rat.divInt za zb) by rw [HL.out, HA.out.1 (by first | rfl | trivial), HB.out (by first | rfl | trivial), if_pos (by first | exact ⟨rfl, rfl, hz⟩ | exact ⟨trivial, rfl, hz⟩ | exact ⟨trivial, trivial, hz⟩)])
        rw [show cmpI zb 0 = 1 from by unfold cmpI; rw [if_neg (by omega), if_pos hz]] at HO
        clear hz
        have HR := hidD (fun (V : World) (h : Below V4.heap.size V4 V) => reduced_c _ _ za zb V (i5.below h) (i6.below h) (by have := HZ.out; omega) HZA.out HZB.out)
        go_wp2_with (first
          | (go_at_call 104; refine HO.out.mono ?_; clear HO; rintro e w4 ⟨rfl, hq⟩; have e5a := (n5.below hq).c0; have e5b := (n5.below hq).c1; have e6a := (n6.below hq).c0; have e6b := (n6.below hq).c1)
          | (go_at_call 118; refine (HR.out _ hq).mono ?_; clear HR; rintro e w5 ⟨u5, rfl, hu5, hb5⟩; obtain ⟨s92, a92, l92, c92, t92, b92, k92, d92, rfl⟩ := IsRat.form hu5; have hq := Below.then hq hb5; have e7a := (n7.below hq).c0; have e7b := (n7.below hq).c1; have e7c := (n7.below hq).c2; have e7d := (n7.below hq).c3; have f7a := (n7.below hq).f0; have f7b := (n7.below hq).f1; have f7c := (n7.below hq).f2; have f7d := (n7.below hq).f3))
        have hq2 := hB.trans (hq.mono hB.size)
        exact bodyPost_ret (v := .tuple #[.agg #[.bool s92, .slice a92 l92 c92, .bool t92, .slice b92 k92 d92], .bool true]) (by simp [results, Tryz.results173, go_sem, e7a, e7b, e7c, e7d]) rfl (ParseR.of HL2.out rfl (hu5.put4 (n7.below hq) rfl rfl rfl rfl _ _ _ _) (below_put4 hq2 hge _ _ _ _))
      · have HL2 := hidD (show parseQ (wlst s) = none by rw [HL.out, HB.out (by first | rfl | trivial), if_neg (fun h => hz h.2.2)])
        rcases Int.lt_or_eq_of_le (show zb ≤ 0 by omega) with hz1 | hz1
        · rw [show cmpI zb 0 = -1 from by unfold cmpI; rw [if_pos hz1]] at HO
          clear hz1 hz
          go_wp2_with (go_at_call 104; refine HO.out.mono ?_; clear HO; rintro e w4 ⟨rfl, hq⟩; have e7a := (n7.below hq).c0; have e7b := (n7.below hq).c1; have e7c := (n7.below hq).c2; have e7d := (n7.below hq).c3; have f7a := (n7.below hq).f0; have f7b := (n7.below hq).f1; have f7c := (n7.below hq).f2; have f7d := (n7.below hq).f3)
          have hq2 := M3.out.2.2.trans (hq.mono M3.out.2.2.size)
          have hge := M3.out.ge 0 rfl
          exact bodyPost_ret (v := .tuple #[.agg #[.bool false, .slice none 0 0, .bool false, .slice none 0 0], .bool false]) (by simp [results, Tryz.results173, go_sem, e7a, e7b, e7c, e7d]) rfl (ParseR.of (o := none) HL2.out rfl ((rat0 _).put4 (n7.below hq) rfl rfl rfl rfl _ _ _ _) (below_put4 hq2 hge _ _ _ _))
        · rw [show cmpI zb 0 = 0 from by unfold cmpI; rw [if_neg (by omega), if_neg (by omega)]] at HO
          clear hz1 hz
          go_wp2_with (go_at_call 104; refine HO.out.mono ?_; clear HO; rintro e w4 ⟨rfl, hq⟩; have e7a := (n7.below hq).c0; have e7b := (n7.below hq).c1; have e7c := (n7.below hq).c2; have e7d := (n7.below hq).c3; have f7a := (n7.below hq).f0; have f7b := (n7.below hq).f1; have f7c := (n7.below hq).f2; have f7d := (n7.below hq).f3)
          have hq2 := M3.out.2.2.trans (hq.mono M3.out.2.2.size)
          have hge := M3.out.ge 0 rfl
          exact bodyPost_ret (v := .tuple #[.agg #[.bool false, .slice none 0 0, .bool false, .slice none 0 0], .bool false]) (by simp [results, Tryz.results173, go_sem, e7a, e7b, e7c, e7d]) rfl (ParseR.of (o := none) HL2.out rfl ((rat0 _).put4 (n7.below hq) rfl rfl rfl rfl _ _ _ _) (below_put4 hq2 hge _ _ _ _))

/-- Reading a fraction. -/
theorem qparse_c (s : ByteArray) (w : World) : Calls Tryz.prog 173 #[.string s] w (ParseR (wlst s) w) := by
  have hl := wlst_length s
  rcases Nat.lt_or_ge 2000 s.size with h | h
  · exact qparseA s h w
  · rcases slash_index (wlst s) with ⟨h1, _⟩ | ⟨h1, _⟩
    · exact qparseC s h h1 w
    · exact qparseB s h h1 w
end Go.Proofs.YteldjhhjnchdeaaGreatDoor
namespace Go.Proofs.YteldjhhjnchdeaaGreatDoor
open Go.RowKit Go.Shelf

/-- Digits with so many zeros ahead that one more than k stand there. -/
def padL (k : Nat) (d : List UInt8) : List UInt8 := List.replicate (k + 1 - d.length) 48 ++ d
/-- A point ahead of the last k digits. -/
def dotL (k : Nat) (p : List UInt8) : List UInt8 := if 0 < k then p.take (p.length - k) ++ 46 :: p.drop (p.length - k) else p
/-- So many multiples of 10 to the power of -k, with k places. -/
def pointsL (z : Int) (k : Nat) : List UInt8 := if z < 0 then 45 :: dotL k (padL k (decN z.natAbs)) else dotL k (padL k (decN z.natAbs))

theorem padL_len (k : Nat) (d : List UInt8) : (padL k d).length = if d.length ≤ k then k + 1 else d.length := by
  unfold padL
  rw [List.length_append, List.length_replicate]
  split <;> omega

theorem decN_no45 (n : Nat) : (decN n).head? ≠ some 45 := by
  by_cases hn : n = 0
  · rw [hn]; decide
  · obtain ⟨c, t, h1, _, h2, _⟩ := decN_head hn
    rw [h1]
    simp
    exact h2

theorem decZ_tail (z : Int) : tailOf (decZ z) = decN z.natAbs ∧ decide ((decZ z).head? = some 45) = decide (z < 0) := by
  unfold tailOf decZ
  by_cases h : z < 0
  · simp [h]
  · have := decN_no45 z.natAbs
    simp [h, this]

theorem cut_b (s : ByteArray) (w : World) : Calls Tryz.prog 70 #[.string s, .string ⟨#[45]⟩] w fun e w' => e = .returned (.tuple #[.string ⟨(tailOf (wlst s)).toArray⟩, .bool (decide ((wlst s).head? = some 45))]) ∧ Below w.heap.size w w' := by
  refine (cut_c s w).mono ?_
  rintro e w' ⟨rfl, rfl⟩
  exact ⟨rfl, Below.refl _ _⟩

theorem wlst_mk (l : List UInt8) : wlst ⟨l.toArray⟩ = l := by simp [wlst]

theorem cut_dec (z : Int) (w : World) : Calls Tryz.prog 70 #[.string ⟨(decZ z).toArray⟩, .string ⟨#[45]⟩] w fun e w' => e = .returned (.tuple #[.string ⟨(decN z.natAbs).toArray⟩, .bool (decide (z < 0))]) ∧ Below w.heap.size w w' := by
  have h := cut_b ⟨(decZ z).toArray⟩ w
  rw [wlst_mk, (decZ_tail z).1, (decZ_tail z).2] at h
  exact h

theorem repeatL_one (c : Nat) : Lib.repeatL [48] c = List.replicate c 48 := by
  induction c with
  | zero => rfl
  | succ n ih =>
    show [48] ++ Lib.repeatL [48] n = _
    rw [ih]
    rfl

theorem rep_c (c : Nat) (hc : c ≤ 1000) (w : World) : Calls Tryz.prog 156 #[.string ⟨#[48]⟩, .int .i64 (c : Int)] w fun e w' => e = .returned (.string ⟨(List.replicate c 48).toArray⟩) ∧ Below w.heap.size w w' := by
  have h := Tryz.strings_Repeat ⟨#[48]⟩ c w (by omega) (by show 1 * _ ≤ _; omega)
  rw [show Lib.repeatL (⟨#[48]⟩ : ByteArray).data.toList c = List.replicate c 48 from repeatL_one c] at h
  exact h

theorem ten_sm1 (k : Nat) : Sm (k + 1) ((10 : Int) ^ k) := by
  unfold Sm
  rw [Int.natAbs_pow, Nat.pow_succ]
  have h1 : (10 : Int).natAbs ^ k ≤ B64 ^ k := Nat.pow_le_pow_left (by unfold B64; decide) k
  have h2 : 0 < B64 ^ k := Nat.pow_pos B64_pos
  have h3 : B64 ^ k * 2 ≤ B64 ^ k * B64 := Nat.mul_le_mul_left _ two_le_B64
  omega

theorem digits_sok {q : Rat} {k : Nat} (hq : Sq q) (hk : k ≤ 100) : Sok (q.num * 10 ^ k) := Sok.of (hq.sm.1.mul (ten_sm1 k)) (by omega)

theorem pad_one (k : Nat) (d : List UInt8) : (⟨(List.replicate (k + 1 - d.length) 48).toArray⟩ : ByteArray) ++ ⟨d.toArray⟩ = ⟨(padL k d).toArray⟩ := ba_append _ _
theorem pad_none {k : Nat} {d : List UInt8} (h : ¬ d.length ≤ k) : padL k d = d := by
  unfold padL
  rw [show k + 1 - d.length = 0 by omega]
  rfl

theorem points_text (z : Int) (k : Nat) (P E1 E2 : ByteArray) (m : Nat) (hP : P = ⟨(padL k (decN z.natAbs)).toArray⟩) (hm : m = P.size - k) (h1 : P.extract 0 m = E1) (h2 : P.extract m P.size = E2) :
    (⟨(pointsL z k).toArray⟩ : ByteArray) = if z < 0 then (if 0 < k then (⟨#[45]⟩ ++ E1) ++ (⟨#[46]⟩ ++ E2) else ⟨#[45]⟩ ++ E1) else (if 0 < k then E1 ++ (⟨#[46]⟩ ++ E2) else E1) := by
  have hs : P.size = (padL k (decN z.natAbs)).length := by rw [hP]; show (padL k (decN z.natAbs)).toArray.size = _; rw [List.size_toArray]
  have hw : wlst P = padL k (decN z.natAbs) := by rw [hP, wlst_mk]
  have e1 : E1 = ⟨((padL k (decN z.natAbs)).take m).toArray⟩ := by
    have := wlst_take P m
    rw [hw, h1] at this
    rw [← this]
    apply ByteArray.ext; simp [wlst]
  have e2 : E2 = ⟨((padL k (decN z.natAbs)).drop m).toArray⟩ := by
    have := wlst_drop P m
    rw [hw, h2] at this
    rw [← this]
    apply ByteArray.ext; simp [wlst]
  rw [e1, e2]
  unfold pointsL dotL
  rw [← hs, ← hm]
  have hk0 : ¬ 0 < k → (padL k (decN z.natAbs)).take m = padL k (decN z.natAbs) := fun h => List.take_of_length_le (by omega)
  generalize padL k (decN z.natAbs) = p at *
  by_cases hz : z < 0 <;> by_cases hk : 0 < k
  · simp only [hz, hk, if_true]
    rw [ba_cons, ba_cons, ba_append]
    simp
  · simp only [hz, hk, if_true, if_false]
    rw [ba_cons, hk0 hk]
  · simp only [hz, hk, if_true, if_false]
    rw [ba_cons, ba_append]
  · simp only [hz, hk, if_false]
    rw [hk0 hk]
end Go.Proofs.YteldjhhjnchdeaaGreatDoor
