import Derived.Test.YtcahodpphikgnaaGreatDoorK23
import Derived.Test.YtcahodpphikgnaaGreatDoorK31
import Derived.Test.YtcahodpphikgnaaGreatDoorK28
import Derived.Test.YtcahodpphikgnaaGreatDoorK27
import Derived.Test.YtcahodpphikgnaaGreatDoorK22
namespace Go.Proofs.YtcahodpphikgnaaGreatDoor
open Go.RowKit Go.Shelf

attribute [local go_sem] Oper.semAt_some

/-- What a call of the document's Parse leaves. -/
def ParseF (l : List UInt8) (w : World) (e : Ending) (w' : World) : Prop := ∃ u, e = .returned (.tuple #[u, .bool (parseQ l).isSome]) ∧ IsRef w' u (valQ l) ∧ Below w.heap.size w w'
theorem ParseF.of {l : List UInt8} {w w' : World} {u : Value} {o : Option Rat} (h : parseQ l = o) {b : Bool} (hb : o.isSome = b) (hu : IsRef w' u (o.getD 0)) (hB : Below w.heap.size w w') : ParseF l w (.returned (.tuple #[u, .bool b])) w' :=
  ⟨u, by rw [h, hb], by unfold valQ; rw [h]; exact hu, hB⟩

theorem byte_ne {s : ByteArray} {i : Nat} (h : i < s.size) (hi : i < slashAt (wlst s)) : ((s[i].toNat : Int) == 47) = false := by
  have h1 : (wlst s)[i]? = some s[i] := by
    unfold wlst
    rw [Array.getElem?_toList, Array.getElem?_eq_getElem (by exact h)]
    rfl
  have h2 : s[i] ≠ 47 := by
    rcases slash_index (wlst s) with ⟨_, h3⟩ | ⟨_, h3⟩
    · have := (Lib.indexByte_some h3).2 i hi
      rw [h1] at this
      exact fun e => this (by rw [e])
    · have := Lib.indexByte_none h3 i
      rw [h1] at this
      exact fun e => this (by rw [e])
  rw [beq_eq_false_iff_ne]
  intro h3
  apply h2
  apply UInt8.toNat_inj.1
  show s[i].toNat = 47
  omega
theorem byte_eq {s : ByteArray} {k : Nat} (hk : slashAt (wlst s) = k) (h : k < s.size) : ((s[k].toNat : Int) == 47) = true := by
  have hl := wlst_length s
  have h1 : (wlst s)[k]? = some s[k] := by
    unfold wlst
    rw [Array.getElem?_toList, Array.getElem?_eq_getElem (by exact h)]
    rfl
  rcases slash_index (wlst s) with ⟨_, h3⟩ | ⟨h3, _⟩
  · have h4 := (Lib.indexByte_some h3).1
    rw [hk, h1] at h4
    have h5 : s[k] = 47 := by simpa using h4
    rw [h5]; rfl
  · omega

set_option maxRecDepth 100000 in
set_option maxHeartbeats 4000000 in
theorem sparseB (s : ByteArray) (hsz : s.size ≤ 140737488351232) (hs : slashAt (wlst s) = (wlst s).length) (w : World) : Calls Tryz.prog 8 #[.string s] w (ParseF (wlst s) w) := by
  have hl := wlst_length s
  obtain ⟨k, hk⟩ : ∃ k, slashAt (wlst s) = k := ⟨_, rfl⟩
  have hks : k = s.size := by omega
  have HK := hidD hk
  have HP := hidD (fun (V : World) => parse_u (s.extract 0 k) (by rw [ByteArray.size_extract]; omega) V)
  rw [wlst_take, show (wlst s).take k = wlst s from List.take_of_length_le (by omega)] at HP
  have HG := hidD (show good (wlst s) = true → s.size ≤ 2000 by
    intro h
    simp only [good, Bool.and_eq_true, decide_eq_true_eq] at h
    omega)
  have HL := hidD (show parseQ (wlst s) = if good (wlst s) = true then some ((valZ (wlst s) : Int) : Rat) else none by
    rcases Nat.lt_or_ge 2000 s.size with h | h
    · rw [pq_long (by omega), if_neg (fun g => by have := HG.out g; omega)]
    · exact pq_plain (by omega) hs)
  obtain ⟨sA, hsA⟩ : ∃ t, s.extract 0 k = t := ⟨_, rfl⟩
  rw [hsA] at HP
  have HSA := hidD hsA
  obtain ⟨zv, hzv⟩ : ∃ z, val0 (wlst s) = z := ⟨_, rfl⟩
  obtain ⟨ok, hok⟩ : ∃ b, good (wlst s) = b := ⟨_, rfl⟩
  rw [hzv, hok] at HP
  have HE := hidD (show ok = true → valZ (wlst s) = zv by rw [← hok, ← hzv]; unfold val0; exact fun h => by rw [if_pos h])
  rw [hok] at HL HG
  have hk1 : (0 : Int) ≤ (k : Int) := by omega
  have hk2 : (k : Int) ≤ (s.size : Int) := by omega
  have hdk : decide ((k : Int) < (s.size : Int)) = false := decide_eq_false (by omega)
  have hek : ((k : Int) == (s.size : Int)) = true := by rw [hks]; simp
  have hkl : k ≤ s.size := by omega
  clear hl hs hzv hok hsA hk hks
  have M0 := ((Mem.nil w).push .zref rfl)
  have M0 : Mem w (w.alloc (.cells #[.slice none 0 0, .bool false, .slice none 0 0, .bool false] 34)) [some (w.heap.size, .zref)] := M0
  obtain ⟨W0, hW0⟩ : ∃ W0, w.alloc (.cells #[.slice none 0 0, .bool false, .slice none 0 0, .bool false] 34) = W0 := ⟨_, rfl⟩
  have HW0 := hidD hW0
  rw [hW0] at M0
  have M1 : Hid (Mem w W0 [some (w.heap.size, .zref)]) := hidD M0
  clear M0 hW0  
  go_enter Tryz.func8, Tryz.ntmps8
  go_upto_region 1 with fail
  rw [HW0.out]
  clear HW0
  go_wp2_with fail
  go_loop [4] (fun iv => ∃ i : Nat, iv = .int .i64 i ∧ i ≤ k) (fun iv => k - (intOf iv).toNat)
  case atStart => exact ⟨0, rfl, Nat.zero_le _⟩
  case round =>
    obtain ⟨i, rfl, hi⟩ := hrel
    rcases Nat.lt_or_ge i k with hlt | hge
    · have hl1 : i < s.size := by omega
      have hb := byte_ne hl1 (HK.out ▸ hlt)
      have hd : decide ((i : Int) < (s.size : Int)) = true := decide_eq_true (by omega)
      have hwr : IntKind.i64.wrap ((i : Int) + 1) = (i : Int) + 1 := by rw [IntKind.wrap_i64]; omega
      go_wp2_with fail
      go_round
      case rel => exact ⟨i + 1, by first | rfl | simp, by omega⟩
      case measure => simp [intOf]; omega
    · have hik : i = k := by omega
      subst hik
      go_upto_region 5 with (go_at_call 20; try rw [HSA.out]; refine (HP.out _).mono ?_; clear HP; rintro e w2 ⟨u, rfl, hu, hb2⟩; obtain ⟨a90, l90, c90, s90, rfl⟩ := IsBig.form2 hu)
      obtain ⟨V1, hV⟩ : ∃ V, w2.alloc (.cells #[.slice a90 l90 c90, .bool s90] 32) = V := ⟨_, rfl⟩
      obtain ⟨B1, hBk⟩ : ∃ B, w2.heap.size = B := ⟨_, rfl⟩
      have MM : Mem w (w2.alloc (.cells #[.slice a90 l90 c90, .bool s90] 32)) [some (w.heap.size, .zref), some (w2.heap.size, .big (zv))] := Mem.push (M1.out.below hb2) (.big (zv)) hu
      rw [hV, hBk] at MM
      rw [hV]
      rw [hBk]
      have M2 : Hid (Mem w V1 [some (w.heap.size, .zref), some (B1, .big (zv))]) := hidD (MM)
      clear M1
      clear MM hV hBk
      clear hu hb2
      cases ok with
      | false =>
        have HL2 := hidD (show parseQ (wlst s) = none by rw [HL.out]; simp)
        have n2 := M2.out.zref (i := 0) rfl
        have e2a := n2.c0
        have e2b := n2.c1
        have e2c := n2.c2
        have e2d := n2.c3
        have f2a := n2.f0
        have f2b := n2.f1
        have f2c := n2.f2
        have f2d := n2.f3
        have HW := hidD (fun (V : World) => swhole_c 0 (by omega) (by omega) V)
        have hq : Below V1.heap.size V1 V1 := Below.refl _ _
        go_wp2_with (first
          | (go_at_call 45; refine (HW.out _).mono ?_; clear HW; rintro e w9 ⟨u9, rfl, hu9, hb9⟩; obtain ⟨a95, l95, c95, s95, b95, k95, d95, t95, rfl⟩ := IsRef.form hu9; have hq := Below.then hq hb9; have e2a := (n2.below hq).c0; have e2b := (n2.below hq).c1; have e2c := (n2.below hq).c2; have e2d := (n2.below hq).c3; have f2a := (n2.below hq).f0; have f2b := (n2.below hq).f1; have f2c := (n2.below hq).f2; have f2d := (n2.below hq).f3))
        have hq2 := M2.out.2.2.trans (hq.mono M2.out.2.2.size)
        have hge := M2.out.ge 0 rfl
        exact bodyPost_ret (v := .tuple #[.agg #[.slice a95 l95 c95, .bool s95, .slice b95 k95 d95, .bool t95], .bool false]) (by simp [results, Tryz.results8, go_sem, e2a, e2b, e2c, e2d]) rfl (ParseF.of (o := none) HL2.out rfl (hu9.put4 (n2.below hq) rfl rfl rfl rfl _ _ _ _) (below_put4 hq2 hge _ _ _ _))
      | true =>
        have HL2 := hidD (show parseQ (wlst s) = some ((zv : Int) : Rat) by rw [HL.out, HE.out (by first | rfl | trivial)]; simp)
        have h20 : ¬ ((2000 : Int) < (s.size : Int)) := by have := HG.out (by first | rfl | trivial); omega
        go_upto_region 8 with fail
        obtain ⟨a3, l3, c3, s3, n3, i3⟩ := M2.out.big (i := 1) rfl
        have e3a := n3.c0
        have e3b := n3.c1
        have n4 := M2.out.zref (i := 0) rfl
        have e4a := n4.c0
        have e4b := n4.c1
        have e4c := n4.c2
        have e4d := n4.c3
        have f4a := n4.f0
        have f4b := n4.f1
        have f4c := n4.f2
        have f4d := n4.f3
        have H1 := hidD (fun (V : World) (h : Below V1.heap.size V1 V) => of_c 1 (by omega) (by omega) V)
        have ne1 : B1 ≠ w.heap.size := M2.out.ne 1 0 rfl rfl (by decide)
        have hq : Below V1.heap.size V1 V1.drew := (Below.refl _ V1).drew
        go_region_held3 (fun w' => w'.cell? ⟨B1, 0, none⟩ = some (.slice a3 l3 c3) ∧ w'.cell? ⟨B1, 1, none⟩ = some (.bool s3)) (first | (with_reducible exact ⟨e3a, e3b⟩) | (go_keep; done) | (refine ⟨?_, ?_⟩ <;> ((repeat rw [cell_set_nb (by omega)]); first | assumption | (go_keep; done))))
          (first
            | (go_at_call 46; refine (H1.out _ hq ).mono ?_; clear H1; rintro e w1 ⟨v1, rfl, g1, hb1⟩; obtain ⟨a91, l91, c91, s91, rfl⟩ := IsBig.form2 g1; have hq := Below.then hq hb1; have e3a := (n3.below hq).c0; have e3b := (n3.below hq).c1; have e4a := (n4.below hq).c0; have e4b := (n4.below hq).c1; have e4c := (n4.below hq).c2; have e4d := (n4.below hq).c3; have f4a := (n4.below hq).f0; have f4b := (n4.below hq).f1; have f4c := (n4.below hq).f2; have f4d := (n4.below hq).f3))
        all_goals go_wp2_with fail
        have hr : IsRef w1 (.agg #[.slice a3 l3 c3, .bool s3, .slice a91 l91 c91, .bool s91]) ((some ((zv : Int) : Rat)).getD 0) := IsRef.mk (i3.below hq) g1
        have hq2 := M2.out.2.2.trans (hq.mono M2.out.2.2.size)
        have hge := M2.out.ge 0 rfl
        exact bodyPost_ret (v := .tuple #[.agg #[.slice a3 l3 c3, .bool s3, .slice a91 l91 c91, .bool s91], .bool true]) (by simp [results, Tryz.results8, go_sem, e4a, e4b, e4c, e4d]) rfl (ParseF.of HL2.out rfl (hr.put4 (n4.below hq) rfl rfl rfl rfl _ _ _ _) (below_put4 hq2 hge _ _ _ _))

set_option maxRecDepth 100000 in
set_option maxHeartbeats 8000000 in
theorem sparseC (s : ByteArray) (hsz : s.size ≤ 140737488351232) (hs : slashAt (wlst s) < (wlst s).length) (w : World) : Calls Tryz.prog 8 #[.string s] w (ParseF (wlst s) w) := by
  have hl := wlst_length s
  obtain ⟨k, hk⟩ : ∃ k, slashAt (wlst s) = k := ⟨_, rfl⟩
  have hks : k < s.size := by omega
  have HK := hidD hk
  have h47 := byte_eq hk hks
  have HP1 := hidD (fun (V : World) => parse_u (s.extract 0 k) (by rw [ByteArray.size_extract]; omega) V)
  have HP2 := hidD (fun (V : World) => parse_u (s.extract (k + 1) s.size) (by rw [ByteArray.size_extract]; omega) V)
  rw [wlst_take] at HP1
  rw [wlst_drop] at HP2
  have HLL := hidD (show 2000 < s.size → parseQ (wlst s) = none from fun h => pq_long (by omega))
  have HL := hidD (show ¬ 2000 < s.size → _ from fun h => pq_slash (l := wlst s) (by omega) hs)
  rw [hk] at HL
  obtain ⟨lA, hlA⟩ : ∃ l, (wlst s).take k = l := ⟨_, rfl⟩
  obtain ⟨lB, hlB⟩ : ∃ l, (wlst s).drop (k + 1) = l := ⟨_, rfl⟩
  rw [hlA, hlB] at HL
  rw [hlA] at HP1
  rw [hlB] at HP2
  obtain ⟨sA, hsA⟩ : ∃ t, s.extract 0 k = t := ⟨_, rfl⟩
  obtain ⟨sB, hsB⟩ : ∃ t, s.extract (k + 1) s.size = t := ⟨_, rfl⟩
  have HSA := hidD hsA
  have HSB := hidD hsB
  rw [hsA] at HP1
  rw [hsB] at HP2
  obtain ⟨za, hza⟩ : ∃ z, val0 lA = z := ⟨_, rfl⟩
  obtain ⟨zb, hzb⟩ : ∃ z, val0 lB = z := ⟨_, rfl⟩
  obtain ⟨oa, hoa⟩ : ∃ b, good lA = b := ⟨_, rfl⟩
  obtain ⟨ob, hob⟩ : ∃ b, good lB = b := ⟨_, rfl⟩
  have HZA := hidD (show Sok za by rw [← hza]; exact val0_sok _)
  have HZB := hidD (show Sok zb by rw [← hzb]; exact val0_sok _)
  have HA := hidD (show (oa = true → valZ lA = za) by rw [← hoa, ← hza]; unfold val0; exact fun h => by rw [if_pos h])
  have HB := hidD (show (ob = true → valZ lB = zb) by rw [← hob, ← hzb]; unfold val0; exact fun h => by rw [if_pos h])
  rw [hza, hoa] at HP1
  rw [hzb, hob] at HP2
  rw [hoa, hob] at HL
  have hk1 : (0 : Int) ≤ (k : Int) := by omega
  have hk2 : (k : Int) ≤ (s.size : Int) := by omega
  have hk3 : IntKind.i64.wrap ((k : Int) + 1) = (k : Int) + 1 := by rw [IntKind.wrap_i64]; omega
  have hk4 : (0 : Int) ≤ (k : Int) + 1 := by omega
  have hk5 : (k : Int) + 1 ≤ (s.size : Int) := by omega
  clear hl hs hlA hlB hsA hsB hza hzb hoa hob hk
  have M0 := ((Mem.nil w).push .zref rfl)
  have M0 : Mem w (w.alloc (.cells #[.slice none 0 0, .bool false, .slice none 0 0, .bool false] 34)) [some (w.heap.size, .zref)] := M0
  obtain ⟨W0, hW0⟩ : ∃ W0, w.alloc (.cells #[.slice none 0 0, .bool false, .slice none 0 0, .bool false] 34) = W0 := ⟨_, rfl⟩
  have HW0 := hidD hW0
  rw [hW0] at M0
  have M1 : Hid (Mem w W0 [some (w.heap.size, .zref)]) := hidD M0
  clear M0 hW0  
  go_enter Tryz.func8, Tryz.ntmps8
  go_upto_region 1 with fail
  rw [HW0.out]
  clear HW0
  go_wp2_with fail
  go_loop [4] (fun iv => ∃ i : Nat, iv = .int .i64 i ∧ i ≤ k) (fun iv => k - (intOf iv).toNat)
  case atStart => exact ⟨0, rfl, Nat.zero_le _⟩
  case round =>
    obtain ⟨i, rfl, hi⟩ := hrel
    rcases Nat.lt_or_ge i k with hlt | hge
    · have hl1 : i < s.size := by omega
      have hb := byte_ne hl1 (HK.out ▸ hlt)
      have hd : decide ((i : Int) < (s.size : Int)) = true := decide_eq_true (by omega)
      have hwr : IntKind.i64.wrap ((i : Int) + 1) = (i : Int) + 1 := by rw [IntKind.wrap_i64]; omega
      go_wp2_with fail
      go_round
      case rel => exact ⟨i + 1, by first | rfl | simp, by omega⟩
      case measure => simp [intOf]; omega
    · have hik : i = k := by omega
      subst hik
      have hd : decide ((i : Int) < (s.size : Int)) = true := decide_eq_true (by omega)
      go_upto_region 5 with (go_at_call 20; try rw [HSA.out]; refine (HP1.out _).mono ?_; clear HP1; rintro e w2 ⟨u, rfl, hu, hb2⟩; obtain ⟨a90, l90, c90, s90, rfl⟩ := IsBig.form2 hu)
      obtain ⟨V1, hV⟩ : ∃ V, w2.alloc (.cells #[.slice a90 l90 c90, .bool s90] 32) = V := ⟨_, rfl⟩
      obtain ⟨B1, hBk⟩ : ∃ B, w2.heap.size = B := ⟨_, rfl⟩
      have MM : Mem w (w2.alloc (.cells #[.slice a90 l90 c90, .bool s90] 32)) [some (w.heap.size, .zref), some (w2.heap.size, .big (za))] := Mem.push (M1.out.below hb2) (.big (za)) hu
      rw [hV, hBk] at MM
      rw [hV]
      rw [hBk]
      have M2 : Hid (Mem w V1 [some (w.heap.size, .zref), some (B1, .big (za))]) := hidD (MM)
      clear M1
      clear MM hV hBk
      clear hu hb2
      by_cases h20 : 2000 < s.size
      · have HL2 := hidD (HLL.out h20)
        have h21 : (2000 : Int) < (s.size : Int) := by omega
        cases oa with
        | false =>
          have n2 := M2.out.zref (i := 0) rfl
          have e2a := n2.c0
          have e2b := n2.c1
          have e2c := n2.c2
          have e2d := n2.c3
          have f2a := n2.f0
          have f2b := n2.f1
          have f2c := n2.f2
          have f2d := n2.f3
          have HW := hidD (fun (V : World) => swhole_c 0 (by omega) (by omega) V)
          have hq : Below V1.heap.size V1 V1 := Below.refl _ _
          go_wp2_with (first
            | (go_at_call 45; refine (HW.out _).mono ?_; clear HW; rintro e w9 ⟨u9, rfl, hu9, hb9⟩; obtain ⟨a95, l95, c95, s95, b95, k95, d95, t95, rfl⟩ := IsRef.form hu9; have hq := Below.then hq hb9; have e2a := (n2.below hq).c0; have e2b := (n2.below hq).c1; have e2c := (n2.below hq).c2; have e2d := (n2.below hq).c3; have f2a := (n2.below hq).f0; have f2b := (n2.below hq).f1; have f2c := (n2.below hq).f2; have f2d := (n2.below hq).f3))
          have hq2 := M2.out.2.2.trans (hq.mono M2.out.2.2.size)
          have hge := M2.out.ge 0 rfl
          exact bodyPost_ret (v := .tuple #[.agg #[.slice a95 l95 c95, .bool s95, .slice b95 k95 d95, .bool t95], .bool false]) (by simp [results, Tryz.results8, go_sem, e2a, e2b, e2c, e2d]) rfl (ParseF.of (o := none) HL2.out rfl (hu9.put4 (n2.below hq) rfl rfl rfl rfl _ _ _ _) (below_put4 hq2 hge _ _ _ _))
        | true =>
          have n3 := M2.out.zref (i := 0) rfl
          have e3a := n3.c0
          have e3b := n3.c1
          have e3c := n3.c2
          have e3d := n3.c3
          have f3a := n3.f0
          have f3b := n3.f1
          have f3c := n3.f2
          have f3d := n3.f3
          have HW := hidD (fun (V : World) => swhole_c 0 (by omega) (by omega) V)
          have hq : Below V1.heap.size V1 V1 := Below.refl _ _
          go_wp2_with (first
            | (go_at_call 45; refine (HW.out _).mono ?_; clear HW; rintro e w9 ⟨u9, rfl, hu9, hb9⟩; obtain ⟨a95, l95, c95, s95, b95, k95, d95, t95, rfl⟩ := IsRef.form hu9; have hq := Below.then hq hb9; have e3a := (n3.below hq).c0; have e3b := (n3.below hq).c1; have e3c := (n3.below hq).c2; have e3d := (n3.below hq).c3; have f3a := (n3.below hq).f0; have f3b := (n3.below hq).f1; have f3c := (n3.below hq).f2; have f3d := (n3.below hq).f3))
          have hq2 := M2.out.2.2.trans (hq.mono M2.out.2.2.size)
          have hge := M2.out.ge 0 rfl
          exact bodyPost_ret (v := .tuple #[.agg #[.slice a95 l95 c95, .bool s95, .slice b95 k95 d95, .bool t95], .bool false]) (by simp [results, Tryz.results8, go_sem, e3a, e3b, e3c, e3d]) rfl (ParseF.of (o := none) HL2.out rfl (hu9.put4 (n3.below hq) rfl rfl rfl rfl _ _ _ _) (below_put4 hq2 hge _ _ _ _))
      · have HL3 := hidD (HL.out h20)
        have h21 : ¬ ((2000 : Int) < (s.size : Int)) := by omega
        clear h20 HL HLL
        cases oa with
        | false =>
          have HL2 := hidD (show parseQ (wlst s) = none by rw [HL3.out]; simp)
          have n4 := M2.out.zref (i := 0) rfl
          have e4a := n4.c0
          have e4b := n4.c1
          have e4c := n4.c2
          have e4d := n4.c3
          have f4a := n4.f0
          have f4b := n4.f1
          have f4c := n4.f2
          have f4d := n4.f3
          have HW := hidD (fun (V : World) => swhole_c 0 (by omega) (by omega) V)
          have hq : Below V1.heap.size V1 V1 := Below.refl _ _
          go_wp2_with (first
            | (go_at_call 45; refine (HW.out _).mono ?_; clear HW; rintro e w9 ⟨u9, rfl, hu9, hb9⟩; obtain ⟨a95, l95, c95, s95, b95, k95, d95, t95, rfl⟩ := IsRef.form hu9; have hq := Below.then hq hb9; have e4a := (n4.below hq).c0; have e4b := (n4.below hq).c1; have e4c := (n4.below hq).c2; have e4d := (n4.below hq).c3; have f4a := (n4.below hq).f0; have f4b := (n4.below hq).f1; have f4c := (n4.below hq).f2; have f4d := (n4.below hq).f3))
          have hq2 := M2.out.2.2.trans (hq.mono M2.out.2.2.size)
          have hge := M2.out.ge 0 rfl
          exact bodyPost_ret (v := .tuple #[.agg #[.slice a95 l95 c95, .bool s95, .slice b95 k95 d95, .bool t95], .bool false]) (by simp [results, Tryz.results8, go_sem, e4a, e4b, e4c, e4d]) rfl (ParseF.of (o := none) HL2.out rfl (hu9.put4 (n4.below hq) rfl rfl rfl rfl _ _ _ _) (below_put4 hq2 hge _ _ _ _))
        | true =>
          have hke : ((i : Int) == (s.size : Int)) = false := by rw [beq_eq_false_iff_ne]; omega
          go_upto_region 10 with (go_at_call 20; try rw [HSB.out]; refine (HP2.out _).mono ?_; clear HP2; rintro e w3 ⟨u, rfl, hu, hb3⟩; obtain ⟨a91, l91, c91, s91, rfl⟩ := IsBig.form2 hu)
          obtain ⟨V5, hV⟩ : ∃ V, w3.alloc (.cells #[.slice a91 l91 c91, .bool s91] 32) = V := ⟨_, rfl⟩
          obtain ⟨B5, hBk⟩ : ∃ B, w3.heap.size = B := ⟨_, rfl⟩
          have MM : Mem w (w3.alloc (.cells #[.slice a91 l91 c91, .bool s91] 32)) [some (w.heap.size, .zref), some (B1, .big (za)), some (w3.heap.size, .big (zb))] := Mem.push (M2.out.below hb3) (.big (zb)) hu
          rw [hV, hBk] at MM
          rw [hV]
          rw [hBk]
          have M3 : Hid (Mem w V5 [some (w.heap.size, .zref), some (B1, .big (za)), some (B5, .big (zb))]) := hidD (MM)
          clear M2
          clear MM hV hBk
          clear hu hb3
          cases ob with
          | false =>
            have HL2 := hidD (show parseQ (wlst s) = none by rw [HL3.out]; simp)
            have n6 := M3.out.zref (i := 0) rfl
            have e6a := n6.c0
            have e6b := n6.c1
            have e6c := n6.c2
            have e6d := n6.c3
            have f6a := n6.f0
            have f6b := n6.f1
            have f6c := n6.f2
            have f6d := n6.f3
            have HW := hidD (fun (V : World) => swhole_c 0 (by omega) (by omega) V)
            have hq : Below V5.heap.size V5 V5 := Below.refl _ _
            go_wp2_with (first
              | (go_at_call 45; refine (HW.out _).mono ?_; clear HW; rintro e w9 ⟨u9, rfl, hu9, hb9⟩; obtain ⟨a95, l95, c95, s95, b95, k95, d95, t95, rfl⟩ := IsRef.form hu9; have hq := Below.then hq hb9; have e6a := (n6.below hq).c0; have e6b := (n6.below hq).c1; have e6c := (n6.below hq).c2; have e6d := (n6.below hq).c3; have f6a := (n6.below hq).f0; have f6b := (n6.below hq).f1; have f6c := (n6.below hq).f2; have f6d := (n6.below hq).f3))
            have hq2 := M3.out.2.2.trans (hq.mono M3.out.2.2.size)
            have hge := M3.out.ge 0 rfl
            exact bodyPost_ret (v := .tuple #[.agg #[.slice a95 l95 c95, .bool s95, .slice b95 k95 d95, .bool t95], .bool false]) (by simp [results, Tryz.results8, go_sem, e6a, e6b, e6c, e6d]) rfl (ParseF.of (o := none) HL2.out rfl (hu9.put4 (n6.below hq) rfl rfl rfl rfl _ _ _ _) (below_put4 hq2 hge _ _ _ _))
          | true =>
            obtain ⟨a7, l7, c7, s7, n7, i7⟩ := M3.out.big (i := 1) rfl
            have e7a := n7.c0
            have e7b := n7.c1
            obtain ⟨a8, l8, c8, s8, n8, i8⟩ := M3.out.big (i := 2) rfl
            have e8a := n8.c0
            have e8b := n8.c1
            have HO := hidD (rsign_c _ zb V5 i8)
            by_cases hz : 0 < zb
            · have HZ := hidD hz
              have HL2 := hidD (show parseQ (wlst s) = some (Rat.divInt za zb) by rw [HL3.out, HA.out (by first | rfl | trivial), HB.out (by first | rfl | trivial), if_pos (by first | exact ⟨rfl, rfl, hz⟩ | exact ⟨trivial, rfl, hz⟩ | exact ⟨trivial, trivial, hz⟩)])
              rw [Int.sign_eq_one_of_pos hz] at HO
              clear hz
              have n9 := M3.out.zref (i := 0) rfl
              have e9a := n9.c0
              have e9b := n9.c1
              have e9c := n9.c2
              have e9d := n9.c3
              have f9a := n9.f0
              have f9b := n9.f1
              have f9c := n9.f2
              have f9d := n9.f3
              have HR := hidD (fun (V : World) (h : Below V5.heap.size V5 V) => smade_c _ _ za zb V (i7.below h) (i8.below h) (by have := HZ.out; omega) HZA.out HZB.out)
              go_wp2_with (first
                | (go_at_call 23; refine HO.out.mono ?_; clear HO; rintro e w4 ⟨rfl, hq⟩; have e7a := (n7.below hq).c0; have e7b := (n7.below hq).c1; have e8a := (n8.below hq).c0; have e8b := (n8.below hq).c1)
                | (go_at_call 24; refine (HR.out _ hq).mono ?_; clear HR; rintro e w5 ⟨u5, rfl, hu5, hb5⟩; obtain ⟨a92, l92, c92, s92, b92, k92, d92, t92, rfl⟩ := IsRef.form hu5; have hq := Below.then hq hb5; have e9a := (n9.below hq).c0; have e9b := (n9.below hq).c1; have e9c := (n9.below hq).c2; have e9d := (n9.below hq).c3; have f9a := (n9.below hq).f0; have f9b := (n9.below hq).f1; have f9c := (n9.below hq).f2; have f9d := (n9.below hq).f3))
              have hq2 := M3.out.2.2.trans (hq.mono M3.out.2.2.size)
              have hge := M3.out.ge 0 rfl
              exact bodyPost_ret (v := .tuple #[.agg #[.slice a92 l92 c92, .bool s92, .slice b92 k92 d92, .bool t92], .bool true]) (by simp [results, Tryz.results8, go_sem, e9a, e9b, e9c, e9d]) rfl (ParseF.of HL2.out rfl (hu5.put4 (n9.below hq) rfl rfl rfl rfl _ _ _ _) (below_put4 hq2 hge _ _ _ _))
            · have HL2 := hidD (show parseQ (wlst s) = none by rw [HL3.out, HB.out (by first | rfl | trivial), if_neg (fun h => hz h.2.2)])
              rcases Int.lt_or_eq_of_le (show zb ≤ 0 by omega) with hz1 | hz1
              · rw [Int.sign_eq_neg_one_of_neg hz1] at HO
                clear hz1 hz
                have n10 := M3.out.zref (i := 0) rfl
                have e10a := n10.c0
                have e10b := n10.c1
                have e10c := n10.c2
                have e10d := n10.c3
                have f10a := n10.f0
                have f10b := n10.f1
                have f10c := n10.f2
                have f10d := n10.f3
                have HW := hidD (fun (V : World) => swhole_c 0 (by omega) (by omega) V)
                have hq : Below V5.heap.size V5 V5 := Below.refl _ _
                go_wp2_with (first
                  | (go_at_call 23; refine HO.out.mono ?_; clear HO; rintro e w4 ⟨rfl, hb4⟩; have hq := Below.then hq hb4)
                  | (go_at_call 45; refine (HW.out _).mono ?_; clear HW; rintro e w9 ⟨u9, rfl, hu9, hb9⟩; obtain ⟨a95, l95, c95, s95, b95, k95, d95, t95, rfl⟩ := IsRef.form hu9; have hq := Below.then hq hb9; have e10a := (n10.below hq).c0; have e10b := (n10.below hq).c1; have e10c := (n10.below hq).c2; have e10d := (n10.below hq).c3; have f10a := (n10.below hq).f0; have f10b := (n10.below hq).f1; have f10c := (n10.below hq).f2; have f10d := (n10.below hq).f3))
                have hq2 := M3.out.2.2.trans (hq.mono M3.out.2.2.size)
                have hge := M3.out.ge 0 rfl
                exact bodyPost_ret (v := .tuple #[.agg #[.slice a95 l95 c95, .bool s95, .slice b95 k95 d95, .bool t95], .bool false]) (by simp [results, Tryz.results8, go_sem, e10a, e10b, e10c, e10d]) rfl (ParseF.of (o := none) HL2.out rfl (hu9.put4 (n10.below hq) rfl rfl rfl rfl _ _ _ _) (below_put4 hq2 hge _ _ _ _))
              · rw [hz1, Int.sign_zero] at HO
                clear hz
                have n11 := M3.out.zref (i := 0) rfl
                have e11a := n11.c0
                have e11b := n11.c1
                have e11c := n11.c2
                have e11d := n11.c3
                have f11a := n11.f0
                have f11b := n11.f1
                have f11c := n11.f2
                have f11d := n11.f3
                have HW := hidD (fun (V : World) => swhole_c 0 (by omega) (by omega) V)
                have hq : Below V5.heap.size V5 V5 := Below.refl _ _
                go_wp2_with (first
                  | (go_at_call 23; refine HO.out.mono ?_; clear HO; rintro e w4 ⟨rfl, hb4⟩; have hq := Below.then hq hb4)
                  | (go_at_call 45; refine (HW.out _).mono ?_; clear HW; rintro e w9 ⟨u9, rfl, hu9, hb9⟩; obtain ⟨a95, l95, c95, s95, b95, k95, d95, t95, rfl⟩ := IsRef.form hu9; have hq := Below.then hq hb9; have e11a := (n11.below hq).c0; have e11b := (n11.below hq).c1; have e11c := (n11.below hq).c2; have e11d := (n11.below hq).c3; have f11a := (n11.below hq).f0; have f11b := (n11.below hq).f1; have f11c := (n11.below hq).f2; have f11d := (n11.below hq).f3))
                have hq2 := M3.out.2.2.trans (hq.mono M3.out.2.2.size)
                have hge := M3.out.ge 0 rfl
                exact bodyPost_ret (v := .tuple #[.agg #[.slice a95 l95 c95, .bool s95, .slice b95 k95 d95, .bool t95], .bool false]) (by simp [results, Tryz.results8, go_sem, e11a, e11b, e11c, e11d]) rfl (ParseF.of (o := none) HL2.out rfl (hu9.put4 (n11.below hq) rfl rfl rfl rfl _ _ _ _) (below_put4 hq2 hge _ _ _ _))

theorem sparse_c (s : ByteArray) (hs : s.size ≤ 140737488351232) (w : World) : Calls Tryz.prog 8 #[.string s] w (ParseF (wlst s) w) := by
  rcases slash_index (wlst s) with ⟨h1, _⟩ | ⟨h1, _⟩
  · exact sparseC s hs h1 w
  · exact sparseB s hs h1 w
end Go.Proofs.YtcahodpphikgnaaGreatDoor
namespace Go.Proofs.YtcahodpphikgnaaGreatDoor
open Go.RowKit Go.Shelf

attribute [local go_sem] Oper.semAt_some

set_option maxRecDepth 100000 in
set_option maxHeartbeats 1000000 in
theorem num_c (va : Value) (q : Rat) (w : World) (ha : IsRat w va q) :
    Calls Tryz.prog 9 #[va] w fun e w' => ∃ u, e = .returned u ∧ IsInt w' u q.num ∧ Below w.heap.size w w' := by
  obtain ⟨s900, a900, l900, c900, t900, b900, k900, d900, rfl⟩ := IsRat.form ha
  have M0 := (((Mem.nil w).push (.rat (q)) ha).push (.int 0) (int0 _))
  simp only [World.size_alloc] at M0
  have M0 : Mem w ((w.alloc (.cells #[.bool s900, .slice a900 l900 c900, .bool t900, .slice b900 k900 d900] 27)).alloc (.cells #[.bool false, .slice none 0 0] 25)) [some (w.heap.size, .rat (q)), some (w.heap.size + 1, .int (0))] := M0
  obtain ⟨W0, hW0⟩ : ∃ W0, (w.alloc (.cells #[.bool s900, .slice a900 l900 c900, .bool t900, .slice b900 k900 d900] 27)).alloc (.cells #[.bool false, .slice none 0 0] 25) = W0 := ⟨_, rfl⟩
  have HW0 := hidD hW0
  rw [hW0] at M0
  have M1 : Hid (Mem w W0 [some (w.heap.size, .rat (q)), some (w.heap.size + 1, .int (0))]) := hidD M0
  clear M0 hW0 ha 
  go_enter Tryz.func9, Tryz.ntmps9
  go_upto_region 1 with fail
  rw [HW0.out]
  clear HW0
  obtain ⟨s1, a1, l1, c1, t1, b1, k1, d1, n1, r1, i1, j1⟩ := M1.out.rat (i := 0) rfl
  have e1a := n1.c0
  have e1b := n1.c1
  have e1c := n1.c2
  have e1d := n1.c3
  obtain ⟨s2, a2, l2, c2, n2, i2⟩ := M1.out.int (i := 1) rfl
  have e2a := n2.c0
  have e2b := n2.c1
  have f2a := n2.f0
  have f2b := n2.f1
  have hB := M1.out.2.2
  have hge := M1.out.ge 1 rfl
  go_wp2_with fail
  exact bodyPost_ret (v := .agg #[.bool s1, .slice a1 l1 c1]) (by simp [results, Tryz.results9, go_sem, e2a, e2b]) rfl ⟨_, rfl, i1.box n2 rfl rfl, (hB.setCell (p := ⟨_, 0, none⟩) hge _).setCell (p := ⟨_, 1, none⟩) hge _⟩

set_option maxRecDepth 100000 in
set_option maxHeartbeats 1000000 in
theorem given_c (s : ByteArray) (w : World) :
    Calls Tryz.prog 26 #[.string s] w fun e w' => ∃ u, e = .returned u ∧ IsRat w' u (valQ (wlst s)) ∧ Below w.heap.size w w' := by
  have HC := hidD (fun (V : World) => qparse_c s V)
  obtain ⟨q, hq⟩ : ∃ q, valQ (wlst s) = q := ⟨_, rfl⟩
  obtain ⟨o, ho⟩ : ∃ o, (parseQ (wlst s)).isSome = o := ⟨_, rfl⟩
  unfold ParseR at HC
  rw [hq, ho] at HC
  rw [hq]
  clear hq ho
  have M0 := ((Mem.nil w).push (.rat 0) (rat0 _))
  have M0 : Mem w (w.alloc (.cells #[.bool false, .slice none 0 0, .bool false, .slice none 0 0] 27)) [some (w.heap.size, .rat (0))] := M0
  obtain ⟨W0, hW0⟩ : ∃ W0, w.alloc (.cells #[.bool false, .slice none 0 0, .bool false, .slice none 0 0] 27) = W0 := ⟨_, rfl⟩
  have HW0 := hidD hW0
  rw [hW0] at M0
  have M1 : Hid (Mem w W0 [some (w.heap.size, .rat (0))]) := hidD M0
  clear M0 hW0  
  go_enter Tryz.func26, Tryz.ntmps26
  go_upto_region 1 with fail
  rw [HW0.out]
  clear HW0
  go_upto_region 2 with (go_at_call 7; refine (HC.out _).mono ?_; clear HC; rintro e w1 ⟨u, rfl, hu, hb⟩; obtain ⟨s90, a90, l90, c90, t90, b90, k90, d90, rfl⟩ := IsRat.form hu)
  obtain ⟨V1, hV⟩ : ∃ V, w1.alloc (.cells #[.bool s90, .slice a90 l90 c90, .bool t90, .slice b90 k90 d90] 27) = V := ⟨_, rfl⟩
  obtain ⟨B1, hBk⟩ : ∃ B, w1.heap.size = B := ⟨_, rfl⟩
  have MM : Mem w (w1.alloc (.cells #[.bool s90, .slice a90 l90 c90, .bool t90, .slice b90 k90 d90] 27)) [some (w.heap.size, .rat (0)), some (w1.heap.size, .rat (q))] := Mem.push (M1.out.below hb) (.rat (q)) hu
  rw [hV, hBk] at MM
  rw [hV]
  rw [hBk]
  have M2 : Hid (Mem w V1 [some (w.heap.size, .rat (0)), some (B1, .rat (q))]) := hidD (MM)
  clear M1
  clear MM hV hBk
  clear hu hb
  obtain ⟨s2, a2, l2, c2, t2, b2, k2, d2, n2, r2, i2, j2⟩ := M2.out.rat (i := 1) rfl
  have e2a := n2.c0
  have e2b := n2.c1
  have e2c := n2.c2
  have e2d := n2.c3
  obtain ⟨s3, a3, l3, c3, t3, b3, k3, d3, n3, r3, i3, j3⟩ := M2.out.rat (i := 0) rfl
  have e3a := n3.c0
  have e3b := n3.c1
  have e3c := n3.c2
  have e3d := n3.c3
  have f3a := n3.f0
  have f3b := n3.f1
  have f3c := n3.f2
  have f3d := n3.f3
  have hB := M2.out.2.2
  have hge := M2.out.ge 0 rfl
  go_wp2_with fail
  exact bodyPost_ret (v := .agg #[.bool s2, .slice a2 l2 c2, .bool t2, .slice b2 k2 d2]) (by simp [results, Tryz.results26, go_sem, e3a, e3b, e3c, e3d]) rfl ⟨_, rfl, r2.put4 n3 rfl rfl rfl rfl _ _ _ _, below_put4 hB hge _ _ _ _⟩

set_option maxRecDepth 100000 in
set_option maxHeartbeats 1000000 in
theorem read_c (s : ByteArray) (hs : s.size ≤ 140737488351232) (w : World) :
    Calls Tryz.prog 25 #[.string s] w fun e w' => ∃ u, e = .returned u ∧ IsRef w' u (valQ (wlst s)) ∧ Below w.heap.size w w' := by
  have HC := hidD (fun (V : World) => sparse_c s hs V)
  obtain ⟨q, hq⟩ : ∃ q, valQ (wlst s) = q := ⟨_, rfl⟩
  obtain ⟨o, ho⟩ : ∃ o, (parseQ (wlst s)).isSome = o := ⟨_, rfl⟩
  unfold ParseF at HC
  rw [hq, ho] at HC
  rw [hq]
  clear hq ho hs
  have M0 := ((Mem.nil w).push .zref rfl)
  have M0 : Mem w (w.alloc (.cells #[.slice none 0 0, .bool false, .slice none 0 0, .bool false] 34)) [some (w.heap.size, .zref)] := M0
  obtain ⟨W0, hW0⟩ : ∃ W0, w.alloc (.cells #[.slice none 0 0, .bool false, .slice none 0 0, .bool false] 34) = W0 := ⟨_, rfl⟩
  have HW0 := hidD hW0
  rw [hW0] at M0
  have M1 : Hid (Mem w W0 [some (w.heap.size, .zref)]) := hidD M0
  clear M0 hW0  
  go_enter Tryz.func25, Tryz.ntmps25
  go_upto_region 1 with fail
  rw [HW0.out]
  clear HW0
  go_upto_region 2 with (go_at_call 8; refine (HC.out _).mono ?_; clear HC; rintro e w1 ⟨u, rfl, hu, hb⟩; obtain ⟨a90, l90, c90, s90, b90, k90, d90, t90, rfl⟩ := IsRef.form hu)
  obtain ⟨V1, hV⟩ : ∃ V, w1.alloc (.cells #[.slice a90 l90 c90, .bool s90, .slice b90 k90 d90, .bool t90] 34) = V := ⟨_, rfl⟩
  obtain ⟨B1, hBk⟩ : ∃ B, w1.heap.size = B := ⟨_, rfl⟩
  have MM : Mem w (w1.alloc (.cells #[.slice a90 l90 c90, .bool s90, .slice b90 k90 d90, .bool t90] 34)) [some (w.heap.size, .zref), some (w1.heap.size, .ref (q))] := Mem.push (M1.out.below hb) (.ref (q)) hu
  rw [hV, hBk] at MM
  rw [hV]
  rw [hBk]
  have M2 : Hid (Mem w V1 [some (w.heap.size, .zref), some (B1, .ref (q))]) := hidD (MM)
  clear M1
  clear MM hV hBk
  clear hu hb
  obtain ⟨a2, l2, c2, s2, b2, k2, d2, t2, n2, r2, i2, j2⟩ := M2.out.ref (i := 1) rfl
  have e2a := n2.c0
  have e2b := n2.c1
  have e2c := n2.c2
  have e2d := n2.c3
  have n3 := M2.out.zref (i := 0) rfl
  have e3a := n3.c0
  have e3b := n3.c1
  have e3c := n3.c2
  have e3d := n3.c3
  have f3a := n3.f0
  have f3b := n3.f1
  have f3c := n3.f2
  have f3d := n3.f3
  have hB := M2.out.2.2
  have hge := M2.out.ge 0 rfl
  go_wp2_with fail
  exact bodyPost_ret (v := .agg #[.slice a2 l2 c2, .bool s2, .slice b2 k2 d2, .bool t2]) (by simp [results, Tryz.results25, go_sem, e3a, e3b, e3c, e3d]) rfl ⟨_, rfl, r2.put4 n3 rfl rfl rfl rfl _ _ _ _, below_put4 hB hge _ _ _ _⟩

/-- The fractions of alive. -/
def aliveP : Rat := ⟨3, 2, by decide, by decide⟩
def aliveQ : Rat := ⟨9, 4, by decide, by decide⟩

theorem aliveP_parse : parseQ [54, 47, 52] = some aliveP := by
  have h1 : slashAt [54, 47, 52] = 1 := by decide
  have h2 : good [54] = true := by decide
  have h3 : good [52] = true := by decide
  have h4 : valZ [54] = 6 := by decide
  have h5 : valZ [52] = 4 := by decide
  rw [pq_slash (by decide) (by rw [h1]; decide), h1]
  show (if good [54] = true ∧ good [52] = true ∧ 0 < valZ [52] then some (Rat.divInt (valZ [54]) (valZ [52])) else none) = _
  rw [if_pos ⟨h2, h3, by rw [h5]; decide⟩, h4, h5]
  exact congrArg some (by decide)
theorem aliveP_mul : aliveP * aliveP = aliveQ := by
  rw [← mul_eq]
  decide
theorem decZ_of {l : List UInt8} {z : Int} (h : good l = true) (hv : valZ l = z) : decZ z = l := by rw [← hv]; exact good_dec h
theorem aliveP_text : textQ aliveP = [51, 47, 50] := by
  unfold textQ
  rw [if_neg (by decide), show decZ aliveP.num = [51] from decZ_of (by decide) (by decide), show decZ (aliveP.den : Int) = [50] from decZ_of (by decide) (by decide)]
  rfl
theorem aliveQ_text : textQ aliveQ = [57, 47, 52] := by
  unfold textQ
  rw [if_neg (by decide), show decZ aliveQ.num = [57] from decZ_of (by decide) (by decide), show decZ (aliveQ.den : Int) = [52] from decZ_of (by decide) (by decide)]
  rfl
theorem aliveQ_cmp : cmpQ aliveQ aliveP = 1 := by decide
theorem aliveP_sq : Sq aliveP := Sq.of (k := 1) ⟨by show Sm 1 3; unfold Sm B64; decide, by show Sm 1 2; unfold Sm B64; decide⟩ (by omega)
theorem aliveQ_sq : Sq aliveQ := Sq.of (k := 1) ⟨by show Sm 1 9; unfold Sm B64; decide, by show Sm 1 4; unfold Sm B64; decide⟩ (by omega)

set_option maxRecDepth 100000 in
set_option maxHeartbeats 2000000 in
theorem kalive_c (w : World) (htab : Lib.TabIs Tryz.prog w "internal/strconv.uint64pow10" .u64 Lib.pow10Tab) :
    Calls Tryz.prog 19 #[] w fun e w' => e = .returned (.bool true) ∧ Below w.heap.size w w' := by
  have HT := hidD htab
  have HC := hidD (fun (V : World) => show Calls Tryz.prog 7 #[.string ⟨#[54, 47, 52]⟩] V fun e w' => ∃ u, e = .returned (.tuple #[u, .bool true]) ∧ IsRat w' u aliveP ∧ Below V.heap.size V w' by
    have h := qparse_c ⟨#[54, 47, 52]⟩ V
    unfold ParseR valQ at h
    rw [show wlst ⟨#[54, 47, 52]⟩ = [54, 47, 52] from rfl, aliveP_parse] at h
    exact h)
  clear htab
  have M0 : Hid (Mem w w []) := hidD (Mem.nil w)
  go_enter Tryz.func19, Tryz.ntmps19
  go_upto_region 2 with (go_at_call 7; refine (HC.out _).mono ?_; clear HC; rintro e w1 ⟨u, rfl, hu, hb⟩; obtain ⟨s90, a90, l90, c90, t90, b90, k90, d90, rfl⟩ := IsRat.form hu)
  obtain ⟨V1, hV⟩ : ∃ V, w1.alloc (.cells #[.bool s90, .slice a90 l90 c90, .bool t90, .slice b90 k90 d90] 27) = V := ⟨_, rfl⟩
  obtain ⟨B1, hBk⟩ : ∃ B, w1.heap.size = B := ⟨_, rfl⟩
  have MM : Mem w (w1.alloc (.cells #[.bool s90, .slice a90 l90 c90, .bool t90, .slice b90 k90 d90] 27)) [some (w1.heap.size, .rat (aliveP))] := Mem.push (M0.out.below hb) (.rat (aliveP)) hu
  rw [hV, hBk] at MM
  rw [hV]
  rw [hBk]
  have M1 : Hid (Mem w V1 [some (B1, .rat (aliveP))]) := hidD (MM)
  clear M0
  clear MM hV hBk
  clear hu hb
  obtain ⟨s2, a2, l2, c2, t2, b2, k2, d2, n2, r2, i2, j2⟩ := M1.out.rat (i := 0) rfl
  have e2a := n2.c0
  have e2b := n2.c1
  have e2c := n2.c2
  have e2d := n2.c3
  have H1 := hidD (qtimes_c _ _ aliveP aliveP V1 r2 r2 aliveP_sq aliveP_sq)
  rw [aliveP_mul] at H1
  go_upto_region 3 with (go_at_call 29; refine H1.out.mono ?_; clear H1; rintro e w2 ⟨u, rfl, hu, hb⟩; obtain ⟨s91, a91, l91, c91, t91, b91, k91, d91, rfl⟩ := IsRat.form hu)
  obtain ⟨V3, hV⟩ : ∃ V, w2.alloc (.cells #[.bool s91, .slice a91 l91 c91, .bool t91, .slice b91 k91 d91] 27) = V := ⟨_, rfl⟩
  obtain ⟨B3, hBk⟩ : ∃ B, w2.heap.size = B := ⟨_, rfl⟩
  have MM : Mem w (w2.alloc (.cells #[.bool s91, .slice a91 l91 c91, .bool t91, .slice b91 k91 d91] 27)) [some (B1, .rat (aliveP)), some (w2.heap.size, .rat (aliveQ))] := Mem.push (M1.out.below hb) (.rat (aliveQ)) hu
  rw [hV, hBk] at MM
  rw [hV]
  rw [hBk]
  have M2 : Hid (Mem w V3 [some (B1, .rat (aliveP)), some (B3, .rat (aliveQ))]) := hidD (MM)
  clear M1
  clear MM hV hBk
  clear n2 e2a e2b e2c e2d i2 r2 j2 hu hb
  obtain ⟨s4, a4, l4, c4, t4, b4, k4, d4, n4, r4, i4, j4⟩ := M2.out.rat (i := 0) rfl
  have e4a := n4.c0
  have e4b := n4.c1
  have e4c := n4.c2
  have e4d := n4.c3
  obtain ⟨s5, a5, l5, c5, t5, b5, k5, d5, n5, r5, i5, j5⟩ := M2.out.rat (i := 1) rfl
  have e5a := n5.c0
  have e5b := n5.c1
  have e5c := n5.c2
  have e5d := n5.c3
  have H2 := hidD (fun (V : World) (h : Below V3.heap.size V3 V) => qtext_c _ aliveP V (r4.below h) aliveP_sq (tab_below HT.out (M2.out.2.2.trans (h.mono M2.out.2.2.size))))
  rw [aliveP_text] at H2
  have H3 := hidD (fun (V : World) (h : Below V3.heap.size V3 V) => qtext_c _ aliveQ V (r5.below h) aliveQ_sq (tab_below HT.out (M2.out.2.2.trans (h.mono M2.out.2.2.size))))
  rw [aliveQ_text] at H3
  have H4 := hidD (fun (V : World) (h : Below V3.heap.size V3 V) => qorder_c _ _ aliveQ aliveP V (r5.below h) (r4.below h) aliveQ_sq aliveP_sq)
  rw [aliveQ_cmp] at H4
  have hq : Below V3.heap.size V3 V3 := Below.refl _ _
  go_wp2_with (first
    | (go_at_call 11; refine (H2.out _ hq).mono ?_; clear H2; rintro e w3 ⟨rfl, hb3⟩; have hq := Below.then hq hb3; have e4a := (n4.below hq).c0; have e4b := (n4.below hq).c1; have e4c := (n4.below hq).c2; have e4d := (n4.below hq).c3; have e5a := (n5.below hq).c0; have e5b := (n5.below hq).c1; have e5c := (n5.below hq).c2; have e5d := (n5.below hq).c3)
    | (go_at_call 11; refine (H3.out _ hq).mono ?_; clear H3; rintro e w4 ⟨rfl, hb4⟩; have hq := Below.then hq hb4; have e4a := (n4.below hq).c0; have e4b := (n4.below hq).c1; have e4c := (n4.below hq).c2; have e4d := (n4.below hq).c3; have e5a := (n5.below hq).c0; have e5b := (n5.below hq).c1; have e5c := (n5.below hq).c2; have e5d := (n5.below hq).c3)
    | (go_at_call 34; refine (H4.out _ hq).mono ?_; clear H4; rintro e w5 ⟨rfl, hb5⟩; have hq := Below.then hq hb5))
  go_ret
  exact ⟨rfl, M2.out.2.2.trans (hq.mono M2.out.2.2.size)⟩
end Go.Proofs.YtcahodpphikgnaaGreatDoor
namespace Go.Proofs.YtcahodpphikgnaaGreatDoor
open Go.RowKit Go.Shelf

attribute [local go_sem] Oper.semAt_some

/-- A fraction that can be worked with twice. -/
@[irreducible] def Sq1 (q : Rat) : Prop := SmQ 100000 q
theorem Sq1.of {k : Nat} {q : Rat} (h : SmQ k q) (hk : k ≤ 100000) : Sq1 q := by unfold Sq1; exact h.mono hk
theorem Sq1.sm {q : Rat} (h : Sq1 q) : SmQ 100000 q := by unfold Sq1 at h; exact h
theorem Sq1.sq {q : Rat} (h : Sq1 q) : Sq q := Sq.of h.sm (by omega)

theorem floor_divInt {n d : Int} (hd : 0 < d) : (Rat.divInt n d).num / ((Rat.divInt n d).den : Int) = n / d := by
  have h0 : d ≠ 0 := by omega
  have hg := gcd_posZ' (x := n) h0
  rw [reduced_num h0, reduced_den h0, if_neg (by omega)]
  obtain ⟨a, ha⟩ : ((Int.gcd n d : Nat) : Int) ∣ n := Int.gcd_dvd_left ..
  obtain ⟨b, hb⟩ : ((Int.gcd n d : Nat) : Int) ∣ d := Int.gcd_dvd_right ..
  generalize ((Int.gcd n d : Nat) : Int) = gg at *
  rw [ha, hb, Int.mul_ediv_cancel_left _ (by omega), Int.mul_ediv_cancel_left _ (by omega), Int.mul_ediv_mul_of_pos _ _ hg]

theorem floor_ten (q : Rat) (t : Int) : (q * (t : Rat)).num / ((q * (t : Rat)).den : Int) = q.num * t / (q.den : Int) := by
  have h : q * (t : Rat) = Rat.divInt (q.num * t) (q.den : Int) := by
    rw [← mul_eq]
    show Rat.divInt (q.num * t) ((q.den : Int) * 1) = _
    rw [Int.mul_one]
  rw [h, floor_divInt (by have := q.den_pos; omega)]

set_option maxRecDepth 100000 in
set_option maxHeartbeats 1000000 in
theorem rabs_c (va : Value) (x : Int) (w : World) (ha : IsBig w va x) :
    Calls Tryz.prog 91 #[va] w fun e w' => ∃ u, e = .returned u ∧ IsBig w' u (x.natAbs : Int) ∧ Below w.heap.size w w' := by
  obtain ⟨a900, l900, c900, s900, rfl⟩ := IsBig.form2 ha
  have M0 := (((Mem.nil w).push (.big (x)) ha).push (.big 0) (big0 _))
  simp only [World.size_alloc] at M0
  have M0 : Mem w ((w.alloc (.cells #[.slice a900 l900 c900, .bool s900] 32)).alloc (.cells #[.slice none 0 0, .bool false] 32)) [some (w.heap.size, .big (x)), some (w.heap.size + 1, .big (0))] := M0
  obtain ⟨W0, hW0⟩ : ∃ W0, (w.alloc (.cells #[.slice a900 l900 c900, .bool s900] 32)).alloc (.cells #[.slice none 0 0, .bool false] 32) = W0 := ⟨_, rfl⟩
  have HW0 := hidD hW0
  rw [hW0] at M0
  have M1 : Hid (Mem w W0 [some (w.heap.size, .big (x)), some (w.heap.size + 1, .big (0))]) := hidD M0
  clear M0 hW0 ha 
  go_enter Tryz.func91, Tryz.ntmps91
  go_upto_region 1 with fail
  rw [HW0.out]
  clear HW0
  obtain ⟨a1, l1, c1, s1, n1, i1⟩ := M1.out.big (i := 0) rfl
  have e1a := n1.c0
  have e1b := n1.c1
  obtain ⟨a2, l2, c2, s2, n2, i2⟩ := M1.out.big (i := 1) rfl
  have e2a := n2.c0
  have e2b := n2.c1
  have f2a := n2.f0
  have f2b := n2.f1
  have hI : IsBig W0 (.agg #[.slice a1 l1 c1, .bool false]) (x.natAbs : Int) := by
    obtain ⟨a, l, c, e, hr⟩ := i1
    simp only [Value.agg.injEq, Array.mk.injEq, List.cons.injEq, Value.slice.injEq, Value.bool.injEq, and_true] at e
    obtain ⟨⟨e1, e2, e3⟩, _⟩ := e
    exact ⟨a, l, c, by rw [decide_eq_false (by omega), e1, e2, e3], by rw [Int.natAbs_natCast]; exact hr⟩
  go_wp2_with fail
  have hq2 := M1.out.2.2
  have hge := M1.out.ge 1 rfl
  exact bodyPost_ret (v := .agg #[.slice a1 l1 c1, .bool false]) (by simp [results, Tryz.results91, go_sem, e2a, e2b]) rfl ⟨_, rfl, hI.box n2 rfl rfl, (hq2.setCell (p := ⟨_, 0, none⟩) hge _).setCell (p := ⟨_, 1, none⟩) hge _⟩

/-- The text of a value. -/
def txtOf : Value → ByteArray | .string s => s | _ => ⟨#[]⟩

theorem pad_loop {k j : Nat} {d : List UInt8} (h : j = 0 ∨ j + d.length ≤ k + 1) (hk : k < j + d.length) : List.replicate j 48 ++ d = padL k d := by
  unfold padL
  rw [show k + 1 - d.length = j by omega]

theorem points_text2 (z : Int) (k : Nat) (P E1 E2 : ByteArray) (m : Nat) (hP : P = ⟨(padL k (decN z.natAbs)).toArray⟩) (hm : m = P.size - k) (h1 : P.extract 0 m = E1) (h2 : P.extract m P.size = E2) :
    (⟨(pointsL z k).toArray⟩ : ByteArray) = if z < 0 then ⟨#[45]⟩ ++ (if 0 < k then E1 ++ ⟨#[46]⟩ ++ E2 else P) else (if 0 < k then E1 ++ ⟨#[46]⟩ ++ E2 else P) := by
  rw [points_text z k P E1 E2 m hP hm h1 h2]
  have hk0 : ¬ 0 < k → E1 = P := by
    intro h
    rw [← h1, hm, show P.size - k = P.size by omega]
    exact ByteArray.extract_zero_size
  by_cases hz : z < 0 <;> by_cases hk : 0 < k
  · simp only [hz, hk, if_true]
    rw [ByteArray.append_assoc, ByteArray.append_assoc]
  · simp only [hz, hk, if_true, if_false]
    rw [hk0 hk]
  · simp only [hz, hk, if_true, if_false]
    rw [ByteArray.append_assoc]
  · simp only [hz, hk, if_false]
    rw [hk0 hk]

set_option maxRecDepth 100000 in
set_option maxHeartbeats 4000000 in
theorem spoints_c (va : Value) (z : Int) (k : Nat) (hk100 : k ≤ 100) (w : World) (ha : IsBig w va z) (hsz : Sok z) :
    Calls Tryz.prog 54 #[va, .int .i64 (k : Int)] w fun e w' => e = .returned (.string ⟨(pointsL z k).toArray⟩) ∧ Below w.heap.size w w' := by
  have HZS := hidD hsz
  obtain ⟨D0, hD0⟩ : ∃ S : ByteArray, ⟨(decN z.natAbs).toArray⟩ = S := ⟨_, rfl⟩
  have HTX := hidD (fun (V : World) (u : Value) (hu : IsBig V u (z.natAbs : Int)) => show Calls Tryz.prog 14 #[u] V fun e w' => e = .returned (.string D0) ∧ Below V.heap.size V w' by
    have h := text_c u (z.natAbs : Int) V hu (by have := (HZS.out.le (z := (z.natAbs : Int)) (by omega)).size; omega)
    rw [show decZ (z.natAbs : Int) = decN z.natAbs by unfold decZ; rw [if_neg (by omega), Int.natAbs_natCast], hD0] at h
    exact h)
  obtain ⟨d, hd⟩ : ∃ d, decN z.natAbs = d := ⟨_, rfl⟩
  have hd0 : D0.size = d.length := by rw [← hD0, hd]; show d.toArray.size = _; rw [List.size_toArray]
  have hdl := decN_len z.natAbs
  have hw := HZS.out.words
  have zD : d.length ≤ 1000000000 := by rw [← hd]; omega
  have HD0 := hidD (show D0 = ⟨(List.replicate 0 48 ++ d).toArray⟩ by rw [← hD0, hd]; rfl)
  have HDS := hidD hd0
  obtain ⟨P, hP⟩ : ∃ S : ByteArray, S = ⟨(padL k (decN z.natAbs)).toArray⟩ := ⟨_, rfl⟩
  obtain ⟨m, hm⟩ : ∃ m, P.size - k = m := ⟨_, rfl⟩
  obtain ⟨E1, hE1⟩ : ∃ S, P.extract 0 m = S := ⟨_, rfl⟩
  obtain ⟨E2, hE2⟩ : ∃ S, P.extract m P.size = S := ⟨_, rfl⟩
  have HPT := hidD (points_text2 z k P E1 E2 m hP hm.symm hE1 hE2)
  rw [hd] at hP
  have HP := hidD hP
  have HM := hidD hm
  have zE1 : E1.size ≤ P.size := by rw [← hE1, ByteArray.size_extract]; omega
  have zE2 : E2.size ≤ P.size := by rw [← hE2, ByteArray.size_extract]; omega
  have HE1 := hidD hE1
  have HE2 := hidD hE2
  obtain ⟨F, hF⟩ : ∃ F : ByteArray, ⟨(pointsL z k).toArray⟩ = F := ⟨_, rfl⟩
  rw [hF] at HPT
  rw [hF]
  clear hD0 hd hd0 hdl hw hP hm hE1 hE2 hsz hF
  obtain ⟨a900, l900, c900, s900, rfl⟩ := IsBig.form2 ha
  have M0 := ((Mem.nil w).push (.big (z)) ha)
  have M0 : Mem w (w.alloc (.cells #[.slice a900 l900 c900, .bool s900] 32)) [some (w.heap.size, .big (z))] := M0
  obtain ⟨W0, hW0⟩ : ∃ W0, w.alloc (.cells #[.slice a900 l900 c900, .bool s900] 32) = W0 := ⟨_, rfl⟩
  have HW0 := hidD hW0
  rw [hW0] at M0
  have M1 : Hid (Mem w W0 [some (w.heap.size, .big (z))]) := hidD M0
  clear M0 hW0 ha 
  go_enter Tryz.func54, Tryz.ntmps54
  go_upto_region 1 with fail
  rw [HW0.out]
  clear HW0
  obtain ⟨a1, l1, c1, s1, n1, i1⟩ := M1.out.big (i := 0) rfl
  have e1a := n1.c0
  have e1b := n1.c1
  have HA := hidD (rabs_c _ z W0 i1)
  have HSG := hidD (IsBig.sign i1)
  go_wp2_with (first
    | (go_at_call 91; refine HA.out.mono ?_; clear HA; rintro e w1 ⟨u1, rfl, hu1, hb1⟩)
    | (go_at_call 14; refine (HTX.out _ _ hu1).mono ?_; clear HTX; rintro e w2 ⟨rfl, hb2⟩; have hq := hb1.trans (hb2.mono hb1.size); have e1a := (n1.below hq).c0; have e1b := (n1.below hq).c1))
  have HQ := hidD (show Below w.heap.size w w2 from M1.out.2.2.trans (hq.mono M1.out.2.2.size))
  clear hu1 hb1 hb2 hq
  go_loop [5] (fun v => ∃ (S : ByteArray) (j : Nat), v = .string S ∧ S.size = j + d.length ∧ Hid (S = ⟨(List.replicate j 48 ++ d).toArray⟩) ∧ (j = 0 ∨ j + d.length ≤ k + 1)) (fun v => k + 1 - (txtOf v).size)
  case atStart => exact ⟨D0, 0, rfl, by rw [HDS.out]; omega, HD0, Or.inl rfl⟩
  case round =>
    obtain ⟨S, j, rfl, hS, HS, hj⟩ := hrel
    have HSS := hidD hS
    rcases Nat.lt_or_ge k S.size with hlt | hge
    · have hSP : S = P := by rw [HS.out, HP.out, pad_loop hj (by omega)]
      subst hSP
      have zP : S.size ≤ 1000000200 := by omega
      clear hS hj
      have c0 : decide ((S.size : Int) ≤ (k : Int)) = false := decide_eq_false (by omega)
      have c0b : ¬ ((S.size : Int) ≤ (k : Int)) := by omega
      have c3 : IntKind.i64.wrap ((S.size : Int) - (k : Int)) = (m : Int) := by have := HM.out; rw [IntKind.wrap_i64]; omega
      have c4 : (0 : Int) ≤ (m : Int) := by omega
      have c5 : (m : Int) ≤ (S.size : Int) := by have := HM.out; omega
      have hE1 := HE1.out
      have hE2 := HE2.out
      have y1 : ¬ 9223372036854775807 < E1.size + 1 := by omega
      have y2 : ¬ 9223372036854775807 < E1.size + 1 + E2.size := by omega
      by_cases hz : z < 0
      · have hs := HSG.out
        rw [decide_eq_true hz] at hs
        subst hs
        have HF := hidD HPT.out
        rw [if_pos hz] at HF
        clear hz
        rcases Nat.eq_zero_or_pos k with hk0 | hk0
        · have hk1 : ¬ (0 : Int) < (k : Int) := by omega
          rw [if_neg (by omega)] at HF
          have HKK := hidD hk0
          clear hk0
          go_wp2_with fail
          go_ret
          exact ⟨by rw [HF.out]; rfl, HQ.out⟩
        · have hk1 : (0 : Int) < (k : Int) := by omega
          rw [if_pos hk0] at HF
          have HKK := hidD hk0
          clear hk0
          go_upto_region 5 with fail
          go_quiet (fail)
          go_wp2_with fail
          go_ret
          exact ⟨by rw [HF.out]; rfl, HQ.out.trans ⟨rfl, rfl, rfl, Nat.le_refl _, fun _ _ => rfl⟩⟩
      · have hs := HSG.out
        rw [decide_eq_false hz] at hs
        subst hs
        have HF := hidD HPT.out
        rw [if_neg hz] at HF
        clear hz
        rcases Nat.eq_zero_or_pos k with hk0 | hk0
        · have hk1 : ¬ (0 : Int) < (k : Int) := by omega
          rw [if_neg (by omega)] at HF
          have HKK := hidD hk0
          clear hk0
          go_wp2_with fail
          go_ret
          exact ⟨by rw [HF.out]; rfl, HQ.out⟩
        · have hk1 : (0 : Int) < (k : Int) := by omega
          rw [if_pos hk0] at HF
          have HKK := hidD hk0
          clear hk0
          go_upto_region 5 with fail
          go_quiet (fail)
          go_wp2_with fail
          go_ret
          exact ⟨by rw [HF.out]; rfl, HQ.out.trans ⟨rfl, rfl, rfl, Nat.le_refl _, fun _ _ => rfl⟩⟩
    · have c0 : decide ((S.size : Int) ≤ (k : Int)) = true := decide_eq_true (by omega)
      have c0b : ((S.size : Int) ≤ (k : Int)) := by omega
      clear hS
      go_wp2_with fail
      go_round
      case rel => exact ⟨_, j + 1, rfl, by have := HSS.out; rw [ba_cons_size]; omega, by show _ = _; rw [HS.out, ba_cons]; rfl, by have := HSS.out; omega⟩
      case measure => show k + 1 - ((⟨#[48]⟩ : ByteArray) ++ S).size < k + 1 - S.size; rw [ba_cons_size]; omega

set_option maxRecDepth 100000 in
set_option maxHeartbeats 4000000 in
theorem sdigits_c (va : Value) (q : Rat) (n : Int) (k : Nat) (w : World) (ha : IsRef w va q) (hsq : Sq1 q) (hk : max 0 (min n 100) = (k : Int)) :
    Calls Tryz.prog 17 #[va, .int .i64 n] w fun e w' => e = .returned (.string ⟨(pointsL (q.num * 10 ^ k / (q.den : Int)) k).toArray⟩) ∧ Below w.heap.size w w' := by
  have hk100 : k ≤ 100 := by omega
  have HK := hidD hk
  have hmx : Tryz.prog.follows .mixedOrders = true := by kernel_rfl
  obtain ⟨tk, htk⟩ : ∃ t : Int, 10 ^ k = t := ⟨_, rfl⟩
  have HTK := hidD htk
  have HSK := hidD (show SmQ 101 (tk : Rat) by rw [← htk]; exact ⟨(ten_sm1 k).mono (by omega), Sm.one _ (by omega)⟩)
  have HT1 := hidD (Sq.of HSK.out (by omega))
  have HT2 := hidD (show Sq (q * (tk : Rat)) from Sq.of (hsq.sm.mul (HSK.out.mono (by omega))) (by omega))
  rw [htk]
  obtain ⟨z, hz⟩ : ∃ z, q.num * tk / (q.den : Int) = z := ⟨_, rfl⟩
  have HZ := hidD hz
  rw [hz]
  have HZS := hidD (show Sok z by rw [← hz, ← floor_ten]; exact HT2.out.num.div)
  have HF := hidD (show (q * (tk : Rat)).num / ((q * (tk : Rat)).den : Int) = z by rw [floor_ten]; exact hz)
  obtain ⟨F, hF⟩ : ∃ F : ByteArray, ⟨(pointsL z k).toArray⟩ = F := ⟨_, rfl⟩
  have HFF := hidD hF
  rw [hF]
  have HSQ := hidD hsq.sq
  clear hk htk hz hF HSK hsq
  obtain ⟨a900, l900, c900, s900, b900, k900, d900, t900, rfl⟩ := IsRef.form ha
  have M0 := ((Mem.nil w).push (.ref (q)) ha)
  have M0 : Mem w (w.alloc (.cells #[.slice a900 l900 c900, .bool s900, .slice b900 k900 d900, .bool t900] 34)) [some (w.heap.size, .ref (q))] := M0
  obtain ⟨W0, hW0⟩ : ∃ W0, w.alloc (.cells #[.slice a900 l900 c900, .bool s900, .slice b900 k900 d900, .bool t900] 34) = W0 := ⟨_, rfl⟩
  have HW0 := hidD hW0
  rw [hW0] at M0
  have M1 : Hid (Mem w W0 [some (w.heap.size, .ref (q))]) := hidD M0
  clear M0 hW0 ha 
  go_enter Tryz.func17, Tryz.ntmps17
  go_upto_region 1 with fail
  rw [HW0.out]
  clear HW0
  go_upto_region 2 with fail
  rw [HK.out]
  refine wp_region_tab hmx [[], [], [], [1, 2, 1], [3], [3, 4], [0, 5, 4], [6, 6], [], [8, 7, 7, 0, 1, 2, 3, 4, 5, 6, 7, 8]] (by kernel_rfl) (by decide)
    (fun D act V => ∃ (t9x t10x t11x t12x t13x t14x t15x t16x t5x : Value) (x8 : Option (Nat × Dat)), act = { tmps := #[Value.agg #[Value.slice a900 l900 c900, Value.bool s900, Value.slice b900 k900 d900, Value.bool t900], Value.int IntKind.i64 ↑k, Value.pointer (some { block := w.heap.size, off := 0 }), undef, Value.string { data := #[] }, t5x, Value.int IntKind.i64 n, Value.int IntKind.i64 (min n 100), Value.int IntKind.i64 ↑k, t9x, t10x, t11x, t12x, t13x, t14x, t15x, t16x, undef, undef, undef], defers := [] } ∧ Hid ((D 0 = true → Has V t9x (.ref (q))) ∧ (D 1 = true → Has V t10x (.big (10))) ∧ (D 2 = true → t11x = Value.int IntKind.i64 ↑k) ∧ (D 3 = true → Has V t12x (.big (tk))) ∧ (D 4 = true → Has V t13x (.big (1))) ∧ (D 5 = true → Has V t14x (.ref ((tk : Rat)))) ∧ (D 6 = true → Has V t15x (.ref (q * (tk : Rat)))) ∧ (D 7 = true → Has V t16x (.big (z))) ∧ ((D 8 = false → x8 = none) ∧ (D 8 = true → D 9 = false → ∃ B : Nat, t5x = .pointer (some ⟨B, 0, none⟩) ∧ x8 = some (B, .big 0)) ∧ (D 9 = true → ∃ B : Nat, t5x = .pointer (some ⟨B, 0, none⟩) ∧ x8 = some (B, .big (z))))) ∧ Hid (Mem w V [some (w.heap.size, .ref (q)), x8]))
    ⟨_, _, _, _, _, _, _, _, _, none, rfl, hidD ⟨by simp, by simp, by simp, by simp, by simp, by simp, by simp, by simp, by simp⟩, hidD ((M1.out).none).drew⟩ ?step1 ?fin1
  case step1 =>
    rintro D act V i ds hcl hi hds hDi ⟨t9x, t10x, t11x, t12x, t13x, t14x, t15x, t16x, t5x, x8, rfl, GG, MM⟩
    have hi6 : i < 10 := (List.getElem?_eq_some_iff.1 hi).1
    obtain rfl | rfl | rfl | rfl | rfl | rfl | rfl | rfl | rfl | rfl : i = 0 ∨ i = 1 ∨ i = 2 ∨ i = 3 ∨ i = 4 ∨ i = 5 ∨ i = 6 ∨ i = 7 ∨ i = 8 ∨ i = 9 := by omega
    all_goals
      simp only [List.getElem?_cons_zero, List.getElem?_cons_succ, Option.some.injEq] at hi
      subst hi
    · clear hds
      obtain ⟨a, l, c, s, b, k, d, t, n, r, i, j⟩ := MM.out.ref (i := 0) rfl
      have e0 := n.c0
      have e1 := n.c1
      have e2 := n.c2
      have e3 := n.c3
      refine wpOp_go rfl rfl (fun K hK => ?_)
      go_simp
      exact hK _ _ ⟨_, _, _, _, _, _, _, _, _, _, rfl, hidD ⟨fun _ => r, GG.out.2.1, GG.out.2.2.1, GG.out.2.2.2.1, GG.out.2.2.2.2.1, GG.out.2.2.2.2.2.1, GG.out.2.2.2.2.2.2.1, GG.out.2.2.2.2.2.2.2.1, GG.out.2.2.2.2.2.2.2.2⟩, hidD (MM.out)⟩
    · have HC := hidD (of_c 10 (by omega) (by omega) V)
      clear hds
      refine wpOp_go rfl rfl (fun K hK => ?_)
      go_simp
      go_wp2_with (go_at_call 46; refine HC.out.mono ?_; rintro e w5 ⟨v5, rfl, hv5, hb5⟩)
      exact ⟨_, _, _, _, _, _, _, _, _, _, rfl, hidD ⟨fun h => (GG.out.1 h).below hb5, fun _ => hv5, GG.out.2.2.1, fun h => (GG.out.2.2.2.1 h).below hb5, fun h => (GG.out.2.2.2.2.1 h).below hb5, fun h => (GG.out.2.2.2.2.2.1 h).below hb5, fun h => (GG.out.2.2.2.2.2.2.1 h).below hb5, fun h => (GG.out.2.2.2.2.2.2.2.1 h).below hb5, GG.out.2.2.2.2.2.2.2.2⟩, hidD (MM.out.below hb5)⟩
    · clear hds
      refine wpOp_go rfl rfl (fun K hK => ?_)
      go_simp
      exact hK _ _ ⟨_, _, _, _, _, _, _, _, _, _, rfl, hidD ⟨GG.out.1, GG.out.2.1, fun _ => rfl, GG.out.2.2.2.1, GG.out.2.2.2.2.1, GG.out.2.2.2.2.2.1, GG.out.2.2.2.2.2.2.1, GG.out.2.2.2.2.2.2.2.1, GG.out.2.2.2.2.2.2.2.2⟩, hidD (MM.out)⟩
    · have h0 := (GG.out.2.1 (hds 1 (by simp)))
      obtain rfl := (GG.out.2.2.1 (hds 2 (by simp)))
      have HC := hidD ((by have h := rpower_c _ 10 k V h0 (by omega) (by have h1 : szB 10 ≤ 1 := limbs_length_le (by omega) (by decide); have h2 := Nat.mul_le_mul_right k h1; omega) (by have h1 : szB 10 ≤ 1 := limbs_length_le (by omega) (by decide); omega); rw [HTK.out] at h; exact h))
      clear hds h0
      refine wpOp_go rfl rfl (fun K hK => ?_)
      go_simp
      go_wp2_with (go_at_call 53; refine HC.out.mono ?_; rintro e w5 ⟨v5, rfl, hv5, hb5⟩)
      exact ⟨_, _, _, _, _, _, _, _, _, _, rfl, hidD ⟨fun h => (GG.out.1 h).below hb5, fun h => (GG.out.2.1 h).below hb5, fun _ => rfl, fun _ => hv5, fun h => (GG.out.2.2.2.2.1 h).below hb5, fun h => (GG.out.2.2.2.2.2.1 h).below hb5, fun h => (GG.out.2.2.2.2.2.2.1 h).below hb5, fun h => (GG.out.2.2.2.2.2.2.2.1 h).below hb5, GG.out.2.2.2.2.2.2.2.2⟩, hidD (MM.out.below hb5)⟩
    · have HC := hidD (of_c 1 (by omega) (by omega) V)
      clear hds
      refine wpOp_go rfl rfl (fun K hK => ?_)
      go_simp
      go_wp2_with (go_at_call 46; refine HC.out.mono ?_; rintro e w5 ⟨v5, rfl, hv5, hb5⟩)
      exact ⟨_, _, _, _, _, _, _, _, _, _, rfl, hidD ⟨fun h => (GG.out.1 h).below hb5, fun h => (GG.out.2.1 h).below hb5, GG.out.2.2.1, fun h => (GG.out.2.2.2.1 h).below hb5, fun _ => hv5, fun h => (GG.out.2.2.2.2.2.1 h).below hb5, fun h => (GG.out.2.2.2.2.2.2.1 h).below hb5, fun h => (GG.out.2.2.2.2.2.2.2.1 h).below hb5, GG.out.2.2.2.2.2.2.2.2⟩, hidD (MM.out.below hb5)⟩
    · have h0 := (GG.out.2.2.2.1 (hds 3 (by simp)))
      obtain ⟨a1, l1, c1, s1, rfl⟩ := IsBig.form2 (show IsBig V _ _ from h0)
      have h1 := (GG.out.2.2.2.2.1 (hds 4 (by simp)))
      obtain ⟨a2, l2, c2, s2, rfl⟩ := IsBig.form2 (show IsBig V _ _ from h1)
      have hv : Has V _ (.ref ((tk : Rat))) := IsRef.mk (q := (tk : Rat)) h0 h1
      clear hds
      refine wpOp_go rfl rfl (fun K hK => ?_)
      go_simp
      exact hK _ _ ⟨_, _, _, _, _, _, _, _, _, _, rfl, hidD ⟨GG.out.1, GG.out.2.1, GG.out.2.2.1, GG.out.2.2.2.1, GG.out.2.2.2.2.1, fun _ => hv, GG.out.2.2.2.2.2.2.1, GG.out.2.2.2.2.2.2.2.1, GG.out.2.2.2.2.2.2.2.2⟩, hidD (MM.out)⟩
    · have h0 := (GG.out.1 (hds 0 (by simp)))
      have h1 := (GG.out.2.2.2.2.2.1 (hds 5 (by simp)))
      have HC := hidD (stimes_c _ _ q (tk : Rat) V h0 h1 HSQ.out HT1.out)
      clear hds h0 h1
      refine wpOp_go rfl rfl (fun K hK => ?_)
      go_simp
      go_wp2_with (go_at_call 33; refine HC.out.mono ?_; rintro e w5 ⟨v5, rfl, hv5, hb5⟩)
      exact ⟨_, _, _, _, _, _, _, _, _, _, rfl, hidD ⟨fun h => (GG.out.1 h).below hb5, fun h => (GG.out.2.1 h).below hb5, GG.out.2.2.1, fun h => (GG.out.2.2.2.1 h).below hb5, fun h => (GG.out.2.2.2.2.1 h).below hb5, fun h => (GG.out.2.2.2.2.2.1 h).below hb5, fun _ => hv5, fun h => (GG.out.2.2.2.2.2.2.2.1 h).below hb5, GG.out.2.2.2.2.2.2.2.2⟩, hidD (MM.out.below hb5)⟩
    · have h0 := (GG.out.2.2.2.2.2.2.1 (hds 6 (by simp)))
      have HC := hidD ((by have h := sfloor_c _ (q * (tk : Rat)) V h0 HT2.out; rw [HF.out] at h; exact h))
      clear hds h0
      refine wpOp_go rfl rfl (fun K hK => ?_)
      go_simp
      go_wp2_with (go_at_call 18; refine HC.out.mono ?_; rintro e w5 ⟨v5, rfl, hv5, hb5⟩)
      exact ⟨_, _, _, _, _, _, _, _, _, _, rfl, hidD ⟨fun h => (GG.out.1 h).below hb5, fun h => (GG.out.2.1 h).below hb5, GG.out.2.2.1, fun h => (GG.out.2.2.2.1 h).below hb5, fun h => (GG.out.2.2.2.2.1 h).below hb5, fun h => (GG.out.2.2.2.2.2.1 h).below hb5, fun h => (GG.out.2.2.2.2.2.2.1 h).below hb5, fun _ => hv5, GG.out.2.2.2.2.2.2.2.2⟩, hidD (MM.out.below hb5)⟩
    · have hf : D 9 = false := by
        cases h : D 9 with
        | false => rfl
        | true => rw [hcl 9 _ rfl h 8 (by simp)] at hDi; cases hDi
      obtain rfl := GG.out.2.2.2.2.2.2.2.2.1 hDi
      clear hds
      refine wpOp_go rfl rfl (fun K hK => ?_)
      go_simp
      exact hK _ _ ⟨_, _, _, _, _, _, _, _, _, _, rfl, hidD ⟨fun h => (GG.out.1 h).alloc _, fun h => (GG.out.2.1 h).alloc _, GG.out.2.2.1, fun h => (GG.out.2.2.2.1 h).alloc _, fun h => (GG.out.2.2.2.2.1 h).alloc _, fun h => (GG.out.2.2.2.2.2.1 h).alloc _, fun h => (GG.out.2.2.2.2.2.2.1 h).alloc _, fun h => (GG.out.2.2.2.2.2.2.2.1 h).alloc _, ⟨fun h => by simp at h, fun _ _ => ⟨_, rfl, rfl⟩, fun h => by simp [hf] at h⟩⟩, hidD (MM.out.fill (i := 1) rfl (.big 0) (big0 _))⟩
    · obtain ⟨B, rfl, rfl⟩ := GG.out.2.2.2.2.2.2.2.2.2.1 (hds 8 (by simp)) hDi
      have hds0 := hds 8 (by simp)
      have hv := (GG.out.2.2.2.2.2.2.2.1 (hds 7 (by simp)))
      obtain ⟨a1, l1, c1, s1, rfl⟩ := IsBig.form2 (show IsBig V _ _ from hv)
      obtain ⟨a, l, c, s, n, i⟩ := MM.out.big (i := 1) rfl
      have e0 := n.c0
      have f0 := n.f0
      have e1 := n.c1
      have f1 := n.f1
      clear hds
      refine wpOp_go rfl rfl (fun K hK => ?_)
      go_simp
      exact hK _ _ ⟨_, _, _, _, _, _, _, _, _, _, rfl, hidD ⟨fun h => (GG.out.1 h).set2 n rfl rfl _ _, fun h => (GG.out.2.1 h).set2 n rfl rfl _ _, GG.out.2.2.1, fun h => (GG.out.2.2.2.1 h).set2 n rfl rfl _ _, fun h => (GG.out.2.2.2.2.1 h).set2 n rfl rfl _ _, fun h => (GG.out.2.2.2.2.2.1 h).set2 n rfl rfl _ _, fun h => (GG.out.2.2.2.2.2.2.1 h).set2 n rfl rfl _ _, fun h => (GG.out.2.2.2.2.2.2.2.1 h).set2 n rfl rfl _ _, ⟨fun h => by simp [hds0] at h, fun _ h => by simp at h, fun _ => ⟨B, rfl, rfl⟩⟩⟩, hidD (MM.out.putBig (i := 1) rfl hv)⟩
  rintro D act V2 hDD ⟨t9x, t10x, t11x, t12x, t13x, t14x, t15x, t16x, t5x, x8, rfl, GG, MM⟩
  obtain ⟨B3, rfl, rfl⟩ := GG.out.2.2.2.2.2.2.2.2.2.2 (hDD 9 (by decide))
  clear GG hDD M1
  have M2 : Hid (Mem w V2 [some (w.heap.size, .ref (q)), some (B3, .big (z))]) := MM
  clear MM
  obtain ⟨a4, l4, c4, s4, n4, i4⟩ := M2.out.big (i := 1) rfl
  have e4a := n4.c0
  have e4b := n4.c1
  have H1 := hidD (spoints_c _ z k hk100 V2 i4 HZS.out)
  rw [HFF.out] at H1
  go_wp2_with (go_at_call 54; refine H1.out.mono ?_; clear H1; rintro e w1 ⟨rfl, hq⟩)
  go_ret
  exact ⟨rfl, M2.out.2.2.trans (hq.mono M2.out.2.2.size)⟩
end Go.Proofs.YtcahodpphikgnaaGreatDoor
namespace Go.Proofs.YtcahodpphikgnaaGreatDoor
open Go.RowKit Go.Shelf

attribute [local go_sem] Oper.semAt_some

theorem textQ_zero : textQ 0 = [48] := by
  unfold textQ
  rw [if_pos (by decide), show decZ (Rat.num 0) = [48] from decZ_of (by decide) (by decide)]
theorem decZ_1 : decZ 1 = [49] := decZ_of (by decide) (by decide)
theorem den_one (v : Value) (w : World) (h : IsRat w v 0) : Calls Tryz.prog 10 #[v] w fun e w' => ∃ u, e = .returned u ∧ IsInt w' u 1 ∧ Below w.heap.size w w' := den_c v 0 w h
theorem zero_sq : Sq 0 := Sq.of (k := 1) ⟨Sm.zero _, Sm.one _ (by omega)⟩ (by omega)

set_option maxRecDepth 100000 in
set_option maxHeartbeats 8000000 in
theorem ratioTexts_c (s : ByteArray) (n : Int) (hs : s.size ≤ 140737488351232) (w : World) (htab : Lib.TabIs Tryz.prog w "internal/strconv.uint64pow10" .u64 Lib.pow10Tab) :
    Calls Tryz.prog 3 #[.string s, .int .i64 n] w fun e w' => e = .returned (.bool true) ∧ Below w.heap.size w w' := by
  have HT := hidD htab
  have HS1 := hidD (Sq1.of (valQ_sm (wlst s)) (by omega))
  have HC1 := hidD (fun (V : World) => qparse_c s V)
  have HC2 := hidD (fun (V : World) => sparse_c s hs V)
  obtain ⟨q, hq⟩ : ∃ q, valQ (wlst s) = q := ⟨_, rfl⟩
  obtain ⟨o, ho⟩ : ∃ o, (parseQ (wlst s)).isSome = o := ⟨_, rfl⟩
  unfold ParseR at HC1
  unfold ParseF at HC2
  rw [hq, ho] at HC1 HC2
  rw [hq] at HS1
  have HS := hidD HS1.out.sq
  obtain ⟨T1, hT1⟩ : ∃ S : ByteArray, ⟨(textQ q).toArray⟩ = S := ⟨_, rfl⟩
  obtain ⟨N1, hN1⟩ : ∃ S : ByteArray, ⟨(decZ q.num).toArray⟩ = S := ⟨_, rfl⟩
  obtain ⟨N2, hN2⟩ : ∃ S : ByteArray, ⟨(decZ (q.den : Int)).toArray⟩ = S := ⟨_, rfl⟩
  obtain ⟨k, hk⟩ : ∃ k : Nat, min (max n 0) 100 = (k : Int) := ⟨(min (max n 0) 100).toNat, by omega⟩
  have HK1 := hidD hk
  have HK2 := hidD (show max 0 (min n 100) = (k : Int) by omega)
  obtain ⟨DD, hDD⟩ : ∃ S : ByteArray, ⟨(pointsL (q.num * 10 ^ k / (q.den : Int)) k).toArray⟩ = S := ⟨_, rfl⟩
  obtain ⟨zf, hzf⟩ : ∃ z, q.num / (q.den : Int) = z := ⟨_, rfl⟩
  have HZF := hidD (show Sok zf by rw [← hzf]; exact HS.out.num.div)
  obtain ⟨FF, hFF⟩ : ∃ S : ByteArray, ⟨(decZ zf).toArray⟩ = S := ⟨_, rfl⟩
  have HT1 := hidD hT1
  have HN1 := hidD hN1
  have HN2 := hidD hN2
  have HDD := hidD hDD
  have HFF := hidD hFF
  have Hzf := hidD hzf
  clear htab hq ho hT1 hN1 hN2 hDD hFF hzf hk hs
  have M0 : Hid (Mem w w []) := hidD (Mem.nil w)
  go_enter Tryz.func3, Tryz.ntmps3
  go_upto_region 2 with (go_at_call 7; refine (HC1.out _).mono ?_; clear HC1; rintro e w1 ⟨u, rfl, hu, hb⟩; obtain ⟨s90, a90, l90, c90, t90, b90, k90, d90, rfl⟩ := IsRat.form hu)
  obtain ⟨V1, hV⟩ : ∃ V, w1.alloc (.cells #[.bool s90, .slice a90 l90 c90, .bool t90, .slice b90 k90 d90] 27) = V := ⟨_, rfl⟩
  obtain ⟨B1, hBk⟩ : ∃ B, w1.heap.size = B := ⟨_, rfl⟩
  have MM : Mem w (w1.alloc (.cells #[.bool s90, .slice a90 l90 c90, .bool t90, .slice b90 k90 d90] 27)) [some (w1.heap.size, .rat (q))] := Mem.push (M0.out.below hb) (.rat (q)) hu
  rw [hV, hBk] at MM
  rw [hV]
  rw [hBk]
  have M1 : Hid (Mem w V1 [some (B1, .rat (q))]) := hidD (MM)
  clear M0
  clear MM hV hBk
  clear hu hb
  go_upto_region 3 with (go_at_call 8; refine (HC2.out _).mono ?_; clear HC2; rintro e w2 ⟨u, rfl, hu, hb⟩; obtain ⟨a91, l91, c91, s91, b91, k91, d91, t91, rfl⟩ := IsRef.form hu)
  obtain ⟨V2, hV⟩ : ∃ V, w2.alloc (.cells #[.slice a91 l91 c91, .bool s91, .slice b91 k91 d91, .bool t91] 34) = V := ⟨_, rfl⟩
  obtain ⟨B2, hBk⟩ : ∃ B, w2.heap.size = B := ⟨_, rfl⟩
  have MM : Mem w (w2.alloc (.cells #[.slice a91 l91 c91, .bool s91, .slice b91 k91 d91, .bool t91] 34)) [some (B1, .rat (q)), some (w2.heap.size, .ref (q))] := Mem.push (M1.out.below hb) (.ref (q)) hu
  rw [hV, hBk] at MM
  rw [hV]
  rw [hBk]
  have M2 : Hid (Mem w V2 [some (B1, .rat (q)), some (B2, .ref (q))]) := hidD (MM)
  clear M1
  clear MM hV hBk
  clear hu hb
  go_upto_region 4 with fail
  obtain ⟨V3, hV⟩ : ∃ V, V2.alloc (.cells #[.bool false, .slice none 0 0, .bool false, .slice none 0 0] 27) = V := ⟨_, rfl⟩
  obtain ⟨B3, hBk⟩ : ∃ B, V2.heap.size = B := ⟨_, rfl⟩
  have MM : Mem w (V2.alloc (.cells #[.bool false, .slice none 0 0, .bool false, .slice none 0 0] 27)) [some (B1, .rat (q)), some (B2, .ref (q)), some (V2.heap.size, .rat (0))] := Mem.push (M2.out) (.rat 0) (rat0 _)
  rw [hV, hBk] at MM
  rw [hV]
  rw [hBk]
  have M3 : Hid (Mem w V3 [some (B1, .rat (q)), some (B2, .ref (q)), some (B3, .rat (0))]) := hidD (MM)
  clear M2
  clear MM hV hBk
  obtain ⟨s4, a4, l4, c4, t4, b4, k4, d4, n4, r4, i4, j4⟩ := M3.out.rat (i := 0) rfl
  have e4a := n4.c0
  have e4b := n4.c1
  have e4c := n4.c2
  have e4d := n4.c3
  have HC := hidD (num_c _ q V3 r4)
  go_upto_region 5 with (go_at_call 9; refine HC.out.mono ?_; clear HC; rintro e w80 ⟨u, rfl, hu, hb⟩; obtain ⟨s80, a80, l80, c80, rfl⟩ := IsInt.form2 hu)
  obtain ⟨V5, hV⟩ : ∃ V, w80.alloc (.cells #[.bool s80, .slice a80 l80 c80] 25) = V := ⟨_, rfl⟩
  obtain ⟨B5, hBk⟩ : ∃ B, w80.heap.size = B := ⟨_, rfl⟩
  have MM : Mem w (w80.alloc (.cells #[.bool s80, .slice a80 l80 c80] 25)) [some (B1, .rat (q)), some (B2, .ref (q)), some (B3, .rat (0)), some (w80.heap.size, .int (q.num))] := Mem.push (M3.out.below hb) (.int (q.num)) hu
  rw [hV, hBk] at MM
  rw [hV]
  rw [hBk]
  have M4 : Hid (Mem w V5 [some (B1, .rat (q)), some (B2, .ref (q)), some (B3, .rat (0)), some (B5, .int (q.num))]) := hidD (MM)
  clear M3
  clear MM hV hBk
  clear n4 e4a e4b e4c e4d i4 r4 j4 hu hb
  obtain ⟨s6, a6, l6, c6, t6, b6, k6, d6, n6, r6, i6, j6⟩ := M4.out.rat (i := 0) rfl
  have e6a := n6.c0
  have e6b := n6.c1
  have e6c := n6.c2
  have e6d := n6.c3
  have HC := hidD (den_c _ q V5 r6)
  go_upto_region 6 with (go_at_call 10; refine HC.out.mono ?_; clear HC; rintro e w81 ⟨u, rfl, hu, hb⟩; obtain ⟨s81, a81, l81, c81, rfl⟩ := IsInt.form2 hu)
  obtain ⟨V7, hV⟩ : ∃ V, w81.alloc (.cells #[.bool s81, .slice a81 l81 c81] 25) = V := ⟨_, rfl⟩
  obtain ⟨B7, hBk⟩ : ∃ B, w81.heap.size = B := ⟨_, rfl⟩
  have MM : Mem w (w81.alloc (.cells #[.bool s81, .slice a81 l81 c81] 25)) [some (B1, .rat (q)), some (B2, .ref (q)), some (B3, .rat (0)), some (B5, .int (q.num)), some (w81.heap.size, .int ((q.den : Int)))] := Mem.push (M4.out.below hb) (.int ((q.den : Int))) hu
  rw [hV, hBk] at MM
  rw [hV]
  rw [hBk]
  have M5 : Hid (Mem w V7 [some (B1, .rat (q)), some (B2, .ref (q)), some (B3, .rat (0)), some (B5, .int (q.num)), some (B7, .int ((q.den : Int)))]) := hidD (MM)
  clear M4
  clear MM hV hBk
  clear n6 e6a e6b e6c e6d i6 r6 j6 hu hb
  have hoo : (o != o) = false := by cases o <;> rfl
  obtain ⟨s8, a8, l8, c8, t8, b8, k8, d8, n8, r8, i8, j8⟩ := M5.out.rat (i := 0) rfl
  have e8a := n8.c0
  have e8b := n8.c1
  have e8c := n8.c2
  have e8d := n8.c3
  obtain ⟨a9, l9, c9, s9, b9, k9, d9, t9, n9, r9, i9, j9⟩ := M5.out.ref (i := 1) rfl
  have e9a := n9.c0
  have e9b := n9.c1
  have e9c := n9.c2
  have e9d := n9.c3
  obtain ⟨s10, a10, l10, c10, n10, i10⟩ := M5.out.int (i := 3) rfl
  have e10a := n10.c0
  have e10b := n10.c1
  obtain ⟨s11, a11, l11, c11, n11, i11⟩ := M5.out.int (i := 4) rfl
  have e11a := n11.c0
  have e11b := n11.c1
  have HA0 := hidD (fun (V : World) (h : Below V7.heap.size V7 V) => qtext_c _ q V (r8.below h) HS.out (tab_below HT.out (M5.out.2.2.trans (h.mono M5.out.2.2.size))))
  rw [HT1.out] at HA0
  have HA1 := hidD (fun (V : World) (h : Below V7.heap.size V7 V) => stext_c _ q V (r9.below h) HS.out)
  rw [HT1.out] at HA1
  have HA2 := hidD (fun (V : World) (h : Below V7.heap.size V7 V) => itext_c _ q.num V (i10.below h) (tab_below HT.out (M5.out.2.2.trans (h.mono M5.out.2.2.size))))
  rw [HN1.out] at HA2
  have HA3 := hidD (fun (V : World) (h : Below V7.heap.size V7 V) => text_c _ q.num V (i9.below h) (by have := HS.out.num.size; omega))
  rw [HN1.out] at HA3
  have HA4 := hidD (fun (V : World) (h : Below V7.heap.size V7 V) => itext_c _ (q.den : Int) V (i11.below h) (tab_below HT.out (M5.out.2.2.trans (h.mono M5.out.2.2.size))))
  rw [HN2.out] at HA4
  have HA5 := hidD (fun (V : World) (h : Below V7.heap.size V7 V) => text_c _ (q.den : Int) V (j9.below h) (by have := HS.out.den.size; omega))
  rw [HN2.out] at HA5
  have hq : Below V7.heap.size V7 V7.drew := (Below.refl _ V7).drew
  go_region_held3 (fun w' => w'.cell? ⟨B1, 0, none⟩ = some (.bool s8) ∧ w'.cell? ⟨B1, 1, none⟩ = some (.slice a8 l8 c8) ∧ w'.cell? ⟨B1, 2, none⟩ = some (.bool t8) ∧ w'.cell? ⟨B1, 3, none⟩ = some (.slice b8 k8 d8) ∧ w'.cell? ⟨B2, 0, none⟩ = some (.slice a9 l9 c9) ∧ w'.cell? ⟨B2, 1, none⟩ = some (.bool s9) ∧ w'.cell? ⟨B2, 2, none⟩ = some (.slice b9 k9 d9) ∧ w'.cell? ⟨B2, 3, none⟩ = some (.bool t9) ∧ w'.cell? ⟨B5, 0, none⟩ = some (.bool s10) ∧ w'.cell? ⟨B5, 1, none⟩ = some (.slice a10 l10 c10) ∧ w'.cell? ⟨B7, 0, none⟩ = some (.bool s11) ∧ w'.cell? ⟨B7, 1, none⟩ = some (.slice a11 l11 c11)) (first | (with_reducible exact ⟨e8a, e8b, e8c, e8d, e9a, e9b, e9c, e9d, e10a, e10b, e11a, e11b⟩) | (go_keep; done) | (refine ⟨?_, ?_, ?_, ?_, ?_, ?_, ?_, ?_, ?_, ?_, ?_, ?_⟩ <;> ((repeat rw [cell_set_nb (by omega)]); first | assumption | (go_keep; done))))
    (first
      | (go_at_call 11; refine (HA0.out _ hq).mono ?_; clear HA0; rintro e x0 ⟨rfl, hb0⟩; replace hq := Below.then hq hb0; clear hb0; clear e8a e8b e8c e8d; have e8a := (n8.below hq).c0; have e8b := (n8.below hq).c1; have e8c := (n8.below hq).c2; have e8d := (n8.below hq).c3; clear e9a e9b e9c e9d; have e9a := (n9.below hq).c0; have e9b := (n9.below hq).c1; have e9c := (n9.below hq).c2; have e9d := (n9.below hq).c3; clear e10a e10b; have e10a := (n10.below hq).c0; have e10b := (n10.below hq).c1; clear e11a e11b; have e11a := (n11.below hq).c0; have e11b := (n11.below hq).c1)
      | (go_at_call 12; refine (HA1.out _ hq).mono ?_; clear HA1; rintro e x1 ⟨rfl, hb1⟩; replace hq := Below.then hq hb1; clear hb1; clear e8a e8b e8c e8d; have e8a := (n8.below hq).c0; have e8b := (n8.below hq).c1; have e8c := (n8.below hq).c2; have e8d := (n8.below hq).c3; clear e9a e9b e9c e9d; have e9a := (n9.below hq).c0; have e9b := (n9.below hq).c1; have e9c := (n9.below hq).c2; have e9d := (n9.below hq).c3; clear e10a e10b; have e10a := (n10.below hq).c0; have e10b := (n10.below hq).c1; clear e11a e11b; have e11a := (n11.below hq).c0; have e11b := (n11.below hq).c1)
      | (go_at_call 13; refine (HA2.out _ hq).mono ?_; clear HA2; rintro e x2 ⟨rfl, hb2⟩; replace hq := Below.then hq hb2; clear hb2; clear e8a e8b e8c e8d; have e8a := (n8.below hq).c0; have e8b := (n8.below hq).c1; have e8c := (n8.below hq).c2; have e8d := (n8.below hq).c3; clear e9a e9b e9c e9d; have e9a := (n9.below hq).c0; have e9b := (n9.below hq).c1; have e9c := (n9.below hq).c2; have e9d := (n9.below hq).c3; clear e10a e10b; have e10a := (n10.below hq).c0; have e10b := (n10.below hq).c1; clear e11a e11b; have e11a := (n11.below hq).c0; have e11b := (n11.below hq).c1)
      | (go_at_call 14; refine (HA3.out _ hq).mono ?_; clear HA3; rintro e x3 ⟨rfl, hb3⟩; replace hq := Below.then hq hb3; clear hb3; clear e8a e8b e8c e8d; have e8a := (n8.below hq).c0; have e8b := (n8.below hq).c1; have e8c := (n8.below hq).c2; have e8d := (n8.below hq).c3; clear e9a e9b e9c e9d; have e9a := (n9.below hq).c0; have e9b := (n9.below hq).c1; have e9c := (n9.below hq).c2; have e9d := (n9.below hq).c3; clear e10a e10b; have e10a := (n10.below hq).c0; have e10b := (n10.below hq).c1; clear e11a e11b; have e11a := (n11.below hq).c0; have e11b := (n11.below hq).c1)
      | (go_at_call 13; refine (HA4.out _ hq).mono ?_; clear HA4; rintro e x4 ⟨rfl, hb4⟩; replace hq := Below.then hq hb4; clear hb4; clear e8a e8b e8c e8d; have e8a := (n8.below hq).c0; have e8b := (n8.below hq).c1; have e8c := (n8.below hq).c2; have e8d := (n8.below hq).c3; clear e9a e9b e9c e9d; have e9a := (n9.below hq).c0; have e9b := (n9.below hq).c1; have e9c := (n9.below hq).c2; have e9d := (n9.below hq).c3; clear e10a e10b; have e10a := (n10.below hq).c0; have e10b := (n10.below hq).c1; clear e11a e11b; have e11a := (n11.below hq).c0; have e11b := (n11.below hq).c1)
      | (go_at_call 14; refine (HA5.out _ hq).mono ?_; clear HA5; rintro e x5 ⟨rfl, hb5⟩; replace hq := Below.then hq hb5; clear hb5; clear e8a e8b e8c e8d; have e8a := (n8.below hq).c0; have e8b := (n8.below hq).c1; have e8c := (n8.below hq).c2; have e8d := (n8.below hq).c3; clear e9a e9b e9c e9d; have e9a := (n9.below hq).c0; have e9b := (n9.below hq).c1; have e9c := (n9.below hq).c2; have e9d := (n9.below hq).c3; clear e10a e10b; have e10a := (n10.below hq).c0; have e10b := (n10.below hq).c1; clear e11a e11b; have e11a := (n11.below hq).c0; have e11b := (n11.below hq).c1))
  replace n8 := n8.below hq
  replace i8 := i8.below hq
  replace r8 := r8.below hq
  replace j8 := j8.below hq
  replace n9 := n9.below hq
  replace i9 := i9.below hq
  replace r9 := r9.below hq
  replace j9 := j9.below hq
  replace n10 := n10.below hq
  replace i10 := i10.below hq
  replace n11 := n11.below hq
  replace i11 := i11.below hq
  have M6 : Hid (Mem w x5 [some (B1, .rat (q)), some (B2, .ref (q)), some (B3, .rat (0)), some (B5, .int (q.num)), some (B7, .int ((q.den : Int)))]) := hidD (M5.out.below hq)
  clear M5
  clear hq
  go_upto_region 8 with fail
  have HC := hidD (qfloor_c _ q x5 r8 HS.out)
  rw [Hzf.out] at HC
  go_upto_region 9 with (go_at_call 15; refine HC.out.mono ?_; clear HC; rintro e w82 ⟨u, rfl, hu, hb⟩; obtain ⟨s82, a82, l82, c82, rfl⟩ := IsInt.form2 hu)
  obtain ⟨V12, hV⟩ : ∃ V, w82.alloc (.cells #[.bool s82, .slice a82 l82 c82] 25) = V := ⟨_, rfl⟩
  obtain ⟨B12, hBk⟩ : ∃ B, w82.heap.size = B := ⟨_, rfl⟩
  have MM : Mem w (w82.alloc (.cells #[.bool s82, .slice a82 l82 c82] 25)) [some (B1, .rat (q)), some (B2, .ref (q)), some (B3, .rat (0)), some (B5, .int (q.num)), some (B7, .int ((q.den : Int))), some (w82.heap.size, .int (zf))] := Mem.push (M6.out.below hb) (.int (zf)) hu
  rw [hV, hBk] at MM
  rw [hV]
  rw [hBk]
  have M7 : Hid (Mem w V12 [some (B1, .rat (q)), some (B2, .ref (q)), some (B3, .rat (0)), some (B5, .int (q.num)), some (B7, .int ((q.den : Int))), some (B12, .int (zf))]) := hidD (MM)
  clear M6
  clear MM hV hBk
  clear n8 e8a e8b e8c e8d i8 r8 j8 hu hb
  obtain ⟨s13, a13, l13, c13, t13, b13, k13, d13, n13, r13, i13, j13⟩ := M7.out.rat (i := 2) rfl
  have e13a := n13.c0
  have e13b := n13.c1
  have e13c := n13.c2
  have e13d := n13.c3
  have HC := hidD (den_one _ V12 r13)
  go_upto_region 10 with (go_at_call 10; refine HC.out.mono ?_; clear HC; rintro e w83 ⟨u, rfl, hu, hb⟩; obtain ⟨s83, a83, l83, c83, rfl⟩ := IsInt.form2 hu)
  obtain ⟨V14, hV⟩ : ∃ V, w83.alloc (.cells #[.bool s83, .slice a83 l83 c83] 25) = V := ⟨_, rfl⟩
  obtain ⟨B14, hBk⟩ : ∃ B, w83.heap.size = B := ⟨_, rfl⟩
  have MM : Mem w (w83.alloc (.cells #[.bool s83, .slice a83 l83 c83] 25)) [some (B1, .rat (q)), some (B2, .ref (q)), some (B3, .rat (0)), some (B5, .int (q.num)), some (B7, .int ((q.den : Int))), some (B12, .int (zf)), some (w83.heap.size, .int (1))] := Mem.push (M7.out.below hb) (.int (1)) hu
  rw [hV, hBk] at MM
  rw [hV]
  rw [hBk]
  have M8 : Hid (Mem w V14 [some (B1, .rat (q)), some (B2, .ref (q)), some (B3, .rat (0)), some (B5, .int (q.num)), some (B7, .int ((q.den : Int))), some (B12, .int (zf)), some (B14, .int (1))]) := hidD (MM)
  clear M7
  clear MM hV hBk
  clear n13 e13a e13b e13c e13d i13 r13 j13 hu hb
  obtain ⟨s15, a15, l15, c15, t15, b15, k15, d15, n15, r15, i15, j15⟩ := M8.out.rat (i := 0) rfl
  have e15a := n15.c0
  have e15b := n15.c1
  have e15c := n15.c2
  have e15d := n15.c3
  obtain ⟨a16, l16, c16, s16, b16, k16, d16, t16, n16, r16, i16, j16⟩ := M8.out.ref (i := 1) rfl
  have e16a := n16.c0
  have e16b := n16.c1
  have e16c := n16.c2
  have e16d := n16.c3
  obtain ⟨s17, a17, l17, c17, t17, b17, k17, d17, n17, r17, i17, j17⟩ := M8.out.rat (i := 2) rfl
  have e17a := n17.c0
  have e17b := n17.c1
  have e17c := n17.c2
  have e17d := n17.c3
  obtain ⟨s18, a18, l18, c18, n18, i18⟩ := M8.out.int (i := 5) rfl
  have e18a := n18.c0
  have e18b := n18.c1
  obtain ⟨s19, a19, l19, c19, n19, i19⟩ := M8.out.int (i := 6) rfl
  have e19a := n19.c0
  have e19b := n19.c1
  have HA0 := hidD (fun (V : World) (h : Below V14.heap.size V14 V) => qdigits_c _ q n k V (r15.below h) HS.out HK1.out (tab_below HT.out (M8.out.2.2.trans (h.mono M8.out.2.2.size))))
  rw [HDD.out] at HA0
  have HA1 := hidD (fun (V : World) (h : Below V14.heap.size V14 V) => sdigits_c _ q n k V (r16.below h) HS1.out HK2.out)
  rw [HDD.out] at HA1
  have HA2 := hidD (fun (V : World) (h : Below V14.heap.size V14 V) => itext_c _ zf V (i18.below h) (tab_below HT.out (M8.out.2.2.trans (h.mono M8.out.2.2.size))))
  rw [HFF.out] at HA2
  have HA3 := hidD (fun (V : World) (h : Below V14.heap.size V14 V) => sfloor_c _ q V (r16.below h) HS.out)
  rw [Hzf.out] at HA3
  have HA4 := hidD (fun (V : World) (h : Below V14.heap.size V14 V) (v : Value) (gv : IsBig V v zf) => text_c v zf V gv (by have := HZF.out.size; omega))
  rw [HFF.out] at HA4
  have HA5 := hidD (fun (V : World) (h : Below V14.heap.size V14 V) => qtext_c _ 0 V (r17.below h) zero_sq (tab_below HT.out (M8.out.2.2.trans (h.mono M8.out.2.2.size))))
  rw [textQ_zero] at HA5
  have HA6 := hidD (fun (V : World) (h : Below V14.heap.size V14 V) => itext_c _ 1 V (i19.below h) (tab_below HT.out (M8.out.2.2.trans (h.mono M8.out.2.2.size))))
  rw [decZ_1] at HA6
  have HA7 := hidD (fun (V : World) (h : Below V14.heap.size V14 V) => kalive_c V (tab_below HT.out (M8.out.2.2.trans (h.mono M8.out.2.2.size))))
  have hq : Below V14.heap.size V14 V14.drew := (Below.refl _ V14).drew
  go_region_held3 (fun w' => w'.cell? ⟨B1, 0, none⟩ = some (.bool s15) ∧ w'.cell? ⟨B1, 1, none⟩ = some (.slice a15 l15 c15) ∧ w'.cell? ⟨B1, 2, none⟩ = some (.bool t15) ∧ w'.cell? ⟨B1, 3, none⟩ = some (.slice b15 k15 d15) ∧ w'.cell? ⟨B2, 0, none⟩ = some (.slice a16 l16 c16) ∧ w'.cell? ⟨B2, 1, none⟩ = some (.bool s16) ∧ w'.cell? ⟨B2, 2, none⟩ = some (.slice b16 k16 d16) ∧ w'.cell? ⟨B2, 3, none⟩ = some (.bool t16) ∧ w'.cell? ⟨B3, 0, none⟩ = some (.bool s17) ∧ w'.cell? ⟨B3, 1, none⟩ = some (.slice a17 l17 c17) ∧ w'.cell? ⟨B3, 2, none⟩ = some (.bool t17) ∧ w'.cell? ⟨B3, 3, none⟩ = some (.slice b17 k17 d17) ∧ w'.cell? ⟨B12, 0, none⟩ = some (.bool s18) ∧ w'.cell? ⟨B12, 1, none⟩ = some (.slice a18 l18 c18) ∧ w'.cell? ⟨B14, 0, none⟩ = some (.bool s19) ∧ w'.cell? ⟨B14, 1, none⟩ = some (.slice a19 l19 c19)) (first | (with_reducible exact ⟨e15a, e15b, e15c, e15d, e16a, e16b, e16c, e16d, e17a, e17b, e17c, e17d, e18a, e18b, e19a, e19b⟩) | (go_keep; done) | (refine ⟨?_, ?_, ?_, ?_, ?_, ?_, ?_, ?_, ?_, ?_, ?_, ?_, ?_, ?_, ?_, ?_⟩ <;> ((repeat rw [cell_set_nb (by omega)]); first | assumption | (go_keep; done))))
    (first
      | (go_at_call 16; refine (HA0.out _ hq).mono ?_; clear HA0; rintro e x0 ⟨rfl, hb0⟩; replace hq := Below.then hq hb0; clear hb0; clear e15a e15b e15c e15d; have e15a := (n15.below hq).c0; have e15b := (n15.below hq).c1; have e15c := (n15.below hq).c2; have e15d := (n15.below hq).c3; clear e16a e16b e16c e16d; have e16a := (n16.below hq).c0; have e16b := (n16.below hq).c1; have e16c := (n16.below hq).c2; have e16d := (n16.below hq).c3; clear e17a e17b e17c e17d; have e17a := (n17.below hq).c0; have e17b := (n17.below hq).c1; have e17c := (n17.below hq).c2; have e17d := (n17.below hq).c3; clear e18a e18b; have e18a := (n18.below hq).c0; have e18b := (n18.below hq).c1; clear e19a e19b; have e19a := (n19.below hq).c0; have e19b := (n19.below hq).c1)
      | (go_at_call 17; refine (HA1.out _ hq).mono ?_; clear HA1; rintro e x1 ⟨rfl, hb1⟩; replace hq := Below.then hq hb1; clear hb1; clear e15a e15b e15c e15d; have e15a := (n15.below hq).c0; have e15b := (n15.below hq).c1; have e15c := (n15.below hq).c2; have e15d := (n15.below hq).c3; clear e16a e16b e16c e16d; have e16a := (n16.below hq).c0; have e16b := (n16.below hq).c1; have e16c := (n16.below hq).c2; have e16d := (n16.below hq).c3; clear e17a e17b e17c e17d; have e17a := (n17.below hq).c0; have e17b := (n17.below hq).c1; have e17c := (n17.below hq).c2; have e17d := (n17.below hq).c3; clear e18a e18b; have e18a := (n18.below hq).c0; have e18b := (n18.below hq).c1; clear e19a e19b; have e19a := (n19.below hq).c0; have e19b := (n19.below hq).c1)
      | (go_at_call 13; refine (HA2.out _ hq).mono ?_; clear HA2; rintro e x2 ⟨rfl, hb2⟩; replace hq := Below.then hq hb2; clear hb2; clear e15a e15b e15c e15d; have e15a := (n15.below hq).c0; have e15b := (n15.below hq).c1; have e15c := (n15.below hq).c2; have e15d := (n15.below hq).c3; clear e16a e16b e16c e16d; have e16a := (n16.below hq).c0; have e16b := (n16.below hq).c1; have e16c := (n16.below hq).c2; have e16d := (n16.below hq).c3; clear e17a e17b e17c e17d; have e17a := (n17.below hq).c0; have e17b := (n17.below hq).c1; have e17c := (n17.below hq).c2; have e17d := (n17.below hq).c3; clear e18a e18b; have e18a := (n18.below hq).c0; have e18b := (n18.below hq).c1; clear e19a e19b; have e19a := (n19.below hq).c0; have e19b := (n19.below hq).c1)
      | (go_at_call 18; refine (HA3.out _ hq).mono ?_; clear HA3; rintro e x3 ⟨v3, rfl, gv, hb3⟩; replace hq := Below.then hq hb3; clear hb3; clear e15a e15b e15c e15d; have e15a := (n15.below hq).c0; have e15b := (n15.below hq).c1; have e15c := (n15.below hq).c2; have e15d := (n15.below hq).c3; clear e16a e16b e16c e16d; have e16a := (n16.below hq).c0; have e16b := (n16.below hq).c1; have e16c := (n16.below hq).c2; have e16d := (n16.below hq).c3; clear e17a e17b e17c e17d; have e17a := (n17.below hq).c0; have e17b := (n17.below hq).c1; have e17c := (n17.below hq).c2; have e17d := (n17.below hq).c3; clear e18a e18b; have e18a := (n18.below hq).c0; have e18b := (n18.below hq).c1; clear e19a e19b; have e19a := (n19.below hq).c0; have e19b := (n19.below hq).c1)
      | (go_at_call 14; refine (HA4.out _ hq _ gv).mono ?_; clear HA4; rintro e x4 ⟨rfl, hb4⟩; replace hq := Below.then hq hb4; clear hb4; clear e15a e15b e15c e15d; have e15a := (n15.below hq).c0; have e15b := (n15.below hq).c1; have e15c := (n15.below hq).c2; have e15d := (n15.below hq).c3; clear e16a e16b e16c e16d; have e16a := (n16.below hq).c0; have e16b := (n16.below hq).c1; have e16c := (n16.below hq).c2; have e16d := (n16.below hq).c3; clear e17a e17b e17c e17d; have e17a := (n17.below hq).c0; have e17b := (n17.below hq).c1; have e17c := (n17.below hq).c2; have e17d := (n17.below hq).c3; clear e18a e18b; have e18a := (n18.below hq).c0; have e18b := (n18.below hq).c1; clear e19a e19b; have e19a := (n19.below hq).c0; have e19b := (n19.below hq).c1)
      | (go_at_call 11; refine (HA5.out _ hq).mono ?_; clear HA5; rintro e x5 ⟨rfl, hb5⟩; replace hq := Below.then hq hb5; clear hb5; clear e15a e15b e15c e15d; have e15a := (n15.below hq).c0; have e15b := (n15.below hq).c1; have e15c := (n15.below hq).c2; have e15d := (n15.below hq).c3; clear e16a e16b e16c e16d; have e16a := (n16.below hq).c0; have e16b := (n16.below hq).c1; have e16c := (n16.below hq).c2; have e16d := (n16.below hq).c3; clear e17a e17b e17c e17d; have e17a := (n17.below hq).c0; have e17b := (n17.below hq).c1; have e17c := (n17.below hq).c2; have e17d := (n17.below hq).c3; clear e18a e18b; have e18a := (n18.below hq).c0; have e18b := (n18.below hq).c1; clear e19a e19b; have e19a := (n19.below hq).c0; have e19b := (n19.below hq).c1)
      | (go_at_call 13; refine (HA6.out _ hq).mono ?_; clear HA6; rintro e x6 ⟨rfl, hb6⟩; replace hq := Below.then hq hb6; clear hb6; clear e15a e15b e15c e15d; have e15a := (n15.below hq).c0; have e15b := (n15.below hq).c1; have e15c := (n15.below hq).c2; have e15d := (n15.below hq).c3; clear e16a e16b e16c e16d; have e16a := (n16.below hq).c0; have e16b := (n16.below hq).c1; have e16c := (n16.below hq).c2; have e16d := (n16.below hq).c3; clear e17a e17b e17c e17d; have e17a := (n17.below hq).c0; have e17b := (n17.below hq).c1; have e17c := (n17.below hq).c2; have e17d := (n17.below hq).c3; clear e18a e18b; have e18a := (n18.below hq).c0; have e18b := (n18.below hq).c1; clear e19a e19b; have e19a := (n19.below hq).c0; have e19b := (n19.below hq).c1)
      | (go_at_call 19; refine (HA7.out _ hq).mono ?_; clear HA7; rintro e x7 ⟨rfl, hb7⟩; replace hq := Below.then hq hb7; clear hb7; clear e15a e15b e15c e15d; have e15a := (n15.below hq).c0; have e15b := (n15.below hq).c1; have e15c := (n15.below hq).c2; have e15d := (n15.below hq).c3; clear e16a e16b e16c e16d; have e16a := (n16.below hq).c0; have e16b := (n16.below hq).c1; have e16c := (n16.below hq).c2; have e16d := (n16.below hq).c3; clear e17a e17b e17c e17d; have e17a := (n17.below hq).c0; have e17b := (n17.below hq).c1; have e17c := (n17.below hq).c2; have e17d := (n17.below hq).c3; clear e18a e18b; have e18a := (n18.below hq).c0; have e18b := (n18.below hq).c1; clear e19a e19b; have e19a := (n19.below hq).c0; have e19b := (n19.below hq).c1))
  all_goals go_wp2_with fail
  go_ret
  exact ⟨rfl, M8.out.2.2.trans (hq.mono M8.out.2.2.size)⟩
end Go.Proofs.YtcahodpphikgnaaGreatDoor
