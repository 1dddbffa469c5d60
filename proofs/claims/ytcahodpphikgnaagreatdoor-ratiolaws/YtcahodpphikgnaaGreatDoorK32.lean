import Derived.Test.YtcahodpphikgnaaGreatDoorK23
import Derived.Test.YtcahodpphikgnaaGreatDoorK31
import Derived.Test.YtcahodpphikgnaaGreatDoorK28
import Derived.Test.YtcahodpphikgnaaGreatDoorK27
namespace Go.Proofs.YtcahodpphikgnaaGreatDoor
open Go.RowKit Go.Shelf

attribute [local go_sem] Oper.semAt_some

/-- What a call of the document's Parse leaves. -/
def ParseF (l : List UInt8) (w : World) (e : Ending) (w' : World) : Prop := ∃ u, e = .returned (.tuple #[u, .bool (parseQ l).isSome]) ∧ IsRef w' u (valQ l) ∧ Below w.heap.size w w'
theorem ParseF.of {l : List UInt8} {w w' : World} {u : Value} {o : Option Rat} (h : parseQ l = o) {b : Bool} (hb : o.isSome = b) (hu : IsRef w' u (o.getD 0)) (hB : Below w.heap.size w w') : ParseF l w (.returned (.tuple #[u, .bool b])) w' :=
  ⟨u, by rw [h, hb], by unfold valQ; rw [h]; exact hu, hB⟩

theorem byte_ne {s : ByteArray} {i : Nat} (h : i < s.size) (hi : i < slashAt (wlst s)) : ((s[i].toNat : Int) == 47) = false := by
  have h1 : (wlst s)[i]? = some s[i] := by
    unfold wlst
    rw [Array.getElem?_toList, Array.getElem?_eq_getElem (by exact h)]
    rfl
  have h2 : s[i] ≠ 47 := by
    rcases slash_index (wlst s) with ⟨_, h3⟩ | ⟨_, h3⟩
    · have := (Lib.indexByte_some h3).2 i hi
      rw [h1] at this
      exact fun e => this (by rw [e])
    · have := Lib.indexByte_none h3 i
      rw [h1] at this
      exact fun e => this (by rw [e])
  rw [beq_eq_false_iff_ne]
  intro h3
  apply h2
  apply UInt8.toNat_inj.1
  show s[i].toNat = 47
  omega
theorem byte_eq {s : ByteArray} {k : Nat} (hk : slashAt (wlst s) = k) (h : k < s.size) : ((s[k].toNat : Int) == 47) = true := by
  have hl := wlst_length s
  have h1 : (wlst s)[k]? = some s[k] := by
    unfold wlst
    rw [Array.getElem?_toList, Array.getElem?_eq_getElem (by exact h)]
    rfl
  rcases slash_index (wlst s) with ⟨_, h3⟩ | ⟨h3, _⟩
  · have h4 := (Lib.indexByte_some h3).1
    rw [hk, h1] at h4
    have h5 : s[k] = 47 := by simpa using h4
    rw [h5]; rfl
  · omega

set_option maxRecDepth 100000 in
set_option maxHeartbeats 4000000 in
theorem sparseB (s : ByteArray) (hsz : s.size ≤ 140737488351232) (hs : slashAt (wlst s) = (wlst s).length) (w : World) : Calls Tryz.prog 8 #[.string s] w (ParseF (wlst s) w) := by
  have hl := wlst_length s
  obtain ⟨k, hk⟩ : ∃ k, slashAt (wlst s) = k := ⟨_, rfl⟩
  have hks : k = s.size := by omega
  have HK := hidD hk
  have HP := hidD (fun (V : World) => parse_u (s.extract 0 k) (by rw [ByteArray.size_extract]; omega) V)
  rw [wlst_take, show (wlst s).take k = wlst s from List.take_of_length_le (by omega)] at HP
  have HG := hidD (show good (wlst s) = true → s.size ≤ 2000 by
    intro h
    simp only [good, Bool.and_eq_true, decide_eq_true_eq] at h
    omega)
  have HL := hidD (show parseQ (wlst s) = if good (wlst s) = true then some ((valZ (wlst s) : Int) : Rat) else none by
    rcases Nat.lt_or_ge 2000 s.size with h | h
    · rw [pq_long (by omega), if_neg (fun g => by have := HG.out g; omega)]
    · exact pq_plain (by omega) hs)
  obtain ⟨sA, hsA⟩ : ∃ t, s.extract 0 k = t := ⟨_, rfl⟩
  rw [hsA] at HP
  have HSA := hidD hsA
  obtain ⟨zv, hzv⟩ : ∃ z, val0 (wlst s) = z := ⟨_, rfl⟩
  obtain ⟨ok, hok⟩ : ∃ b, good (wlst s) = b := ⟨_, rfl⟩
  rw [hzv, hok] at HP
  have HE := hidD (show ok = true → valZ (wlst s) = zv by rw [← hok, ← hzv]; unfold val0; exact fun h => by rw [if_pos h])
  rw [hok] at HL HG
  have hk1 : (0 : Int) ≤ (k : Int) := by omega
  have hk2 : (k : Int) ≤ (s.size : Int) := by omega
  have hdk : decide ((k : Int) < (s.size : Int)) = false := decide_eq_false (by omega)
  have hek : ((k : Int) == (s.size : Int)) = true := by rw [hks]; simp
  have hkl : k ≤ s.size := by omega
  clear hl hs hzv hok hsA hk hks
  have M0 := ((Mem.nil w).push .zref rfl)
  have M0 : Mem w (w.alloc (.cells #[.slice none 0 0, .bool false, .slice none 0 0, .bool false] 34)) [some (w.heap.size, .zref)] := M0
  obtain ⟨W0, hW0⟩ : ∃ W0, w.alloc (.cells #[.slice none 0 0, .bool false, .slice none 0 0, .bool false] 34) = W0 := ⟨_, rfl⟩
  have HW0 := hidD hW0
  rw [hW0] at M0
  have M1 : Hid (Mem w W0 [some (w.heap.size, .zref)]) := hidD M0
  clear M0 hW0  
  go_enter Tryz.func8, Tryz.ntmps8
  go_upto_region 1 with fail
  rw [HW0.out]
  clear HW0
  go_wp2_with fail
  go_loop [4] (fun iv => ∃ i : Nat, iv = .int .i64 i ∧ i ≤ k) (fun iv => k - (intOf iv).toNat)
  case atStart => exact ⟨0, rfl, Nat.zero_le _⟩
  case round =>
    obtain ⟨i, rfl, hi⟩ := hrel
    rcases Nat.lt_or_ge i k with hlt | hge
    · have hl1 : i < s.size := by omega
      have hb := byte_ne hl1 (HK.out ▸ hlt)
      have hd : decide ((i : Int) < (s.size : Int)) = true := decide_eq_true (by omega)
      have hwr : IntKind.i64.wrap ((i : Int) + 1) = (i : Int) + 1 := by rw [IntKind.wrap_i64]; omega
      go_wp2_with fail
      go_round
      case rel => exact ⟨i + 1, by first | rfl | simp, by omega⟩
      case measure => simp [intOf]; omega
    · have hik : i = k := by omega
      subst hik
      go_upto_region 5 with (go_at_call 20; try rw [HSA.out]; refine (HP.out _).mono ?_; clear HP; rintro e w2 ⟨u, rfl, hu, hb2⟩; obtain ⟨a90, l90, c90, s90, rfl⟩ := IsBig.form2 hu)
      obtain ⟨V1, hV⟩ : ∃ V, w2.alloc (.cells #[.slice a90 l90 c90, .bool s90] 32) = V := ⟨_, rfl⟩
      obtain ⟨B1, hBk⟩ : ∃ B, w2.heap.size = B := ⟨_, rfl⟩
      have MM : Mem w (w2.alloc (.cells #[.slice a90 l90 c90, .bool s90] 32)) [some (w.heap.size, .zref), some (w2.heap.size, .big (zv))] := Mem.push (M1.out.below hb2) (.big (zv)) hu
      rw [hV, hBk] at MM
      rw [hV]
      rw [hBk]
      have M2 : Hid (Mem w V1 [some (w.heap.size, .zref), some (B1, .big (zv))]) := hidD (MM)
      clear M1
      clear MM hV hBk
      clear hu hb2
      cases ok with
      | false =>
        have HL2 := hidD (show parseQ (wlst s) = none by rw [HL.out]; simp)
        have n2 := M2.out.zref (i := 0) rfl
        have e2a := n2.c0
        have e2b := n2.c1
        have e2c := n2.c2
        have e2d := n2.c3
        have f2a := n2.f0
        have f2b := n2.f1
        have f2c := n2.f2
        have f2d := n2.f3
        have HW := hidD (fun (V : World) => swhole_c 0 (by omega) (by omega) V)
        have hq : Below V1.heap.size V1 V1 := Below.refl _ _
        go_wp2_with (first
          | (go_at_call 45; refine (HW.out _).mono ?_; clear HW; rintro e w9 ⟨u9, rfl, hu9, hb9⟩; obtain ⟨a95, l95, c95, s95, b95, k95, d95, t95, rfl⟩ := IsRef.form hu9; have hq := Below.then hq hb9; have e2a := (n2.below hq).c0; have e2b := (n2.below hq).c1; have e2c := (n2.below hq).c2; have e2d := (n2.below hq).c3; have f2a := (n2.below hq).f0; have f2b := (n2.below hq).f1; have f2c := (n2.below hq).f2; have f2d := (n2.below hq).f3))
        have hq2 := M2.out.2.2.trans (hq.mono M2.out.2.2.size)
        have hge := M2.out.ge 0 rfl
        exact bodyPost_ret (v := .tuple #[.agg #[.slice a95 l95 c95, .bool s95, .slice b95 k95 d95, .bool t95], .bool false]) (by simp [results, Tryz.results8, go_sem, e2a, e2b, e2c, e2d]) rfl (ParseF.of (o := none) HL2.out rfl (hu9.put4 (n2.below hq) rfl rfl rfl rfl _ _ _ _) (below_put4 hq2 hge _ _ _ _))
      | true =>
        have HL2 := hidD (show parseQ (wlst s) = some ((zv : Int) : Rat) by rw [HL.out, HE.out (by first | rfl | trivial)]; simp)
        have h20 : ¬ ((2000 : Int) < (s.size : Int)) := by have := HG.out (by first | rfl | trivial); omega
        go_upto_region 8 with fail
        obtain ⟨a3, l3, c3, s3, n3, i3⟩ := M2.out.big (i := 1) rfl
        have e3a := n3.c0
        have e3b := n3.c1
        have n4 := M2.out.zref (i := 0) rfl
        have e4a := n4.c0
        have e4b := n4.c1
        have e4c := n4.c2
        have e4d := n4.c3
        have f4a := n4.f0
        have f4b := n4.f1
        have f4c := n4.f2
        have f4d := n4.f3
        have H1 := hidD (fun (V : World) (h : Below V1.heap.size V1 V) => of_c 1 (by omega) (by omega) V)
        have ne1 : B1 ≠ w.heap.size := M2.out.ne 1 0 rfl rfl (by decide)
        have hq : Below V1.heap.size V1 V1.drew := (Below.refl _ V1).drew
        go_region_held3 (fun w' => w'.cell? ⟨B1, 0, none⟩ = some (.slice a3 l3 c3) ∧ w'.cell? ⟨B1, 1, none⟩ = some (.bool s3)) (first | (with_reducible exact ⟨e3a, e3b⟩) | (go_keep; done) | (refine ⟨?_, ?_⟩ <;> ((repeat rw [cell_set_nb (by omega)]); first | assumption | (go_keep; done))))
          (first
            | (go_at_call 46; refine (H1.out _ hq ).mono ?_; clear H1; rintro e w1 ⟨v1, rfl, g1, hb1⟩; obtain ⟨a91, l91, c91, s91, rfl⟩ := IsBig.form2 g1; have hq := Below.then hq hb1; have e3a := (n3.below hq).c0; have e3b := (n3.below hq).c1; have e4a := (n4.below hq).c0; have e4b := (n4.below hq).c1; have e4c := (n4.below hq).c2; have e4d := (n4.below hq).c3; have f4a := (n4.below hq).f0; have f4b := (n4.below hq).f1; have f4c := (n4.below hq).f2; have f4d := (n4.below hq).f3))
        all_goals go_wp2_with fail
        have hr : IsRef w1 (.agg #[.slice a3 l3 c3, .bool s3, .slice a91 l91 c91, .bool s91]) ((some ((zv : Int) : Rat)).getD 0) := IsRef.mk (i3.below hq) g1
        have hq2 := M2.out.2.2.trans (hq.mono M2.out.2.2.size)
        have hge := M2.out.ge 0 rfl
        exact bodyPost_ret (v := .tuple #[.agg #[.slice a3 l3 c3, .bool s3, .slice a91 l91 c91, .bool s91], .bool true]) (by simp [results, Tryz.results8, go_sem, e4a, e4b, e4c, e4d]) rfl (ParseF.of HL2.out rfl (hr.put4 (n4.below hq) rfl rfl rfl rfl _ _ _ _) (below_put4 hq2 hge _ _ _ _))

set_option maxRecDepth 100000 in
set_option maxHeartbeats 8000000 in
theorem sparseC (s : ByteArray) (hsz : s.size ≤ 140737488351232) (hs : slashAt (wlst s) < (wlst s).length) (w : World) : Calls Tryz.prog 8 #[.string s] w (ParseF (wlst s) w) := by
  have hl := wlst_length s
  obtain ⟨k, hk⟩ : ∃ k, slashAt (wlst s) = k := ⟨_, rfl⟩
  have hks : k < s.size := by omega
  have HK := hidD hk
  have h47 := byte_eq hk hks
  have HP1 := hidD (fun (V : World) => parse_u (s.extract 0 k) (by rw [ByteArray.size_extract]; omega) V)
  have HP2 := hidD (fun (V : World) => parse_u (s.extract (k + 1) s.size) (by rw [ByteArray.size_extract]; omega) V)
  rw [wlst_take] at HP1
  rw [wlst_drop] at HP2
  have HLL := hidD (show 2000 < s.size → parseQ (wlst s) = none from fun h => pq_long (by omega))
  have HL := hidD (show ¬ 2000 < s.size → _ from fun h => pq_slash (l := wlst s) (by omega) hs)
  rw [hk] at HL
  obtain ⟨lA, hlA⟩ : ∃ l, (wlst s).take k = l := ⟨_, rfl⟩
  obtain ⟨lB, hlB⟩ : ∃ l, (wlst s).drop (k + 1) = l := ⟨_, rfl⟩
  rw [hlA, hlB] at HL
  rw [hlA] at HP1
  rw [hlB] at HP2
  obtain ⟨sA, hsA⟩ : ∃ t, s.extract 0 k = t := ⟨_, rfl⟩
  obtain ⟨sB, hsB⟩ : ∃ t, s.extract (k + 1) s.size = t := ⟨_, rfl⟩
  have HSA := hidD hsA
  have HSB := hidD hsB
  rw [hsA] at HP1
  rw [hsB] at HP2
  obtain ⟨za, hza⟩ : ∃ z, val0 lA = z := ⟨_, rfl⟩
  obtain ⟨zb, hzb⟩ : ∃ z, val0 lB = z := ⟨_, rfl⟩
  obtain ⟨oa, hoa⟩ : ∃ b, good lA = b := ⟨_, rfl⟩
  obtain ⟨ob, hob⟩ : ∃ b, good lB = b := ⟨_, rfl⟩
  have HZA := hidD (show Sok za by rw [← hza]; exact val0_sok _)
  have HZB := hidD (show Sok zb by rw [← hzb]; exact val0_sok _)
  have HA := hidD (show (oa = true → valZ lA = za) by rw [← hoa, ← hza]; unfold val0; exact fun h => by rw [if_pos h])
  have HB := hidD (show (ob = true → valZ lB = zb) by rw [← hob, ← hzb]; unfold val0; exact fun h => by rw [if_pos h])
  rw [hza, hoa] at HP1
  rw [hzb, hob] at HP2
  rw [hoa, hob] at HL
  have hk1 : (0 : Int) ≤ (k : Int) := by omega
  have hk2 : (k : Int) ≤ (s.size : Int) := by omega
  have hk3 : IntKind.i64.wrap ((k : Int) + 1) = (k : Int) + 1 := by rw [IntKind.wrap_i64]; omega
  have hk4 : (0 : Int) ≤ (k : Int) + 1 := by omega
  have hk5 : (k : Int) + 1 ≤ (s.size : Int) := by omega
  clear hl hs hlA hlB hsA hsB hza hzb hoa hob hk
  have M0 := ((Mem.nil w).push .zref rfl)
  have M0 : Mem w (w.alloc (.cells #[.slice none 0 0, .bool false, .slice none 0 0, .bool false] 34)) [some (w.heap.size, .zref)] := M0
  obtain ⟨W0, hW0⟩ : ∃ W0, w.alloc (.cells #[.slice none 0 0, .bool false, .slice none 0 0, .bool false] 34) = W0 := ⟨_, rfl⟩
  have HW0 := hidD hW0
  rw [hW0] at M0
  have M1 : Hid (Mem w W0 [some (w.heap.size, .zref)]) := hidD M0
  clear M0 hW0  
  go_enter Tryz.func8, Tryz.ntmps8
  go_upto_region 1 with fail
  rw [HW0.out]
  clear HW0
  go_wp2_with fail
  go_loop [4] (fun iv => ∃ i : Nat, iv = .int .i64 i ∧ i ≤ k) (fun iv => k - (intOf iv).toNat)
  case atStart => exact ⟨0, rfl, Nat.zero_le _⟩
  case round =>
    obtain ⟨i, rfl, hi⟩ := hrel
    rcases Nat.lt_or_ge i k with hlt | hge
    · have hl1 : i < s.size := by omega
      have hb := byte_ne hl1 (HK.out ▸ hlt)
      have hd : decide ((i : Int) < (s.size : Int)) = true := decide_eq_true (by omega)
      have hwr : IntKind.i64.wrap ((i : Int) + 1) = (i : Int) + 1 := by rw [IntKind.wrap_i64]; omega
      go_wp2_with fail
      go_round
      case rel => exact ⟨i + 1, by first | rfl | simp, by omega⟩
      case measure => simp [intOf]; omega
    · have hik : i = k := by omega
      subst hik
      have hd : decide ((i : Int) < (s.size : Int)) = true := decide_eq_true (by omega)
      go_upto_region 5 with (go_at_call 20; try rw [HSA.out]; refine (HP1.out _).mono ?_; clear HP1; rintro e w2 ⟨u, rfl, hu, hb2⟩; obtain ⟨a90, l90, c90, s90, rfl⟩ := IsBig.form2 hu)
      obtain ⟨V1, hV⟩ : ∃ V, w2.alloc (.cells #[.slice a90 l90 c90, .bool s90] 32) = V := ⟨_, rfl⟩
      obtain ⟨B1, hBk⟩ : ∃ B, w2.heap.size = B := ⟨_, rfl⟩
      have MM : Mem w (w2.alloc (.cells #[.slice a90 l90 c90, .bool s90] 32)) [some (w.heap.size, .zref), some (w2.heap.size, .big (za))] := Mem.push (M1.out.below hb2) (.big (za)) hu
      rw [hV, hBk] at MM
      rw [hV]
      rw [hBk]
      have M2 : Hid (Mem w V1 [some (w.heap.size, .zref), some (B1, .big (za))]) := hidD (MM)
      clear M1
      clear MM hV hBk
      clear hu hb2
      by_cases h20 : 2000 < s.size
      · have HL2 := hidD (HLL.out h20)
        have h21 : (2000 : Int) < (s.size : Int) := by omega
        cases oa with
        | false =>
          have n2 := M2.out.zref (i := 0) rfl
          have e2a := n2.c0
          have e2b := n2.c1
          have e2c := n2.c2
          have e2d := n2.c3
          have f2a := n2.f0
          have f2b := n2.f1
          have f2c := n2.f2
          have f2d := n2.f3
          have HW := hidD (fun (V : World) => swhole_c 0 (by omega) (by omega) V)
          have hq : Below V1.heap.size V1 V1 := Below.refl _ _
          go_wp2_with (first
            | (go_at_call 45; refine (HW.out _).mono ?_; clear HW; rintro e w9 ⟨u9, rfl, hu9, hb9⟩; obtain ⟨a95, l95, c95, s95, b95, k95, d95, t95, rfl⟩ := IsRef.form hu9; have hq := Below.then hq hb9; have e2a := (n2.below hq).c0; have e2b := (n2.below hq).c1; have e2c := (n2.below hq).c2; have e2d := (n2.below hq).c3; have f2a := (n2.below hq).f0; have f2b := (n2.below hq).f1; have f2c := (n2.below hq).f2; have f2d := (n2.below hq).f3))
          have hq2 := M2.out.2.2.trans (hq.mono M2.out.2.2.size)
          have hge := M2.out.ge 0 rfl
          exact bodyPost_ret (v := .tuple #[.agg #[.slice a95 l95 c95, .bool s95, .slice b95 k95 d95, .bool t95], .bool false]) (by simp [results, Tryz.results8, go_sem, e2a, e2b, e2c, e2d]) rfl (ParseF.of (o := none) HL2.out rfl (hu9.put4 (n2.below hq) rfl rfl rfl rfl _ _ _ _) (below_put4 hq2 hge _ _ _ _))
        | true =>
          have n3 := M2.out.zref (i := 0) rfl
          have e3a := n3.c0
          have e3b := n3.c1
          have e3c := n3.c2
          have e3d := n3.c3
          have f3a := n3.f0
          have f3b := n3.f1
          have f3c := n3.f2
          have f3d := n3.f3
          have HW := hidD (fun (V : World) => swhole_c 0 (by omega) (by omega) V)
          have hq : Below V1.heap.size V1 V1 := Below.refl _ _
          go_wp2_with (first
            | (go_at_call 45; refine (HW.out _).mono ?_; clear HW; rintro e w9 ⟨u9, rfl, hu9, hb9⟩; obtain ⟨a95, l95, c95, s95, b95, k95, d95, t95, rfl⟩ := IsRef.form hu9; have hq := Below.then hq hb9; have e3a := (n3.below hq).c0; have e3b := (n3.below hq).c1; have e3c := (n3.below hq).c2; have e3d := (n3.below hq).c3; have f3a := (n3.below hq).f0; have f3b := (n3.below hq).f1; have f3c := (n3.below hq).f2; have f3d := (n3.below hq).f3))
          have hq2 := M2.out.2.2.trans (hq.mono M2.out.2.2.size)
          have hge := M2.out.ge 0 rfl
          exact bodyPost_ret (v := .tuple #[.agg #[.slice a95 l95 c95, .bool s95, .slice b95 k95 d95, .bool t95], .bool false]) (by simp [results, Tryz.results8, go_sem, e3a, e3b, e3c, e3d]) rfl (ParseF.of (o := none) HL2.out rfl (hu9.put4 (n3.below hq) rfl rfl rfl rfl _ _ _ _) (below_put4 hq2 hge _ _ _ _))
      · have HL3 := hidD (HL.out h20)
        have h21 : ¬ ((2000 : Int) < (s.size : Int)) := by omega
        clear h20 HL HLL
        cases oa with
        | false =>
          have HL2 := hidD (show parseQ (wlst s) = none by rw [HL3.out]; simp)
          have n4 := M2.out.zref (i := 0) rfl
          have e4a := n4.c0
          have e4b := n4.c1
          have e4c := n4.c2
          have e4d := n4.c3
          have f4a := n4.f0
          have f4b := n4.f1
          have f4c := n4.f2
          have f4d := n4.f3
          have HW := hidD (fun (V : World) => swhole_c 0 (by omega) (by omega) V)
          have hq : Below V1.heap.size V1 V1 := Below.refl _ _
          go_wp2_with (first
            | (go_at_call 45; refine (HW.out _).mono ?_; clear HW; rintro e w9 ⟨u9, rfl, hu9, hb9⟩; obtain ⟨a95, l95, c95, s95, b95, k95, d95, t95, rfl⟩ := IsRef.form hu9; have hq := Below.then hq hb9; have e4a := (n4.below hq).c0; have e4b := (n4.below hq).c1; have e4c := (n4.below hq).c2; have e4d := (n4.below hq).c3; have f4a := (n4.below hq).f0; have f4b := (n4.below hq).f1; have f4c := (n4.below hq).f2; have f4d := (n4.below hq).f3))
          have hq2 := M2.out.2.2.trans (hq.mono M2.out.2.2.size)
          have hge := M2.out.ge 0 rfl
          exact bodyPost_ret (v := .tuple #[.agg #[.slice a95 l95 c95, .bool s95, .slice b95 k95 d95, .bool t95], .bool false]) (by simp [results, Tryz.results8, go_sem, e4a, e4b, e4c, e4d]) rfl (ParseF.of (o := none) HL2.out rfl (hu9.put4 (n4.below hq) rfl rfl rfl rfl _ _ _ _) (below_put4 hq2 hge _ _ _ _))
        | true =>
          have hke : ((i : Int) == (s.size : Int)) = false := by rw [beq_eq_false_iff_ne]; omega
          go_upto_region 10 with (go_at_call 20; try rw [HSB.out]; refine (HP2.out _).mono ?_; clear HP2; rintro e w3 ⟨u, rfl, hu, hb3⟩; obtain ⟨a91, l91, c91, s91, rfl⟩ := IsBig.form2 hu)
          obtain ⟨V5, hV⟩ : ∃ V, w3.alloc (.cells #[.slice a91 l91 c91, .bool s91] 32) = V := ⟨_, rfl⟩
          obtain ⟨B5, hBk⟩ : ∃ B, w3.heap.size = B := ⟨_, rfl⟩
          have MM : Mem w (w3.alloc (.cells #[.slice a91 l91 c91, .bool s91] 32)) [some (w.heap.size, .zref), some (B1, .big (za)), some (w3.heap.size, .big (zb))] := Mem.push (M2.out.below hb3) (.big (zb)) hu
          rw [hV, hBk] at MM
          rw [hV]
          rw [hBk]
          have M3 : Hid (Mem w V5 [some (w.heap.size, .zref), some (B1, .big (za)), some (B5, .big (zb))]) := hidD (MM)
          clear M2
          clear MM hV hBk
          clear hu hb3
          cases ob with
          | false =>
            have HL2 := hidD (show parseQ (wlst s) = none by rw [HL3.out]; simp)
            have n6 := M3.out.zref (i := 0) rfl
            have e6a := n6.c0
            have e6b := n6.c1
            have e6c := n6.c2
            have e6d := n6.c3
            have f6a := n6.f0
            have f6b := n6.f1
            have f6c := n6.f2
            have f6d := n6.f3
            have HW := hidD (fun (V : World) => swhole_c 0 (by omega) (by omega) V)
            have hq : Below V5.heap.size V5 V5 := Below.refl _ _
            go_wp2_with (first
              | (go_at_call 45; refine (HW.out _).mono ?_; clear HW; rintro e w9 ⟨u9, rfl, hu9, hb9⟩; obtain ⟨a95, l95, c95, s95, b95, k95, d95, t95, rfl⟩ := IsRef.form hu9; have hq := Below.then hq hb9; have e6a := (n6.below hq).c0; have e6b := (n6.below hq).c1; have e6c := (n6.below hq).c2; have e6d := (n6.below hq).c3; have f6a := (n6.below hq).f0; have f6b := (n6.below hq).f1; have f6c := (n6.below hq).f2; have f6d := (n6.below hq).f3))
            have hq2 := M3.out.2.2.trans (hq.mono M3.out.2.2.size)
            have hge := M3.out.ge 0 rfl
            exact bodyPost_ret (v := .tuple #[.agg #[.slice a95 l95 c95, .bool s95, .slice b95 k95 d95, .bool t95], .bool false]) (by simp [results, Tryz.results8, go_sem, e6a, e6b, e6c, e6d]) rfl (ParseF.of (o := none) HL2.out rfl (hu9.put4 (n6.below hq) rfl rfl rfl rfl _ _ _ _) (below_put4 hq2 hge _ _ _ _))
          | true =>
            obtain ⟨a7, l7, c7, s7, n7, i7⟩ := M3.out.big (i := 1) rfl
            have e7a := n7.c0
            have e7b := n7.c1
            obtain ⟨a8, l8, c8, s8, n8, i8⟩ := M3.out.big (i := 2) rfl
            have e8a := n8.c0
            have e8b := n8.c1
            have HO := hidD (rsign_c _ zb V5 i8)
            by_cases hz : 0 < zb
            · have HZ := hidD hz
              have HL2 := hidD (show parseQ (wlst s) = some (Rat.divInt za zb) by rw [HL3.out, HA.out (by first | rfl | trivial), HB.out (by first | rfl | trivial), if_pos (by first | exact ⟨rfl, rfl, hz⟩ | exact ⟨trivial, rfl, hz⟩ | exact ⟨trivial, trivial, hz⟩)])
              rw [Int.sign_eq_one_of_pos hz] at HO
              clear hz
              have n9 := M3.out.zref (i := 0) rfl
              have e9a := n9.c0
              have e9b := n9.c1
              have e9c := n9.c2
              have e9d := n9.c3
              have f9a := n9.f0
              have f9b := n9.f1
              have f9c := n9.f2
              have f9d := n9.f3
              have HR := hidD (fun (V : World) (h : Below V5.heap.size V5 V) => smade_c _ _ za zb V (i7.below h) (i8.below h) (by have := HZ.out; omega) HZA.out HZB.out)
              go_wp2_with (first
                | (go_at_call 23; refine HO.out.mono ?_; clear HO; rintro e w4 ⟨rfl, hq⟩; have e7a := (n7.below hq).c0; have e7b := (n7.below hq).c1; have e8a := (n8.below hq).c0; have e8b := (n8.below hq).c1)
                | (go_at_call 24; refine (HR.out _ hq).mono ?_; clear HR; rintro e w5 ⟨u5, rfl, hu5, hb5⟩; obtain ⟨a92, l92, c92, s92, b92, k92, d92, t92, rfl⟩ := IsRef.form hu5; have hq := Below.then hq hb5; have e9a := (n9.below hq).c0; have e9b := (n9.below hq).c1; have e9c := (n9.below hq).c2; have e9d := (n9.below hq).c3; have f9a := (n9.below hq).f0; have f9b := (n9.below hq).f1; have f9c := (n9.below hq).f2; have f9d := (n9.below hq).f3))
              have hq2 := M3.out.2.2.trans (hq.mono M3.out.2.2.size)
              have hge := M3.out.ge 0 rfl
              exact bodyPost_ret (v := .tuple #[.agg #[.slice a92 l92 c92, .bool s92, .slice b92 k92 d92, .bool t92], .bool true]) (by simp [results, Tryz.results8, go_sem, e9a, e9b, e9c, e9d]) rfl (ParseF.of HL2.out rfl (hu5.put4 (n9.below hq) rfl rfl rfl rfl _ _ _ _) (below_put4 hq2 hge _ _ _ _))
            · have HL2 := hidD (show parseQ (wlst s) = none by rw [HL3.out, HB.out (by first | rfl | trivial), if_neg (fun h => hz h.2.2)])
              rcases Int.lt_or_eq_of_le (show zb ≤ 0 by omega) with hz1 | hz1
              · rw [Int.sign_eq_neg_one_of_neg hz1] at HO
                clear hz1 hz
                have n10 := M3.out.zref (i := 0) rfl
                have e10a := n10.c0
                have e10b := n10.c1
                have e10c := n10.c2
                have e10d := n10.c3
                have f10a := n10.f0
                have f10b := n10.f1
                have f10c := n10.f2
                have f10d := n10.f3
                have HW := hidD (fun (V : World) => swhole_c 0 (by omega) (by omega) V)
                have hq : Below V5.heap.size V5 V5 := Below.refl _ _
                go_wp2_with (first
                  | (go_at_call 23; refine HO.out.mono ?_; clear HO; rintro e w4 ⟨rfl, hb4⟩; have hq := Below.then hq hb4)
                  | (go_at_call 45; refine (HW.out _).mono ?_; clear HW; rintro e w9 ⟨u9, rfl, hu9, hb9⟩; obtain ⟨a95, l95, c95, s95, b95, k95, d95, t95, rfl⟩ := IsRef.form hu9; have hq := Below.then hq hb9; have e10a := (n10.below hq).c0; have e10b := (n10.below hq).c1; have e10c := (n10.below hq).c2; have e10d := (n10.below hq).c3; have f10a := (n10.below hq).f0; have f10b := (n10.below hq).f1; have f10c := (n10.below hq).f2; have f10d := (n10.below hq).f3))
                have hq2 := M3.out.2.2.trans (hq.mono M3.out.2.2.size)
                have hge := M3.out.ge 0 rfl
                exact bodyPost_ret (v := .tuple #[.agg #[.slice a95 l95 c95, .bool s95, .slice b95 k95 d95, .bool t95], .bool false]) (by simp [results, Tryz.results8, go_sem, e10a, e10b, e10c, e10d]) rfl (ParseF.of (o := none) HL2.out rfl (hu9.put4 (n10.below hq) rfl rfl rfl rfl _ _ _ _) (below_put4 hq2 hge _ _ _ _))
              · rw [hz1, Int.sign_zero] at HO
                clear hz
                have n11 := M3.out.zref (i := 0) rfl
                have e11a := n11.c0
                have e11b := n11.c1
                have e11c := n11.c2
                have e11d := n11.c3
                have f11a := n11.f0
                have f11b := n11.f1
                have f11c := n11.f2
                have f11d := n11.f3
                have HW := hidD (fun (V : World) => swhole_c 0 (by omega) (by omega) V)
                have hq : Below V5.heap.size V5 V5 := Below.refl _ _
                go_wp2_with (first
                  | (go_at_call 23; refine HO.out.mono ?_; clear HO; rintro e w4 ⟨rfl, hb4⟩; have hq := Below.then hq hb4)
                  | (go_at_call 45; refine (HW.out _).mono ?_; clear HW; rintro e w9 ⟨u9, rfl, hu9, hb9⟩; obtain ⟨a95, l95, c95, s95, b95, k95, d95, t95, rfl⟩ := IsRef.form hu9; have hq := Below.then hq hb9; have e11a := (n11.below hq).c0; have e11b := (n11.below hq).c1; have e11c := (n11.below hq).c2; have e11d := (n11.below hq).c3; have f11a := (n11.below hq).f0; have f11b := (n11.below hq).f1; have f11c := (n11.below hq).f2; have f11d := (n11.below hq).f3))
                have hq2 := M3.out.2.2.trans (hq.mono M3.out.2.2.size)
                have hge := M3.out.ge 0 rfl
                exact bodyPost_ret (v := .tuple #[.agg #[.slice a95 l95 c95, .bool s95, .slice b95 k95 d95, .bool t95], .bool false]) (by simp [results, Tryz.results8, go_sem, e11a, e11b, e11c, e11d]) rfl (ParseF.of (o := none) HL2.out rfl (hu9.put4 (n11.below hq) rfl rfl rfl rfl _ _ _ _) (below_put4 hq2 hge _ _ _ _))

theorem sparse_c (s : ByteArray) (hs : s.size ≤ 140737488351232) (w : World) : Calls Tryz.prog 8 #[.string s] w (ParseF (wlst s) w) := by
  rcases slash_index (wlst s) with ⟨h1, _⟩ | ⟨h1, _⟩
  · exact sparseC s hs h1 w
  · exact sparseB s hs h1 w
end Go.Proofs.YtcahodpphikgnaaGreatDoor
namespace Go.Proofs.YtcahodpphikgnaaGreatDoor
open Go.RowKit Go.Shelf

attribute [local go_sem] Oper.semAt_some

set_option maxRecDepth 100000 in
set_option maxHeartbeats 1000000 in
theorem num_c (va : Value) (q : Rat) (w : World) (ha : IsRat w va q) :
    Calls Tryz.prog 9 #[va] w fun e w' => ∃ u, e = .returned u ∧ IsInt w' u q.num ∧ Below w.heap.size w w' := by
  obtain ⟨s900, a900, l900, c900, t900, b900, k900, d900, rfl⟩ := IsRat.form ha
  have M0 := (((Mem.nil w).push (.rat (q)) ha).push (.int 0) (int0 _))
  simp only [World.size_alloc] at M0
  have M0 : Mem w ((w.alloc (.cells #[.bool s900, .slice a900 l900 c900, .bool t900, .slice b900 k900 d900] 27)).alloc (.cells #[.bool false, .slice none 0 0] 25)) [some (w.heap.size, .rat (q)), some (w.heap.size + 1, .int (0))] := M0
  obtain ⟨W0, hW0⟩ : ∃ W0, (w.alloc (.cells #[.bool s900, .slice a900 l900 c900, .bool t900, .slice b900 k900 d900] 27)).alloc (.cells #[.bool false, .slice none 0 0] 25) = W0 := ⟨_, rfl⟩
  have HW0 := hidD hW0
  rw [hW0] at M0
  have M1 : Hid (Mem w W0 [some (w.heap.size, .rat (q)), some (w.heap.size + 1, .int (0))]) := hidD M0
  clear M0 hW0 ha 
  go_enter Tryz.func9, Tryz.ntmps9
  go_upto_region 1 with fail
  rw [HW0.out]
  clear HW0
  obtain ⟨s1, a1, l1, c1, t1, b1, k1, d1, n1, r1, i1, j1⟩ := M1.out.rat (i := 0) rfl
  have e1a := n1.c0
  have e1b := n1.c1
  have e1c := n1.c2
  have e1d := n1.c3
  obtain ⟨s2, a2, l2, c2, n2, i2⟩ := M1.out.int (i := 1) rfl
  have e2a := n2.c0
  have e2b := n2.c1
  have f2a := n2.f0
  have f2b := n2.f1
  have hB := M1.out.2.2
  have hge := M1.out.ge 1 rfl
  go_wp2_with fail
  exact bodyPost_ret (v := .agg #[.bool s1, .slice a1 l1 c1]) (by simp [results, Tryz.results9, go_sem, e2a, e2b]) rfl ⟨_, rfl, i1.box n2 rfl rfl, (hB.setCell (p := ⟨_, 0, none⟩) hge _).setCell (p := ⟨_, 1, none⟩) hge _⟩

set_option maxRecDepth 100000 in
set_option maxHeartbeats 1000000 in
theorem given_c (s : ByteArray) (w : World) :
    Calls Tryz.prog 26 #[.string s] w fun e w' => ∃ u, e = .returned u ∧ IsRat w' u (valQ (wlst s)) ∧ Below w.heap.size w w' := by
  have HC := hidD (fun (V : World) => qparse_c s V)
  obtain ⟨q, hq⟩ : ∃ q, valQ (wlst s) = q := ⟨_, rfl⟩
  obtain ⟨o, ho⟩ : ∃ o, (parseQ (wlst s)).isSome = o := ⟨_, rfl⟩
  unfold ParseR at HC
  rw [hq, ho] at HC
  rw [hq]
  clear hq ho
  have M0 := ((Mem.nil w).push (.rat 0) (rat0 _))
  have M0 : Mem w (w.alloc (.cells #[.bool false, .slice none 0 0, .bool false, .slice none 0 0] 27)) [some (w.heap.size, .rat (0))] := M0
  obtain ⟨W0, hW0⟩ : ∃ W0, w.alloc (.cells #[.bool false, .slice none 0 0, .bool false, .slice none 0 0] 27) = W0 := ⟨_, rfl⟩
  have HW0 := hidD hW0
  rw [hW0] at M0
  have M1 : Hid (Mem w W0 [some (w.heap.size, .rat (0))]) := hidD M0
  clear M0 hW0  
  go_enter Tryz.func26, Tryz.ntmps26
  go_upto_region 1 with fail
  rw [HW0.out]
  clear HW0
  go_upto_region 2 with (go_at_call 7; refine (HC.out _).mono ?_; clear HC; rintro e w1 ⟨u, rfl, hu, hb⟩; obtain ⟨s90, a90, l90, c90, t90, b90, k90, d90, rfl⟩ := IsRat.form hu)
  obtain ⟨V1, hV⟩ : ∃ V, w1.alloc (.cells #[.bool s90, .slice a90 l90 c90, .bool t90, .slice b90 k90 d90] 27) = V := ⟨_, rfl⟩
  obtain ⟨B1, hBk⟩ : ∃ B, w1.heap.size = B := ⟨_, rfl⟩
  have MM : Mem w (w1.alloc (.cells #[.bool s90, .slice a90 l90 c90, .bool t90, .slice b90 k90 d90] 27)) [some (w.heap.size, .rat (0)), some (w1.heap.size, .rat (q))] := Mem.push (M1.out.below hb) (.rat (q)) hu
  rw [hV, hBk] at MM
  rw [hV]
  rw [hBk]
  have M2 : Hid (Mem w V1 [some (w.heap.size, .rat (0)), some (B1, .rat (q))]) := hidD (MM)
  clear M1
  clear MM hV hBk
  clear hu hb
  obtain ⟨s2, a2, l2, c2, t2, b2, k2, d2, n2, r2, i2, j2⟩ := M2.out.rat (i := 1) rfl
  have e2a := n2.c0
  have e2b := n2.c1
  have e2c := n2.c2
  have e2d := n2.c3
  obtain ⟨s3, a3, l3, c3, t3, b3, k3, d3, n3, r3, i3, j3⟩ := M2.out.rat (i := 0) rfl
  have e3a := n3.c0
  have e3b := n3.c1
  have e3c := n3.c2
  have e3d := n3.c3
  have f3a := n3.f0
  have f3b := n3.f1
  have f3c := n3.f2
  have f3d := n3.f3
  have hB := M2.out.2.2
  have hge := M2.out.ge 0 rfl
  go_wp2_with fail
  exact bodyPost_ret (v := .agg #[.bool s2, .slice a2 l2 c2, .bool t2, .slice b2 k2 d2]) (by simp [results, Tryz.results26, go_sem, e3a, e3b, e3c, e3d]) rfl ⟨_, rfl, r2.put4 n3 rfl rfl rfl rfl _ _ _ _, below_put4 hB hge _ _ _ _⟩

set_option maxRecDepth 100000 in
set_option maxHeartbeats 1000000 in
theorem read_c (s : ByteArray) (hs : s.size ≤ 140737488351232) (w : World) :
    Calls Tryz.prog 25 #[.string s] w fun e w' => ∃ u, e = .returned u ∧ IsRef w' u (valQ (wlst s)) ∧ Below w.heap.size w w' := by
  have HC := hidD (fun (V : World) => sparse_c s hs V)
  obtain ⟨q, hq⟩ : ∃ q, valQ (wlst s) = q := ⟨_, rfl⟩
  obtain ⟨o, ho⟩ : ∃ o, (parseQ (wlst s)).isSome = o := ⟨_, rfl⟩
  unfold ParseF at HC
  rw [hq, ho] at HC
  rw [hq]
  clear hq ho hs
  have M0 := ((Mem.nil w).push .zref rfl)
  have M0 : Mem w (w.alloc (.cells #[.slice none 0 0, .bool false, .slice none 0 0, .bool false] 34)) [some (w.heap.size, .zref)] := M0
  obtain ⟨W0, hW0⟩ : ∃ W0, w.alloc (.cells #[.slice none 0 0, .bool false, .slice none 0 0, .bool false] 34) = W0 := ⟨_, rfl⟩
  have HW0 := hidD hW0
  rw [hW0] at M0
  have M1 : Hid (Mem w W0 [some (w.heap.size, .zref)]) := hidD M0
  clear M0 hW0  
  go_enter Tryz.func25, Tryz.ntmps25
  go_upto_region 1 with fail
  rw [HW0.out]
  clear HW0
  go_upto_region 2 with (go_at_call 8; refine (HC.out _).mono ?_; clear HC; rintro e w1 ⟨u, rfl, hu, hb⟩; obtain ⟨a90, l90, c90, s90, b90, k90, d90, t90, rfl⟩ := IsRef.form hu)
  obtain ⟨V1, hV⟩ : ∃ V, w1.alloc (.cells #[.slice a90 l90 c90, .bool s90, .slice b90 k90 d90, .bool t90] 34) = V := ⟨_, rfl⟩
  obtain ⟨B1, hBk⟩ : ∃ B, w1.heap.size = B := ⟨_, rfl⟩
  have MM : Mem w (w1.alloc (.cells #[.slice a90 l90 c90, .bool s90, .slice b90 k90 d90, .bool t90] 34)) [some (w.heap.size, .zref), some (w1.heap.size, .ref (q))] := Mem.push (M1.out.below hb) (.ref (q)) hu
  rw [hV, hBk] at MM
  rw [hV]
  rw [hBk]
  have M2 : Hid (Mem w V1 [some (w.heap.size, .zref), some (B1, .ref (q))]) := hidD (MM)
  clear M1
  clear MM hV hBk
  clear hu hb
  obtain ⟨a2, l2, c2, s2, b2, k2, d2, t2, n2, r2, i2, j2⟩ := M2.out.ref (i := 1) rfl
  have e2a := n2.c0
  have e2b := n2.c1
  have e2c := n2.c2
  have e2d := n2.c3
  have n3 := M2.out.zref (i := 0) rfl
  have e3a := n3.c0
  have e3b := n3.c1
  have e3c := n3.c2
  have e3d := n3.c3
  have f3a := n3.f0
  have f3b := n3.f1
  have f3c := n3.f2
  have f3d := n3.f3
  have hB := M2.out.2.2
  have hge := M2.out.ge 0 rfl
  go_wp2_with fail
  exact bodyPost_ret (v := .agg #[.slice a2 l2 c2, .bool s2, .slice b2 k2 d2, .bool t2]) (by simp [results, Tryz.results25, go_sem, e3a, e3b, e3c, e3d]) rfl ⟨_, rfl, r2.put4 n3 rfl rfl rfl rfl _ _ _ _, below_put4 hB hge _ _ _ _⟩

/-- The fractions of alive. -/
def aliveP : Rat := ⟨3, 2, by decide, by decide⟩
def aliveQ : Rat := ⟨9, 4, by decide, by decide⟩

theorem aliveP_parse : parseQ [54, 47, 52] = some aliveP := by
  have h1 : slashAt [54, 47, 52] = 1 := by decide
  have h2 : good [54] = true := by decide
  have h3 : good [52] = true := by decide
  have h4 : valZ [54] = 6 := by decide
  have h5 : valZ [52] = 4 := by decide
  rw [pq_slash (by decide) (by rw [h1]; decide), h1]
  show (if good [54] = true ∧ good [52] = true ∧ 0 < valZ [52] then some (Rat.divInt (valZ [54]) (valZ [52])) else none) = _
  rw [if_pos ⟨h2, h3, by rw [h5]; decide⟩, h4, h5]
  exact congrArg some (by decide)
theorem aliveP_mul : aliveP * aliveP = aliveQ := by
  rw [← mul_eq]
  decide
theorem decZ_of {l : List UInt8} {z : Int} (h : good l = true) (hv : valZ l = z) : decZ z = l := by rw [← hv]; exact good_dec h
theorem aliveP_text : textQ aliveP = [51, 47, 50] := by
  unfold textQ
  rw [if_neg (by decide), show decZ aliveP.num = [51] from decZ_of (by decide) (by decide), show decZ (aliveP.den : Int) = [50] from decZ_of (by decide) (by decide)]
  rfl
theorem aliveQ_text : textQ aliveQ = [57, 47, 52] := by
  unfold textQ
  rw [if_neg (by decide), show decZ aliveQ.num = [57] from decZ_of (by decide) (by decide), show decZ (aliveQ.den : Int) = [52] from decZ_of (by decide) (by decide)]
  rfl
theorem aliveQ_cmp : cmpQ aliveQ aliveP = 1 := by decide
theorem aliveP_sq : Sq aliveP := Sq.of (k := 1) ⟨by show Sm 1 3; unfold Sm B64; decide, by show Sm 1 2; unfold Sm B64; decide⟩ (by omega)
theorem aliveQ_sq : Sq aliveQ := Sq.of (k := 1) ⟨by show Sm 1 9; unfold Sm B64; decide, by show Sm 1 4; unfold Sm B64; decide⟩ (by omega)

set_option maxRecDepth 100000 in
set_option maxHeartbeats 2000000 in
theorem kalive_c (w : World) (htab : Lib.TabIs Tryz.prog w "internal/strconv.uint64pow10" .u64 Lib.pow10Tab) :
    Calls Tryz.prog 19 #[] w fun e w' => e = .returned (.bool true) ∧ Below w.heap.size w w' := by
  have HT := hidD htab
  have HC := hidD (fun (V : World) => show Calls Tryz.prog 7 #[.string ⟨#[54, 47, 52]⟩] V fun e w' => ∃ u, e = .returned (.tuple #[u, .bool true]) ∧ IsRat w' u aliveP ∧ Below V.heap.size V w' by
    have h := qparse_c ⟨#[54, 47, 52]⟩ V
    unfold ParseR valQ at h
    rw [show wlst ⟨#[54, 47, 52]⟩ = [54, 47, 52] from rfl, aliveP_parse] at h
    exact h)
  clear htab
  have M0 : Hid (Mem w w []) := hidD (Mem.nil w)
  go_enter Tryz.func19, Tryz.ntmps19
  go_upto_region 2 with (go_at_call 7; refine (HC.out _).mono ?_; clear HC; rintro e w1 ⟨u, rfl, hu, hb⟩; obtain ⟨s90, a90, l90, c90, t90, b90, k90, d90, rfl⟩ := IsRat.form hu)
  obtain ⟨V1, hV⟩ : ∃ V, w1.alloc (.cells #[.bool s90, .slice a90 l90 c90, .bool t90, .slice b90 k90 d90] 27) = V := ⟨_, rfl⟩
  obtain ⟨B1, hBk⟩ : ∃ B, w1.heap.size = B := ⟨_, rfl⟩
  have MM : Mem w (w1.alloc (.cells #[.bool s90, .slice a90 l90 c90, .bool t90, .slice b90 k90 d90] 27)) [some (w1.heap.size, .rat (aliveP))] := Mem.push (M0.out.below hb) (.rat (aliveP)) hu
  rw [hV, hBk] at MM
  rw [hV]
  rw [hBk]
  have M1 : Hid (Mem w V1 [some (B1, .rat (aliveP))]) := hidD (MM)
  clear M0
  clear MM hV hBk
  clear hu hb
  obtain ⟨s2, a2, l2, c2, t2, b2, k2, d2, n2, r2, i2, j2⟩ := M1.out.rat (i := 0) rfl
  have e2a := n2.c0
  have e2b := n2.c1
  have e2c := n2.c2
  have e2d := n2.c3
  have H1 := hidD (qtimes_c _ _ aliveP aliveP V1 r2 r2 aliveP_sq aliveP_sq)
  rw [aliveP_mul] at H1
  go_upto_region 3 with (go_at_call 29; refine H1.out.mono ?_; clear H1; rintro e w2 ⟨u, rfl, hu, hb⟩; obtain ⟨s91, a91, l91, c91, t91, b91, k91, d91, rfl⟩ := IsRat.form hu)
  obtain ⟨V3, hV⟩ : ∃ V, w2.alloc (.cells #[.bool s91, .slice a91 l91 c91, .bool t91, .slice b91 k91 d91] 27) = V := ⟨_, rfl⟩
  obtain ⟨B3, hBk⟩ : ∃ B, w2.heap.size = B := ⟨_, rfl⟩
  have MM : Mem w (w2.alloc (.cells #[.bool s91, .slice a91 l91 c91, .bool t91, .slice b91 k91 d91] 27)) [some (B1, .rat (aliveP)), some (w2.heap.size, .rat (aliveQ))] := Mem.push (M1.out.below hb) (.rat (aliveQ)) hu
  rw [hV, hBk] at MM
  rw [hV]
  rw [hBk]
  have M2 : Hid (Mem w V3 [some (B1, .rat (aliveP)), some (B3, .rat (aliveQ))]) := hidD (MM)
  clear M1
  clear MM hV hBk
  clear n2 e2a e2b e2c e2d i2 r2 j2 hu hb
  obtain ⟨s4, a4, l4, c4, t4, b4, k4, d4, n4, r4, i4, j4⟩ := M2.out.rat (i := 0) rfl
  have e4a := n4.c0
  have e4b := n4.c1
  have e4c := n4.c2
  have e4d := n4.c3
  obtain ⟨s5, a5, l5, c5, t5, b5, k5, d5, n5, r5, i5, j5⟩ := M2.out.rat (i := 1) rfl
  have e5a := n5.c0
  have e5b := n5.c1
  have e5c := n5.c2
  have e5d := n5.c3
  have H2 := hidD (fun (V : World) (h : Below V3.heap.size V3 V) => qtext_c _ aliveP V (r4.below h) aliveP_sq (tab_below HT.out (M2.out.2.2.trans (h.mono M2.out.2.2.size))))
  rw [aliveP_text] at H2
  have H3 := hidD (fun (V : World) (h : Below V3.heap.size V3 V) => qtext_c _ aliveQ V (r5.below h) aliveQ_sq (tab_below HT.out (M2.out.2.2.trans (h.mono M2.out.2.2.size))))
  rw [aliveQ_text] at H3
  have H4 := hidD (fun (V : World) (h : Below V3.heap.size V3 V) => qorder_c _ _ aliveQ aliveP V (r5.below h) (r4.below h) aliveQ_sq aliveP_sq)
  rw [aliveQ_cmp] at H4
  have hq : Below V3.heap.size V3 V3 := Below.refl _ _
  go_wp2_with (first
    | (go_at_call 11; refine (H2.out _ hq).mono ?_; clear H2; rintro e w3 ⟨rfl, hb3⟩; have hq := Below.then hq hb3; have e4a := (n4.below hq).c0; have e4b := (n4.below hq).c1; have e4c := (n4.below hq).c2; have e4d := (n4.below hq).c3; have e5a := (n5.below hq).c0; have e5b := (n5.below hq).c1; have e5c := (n5.below hq).c2; have e5d := (n5.below hq).c3)
    | (go_at_call 11; refine (H3.out _ hq).mono ?_; clear H3; rintro e w4 ⟨rfl, hb4⟩; have hq := Below.then hq hb4; have e4a := (n4.below hq).c0; have e4b := (n4.below hq).c1; have e4c := (n4.below hq).c2; have e4d := (n4.below hq).c3; have e5a := (n5.below hq).c0; have e5b := (n5.below hq).c1; have e5c := (n5.below hq).c2; have e5d := (n5.below hq).c3)
    | (go_at_call 34; refine (H4.out _ hq).mono ?_; clear H4; rintro e w5 ⟨rfl, hb5⟩; have hq := Below.then hq hb5))
  go_ret
  exact ⟨rfl, M2.out.2.2.trans (hq.mono M2.out.2.2.size)⟩
end Go.Proofs.YtcahodpphikgnaaGreatDoor
namespace Go.Proofs.YtcahodpphikgnaaGreatDoor
open Go.RowKit Go.Shelf

theorem cmpQ_le {p q : Rat} : cmpQ p q ≤ 0 ↔ p ≤ q := by
  rw [Rat.le_iff]
  unfold cmpQ cmpI
  split <;> (try split) <;> omega
theorem cmpQ_lt {p q : Rat} : cmpQ p q < 0 ↔ p < q := by
  rw [Rat.lt_iff]
  unfold cmpQ cmpI
  split <;> (try split) <;> omega
theorem cmpQ_eq {p q : Rat} : cmpQ p q = 0 ↔ p = q := by
  rw [Rat.eq_iff_mul_eq_mul]
  unfold cmpQ cmpI
  split <;> (try split) <;> omega
theorem cmpQ_trans {p q r : Rat} (h1 : cmpQ p q ≤ 0) (h2 : cmpQ q r ≤ 0) : ¬ 0 < cmpQ p r := by
  have := cmpQ_le.2 (Rat.le_trans (cmpQ_le.1 h1) (cmpQ_le.1 h2))
  omega

theorem ten_pos (k : Nat) : (0 : Int) < 10 ^ k := Int.pow_pos (by omega)

theorem divInt_le_of {z T : Int} {p : Rat} (hT : 0 < T) (h : z * p.den ≤ p.num * T) : Rat.divInt z T ≤ p := by
  rw [Rat.divInt_eq_div]
  have hp : (0 : Rat) < (T : Rat) := Rat.intCast_pos.2 hT
  rw [← Rat.not_lt, Rat.lt_div_iff hp, Rat.not_lt]
  have e : p * (T : Rat) = Rat.divInt (p.num * T) (p.den : Int) := by
    rw [← mul_eq]
    show Rat.divInt (p.num * T) ((p.den : Int) * 1) = _
    rw [Int.mul_one]
  rw [e, Rat.divInt_eq_div]
  have hd : (0 : Rat) < ((p.den : Int) : Rat) := Rat.intCast_pos.2 (by have := p.den_pos; omega)
  rw [← Rat.not_lt, Rat.div_lt_iff hd, Rat.not_lt, ← Rat.intCast_mul, Rat.intCast_le_intCast]
  exact h
theorem lt_divInt_of {z T : Int} {p : Rat} (hT : 0 < T) (h : p.num * T < z * p.den) : p < Rat.divInt z T := by
  rw [Rat.divInt_eq_div]
  have hp : (0 : Rat) < (T : Rat) := Rat.intCast_pos.2 hT
  rw [Rat.lt_div_iff hp]
  have e : p * (T : Rat) = Rat.divInt (p.num * T) (p.den : Int) := by
    rw [← mul_eq]
    show Rat.divInt (p.num * T) ((p.den : Int) * 1) = _
    rw [Int.mul_one]
  rw [e, Rat.divInt_eq_div]
  have hd : (0 : Rat) < ((p.den : Int) : Rat) := Rat.intCast_pos.2 (by have := p.den_pos; omega)
  rw [Rat.div_lt_iff hd, ← Rat.intCast_mul, Rat.intCast_lt_intCast]
  exact h

theorem digits_low (p : Rat) (T : Int) (hT : 0 < T) : cmpQ (Rat.divInt (p.num * T / (p.den : Int)) T) p ≤ 0 := by
  refine cmpQ_le.2 (divInt_le_of hT ?_)
  have hd : (p.den : Int) ≠ 0 := by have := p.den_nz; omega
  exact Int.ediv_mul_le _ hd
theorem digits_high (p : Rat) (T : Int) (hT : 0 < T) : cmpQ p (Rat.divInt (p.num * T / (p.den : Int) + 1) T) < 0 := by
  refine cmpQ_lt.2 (lt_divInt_of hT ?_)
  have hd : (0 : Int) < (p.den : Int) := by have := p.den_pos; omega
  exact Int.lt_ediv_add_one_mul_self _ hd

/-- What is left of the digits without their point. -/
theorem filter_points (z : Int) (k : Nat) : (pointsL z k).filter (· != 46) = if z < 0 then 45 :: padL k (decN z.natAbs) else padL k (decN z.natAbs) := by
  have h1 : ∀ c ∈ padL k (decN z.natAbs), (c != 46) = true := by
    intro c hc
    unfold padL at hc
    rcases List.mem_append.1 hc with h | h
    · rw [List.eq_of_mem_replicate h]; decide
    · have hall : (decN z.natAbs).all isD = true := by
        by_cases hn : z.natAbs = 0
        · rw [hn]; decide
        · obtain ⟨c, t, h2, _, _, h3, _⟩ := decN_head hn
          rw [h2]; exact h3
      have h2 := isD_bounds (List.all_eq_true.1 hall c h)
      rw [bne_iff_ne]
      intro e
      rw [e] at h2
      simp at h2
  have h2 : (dotL k (padL k (decN z.natAbs))).filter (· != 46) = padL k (decN z.natAbs) := by
    generalize padL k (decN z.natAbs) = p at *
    unfold dotL
    split
    · rw [List.filter_append, List.filter_cons_of_neg (by decide), List.filter_eq_self.2 (fun c hc => h1 c (List.mem_of_mem_take hc)), List.filter_eq_self.2 (fun c hc => h1 c (List.mem_of_mem_drop hc)), List.take_append_drop]
    · exact List.filter_eq_self.2 h1
  unfold pointsL
  split
  · rw [List.filter_cons_of_pos (by decide), h2]
  · exact h2

/-- Zeros ahead, taken off while more than one sign is there. -/
theorem pad_strip (n : Nat) {j : Nat} (h : 0 < j) : 1 < (List.replicate j 48 ++ decN n).length ∧ (List.replicate j 48 ++ decN n).head? = some 48 ∧ (List.replicate j 48 ++ decN n).tail = List.replicate (j - 1) 48 ++ decN n := by
  obtain ⟨i, rfl⟩ : ∃ i, j = i + 1 := ⟨j - 1, by omega⟩
  have hl : 0 < (decN n).length := by
    by_cases hn : n = 0
    · rw [hn]; decide
    · obtain ⟨c, t, h2, _⟩ := decN_head hn
      rw [h2]; simp
  refine ⟨by rw [List.length_append, List.length_replicate]; omega, by rw [List.replicate_succ]; rfl, by rw [List.replicate_succ]; rfl⟩
theorem strip_end (n : Nat) : ¬ (1 < (decN n).length ∧ (decN n).head? = some 48) := by
  by_cases hn : n = 0
  · rw [hn]; decide
  · obtain ⟨c, t, h2, h3, _⟩ := decN_head hn
    rw [h2]
    rintro ⟨_, h⟩
    simp at h
    exact h3 h

/-- One more sign, unless it is a point. -/
theorem filter_step {D E : ByteArray} {tl : List UInt8} {i : Nat} (hD : D = ⟨tl.toArray⟩) (h : i < D.size) (hE : D.extract i (i + 1) = E) :
    (D[i] = 46 → (tl.take (i + 1)).filter (· != 46) = (tl.take i).filter (· != 46)) ∧ (¬ D[i] = 46 → (⟨((tl.take (i + 1)).filter (· != 46)).toArray⟩ : ByteArray) = ⟨((tl.take i).filter (· != 46)).toArray⟩ ++ E) := by
  subst hD
  have hl : i < tl.length := by
    have : (⟨tl.toArray⟩ : ByteArray).size = tl.length := by show tl.toArray.size = _; rw [List.size_toArray]
    omega
  have hg : (⟨tl.toArray⟩ : ByteArray)[i] = tl[i] := by rfl
  rw [hg, List.take_succ_eq_append_getElem hl, List.filter_append]
  refine ⟨fun h1 => by rw [h1]; simp, fun h1 => ?_⟩
  have h2 : E = ⟨[tl[i]].toArray⟩ := by
    rw [← hE]
    apply ByteArray.ext
    rw [ByteArray.data_extract]
    apply Array.ext'
    simp [List.extract]
    rw [List.drop_eq_getElem_cons hl]
    rfl
  rw [h2, ba_append]
  simp [h1]

/-- The text of a value. -/
def txtV : Value → ByteArray | .string s => s | _ => ⟨#[]⟩

theorem sign_cut {l : List UInt8} {S : ByteArray} (h : ⟨(45 :: l).toArray⟩ = S) : ∃ _ : 0 < S.size, ((S[0].toNat : Int) == 45) = true ∧ S.extract 1 S.size = ⟨l.toArray⟩ := by
  subst h
  refine ⟨by show 0 < (45 :: l).toArray.size; simp, rfl, ?_⟩
  have h1 : wlst ((⟨(45 :: l).toArray⟩ : ByteArray).extract 1 (⟨(45 :: l).toArray⟩ : ByteArray).size) = l := by
    rw [wlst_drop, wlst_mk]; rfl
  rw [← wlst_back (ByteArray.extract _ _ _), h1]
theorem head_cut {c : UInt8} {l : List UInt8} {S : ByteArray} (h : S = ⟨(c :: l).toArray⟩) : ∃ _ : 0 < S.size, S[0] = c ∧ S.extract 1 S.size = ⟨l.toArray⟩ := by
  subst h
  refine ⟨by show 0 < (c :: l).toArray.size; simp, rfl, ?_⟩
  have h1 : wlst ((⟨(c :: l).toArray⟩ : ByteArray).extract 1 (⟨(c :: l).toArray⟩ : ByteArray).size) = l := by
    rw [wlst_drop, wlst_mk]; rfl
  rw [← wlst_back (ByteArray.extract _ _ _), h1]
theorem sign_none {k n : Nat} {S : ByteArray} (h : ⟨(padL k (decN n)).toArray⟩ = S) : ∃ _ : 0 < S.size, ((S[0].toNat : Int) == 45) = false := by
  have hne : ∃ c l, padL k (decN n) = c :: l ∧ c ≠ 45 := by
    unfold padL
    cases hj : k + 1 - (decN n).length with
    | zero =>
      by_cases hn : n = 0
      · rw [hn]; exact ⟨48, [], by decide, by decide⟩
      · obtain ⟨c, t, h2, _, h3, _⟩ := decN_head hn
        exact ⟨c, t, by rw [h2]; rfl, h3⟩
    | succ j => exact ⟨48, List.replicate j 48 ++ decN n, by rw [List.replicate_succ]; rfl, by decide⟩
  obtain ⟨c, l, e, hc⟩ := hne
  rw [e] at h
  obtain ⟨h0, h1, _⟩ := head_cut h.symm
  refine ⟨h0, ?_⟩
  rw [beq_eq_false_iff_ne, h1]
  intro h2
  exact hc (UInt8.toNat_inj.1 (by show c.toNat = 45; omega))

theorem decN_pos_len (n : Nat) : 0 < (decN n).length := by
  by_cases hn : n = 0
  · rw [hn]; decide
  · obtain ⟨c, t, h2, _⟩ := decN_head hn
    rw [h2]; simp

/-- A text that begins with a zero, or ends here. -/
theorem zero_cut {j n : Nat} {S : ByteArray} (h : S = ⟨(List.replicate (j + 1) 48 ++ decN n).toArray⟩) : ∃ _ : 0 < S.size, ((S[0].toNat : Int) == 48) = true ∧ S.extract 1 S.size = ⟨(List.replicate j 48 ++ decN n).toArray⟩ := by
  rw [List.replicate_succ, List.cons_append] at h
  obtain ⟨h0, h1, h2⟩ := head_cut h
  exact ⟨h0, by rw [h1]; rfl, h2⟩
theorem zero_end {n : Nat} {S : ByteArray} (h : S = ⟨(List.replicate 0 48 ++ decN n).toArray⟩) (h1 : 1 < S.size) : ∃ _ : 0 < S.size, ((S[0].toNat : Int) == 48) = false := by
  have hn : n ≠ 0 := by
    rintro rfl
    rw [h] at h1
    revert h1
    decide
  obtain ⟨c, t, h2, h3, _⟩ := decN_head hn
  rw [h2] at h
  obtain ⟨h0, h4, _⟩ := head_cut (c := c) (l := t) h
  refine ⟨h0, ?_⟩
  rw [beq_eq_false_iff_ne, h4]
  intro h5
  exact h3 (UInt8.toNat_inj.1 (by show c.toNat = 48; omega))

/-- A tuple of a thing and true. -/
def Tup1 (V : World) (t : Value) (d : Dat) : Prop := ∃ u, t = .tuple #[u, .bool true] ∧ Has V u d
theorem Tup1.below {V V' : World} {t : Value} {d : Dat} (h : Tup1 V t d) (hb : Below V.heap.size V V') : Tup1 V' t d := by
  obtain ⟨u, e, h1⟩ := h
  exact ⟨u, e, h1.below hb⟩
theorem Tup1.alloc {V : World} {t : Value} {d : Dat} (h : Tup1 V t d) (o : Obj) : Tup1 (V.alloc o) t d := by
  obtain ⟨u, e, h1⟩ := h
  exact ⟨u, e, h1.alloc o⟩
theorem Tup1.put4 {V : World} {v : Value} {d : Dat} (h : Tup1 V v d) {B : Nat} {t : TypeId} {x y z u : Value} (q : Box4 V B t x y z u) (n0 : noInt x = true) (n1 : noInt y = true) (n2 : noInt z = true) (n3 : noInt u = true) (x' y' z' u' : Value) : Tup1 (Go.Proofs.YtcahodpphikgnaaGreatDoor.put4 V B x' y' z' u') v d := by
  obtain ⟨u, e, h1⟩ := h
  exact ⟨u, e, h1.put4 q n0 n1 n2 n3 _ _ _ _⟩
end Go.Proofs.YtcahodpphikgnaaGreatDoor
