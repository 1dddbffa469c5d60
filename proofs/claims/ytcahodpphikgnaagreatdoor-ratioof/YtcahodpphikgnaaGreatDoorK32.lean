import Derived.Test.YtcahodpphikgnaaGreatDoorK23
import Derived.Test.YtcahodpphikgnaaGreatDoorK31
import Derived.Test.YtcahodpphikgnaaGreatDoorK28
import Derived.Test.YtcahodpphikgnaaGreatDoorK27
namespace Go.Proofs.YtcahodpphikgnaaGreatDoor
open Go.RowKit Go.Shelf

attribute [local go_sem] Oper.semAt_some

/-- What a call of the document's Parse leaves. -/
def ParseF (l : List UInt8) (w : World) (e : Ending) (w' : World) : Prop := ∃ u, e = .returned (.tuple #[u, .bool (parseQ l).isSome]) ∧ IsRef w' u (valQ l) ∧ Below w.heap.size w w'
theorem ParseF.of {l : List UInt8} {w w' : World} {u : Value} {o : Option Rat} (h : parseQ l = o) {b : Bool} (hb : o.isSome = b) (hu : IsRef w' u (o.getD 0)) (hB : Below w.heap.size w w') : ParseF l w (.returned (.tuple #[u, .bool b])) w' :=
  ⟨u, by rw [h, hb], by unfold valQ; rw [h]; exact hu, hB⟩

theorem byte_ne {s : ByteArray} {i : Nat} (h : i < s.size) (hi : i < slashAt (wlst s)) : ((s[i].toNat : Int) == 47) = false := by
  have h1 : (wlst s)[i]? = some s[i] := by
    unfold wlst
    rw [Array.getElem?_toList, Array.getElem?_eq_getElem (by exact h)]
    rfl
  have h2 : s[i] ≠ 47 := by
    rcases slash_index (wlst s) with ⟨_, h3⟩ | ⟨_, h3⟩
    · have := (Lib.indexByte_some h3).2 i hi
      rw [h1] at this
      exact fun e => this (by rw [e])
    · have := Lib.indexByte_none h3 i
      rw [h1] at this
      exact fun e => this (by rw [e])
  rw [beq_eq_false_iff_ne]
  intro h3
  apply h2
  apply UInt8.toNat_inj.1
  show s[i].toNat = 47
  omega
theorem byte_eq {s : ByteArray} {k : Nat} (hk : slashAt (wlst s) = k) (h : k < s.size) : ((s[k].toNat : Int) == 47) = true := by
  have hl := wlst_length s
  have h1 : (wlst s)[k]? = some s[k] := by
    unfold wlst
    rw [Array.getElem?_toList, Array.getElem?_eq_getElem (by exact h)]
    rfl
  rcases slash_index (wlst s) with ⟨_, h3⟩ | ⟨h3, _⟩
  · have h4 := (Lib.indexByte_some h3).1
    rw [hk, h1] at h4
    have h5 : s[k] = 47 := by simpa using h4
    rw [h5]; rfl
  · omega

set_option maxRecDepth 100000 in
set_option maxHeartbeats 4000000 in
theorem sparseB (s : ByteArray) (hsz : s.size ≤ 140737488351232) (hs : slashAt (wlst s) = (wlst s).length) (w : World) : Calls Tryz.prog 8 #[.string s] w (ParseF (wlst s) w) := by
  have hl := wlst_length s
  obtain ⟨k, hk⟩ : ∃ k, slashAt (wlst s) = k := ⟨_, rfl⟩
  have hks : k = s.size := by omega
  have HK := hidD hk
  have HP := hidD (fun (V : World) => parse_u (s.extract 0 k) (by rw [ByteArray.size_extract]; omega) V)
  rw [wlst_take, show (wlst s).take k = wlst s from List.take_of_length_le (by omega)] at HP
  have HG := hidD (show good (wlst s) = true → s.size ≤ 2000 by
    intro h
    simp only [good, Bool.and_eq_true, decide_eq_true_eq] at h
    omega)
  have HL := hidD (show parseQ (wlst s) = if good (wlst s) = true then some ((valZ (wlst s) : Int) : Rat) else none by
    rcases Nat.lt_or_ge 2000 s.size with h | h
    · rw [pq_long (by omega), if_neg (fun g => by have := HG.out g; omega)]
    · exact pq_plain (by omega) hs)
  obtain ⟨sA, hsA⟩ : ∃ t, s.extract 0 k = t := ⟨_, rfl⟩
  rw [hsA] at HP
  have HSA := hidD hsA
  obtain ⟨zv, hzv⟩ : ∃ z, val0 (wlst s) = z := ⟨_, rfl⟩
  obtain ⟨ok, hok⟩ : ∃ b, good (wlst s) = b := ⟨_, rfl⟩
  rw [hzv, hok] at HP
  have HE := hidD (show ok = true → valZ (wlst s) = zv by rw [← hok, ← hzv]; unfold val0; exact fun h => by rw [if_pos h])
  rw [hok] at HL HG
  have hk1 : (0 : Int) ≤ (k : Int) := by omega
  have hk2 : (k : Int) ≤ (s.size : Int) := by omega
  have hdk : decide ((k : Int) < (s.size : Int)) = false := decide_eq_false (by omega)
  have hek : ((k : Int) == (s.size : Int)) = true := by rw [hks]; simp
  have hkl : k ≤ s.size := by omega
  clear hl hs hzv hok hsA hk hks
  have M0 := ((Mem.nil w).push .zref rfl)
  have M0 : Mem w (w.alloc (.cells #[.slice none 0 0, .bool false, .slice none 0 0, .bool false] 34)) [some (w.heap.size, .zref)] := M0
  obtain ⟨W0, hW0⟩ : ∃ W0, w.alloc (.cells #[.slice none 0 0, .bool false, .slice none 0 0, .bool false] 34) = W0 := ⟨_, rfl⟩
  have HW0 := hidD hW0
  rw [hW0] at M0
  have M1 : Hid (Mem w W0 [some (w.heap.size, .zref)]) := hidD M0
  clear M0 hW0  
  go_enter Tryz.func8, Tryz.ntmps8
  go_upto_region 1 with fail
  rw [HW0.out]
  clear HW0
  go_wp2_with fail
  go_loop [4] (fun iv => ∃ i : Nat, iv = .int .i64 i ∧ i ≤ k) (fun iv => k - (intOf iv).toNat)
  case atStart => exact ⟨0, rfl, Nat.zero_le _⟩
  case round =>
    obtain ⟨i, rfl, hi⟩ := hrel
    rcases Nat.lt_or_ge i k with hlt | hge
    · have hl1 : i < s.size := by omega
      have hb := byte_ne hl1 (HK.out ▸ hlt)
      have hd : decide ((i : Int) < (s.size : Int)) = true := decide_eq_true (by omega)
      have hwr : IntKind.i64.wrap ((i : Int) + 1) = (i : Int) + 1 := by rw [IntKind.wrap_i64]; omega
      go_wp2_with fail
      go_round
      case rel => exact ⟨i + 1, by first | rfl | simp, by omega⟩
      case measure => simp [intOf]; omega
    · have hik : i = k := by omega
      subst hik
      go_upto_region 5 with (go_at_call 20; try rw [HSA.out]; refine (HP.out _).mono ?_; clear HP; rintro e w2 ⟨u, rfl, hu, hb2⟩; obtain ⟨a90, l90, c90, s90, rfl⟩ := IsBig.form2 hu)
      obtain ⟨V1, hV⟩ : ∃ V, w2.alloc (.cells #[.slice a90 l90 c90, .bool s90] 32) = V := ⟨_, rfl⟩
      obtain ⟨B1, hBk⟩ : ∃ B, w2.heap.size = B := ⟨_, rfl⟩
      have MM : Mem w (w2.alloc (.cells #[.slice a90 l90 c90, .bool s90] 32)) [some (w.heap.size, .zref), some (w2.heap.size, .big (zv))] := Mem.push (M1.out.below hb2) (.big (zv)) hu
      rw [hV, hBk] at MM
      rw [hV]
      rw [hBk]
      have M2 : Hid (Mem w V1 [some (w.heap.size, .zref), some (B1, .big (zv))]) := hidD (MM)
      clear M1
      clear MM hV hBk
      clear hu hb2
      cases ok with
      | false =>
        have HL2 := hidD (show parseQ (wlst s) = none by rw [HL.out]; simp)
        have n2 := M2.out.zref (i := 0) rfl
        have e2a := n2.c0
        have e2b := n2.c1
        have e2c := n2.c2
        have e2d := n2.c3
        have f2a := n2.f0
        have f2b := n2.f1
        have f2c := n2.f2
        have f2d := n2.f3
        have HW := hidD (fun (V : World) => swhole_c 0 (by omega) (by omega) V)
        have hq : Below V1.heap.size V1 V1 := Below.refl _ _
        go_wp2_with (first
          | (go_at_call 45; refine (HW.out _).mono ?_; clear HW; rintro e w9 ⟨u9, rfl, hu9, hb9⟩; obtain ⟨a95, l95, c95, s95, b95, k95, d95, t95, rfl⟩ := IsRef.form hu9; have hq := Below.then hq hb9; have e2a := (n2.below hq).c0; have e2b := (n2.below hq).c1; have e2c := (n2.below hq).c2; have e2d := (n2.below hq).c3; have f2a := (n2.below hq).f0; have f2b := (n2.below hq).f1; have f2c := (n2.below hq).f2; have f2d := (n2.below hq).f3))
        have hq2 := M2.out.2.2.trans (hq.mono M2.out.2.2.size)
        have hge := M2.out.ge 0 rfl
        exact bodyPost_ret (v := .tuple #[.agg #[.slice a95 l95 c95, .bool s95, .slice b95 k95 d95, .bool t95], .bool false]) (by simp [results, Tryz.results8, go_sem, e2a, e2b, e2c, e2d]) rfl (ParseF.of (o := none) HL2.out rfl (hu9.put4 (n2.below hq) rfl rfl rfl rfl _ _ _ _) (below_put4 hq2 hge _ _ _ _))
      | true =>
        have HL2 := hidD (show parseQ (wlst s) = some ((zv : Int) : Rat) by rw [HL.out, HE.out (by first | rfl | trivial)]; simp)
        have h20 : ¬ ((2000 : Int) < (s.size : Int)) := by have := HG.out (by first | rfl | trivial); omega
        go_upto_region 8 with fail
        obtain ⟨a3, l3, c3, s3, n3, i3⟩ := M2.out.big (i := 1) rfl
        have e3a := n3.c0
        have e3b := n3.c1
        have n4 := M2.out.zref (i := 0) rfl
        have e4a := n4.c0
        have e4b := n4.c1
        have e4c := n4.c2
        have e4d := n4.c3
        have f4a := n4.f0
        have f4b := n4.f1
        have f4c := n4.f2
        have f4d := n4.f3
        have H1 := hidD (fun (V : World) (h : Below V1.heap.size V1 V) => of_c 1 (by omega) (by omega) V)
        have ne1 : B1 ≠ w.heap.size := M2.out.ne 1 0 rfl rfl (by decide)
        have hq : Below V1.heap.size V1 V1.drew := (Below.refl _ V1).drew
        go_region_held3 (fun w' => w'.cell? ⟨B1, 0, none⟩ = some (.slice a3 l3 c3) ∧ w'.cell? ⟨B1, 1, none⟩ = some (.bool s3)) (first | (with_reducible exact ⟨e3a, e3b⟩) | (go_keep; done) | (refine ⟨?_, ?_⟩ <;> ((repeat rw [cell_set_nb (by omega)]); first | assumption | (go_keep; done))))
          (first
            | (go_at_call 46; refine (H1.out _ hq ).mono ?_; clear H1; rintro e w1 ⟨v1, rfl, g1, hb1⟩; obtain ⟨a91, l91, c91, s91, rfl⟩ := IsBig.form2 g1; have hq := Below.then hq hb1; have e3a := (n3.below hq).c0; have e3b := (n3.below hq).c1; have e4a := (n4.below hq).c0; have e4b := (n4.below hq).c1; have e4c := (n4.below hq).c2; have e4d := (n4.below hq).c3; have f4a := (n4.below hq).f0; have f4b := (n4.below hq).f1; have f4c := (n4.below hq).f2; have f4d := (n4.below hq).f3))
        all_goals go_wp2_with fail
        have hr : IsRef w1 (.agg #[.slice a3 l3 c3, .bool s3, .slice a91 l91 c91, .bool s91]) ((some ((zv : Int) : Rat)).getD 0) := IsRef.mk (i3.below hq) g1
        have hq2 := M2.out.2.2.trans (hq.mono M2.out.2.2.size)
        have hge := M2.out.ge 0 rfl
        exact bodyPost_ret (v := .tuple #[.agg #[.slice a3 l3 c3, .bool s3, .slice a91 l91 c91, .bool s91], .bool true]) (by simp [results, Tryz.results8, go_sem, e4a, e4b, e4c, e4d]) rfl (ParseF.of HL2.out rfl (hr.put4 (n4.below hq) rfl rfl rfl rfl _ _ _ _) (below_put4 hq2 hge _ _ _ _))

set_option maxRecDepth 100000 in
set_option maxHeartbeats 8000000 in
theorem sparseC (s : ByteArray) (hsz : s.size ≤ 140737488351232) (hs : slashAt (wlst s) < (wlst s).length) (w : World) : Calls Tryz.prog 8 #[.string s] w (ParseF (wlst s) w) := by
  have hl := wlst_length s
  obtain ⟨k, hk⟩ : ∃ k, slashAt (wlst s) = k := ⟨_, rfl⟩
  have hks : k < s.size := by omega
  have HK := hidD hk
  have h47 := byte_eq hk hks
  have HP1 := hidD (fun (V : World) => parse_u (s.extract 0 k) (by rw [ByteArray.size_extract]; omega) V)
  have HP2 := hidD (fun (V : World) => parse_u (s.extract (k + 1) s.size) (by rw [ByteArray.size_extract]; omega) V)
  rw [wlst_take] at HP1
  rw [wlst_drop] at HP2
  have HLL := hidD (show 2000 < s.size → parseQ (wlst s) = none from fun h => pq_long (by omega))
  have HL := hidD (show ¬ 2000 < s.size → _ from fun h => pq_slash (l := wlst s) (by omega) hs)
  rw [hk] at HL
  obtain ⟨lA, hlA⟩ : ∃ l, (wlst s).take k = l := ⟨_, rfl⟩
  obtain ⟨lB, hlB⟩ : ∃ l, (wlst s).drop (k + 1) = l := ⟨_, rfl⟩
  rw [hlA, hlB] at HL
  rw [hlA] at HP1
  rw [hlB] at HP2
  obtain ⟨sA, hsA⟩ : ∃ t, s.extract 0 k = t := ⟨_, rfl⟩
  obtain ⟨sB, hsB⟩ : ∃ t, s.extract (k + 1) s.size = t := ⟨_, rfl⟩
  have HSA := hidD hsA
  have HSB := hidD hsB
  rw [hsA] at HP1
  rw [hsB] at HP2
  obtain ⟨za, hza⟩ : ∃ z, val0 lA = z := ⟨_, rfl⟩
  obtain ⟨zb, hzb⟩ : ∃ z, val0 lB = z := ⟨_, rfl⟩
  obtain ⟨oa, hoa⟩ : ∃ b, good lA = b := ⟨_, rfl⟩
  obtain ⟨ob, hob⟩ : ∃ b, good lB = b := ⟨_, rfl⟩
  have HZA := hidD (show Sok za by rw [← hza]; exact val0_sok _)
  have HZB := hidD (show Sok zb by rw [← hzb]; exact val0_sok _)
  have HA := hidD (show (oa = true → valZ lA = za) by rw [← hoa, ← hza]; unfold val0; exact fun h => by rw [if_pos h])
  have HB := hidD (show (ob = true → valZ lB = zb) by rw [← hob, ← hzb]; unfold val0; exact fun h => by rw [if_pos h])
  rw [hza, hoa] at HP1
  rw [hzb, hob] at HP2
  rw [hoa, hob] at HL
  have hk1 : (0 : Int) ≤ (k : Int) := by omega
  have hk2 : (k : Int) ≤ (s.size : Int) := by omega
  have hk3 : IntKind.i64.wrap ((k : Int) + 1) = (k : Int) + 1 := by rw [IntKind.wrap_i64]; omega
  have hk4 : (0 : Int) ≤ (k : Int) + 1 := by omega
  have hk5 : (k : Int) + 1 ≤ (s.size : Int) := by omega
  clear hl hs hlA hlB hsA hsB hza hzb hoa hob hk
  have M0 := ((Mem.nil w).push .zref rfl)
  have M0 : Mem w (w.alloc (.cells #[.slice none 0 0, .bool false, .slice none 0 0, .bool false] 34)) [some (w.heap.size, .zref)] := M0
  obtain ⟨W0, hW0⟩ : ∃ W0, w.alloc (.cells #[.slice none 0 0, .bool false, .slice none 0 0, .bool false] 34) = W0 := ⟨_, rfl⟩
  have HW0 := hidD hW0
  rw [hW0] at M0
  have M1 : Hid (Mem w W0 [some (w.heap.size, .zref)]) := hidD M0
  clear M0 hW0  
  go_enter Tryz.func8, Tryz.ntmps8
  go_upto_region 1 with fail
  rw [HW0.out]
  clear HW0
  go_wp2_with fail
  go_loop [4] (fun iv => ∃ i : Nat, iv = .int .i64 i ∧ i ≤ k) (fun iv => k - (intOf iv).toNat)
  case atStart => exact ⟨0, rfl, Nat.zero_le _⟩
  case round =>
    obtain ⟨i, rfl, hi⟩ := hrel
    rcases Nat.lt_or_ge i k with hlt | hge
    · have hl1 : i < s.size := by omega
      have hb := byte_ne hl1 (HK.out ▸ hlt)
      have hd : decide ((i : Int) < (s.size : Int)) = true := decide_eq_true (by omega)
      have hwr : IntKind.i64.wrap ((i : Int) + 1) = (i : Int) + 1 := by rw [IntKind.wrap_i64]; omega
      go_wp2_with fail
      go_round
      case rel => exact ⟨i + 1, by first | rfl | simp, by omega⟩
      case measure => simp [intOf]; omega
    · have hik : i = k := by omega
      subst hik
      have hd : decide ((i : Int) < (s.size : Int)) = true := decide_eq_true (by omega)
      go_upto_region 5 with (go_at_call 20; try rw [HSA.out]; refine (HP1.out _).mono ?_; clear HP1; rintro e w2 ⟨u, rfl, hu, hb2⟩; obtain ⟨a90, l90, c90, s90, rfl⟩ := IsBig.form2 hu)
      obtain ⟨V1, hV⟩ : ∃ V, w2.alloc (.cells #[.slice a90 l90 c90, .bool s90] 32) = V := ⟨_, rfl⟩
      obtain ⟨B1, hBk⟩ : ∃ B, w2.heap.size = B := ⟨_, rfl⟩
      have MM : Mem w (w2.alloc (.cells #[.slice a90 l90 c90, .bool s90] 32)) [some (w.heap.size, .zref), some (w2.heap.size, .big (za))] := Mem.push (M1.out.below hb2) (.big (za)) hu
      rw [hV, hBk] at MM
      rw [hV]
      rw [hBk]
      have M2 : Hid (Mem w V1 [some (w.heap.size, .zref), some (B1, .big (za))]) := hidD (MM)
      clear M1
      clear MM hV hBk
      clear hu hb2
      by_cases h20 : 2000 < s.size
      · have HL2 := hidD (HLL.out h20)
        have h21 : (2000 : Int) < (s.size : Int) := by omega
        cases oa with
        | false =>
          have n2 := M2.out.zref (i := 0) rfl
          have e2a := n2.c0
          have e2b := n2.c1
          have e2c := n2.c2
          have e2d := n2.c3
          have f2a := n2.f0
          have f2b := n2.f1
          have f2c := n2.f2
          have f2d := n2.f3
          have HW := hidD (fun (V : World) => swhole_c 0 (by omega) (by omega) V)
          have hq : Below V1.heap.size V1 V1 := Below.refl _ _
          go_wp2_with (first
            | (go_at_call 45; refine (HW.out _).mono ?_; clear HW; rintro e w9 ⟨u9, rfl, hu9, hb9⟩; obtain ⟨a95, l95, c95, s95, b95, k95, d95, t95, rfl⟩ := IsRef.form hu9; have hq := Below.then hq hb9; have e2a := (n2.below hq).c0; have e2b := (n2.below hq).c1; have e2c := (n2.below hq).c2; have e2d := (n2.below hq).c3; have f2a := (n2.below hq).f0; have f2b := (n2.below hq).f1; have f2c := (n2.below hq).f2; have f2d := (n2.below hq).f3))
          have hq2 := M2.out.2.2.trans (hq.mono M2.out.2.2.size)
          have hge := M2.out.ge 0 rfl
          exact bodyPost_ret (v := .tuple #[.agg #[.slice a95 l95 c95, .bool s95, .slice b95 k95 d95, .bool t95], .bool false]) (by simp [results, Tryz.results8, go_sem, e2a, e2b, e2c, e2d]) rfl (ParseF.of (o := none) HL2.out rfl (hu9.put4 (n2.below hq) rfl rfl rfl rfl _ _ _ _) (below_put4 hq2 hge _ _ _ _))
        | true =>
          have n3 := M2.out.zref (i := 0) rfl
          have e3a := n3.c0
          have e3b := n3.c1
          have e3c := n3.c2
          have e3d := n3.c3
          have f3a := n3.f0
          have f3b := n3.f1
          have f3c := n3.f2
          have f3d := n3.f3
          have HW := hidD (fun (V : World) => swhole_c 0 (by omega) (by omega) V)
          have hq : Below V1.heap.size V1 V1 := Below.refl _ _
          go_wp2_with (first
            | (go_at_call 45; refine (HW.out _).mono ?_; clear HW; rintro e w9 ⟨u9, rfl, hu9, hb9⟩; obtain ⟨a95, l95, c95, s95, b95, k95, d95, t95, rfl⟩ := IsRef.form hu9; have hq := Below.then hq hb9; have e3a := (n3.below hq).c0; have e3b := (n3.below hq).c1; have e3c := (n3.below hq).c2; have e3d := (n3.below hq).c3; have f3a := (n3.below hq).f0; have f3b := (n3.below hq).f1; have f3c := (n3.below hq).f2; have f3d := (n3.below hq).f3))
          have hq2 := M2.out.2.2.trans (hq.mono M2.out.2.2.size)
          have hge := M2.out.ge 0 rfl
          exact bodyPost_ret (v := .tuple #[.agg #[.slice a95 l95 c95, .bool s95, .slice b95 k95 d95, .bool t95], .bool false]) (by simp [results, Tryz.results8, go_sem, e3a, e3b, e3c, e3d]) rfl (ParseF.of (o := none) HL2.out rfl (hu9.put4 (n3.below hq) rfl rfl rfl rfl _ _ _ _) (below_put4 hq2 hge _ _ _ _))
      · have HL3 := hidD (HL.out h20)
        have h21 : ¬ ((2000 : Int) < (s.size : Int)) := by omega
        clear h20 HL HLL
        cases oa with
        | false =>
          have HL2 := hidD (show parseQ (wlst s) = none by rw [HL3.out]; simp)
          have n4 := M2.out.zref (i := 0) rfl
          have e4a := n4.c0
          have e4b := n4.c1
          have e4c := n4.c2
          have e4d := n4.c3
          have f4a := n4.f0
          have f4b := n4.f1
          have f4c := n4.f2
          have f4d := n4.f3
          have HW := hidD (fun (V : World) => swhole_c 0 (by omega) (by omega) V)
          have hq : Below V1.heap.size V1 V1 := Below.refl _ _
          go_wp2_with (first
            | (go_at_call 45; refine (HW.out _).mono ?_; clear HW; rintro e w9 ⟨u9, rfl, hu9, hb9⟩; obtain ⟨a95, l95, c95, s95, b95, k95, d95, t95, rfl⟩ := IsRef.form hu9; have hq := Below.then hq hb9; have e4a := (n4.below hq).c0; have e4b := (n4.below hq).c1; have e4c := (n4.below hq).c2; have e4d := (n4.below hq).c3; have f4a := (n4.below hq).f0; have f4b := (n4.below hq).f1; have f4c := (n4.below hq).f2; have f4d := (n4.below hq).f3))
          have hq2 := M2.out.2.2.trans (hq.mono M2.out.2.2.size)
          have hge := M2.out.ge 0 rfl
          exact bodyPost_ret (v := .tuple #[.agg #[.slice a95 l95 c95, .bool s95, .slice b95 k95 d95, .bool t95], .bool false]) (by simp [results, Tryz.results8, go_sem, e4a, e4b, e4c, e4d]) rfl (ParseF.of (o := none) HL2.out rfl (hu9.put4 (n4.below hq) rfl rfl rfl rfl _ _ _ _) (below_put4 hq2 hge _ _ _ _))
        | true =>
          have hke : ((i : Int) == (s.size : Int)) = false := by rw [beq_eq_false_iff_ne]; omega
          go_upto_region 10 with (go_at_call 20; try rw [HSB.out]; refine (HP2.out _).mono ?_; clear HP2; rintro e w3 ⟨u, rfl, hu, hb3⟩; obtain ⟨a91, l91, c91, s91, rfl⟩ := IsBig.form2 hu)
          obtain ⟨V5, hV⟩ : ∃ V, w3.alloc (.cells #[.slice a91 l91 c91, .bool s91] 32) = V := ⟨_, rfl⟩
          obtain ⟨B5, hBk⟩ : ∃ B, w3.heap.size = B := ⟨_, rfl⟩
          have MM : Mem w (w3.alloc (.cells #[.slice a91 l91 c91, .bool s91] 32)) [some (w.heap.size, .zref), some (B1, .big (za)), some (w3.heap.size, .big (zb))] := Mem.push (M2.out.below hb3) (.big (zb)) hu
          rw [hV, hBk] at MM
          rw [hV]
          rw [hBk]
          have M3 : Hid (Mem w V5 [some (w.heap.size, .zref), some (B1, .big (za)), some (B5, .big (zb))]) := hidD (MM)
          clear M2
          clear MM hV hBk
          clear hu hb3
          cases ob with
          | false =>
            have HL2 := hidD (show parseQ (wlst s) = none by rw [HL3.out]; simp)
            have n6 := M3.out.zref (i := 0) rfl
            have e6a := n6.c0
            have e6b := n6.c1
            have e6c := n6.c2
            have e6d := n6.c3
            have f6a := n6.f0
            have f6b := n6.f1
            have f6c := n6.f2
            have f6d := n6.f3
            have HW := hidD (fun (V : World) => swhole_c 0 (by omega) (by omega) V)
            have hq : Below V5.heap.size V5 V5 := Below.refl _ _
            go_wp2_with (first
              | (go_at_call 45; refine (HW.out _).mono ?_; clear HW; rintro e w9 ⟨u9, rfl, hu9, hb9⟩; obtain ⟨a95, l95, c95, s95, b95, k95, d95, t95, rfl⟩ := IsRef.form hu9; have hq := Below.then hq hb9; have e6a := (n6.below hq).c0; have e6b := (n6.below hq).c1; have e6c := (n6.below hq).c2; have e6d := (n6.below hq).c3; have f6a := (n6.below hq).f0; have f6b := (n6.below hq).f1; have f6c := (n6.below hq).f2; have f6d := (n6.below hq).f3))
            have hq2 := M3.out.2.2.trans (hq.mono M3.out.2.2.size)
            have hge := M3.out.ge 0 rfl
            exact bodyPost_ret (v := .tuple #[.agg #[.slice a95 l95 c95, .bool s95, .slice b95 k95 d95, .bool t95], .bool false]) (by simp [results, Tryz.results8, go_sem, e6a, e6b, e6c, e6d]) rfl (ParseF.of (o := none) HL2.out rfl (hu9.put4 (n6.below hq) rfl rfl rfl rfl _ _ _ _) (below_put4 hq2 hge _ _ _ _))
          | true =>
            obtain ⟨a7, l7, c7, s7, n7, i7⟩ := M3.out.big (i := 1) rfl
            have e7a := n7.c0
            have e7b := n7.c1
            obtain ⟨a8, l8, c8, s8, n8, i8⟩ := M3.out.big (i := 2) rfl
            have e8a := n8.c0
            have e8b := n8.c1
            have HO := hidD (rsign_c _ zb V5 i8)
            by_cases hz : 0 < zb
            · have HZ := hidD hz
              have HL2 := hidD (show parseQ (wlst s) = some (Rat.divInt za zb) by rw [HL3.out, HA.out (by first | rfl | trivial), HB.out (by first | rfl | trivial), if_pos (by first | exact ⟨rfl, rfl, hz⟩ | exact ⟨trivial, rfl, hz⟩ | exact ⟨trivial, trivial, hz⟩)])
              rw [Int.sign_eq_one_of_pos hz] at HO
              clear hz
              have n9 := M3.out.zref (i := 0) rfl
              have e9a := n9.c0
              have e9b := n9.c1
              have e9c := n9.c2
              have e9d := n9.c3
              have f9a := n9.f0
              have f9b := n9.f1
              have f9c := n9.f2
              have f9d := n9.f3
              have HR := hidD (fun (V : World) (h : Below V5.heap.size V5 V) => smade_c _ _ za zb V (i7.below h) (i8.below h) (by have := HZ.out; omega) HZA.out HZB.out)
              go_wp2_with (first
                | (go_at_call 23; refine HO.out.mono ?_; clear HO; rintro e w4 ⟨rfl, hq⟩; have e7a := (n7.below hq).c0; have e7b := (n7.below hq).c1; have e8a := (n8.below hq).c0; have e8b := (n8.below hq).c1)
                | (go_at_call 24; refine (HR.out _ hq).mono ?_; clear HR; rintro e w5 ⟨u5, rfl, hu5, hb5⟩; obtain ⟨a92, l92, c92, s92, b92, k92, d92, t92, rfl⟩ := IsRef.form hu5; have hq := Below.then hq hb5; have e9a := (n9.below hq).c0; have e9b := (n9.below hq).c1; have e9c := (n9.below hq).c2; have e9d := (n9.below hq).c3; have f9a := (n9.below hq).f0; have f9b := (n9.below hq).f1; have f9c := (n9.below hq).f2; have f9d := (n9.below hq).f3))
              have hq2 := M3.out.2.2.trans (hq.mono M3.out.2.2.size)
              have hge := M3.out.ge 0 rfl
              exact bodyPost_ret (v := .tuple #[.agg #[.slice a92 l92 c92, .bool s92, .slice b92 k92 d92, .bool t92], .bool true]) (by simp [results, Tryz.results8, go_sem, e9a, e9b, e9c, e9d]) rfl (ParseF.of HL2.out rfl (hu5.put4 (n9.below hq) rfl rfl rfl rfl _ _ _ _) (below_put4 hq2 hge _ _ _ _))
            · have HL2 := hidD (show parseQ (wlst s) = none by rw [HL3.out, HB.out (by first | rfl | trivial), if_neg (fun h => hz h.2.2)])
              rcases Int.lt_or_eq_of_le (show zb ≤ 0 by omega) with hz1 | hz1
              · rw [Int.sign_eq_neg_one_of_neg hz1] at HO
                clear hz1 hz
                have n10 := M3.out.zref (i := 0) rfl
                have e10a := n10.c0
                have e10b := n10.c1
                have e10c := n10.c2
                have e10d := n10.c3
                have f10a := n10.f0
                have f10b := n10.f1
                have f10c := n10.f2
                have f10d := n10.f3
                have HW := hidD (fun (V : World) => swhole_c 0 (by omega) (by omega) V)
                have hq : Below V5.heap.size V5 V5 := Below.refl _ _
                go_wp2_with (first
                  | (go_at_call 23; refine HO.out.mono ?_; clear HO; rintro e w4 ⟨rfl, hb4⟩; have hq := Below.then hq hb4)
                  | (go_at_call 45; refine (HW.out _).mono ?_; clear HW; rintro e w9 ⟨u9, rfl, hu9, hb9⟩; obtain ⟨a95, l95, c95, s95, b95, k95, d95, t95, rfl⟩ := IsRef.form hu9; have hq := Below.then hq hb9; have e10a := (n10.below hq).c0; have e10b := (n10.below hq).c1; have e10c := (n10.below hq).c2; have e10d := (n10.below hq).c3; have f10a := (n10.below hq).f0; have f10b := (n10.below hq).f1; have f10c := (n10.below hq).f2; have f10d := (n10.below hq).f3))
                have hq2 := M3.out.2.2.trans (hq.mono M3.out.2.2.size)
                have hge := M3.out.ge 0 rfl
                exact bodyPost_ret (v := .tuple #[.agg #[.slice a95 l95 c95, .bool s95, .slice b95 k95 d95, .bool t95], .bool false]) (by simp [results, Tryz.results8, go_sem, e10a, e10b, e10c, e10d]) rfl (ParseF.of (o := none) HL2.out rfl (hu9.put4 (n10.below hq) rfl rfl rfl rfl _ _ _ _) (below_put4 hq2 hge _ _ _ _))
              · rw [hz1, Int.sign_zero] at HO
                clear hz
                have n11 := M3.out.zref (i := 0) rfl
                have e11a := n11.c0
                have e11b := n11.c1
                have e11c := n11.c2
                have e11d := n11.c3
                have f11a := n11.f0
                have f11b := n11.f1
                have f11c := n11.f2
                have f11d := n11.f3
                have HW := hidD (fun (V : World) => swhole_c 0 (by omega) (by omega) V)
                have hq : Below V5.heap.size V5 V5 := Below.refl _ _
                go_wp2_with (first
                  | (go_at_call 23; refine HO.out.mono ?_; clear HO; rintro e w4 ⟨rfl, hb4⟩; have hq := Below.then hq hb4)
                  | (go_at_call 45; refine (HW.out _).mono ?_; clear HW; rintro e w9 ⟨u9, rfl, hu9, hb9⟩; obtain ⟨a95, l95, c95, s95, b95, k95, d95, t95, rfl⟩ := IsRef.form hu9; have hq := Below.then hq hb9; have e11a := (n11.below hq).c0; have e11b := (n11.below hq).c1; have e11c := (n11.below hq).c2; have e11d := (n11.below hq).c3; have f11a := (n11.below hq).f0; have f11b := (n11.below hq).f1; have f11c := (n11.below hq).f2; have f11d := (n11.below hq).f3))
                have hq2 := M3.out.2.2.trans (hq.mono M3.out.2.2.size)
                have hge := M3.out.ge 0 rfl
                exact bodyPost_ret (v := .tuple #[.agg #[.slice a95 l95 c95, .bool s95, .slice b95 k95 d95, .bool t95], .bool false]) (by simp [results, Tryz.results8, go_sem, e11a, e11b, e11c, e11d]) rfl (ParseF.of (o := none) HL2.out rfl (hu9.put4 (n11.below hq) rfl rfl rfl rfl _ _ _ _) (below_put4 hq2 hge _ _ _ _))

theorem sparse_c (s : ByteArray) (hs : s.size ≤ 140737488351232) (w : World) : Calls Tryz.prog 8 #[.string s] w (ParseF (wlst s) w) := by
  rcases slash_index (wlst s) with ⟨h1, _⟩ | ⟨h1, _⟩
  · exact sparseC s hs h1 w
  · exact sparseB s hs h1 w
end Go.Proofs.YtcahodpphikgnaaGreatDoor
namespace Go.Proofs.YtcahodpphikgnaaGreatDoor
open Go.RowKit Go.Shelf

attribute [local go_sem] Oper.semAt_some

set_option maxRecDepth 100000 in
set_option maxHeartbeats 1000000 in
theorem num_c (va : Value) (q : Rat) (w : World) (ha : IsRat w va q) :
    Calls Tryz.prog 9 #[va] w fun e w' => ∃ u, e = .returned u ∧ IsInt w' u q.num ∧ Below w.heap.size w w' := by
  obtain ⟨s900, a900, l900, c900, t900, b900, k900, d900, rfl⟩ := IsRat.form ha
  have M0 := (((Mem.nil w).push (.rat (q)) ha).push (.int 0) (int0 _))
  simp only [World.size_alloc] at M0
  have M0 : Mem w ((w.alloc (.cells #[.bool s900, .slice a900 l900 c900, .bool t900, .slice b900 k900 d900] 27)).alloc (.cells #[.bool false, .slice none 0 0] 25)) [some (w.heap.size, .rat (q)), some (w.heap.size + 1, .int (0))] := M0
  obtain ⟨W0, hW0⟩ : ∃ W0, (w.alloc (.cells #[.bool s900, .slice a900 l900 c900, .bool t900, .slice b900 k900 d900] 27)).alloc (.cells #[.bool false, .slice none 0 0] 25) = W0 := ⟨_, rfl⟩
  have HW0 := hidD hW0
  rw [hW0] at M0
  have M1 : Hid (Mem w W0 [some (w.heap.size, .rat (q)), some (w.heap.size + 1, .int (0))]) := hidD M0
  clear M0 hW0 ha 
  go_enter Tryz.func9, Tryz.ntmps9
  go_upto_region 1 with fail
  rw [HW0.out]
  clear HW0
  obtain ⟨s1, a1, l1, c1, t1, b1, k1, d1, n1, r1, i1, j1⟩ := M1.out.rat (i := 0) rfl
  have e1a := n1.c0
  have e1b := n1.c1
  have e1c := n1.c2
  have e1d := n1.c3
  obtain ⟨s2, a2, l2, c2, n2, i2⟩ := M1.out.int (i := 1) rfl
  have e2a := n2.c0
  have e2b := n2.c1
  have f2a := n2.f0
  have f2b := n2.f1
  have hB := M1.out.2.2
  have hge := M1.out.ge 1 rfl
  go_wp2_with fail
  exact bodyPost_ret (v := .agg #[.bool s1, .slice a1 l1 c1]) (by simp [results, Tryz.results9, go_sem, e2a, e2b]) rfl ⟨_, rfl, i1.box n2 rfl rfl, (hB.setCell (p := ⟨_, 0, none⟩) hge _).setCell (p := ⟨_, 1, none⟩) hge _⟩

set_option maxRecDepth 100000 in
set_option maxHeartbeats 1000000 in
theorem given_c (s : ByteArray) (w : World) :
    Calls Tryz.prog 26 #[.string s] w fun e w' => ∃ u, e = .returned u ∧ IsRat w' u (valQ (wlst s)) ∧ Below w.heap.size w w' := by
  have HC := hidD (fun (V : World) => qparse_c s V)
  obtain ⟨q, hq⟩ : ∃ q, valQ (wlst s) = q := ⟨_, rfl⟩
  obtain ⟨o, ho⟩ : ∃ o, (parseQ (wlst s)).isSome = o := ⟨_, rfl⟩
  unfold ParseR at HC
  rw [hq, ho] at HC
  rw [hq]
  clear hq ho
  have M0 := ((Mem.nil w).push (.rat 0) (rat0 _))
  have M0 : Mem w (w.alloc (.cells #[.bool false, .slice none 0 0, .bool false, .slice none 0 0] 27)) [some (w.heap.size, .rat (0))] := M0
  obtain ⟨W0, hW0⟩ : ∃ W0, w.alloc (.cells #[.bool false, .slice none 0 0, .bool false, .slice none 0 0] 27) = W0 := ⟨_, rfl⟩
  have HW0 := hidD hW0
  rw [hW0] at M0
  have M1 : Hid (Mem w W0 [some (w.heap.size, .rat (0))]) := hidD M0
  clear M0 hW0  
  go_enter Tryz.func26, Tryz.ntmps26
  go_upto_region 1 with fail
  rw [HW0.out]
  clear HW0
  go_upto_region 2 with (go_at_call 7; refine (HC.out _).mono ?_; clear HC; rintro e w1 ⟨u, rfl, hu, hb⟩; obtain ⟨s90, a90, l90, c90, t90, b90, k90, d90, rfl⟩ := IsRat.form hu)
  obtain ⟨V1, hV⟩ : ∃ V, w1.alloc (.cells #[.bool s90, .slice a90 l90 c90, .bool t90, .slice b90 k90 d90] 27) = V := ⟨_, rfl⟩
  obtain ⟨B1, hBk⟩ : ∃ B, w1.heap.size = B := ⟨_, rfl⟩
  have MM : Mem w (w1.alloc (.cells #[.bool s90, .slice a90 l90 c90, .bool t90, .slice b90 k90 d90] 27)) [some (w.heap.size, .rat (0)), some (w1.heap.size, .rat (q))] := Mem.push (M1.out.below hb) (.rat (q)) hu
  rw [hV, hBk] at MM
  rw [hV]
  rw [hBk]
  have M2 : Hid (Mem w V1 [some (w.heap.size, .rat (0)), some (B1, .rat (q))]) := hidD (MM)
  clear M1
  clear MM hV hBk
  clear hu hb
  obtain ⟨s2, a2, l2, c2, t2, b2, k2, d2, n2, r2, i2, j2⟩ := M2.out.rat (i := 1) rfl
  have e2a := n2.c0
  have e2b := n2.c1
  have e2c := n2.c2
  have e2d := n2.c3
  obtain ⟨s3, a3, l3, c3, t3, b3, k3, d3, n3, r3, i3, j3⟩ := M2.out.rat (i := 0) rfl
  have e3a := n3.c0
  have e3b := n3.c1
  have e3c := n3.c2
  have e3d := n3.c3
  have f3a := n3.f0
  have f3b := n3.f1
  have f3c := n3.f2
  have f3d := n3.f3
  have hB := M2.out.2.2
  have hge := M2.out.ge 0 rfl
  go_wp2_with fail
  exact bodyPost_ret (v := .agg #[.bool s2, .slice a2 l2 c2, .bool t2, .slice b2 k2 d2]) (by simp [results, Tryz.results26, go_sem, e3a, e3b, e3c, e3d]) rfl ⟨_, rfl, r2.put4 n3 rfl rfl rfl rfl _ _ _ _, below_put4 hB hge _ _ _ _⟩

set_option maxRecDepth 100000 in
set_option maxHeartbeats 1000000 in
theorem read_c (s : ByteArray) (hs : s.size ≤ 140737488351232) (w : World) :
    Calls Tryz.prog 25 #[.string s] w fun e w' => ∃ u, e = .returned u ∧ IsRef w' u (valQ (wlst s)) ∧ Below w.heap.size w w' := by
  have HC := hidD (fun (V : World) => sparse_c s hs V)
  obtain ⟨q, hq⟩ : ∃ q, valQ (wlst s) = q := ⟨_, rfl⟩
  obtain ⟨o, ho⟩ : ∃ o, (parseQ (wlst s)).isSome = o := ⟨_, rfl⟩
  unfold ParseF at HC
  rw [hq, ho] at HC
  rw [hq]
  clear hq ho hs
  have M0 := ((Mem.nil w).push .zref rfl)
  have M0 : Mem w (w.alloc (.cells #[.slice none 0 0, .bool false, .slice none 0 0, .bool false] 34)) [some (w.heap.size, .zref)] := M0
  obtain ⟨W0, hW0⟩ : ∃ W0, w.alloc (.cells #[.slice none 0 0, .bool false, .slice none 0 0, .bool false] 34) = W0 := ⟨_, rfl⟩
  have HW0 := hidD hW0
  rw [hW0] at M0
  have M1 : Hid (Mem w W0 [some (w.heap.size, .zref)]) := hidD M0
  clear M0 hW0  
  go_enter Tryz.func25, Tryz.ntmps25
  go_upto_region 1 with fail
  rw [HW0.out]
  clear HW0
  go_upto_region 2 with (go_at_call 8; refine (HC.out _).mono ?_; clear HC; rintro e w1 ⟨u, rfl, hu, hb⟩; obtain ⟨a90, l90, c90, s90, b90, k90, d90, t90, rfl⟩ := IsRef.form hu)
  obtain ⟨V1, hV⟩ : ∃ V, w1.alloc (.cells #[.slice a90 l90 c90, .bool s90, .slice b90 k90 d90, .bool t90] 34) = V := ⟨_, rfl⟩
  obtain ⟨B1, hBk⟩ : ∃ B, w1.heap.size = B := ⟨_, rfl⟩
  have MM : Mem w (w1.alloc (.cells #[.slice a90 l90 c90, .bool s90, .slice b90 k90 d90, .bool t90] 34)) [some (w.heap.size, .zref), some (w1.heap.size, .ref (q))] := Mem.push (M1.out.below hb) (.ref (q)) hu
  rw [hV, hBk] at MM
  rw [hV]
  rw [hBk]
  have M2 : Hid (Mem w V1 [some (w.heap.size, .zref), some (B1, .ref (q))]) := hidD (MM)
  clear M1
  clear MM hV hBk
  clear hu hb
  obtain ⟨a2, l2, c2, s2, b2, k2, d2, t2, n2, r2, i2, j2⟩ := M2.out.ref (i := 1) rfl
  have e2a := n2.c0
  have e2b := n2.c1
  have e2c := n2.c2
  have e2d := n2.c3
  have n3 := M2.out.zref (i := 0) rfl
  have e3a := n3.c0
  have e3b := n3.c1
  have e3c := n3.c2
  have e3d := n3.c3
  have f3a := n3.f0
  have f3b := n3.f1
  have f3c := n3.f2
  have f3d := n3.f3
  have hB := M2.out.2.2
  have hge := M2.out.ge 0 rfl
  go_wp2_with fail
  exact bodyPost_ret (v := .agg #[.slice a2 l2 c2, .bool s2, .slice b2 k2 d2, .bool t2]) (by simp [results, Tryz.results25, go_sem, e3a, e3b, e3c, e3d]) rfl ⟨_, rfl, r2.put4 n3 rfl rfl rfl rfl _ _ _ _, below_put4 hB hge _ _ _ _⟩

/-- The fractions of alive. -/
def aliveP : Rat := ⟨3, 2, by decide, by decide⟩
def aliveQ : Rat := ⟨9, 4, by decide, by decide⟩

theorem aliveP_parse : parseQ [54, 47, 52] = some aliveP := by
  have h1 : slashAt [54, 47, 52] = 1 := by decide
  have h2 : good [54] = true := by decide
  have h3 : good [52] = true := by decide
  have h4 : valZ [54] = 6 := by decide
  have h5 : valZ [52] = 4 := by decide
  rw [pq_slash (by decide) (by rw [h1]; decide), h1]
  show (if good [54] = true ∧ good [52] = true ∧ 0 < valZ [52] then some (Rat.divInt (valZ [54]) (valZ [52])) else none) = _
  rw [if_pos ⟨h2, h3, by rw [h5]; decide⟩, h4, h5]
  exact congrArg some (by decide)
theorem aliveP_mul : aliveP * aliveP = aliveQ := by
  rw [← mul_eq]
  decide
theorem decZ_of {l : List UInt8} {z : Int} (h : good l = true) (hv : valZ l = z) : decZ z = l := by rw [← hv]; exact good_dec h
theorem aliveP_text : textQ aliveP = [51, 47, 50] := by
  unfold textQ
  rw [if_neg (by decide), show decZ aliveP.num = [51] from decZ_of (by decide) (by decide), show decZ (aliveP.den : Int) = [50] from decZ_of (by decide) (by decide)]
  rfl
theorem aliveQ_text : textQ aliveQ = [57, 47, 52] := by
  unfold textQ
  rw [if_neg (by decide), show decZ aliveQ.num = [57] from decZ_of (by decide) (by decide), show decZ (aliveQ.den : Int) = [52] from decZ_of (by decide) (by decide)]
  rfl
theorem aliveQ_cmp : cmpQ aliveQ aliveP = 1 := by decide
theorem aliveP_sq : Sq aliveP := Sq.of (k := 1) ⟨by show Sm 1 3; unfold Sm B64; decide, by show Sm 1 2; unfold Sm B64; decide⟩ (by omega)
theorem aliveQ_sq : Sq aliveQ := Sq.of (k := 1) ⟨by show Sm 1 9; unfold Sm B64; decide, by show Sm 1 4; unfold Sm B64; decide⟩ (by omega)

set_option maxRecDepth 100000 in
set_option maxHeartbeats 2000000 in
theorem kalive_c (w : World) (htab : Lib.TabIs Tryz.prog w "internal/strconv.uint64pow10" .u64 Lib.pow10Tab) :
    Calls Tryz.prog 19 #[] w fun e w' => e = .returned (.bool true) ∧ Below w.heap.size w w' := by
  have HT := hidD htab
  have HC := hidD (fun (V : World) => show Calls Tryz.prog 7 #[.string ⟨#[54, 47, 52]⟩] V fun e w' => ∃ u, e = .returned (.tuple #[u, .bool true]) ∧ IsRat w' u aliveP ∧ Below V.heap.size V w' by
    have h := qparse_c ⟨#[54, 47, 52]⟩ V
    unfold ParseR valQ at h
    rw [show wlst ⟨#[54, 47, 52]⟩ = [54, 47, 52] from rfl, aliveP_parse] at h
    exact h)
  clear htab
  have M0 : Hid (Mem w w []) := hidD (Mem.nil w)
  go_enter Tryz.func19, Tryz.ntmps19
  go_upto_region 2 with (go_at_call 7; refine (HC.out _).mono ?_; clear HC; rintro e w1 ⟨u, rfl, hu, hb⟩; obtain ⟨s90, a90, l90, c90, t90, b90, k90, d90, rfl⟩ := IsRat.form hu)
  obtain ⟨V1, hV⟩ : ∃ V, w1.alloc (.cells #[.bool s90, .slice a90 l90 c90, .bool t90, .slice b90 k90 d90] 27) = V := ⟨_, rfl⟩
  obtain ⟨B1, hBk⟩ : ∃ B, w1.heap.size = B := ⟨_, rfl⟩
  have MM : Mem w (w1.alloc (.cells #[.bool s90, .slice a90 l90 c90, .bool t90, .slice b90 k90 d90] 27)) [some (w1.heap.size, .rat (aliveP))] := Mem.push (M0.out.below hb) (.rat (aliveP)) hu
  rw [hV, hBk] at MM
  rw [hV]
  rw [hBk]
  have M1 : Hid (Mem w V1 [some (B1, .rat (aliveP))]) := hidD (MM)
  clear M0
  clear MM hV hBk
  clear hu hb
  obtain ⟨s2, a2, l2, c2, t2, b2, k2, d2, n2, r2, i2, j2⟩ := M1.out.rat (i := 0) rfl
  have e2a := n2.c0
  have e2b := n2.c1
  have e2c := n2.c2
  have e2d := n2.c3
  have H1 := hidD (qtimes_c _ _ aliveP aliveP V1 r2 r2 aliveP_sq aliveP_sq)
  rw [aliveP_mul] at H1
  go_upto_region 3 with (go_at_call 29; refine H1.out.mono ?_; clear H1; rintro e w2 ⟨u, rfl, hu, hb⟩; obtain ⟨s91, a91, l91, c91, t91, b91, k91, d91, rfl⟩ := IsRat.form hu)
  obtain ⟨V3, hV⟩ : ∃ V, w2.alloc (.cells #[.bool s91, .slice a91 l91 c91, .bool t91, .slice b91 k91 d91] 27) = V := ⟨_, rfl⟩
  obtain ⟨B3, hBk⟩ : ∃ B, w2.heap.size = B := ⟨_, rfl⟩
  have MM : Mem w (w2.alloc (.cells #[.bool s91, .slice a91 l91 c91, .bool t91, .slice b91 k91 d91] 27)) [some (B1, .rat (aliveP)), some (w2.heap.size, .rat (aliveQ))] := Mem.push (M1.out.below hb) (.rat (aliveQ)) hu
  rw [hV, hBk] at MM
  rw [hV]
  rw [hBk]
  have M2 : Hid (Mem w V3 [some (B1, .rat (aliveP)), some (B3, .rat (aliveQ))]) := hidD (MM)
  clear M1
  clear MM hV hBk
  clear n2 e2a e2b e2c e2d i2 r2 j2 hu hb
  obtain ⟨s4, a4, l4, c4, t4, b4, k4, d4, n4, r4, i4, j4⟩ := M2.out.rat (i := 0) rfl
  have e4a := n4.c0
  have e4b := n4.c1
  have e4c := n4.c2
  have e4d := n4.c3
  obtain ⟨s5, a5, l5, c5, t5, b5, k5, d5, n5, r5, i5, j5⟩ := M2.out.rat (i := 1) rfl
  have e5a := n5.c0
  have e5b := n5.c1
  have e5c := n5.c2
  have e5d := n5.c3
  have H2 := hidD (fun (V : World) (h : Below V3.heap.size V3 V) => qtext_c _ aliveP V (r4.below h) aliveP_sq (tab_below HT.out (M2.out.2.2.trans (h.mono M2.out.2.2.size))))
  rw [aliveP_text] at H2
  have H3 := hidD (fun (V : World) (h : Below V3.heap.size V3 V) => qtext_c _ aliveQ V (r5.below h) aliveQ_sq (tab_below HT.out (M2.out.2.2.trans (h.mono M2.out.2.2.size))))
  rw [aliveQ_text] at H3
  have H4 := hidD (fun (V : World) (h : Below V3.heap.size V3 V) => qorder_c _ _ aliveQ aliveP V (r5.below h) (r4.below h) aliveQ_sq aliveP_sq)
  rw [aliveQ_cmp] at H4
  have hq : Below V3.heap.size V3 V3 := Below.refl _ _
  go_wp2_with (first
    | (go_at_call 11; refine (H2.out _ hq).mono ?_; clear H2; rintro e w3 ⟨rfl, hb3⟩; have hq := Below.then hq hb3; have e4a := (n4.below hq).c0; have e4b := (n4.below hq).c1; have e4c := (n4.below hq).c2; have e4d := (n4.below hq).c3; have e5a := (n5.below hq).c0; have e5b := (n5.below hq).c1; have e5c := (n5.below hq).c2; have e5d := (n5.below hq).c3)
    | (go_at_call 11; refine (H3.out _ hq).mono ?_; clear H3; rintro e w4 ⟨rfl, hb4⟩; have hq := Below.then hq hb4; have e4a := (n4.below hq).c0; have e4b := (n4.below hq).c1; have e4c := (n4.below hq).c2; have e4d := (n4.below hq).c3; have e5a := (n5.below hq).c0; have e5b := (n5.below hq).c1; have e5c := (n5.below hq).c2; have e5d := (n5.below hq).c3)
    | (go_at_call 34; refine (H4.out _ hq).mono ?_; clear H4; rintro e w5 ⟨rfl, hb5⟩; have hq := Below.then hq hb5))
  go_ret
  exact ⟨rfl, M2.out.2.2.trans (hq.mono M2.out.2.2.size)⟩
end Go.Proofs.YtcahodpphikgnaaGreatDoor
namespace Go.Proofs.YtcahodpphikgnaaGreatDoor
open Go.RowKit Go.Shelf

attribute [local go_sem] Oper.semAt_some

theorem textQ_nought : textQ 0 = [48] := by
  unfold textQ
  rw [if_pos (by decide), show decZ (Rat.num 0) = [48] from decZ_of (by decide) (by decide)]

theorem val0_bad {l : List UInt8} (h : good l = false) : val0 l = 0 := by unfold val0; rw [h]; simp
theorem val0_sm (l : List UInt8) : Sm 2000 (val0 l) := by
  unfold val0
  split
  · rename_i h; exact Sm.good h
  · exact Sm.zero _
theorem divInt_sq {x y : Int} (hx : Sm 2000 x) (hy : Sm 2000 y) : Sq (Rat.divInt x y) := by
  by_cases h : y = 0
  · rw [h, Rat.divInt_zero]; exact Sq.of (k := 1) ⟨Sm.zero _, Sm.one _ (by omega)⟩ (by omega)
  · exact Sq.of (SmQ.divInt h hx hy) (by omega)

set_option maxRecDepth 100000 in
set_option maxHeartbeats 8000000 in
theorem ratioOf_c (s t : ByteArray) (hs : s.size ≤ 140737488351232) (ht : t.size ≤ 140737488351232) (w : World) (htab : Lib.TabIs Tryz.prog w "internal/strconv.uint64pow10" .u64 Lib.pow10Tab) :
    Calls Tryz.prog 4 #[.string s, .string t] w fun e w' => e = .returned (.bool true) ∧ Below w.heap.size w w' := by
  have HT := hidD htab
  have P1 := hidD (fun (V : World) => parse_u s hs V)
  have P2 := hidD (fun (V : World) => parse_u t ht V)
  have P3 := hidD (fun (V : World) => iparse_u s hs V)
  have P4 := hidD (fun (V : World) => iparse_u t ht V)
  have HX := hidD (val0_sok (wlst s))
  have HY := hidD (val0_sok (wlst t))
  have HQ := hidD (divInt_sq (val0_sm (wlst s)) (val0_sm (wlst t)))
  have HZ := hidD (fun h : good (wlst t) = false => val0_bad h)
  obtain ⟨x, hx⟩ : ∃ x, val0 (wlst s) = x := ⟨_, rfl⟩
  obtain ⟨y, hy⟩ : ∃ y, val0 (wlst t) = y := ⟨_, rfl⟩
  obtain ⟨ok, hok⟩ : ∃ b, good (wlst s) = b := ⟨_, rfl⟩
  obtain ⟨is, his⟩ : ∃ b, good (wlst t) = b := ⟨_, rfl⟩
  rw [hx, hok] at P1 P3
  rw [hy, his] at P2 P4 HZ
  rw [hx] at HX
  rw [hy] at HY
  rw [hx, hy] at HQ
  obtain ⟨gd, hgd⟩ : ∃ b, decide (y ≠ 0) = b := ⟨_, rfl⟩
  have HGD := hidD (show gd = true ↔ y ≠ 0 by rw [← hgd]; simp)
  have HO := hidD (fun (V : World) (u v : Value) (hu : IsInt V u x) (hv : IsInt V v y) => rof_c u v x y V hu hv HX.out HY.out)
  rw [hgd] at HO
  obtain ⟨c, hc⟩ : ∃ c, Rat.divInt x y = c := ⟨_, rfl⟩
  rw [hc] at HO HQ
  have HC := hidD hc
  clear htab hx hy hok his hgd hc hs ht
  have M0 : Hid (Mem w w []) := hidD (Mem.nil w)
  go_enter Tryz.func4, Tryz.ntmps4
  go_upto_region 2 with (go_at_call 20; refine (P1.out _).mono ?_; clear P1; rintro e w600 ⟨u, rfl, hu, hb⟩; obtain ⟨a600, l600, c600, s600, rfl⟩ := IsBig.form2 hu)
  obtain ⟨V1, hV⟩ : ∃ V, w600.alloc (.cells #[.slice a600 l600 c600, .bool s600] 32) = V := ⟨_, rfl⟩
  obtain ⟨B1, hBk⟩ : ∃ B, w600.heap.size = B := ⟨_, rfl⟩
  have MM : Mem w (w600.alloc (.cells #[.slice a600 l600 c600, .bool s600] 32)) [some (w600.heap.size, .big (x))] := Mem.push (M0.out.below hb) (.big (x)) hu
  rw [hV, hBk] at MM
  rw [hV]
  rw [hBk]
  have M1 : Hid (Mem w V1 [some (B1, .big (x))]) := hidD (MM)
  clear M0
  clear MM hV hBk
  clear hu hb
  go_upto_region 3 with (go_at_call 20; refine (P2.out _).mono ?_; clear P2; rintro e w601 ⟨u, rfl, hu, hb⟩; obtain ⟨a601, l601, c601, s601, rfl⟩ := IsBig.form2 hu)
  obtain ⟨V2, hV⟩ : ∃ V, w601.alloc (.cells #[.slice a601 l601 c601, .bool s601] 32) = V := ⟨_, rfl⟩
  obtain ⟨B2, hBk⟩ : ∃ B, w601.heap.size = B := ⟨_, rfl⟩
  have MM : Mem w (w601.alloc (.cells #[.slice a601 l601 c601, .bool s601] 32)) [some (B1, .big (x)), some (w601.heap.size, .big (y))] := Mem.push (M1.out.below hb) (.big (y)) hu
  rw [hV, hBk] at MM
  rw [hV]
  rw [hBk]
  have M2 : Hid (Mem w V2 [some (B1, .big (x)), some (B2, .big (y))]) := hidD (MM)
  clear M1
  clear MM hV hBk
  clear hu hb
  go_upto_region 4 with (go_at_call 21; refine (P3.out _).mono ?_; clear P3; rintro e w602 ⟨u, rfl, hu, hb⟩; obtain ⟨s602, a602, l602, c602, rfl⟩ := IsInt.form2 hu)
  obtain ⟨V3, hV⟩ : ∃ V, w602.alloc (.cells #[.bool s602, .slice a602 l602 c602] 25) = V := ⟨_, rfl⟩
  obtain ⟨B3, hBk⟩ : ∃ B, w602.heap.size = B := ⟨_, rfl⟩
  have MM : Mem w (w602.alloc (.cells #[.bool s602, .slice a602 l602 c602] 25)) [some (B1, .big (x)), some (B2, .big (y)), some (w602.heap.size, .int (x))] := Mem.push (M2.out.below hb) (.int (x)) hu
  rw [hV, hBk] at MM
  rw [hV]
  rw [hBk]
  have M3 : Hid (Mem w V3 [some (B1, .big (x)), some (B2, .big (y)), some (B3, .int (x))]) := hidD (MM)
  clear M2
  clear MM hV hBk
  clear hu hb
  go_upto_region 5 with (go_at_call 21; refine (P4.out _).mono ?_; clear P4; rintro e w603 ⟨u, rfl, hu, hb⟩; obtain ⟨s603, a603, l603, c603, rfl⟩ := IsInt.form2 hu)
  obtain ⟨V4, hV⟩ : ∃ V, w603.alloc (.cells #[.bool s603, .slice a603 l603 c603] 25) = V := ⟨_, rfl⟩
  obtain ⟨B4, hBk⟩ : ∃ B, w603.heap.size = B := ⟨_, rfl⟩
  have MM : Mem w (w603.alloc (.cells #[.bool s603, .slice a603 l603 c603] 25)) [some (B1, .big (x)), some (B2, .big (y)), some (B3, .int (x)), some (w603.heap.size, .int (y))] := Mem.push (M3.out.below hb) (.int (y)) hu
  rw [hV, hBk] at MM
  rw [hV]
  rw [hBk]
  have M4 : Hid (Mem w V4 [some (B1, .big (x)), some (B2, .big (y)), some (B3, .int (x)), some (B4, .int (y))]) := hidD (MM)
  clear M3
  clear MM hV hBk
  clear hu hb
  obtain ⟨s5, a5, l5, c5, n5, i5⟩ := M4.out.int (i := 2) rfl
  have e5a := n5.c0
  have e5b := n5.c1
  obtain ⟨s6, a6, l6, c6, n6, i6⟩ := M4.out.int (i := 3) rfl
  have e6a := n6.c0
  have e6b := n6.c1
  have HC := hidD (HO.out V4 _ _ i5 i6)
  go_upto_region 6 with (go_at_call 22; refine HC.out.mono ?_; clear HC; rintro e w507 ⟨u, rfl, hu, hb⟩; obtain ⟨s507, a507, l507, c507, t507, b507, k507, d507, rfl⟩ := IsRat.form hu)
  obtain ⟨V8, hV⟩ : ∃ V, w507.alloc (.cells #[.bool s507, .slice a507 l507 c507, .bool t507, .slice b507 k507 d507] 27) = V := ⟨_, rfl⟩
  obtain ⟨B8, hBk⟩ : ∃ B, w507.heap.size = B := ⟨_, rfl⟩
  have MM : Mem w (w507.alloc (.cells #[.bool s507, .slice a507 l507 c507, .bool t507, .slice b507 k507 d507] 27)) [some (B1, .big (x)), some (B2, .big (y)), some (B3, .int (x)), some (B4, .int (y)), some (w507.heap.size, .rat (c))] := Mem.push (M4.out.below hb) (.rat (c)) hu
  rw [hV, hBk] at MM
  rw [hV]
  rw [hBk]
  have M5 : Hid (Mem w V8 [some (B1, .big (x)), some (B2, .big (y)), some (B3, .int (x)), some (B4, .int (y)), some (B8, .rat (c))]) := hidD (MM)
  clear M4
  clear MM hV hBk
  clear n5 e5a e5b i5 n6 e6a e6b i6 hu hb
  clear HO
  obtain ⟨bb, hbb⟩ : ∃ b : Bool, (!(ok && is && gd)) = b := ⟨_, rfl⟩
  have HBB := hidD hbb
  clear hbb
  go_cut [51] (fun cv w' => cv = .bool bb ∧ Hid (Mem w w' [some (B1, .big (x)), some (B2, .big (y)), some (B3, .int (x)), some (B4, .int (y)), some (B8, .rat (c))]))
  case first =>
    obtain ⟨a9, l9, c9, s9, n9, i9⟩ := M5.out.big (i := 1) rfl
    have e9a := n9.c0
    have e9b := n9.c1
    have HS := hidD (rsign_c _ y V8 i9)
    cases ok with
    | false =>
      have HB2 := hidD (show bb = true by rw [← HBB.out]; rfl)
      clear HS
      go_wp2_with fail
      go_meet
      case rel => exact ⟨by rw [HB2.out], M5⟩
    | true =>
      cases is with
      | false =>
        have HB2 := hidD (show bb = true by rw [← HBB.out]; rfl)
        clear HS
        go_wp2_with fail
        go_meet
        case rel => exact ⟨by rw [HB2.out], M5⟩
      | true =>
        by_cases hy : y = 0
        · have HB2 := hidD (show bb = true by rw [← HBB.out]; cases gd with | false => rfl | true => exact absurd hy (HGD.out.1 rfl))
          rw [hy, Int.sign_zero] at HS
          clear hy
          go_wp2_with (go_at_call 23; refine HS.out.mono ?_; clear HS; rintro e w7 ⟨rfl, hb⟩)
          go_meet
          case rel => exact ⟨by rw [HB2.out], hidD (M5.out.below hb)⟩
        · have HB2 := hidD (show bb = false by rw [← HBB.out]; cases gd with | true => rfl | false => exact absurd (HGD.out.2 hy) (by simp))
          obtain ⟨sg, hsg⟩ : ∃ sg, y.sign = sg := ⟨_, rfl⟩
          have s0 : (sg == 0) = false := by rw [beq_eq_false_iff_ne, ← hsg]; exact fun h => hy (Int.sign_eq_zero_iff_zero.1 h)
          rw [hsg] at HS
          clear hy hsg
          go_wp2_with (go_at_call 23; refine HS.out.mono ?_; clear HS; rintro e w7 ⟨rfl, hb⟩)
          go_meet
          case rel => exact ⟨by rw [HB2.out], hidD (M5.out.below hb)⟩
  case rest =>
    obtain ⟨rfl, MM⟩ := hcut
    have M6 : Hid (Mem w wc [some (B1, .big (x)), some (B2, .big (y)), some (B3, .int (x)), some (B4, .int (y)), some (B8, .rat (c))]) := MM
    clear M5 MM
    cases bb with
    | true =>
      clear HBB
      cases is with
      | false =>
        have HY0 := hidD (HZ.out rfl)
        have HC0 := hidD (show c = 0 by rw [← HC.out, HY0.out, Rat.divInt_zero])
        have hgf : gd = false := by cases gd with | false => rfl | true => exact absurd HY0.out (HGD.out.1 rfl)
        subst hgf
        clear HGD HZ
        obtain ⟨s10, a10, l10, c10, t10, b10, k10, d10, n10, r10, i10, j10⟩ := M6.out.rat (i := 4) rfl
        have e10a := n10.c0
        have e10b := n10.c1
        have e10c := n10.c2
        have e10d := n10.c3
        have HA0 := hidD (fun (V : World) (h : Below wc.heap.size wc V) => qtext_c _ c V (r10.below h) HQ.out (tab_below HT.out (M6.out.2.2.trans (h.mono M6.out.2.2.size))))
        rw [HC0.out, textQ_nought] at HA0
        have HA1 := hidD (fun (V : World) (h : Below wc.heap.size wc V) => kalive_c V (tab_below HT.out (M6.out.2.2.trans (h.mono M6.out.2.2.size))))
        have hq : Below wc.heap.size wc wc := Below.refl _ _
        go_wp2_with (first
            | (go_at_call 11; refine (HA0.out _ hq).mono ?_; clear HA0; rintro e x0 ⟨rfl, hb⟩; replace hq := Below.then hq hb; clear hb; clear e10a e10b e10c e10d; have e10a := (n10.below hq).c0; have e10b := (n10.below hq).c1; have e10c := (n10.below hq).c2; have e10d := (n10.below hq).c3)
            | (go_at_call 19; refine (HA1.out _ hq).mono ?_; clear HA1; rintro e x1 ⟨rfl, hb⟩; replace hq := Below.then hq hb; clear hb; clear e10a e10b e10c e10d; have e10a := (n10.below hq).c0; have e10b := (n10.below hq).c1; have e10c := (n10.below hq).c2; have e10d := (n10.below hq).c3))
        go_ret
        exact ⟨rfl, M6.out.2.2.trans (hq.mono M6.out.2.2.size)⟩
      | true =>
        cases gd with
        | false =>
          have HY0 := hidD (show y = 0 from Decidable.byContradiction (fun h => absurd (HGD.out.2 h) (by simp)))
          have HC0 := hidD (show c = 0 by rw [← HC.out, HY0.out, Rat.divInt_zero])
          clear HGD HZ
          obtain ⟨a11, l11, c11, s11, n11, i11⟩ := M6.out.big (i := 1) rfl
          have e11a := n11.c0
          have e11b := n11.c1
          obtain ⟨s12, a12, l12, c12, t12, b12, k12, d12, n12, r12, i12, j12⟩ := M6.out.rat (i := 4) rfl
          have e12a := n12.c0
          have e12b := n12.c1
          have e12c := n12.c2
          have e12d := n12.c3
          have HA0 := hidD (fun (V : World) (h : Below wc.heap.size wc V) => rsign_c _ y V (i11.below h))
          rw [HY0.out, Int.sign_zero] at HA0
          have HA1 := hidD (fun (V : World) (h : Below wc.heap.size wc V) => qtext_c _ c V (r12.below h) HQ.out (tab_below HT.out (M6.out.2.2.trans (h.mono M6.out.2.2.size))))
          rw [HC0.out, textQ_nought] at HA1
          have HA2 := hidD (fun (V : World) (h : Below wc.heap.size wc V) => kalive_c V (tab_below HT.out (M6.out.2.2.trans (h.mono M6.out.2.2.size))))
          have hq : Below wc.heap.size wc wc := Below.refl _ _
          go_wp2_with (first
              | (go_at_call 23; refine (HA0.out _ hq).mono ?_; clear HA0; rintro e x0 ⟨rfl, hb⟩; replace hq := Below.then hq hb; clear hb; clear e11a e11b; have e11a := (n11.below hq).c0; have e11b := (n11.below hq).c1; clear e12a e12b e12c e12d; have e12a := (n12.below hq).c0; have e12b := (n12.below hq).c1; have e12c := (n12.below hq).c2; have e12d := (n12.below hq).c3)
              | (go_at_call 11; refine (HA1.out _ hq).mono ?_; clear HA1; rintro e x1 ⟨rfl, hb⟩; replace hq := Below.then hq hb; clear hb; clear e11a e11b; have e11a := (n11.below hq).c0; have e11b := (n11.below hq).c1; clear e12a e12b e12c e12d; have e12a := (n12.below hq).c0; have e12b := (n12.below hq).c1; have e12c := (n12.below hq).c2; have e12d := (n12.below hq).c3)
              | (go_at_call 19; refine (HA2.out _ hq).mono ?_; clear HA2; rintro e x2 ⟨rfl, hb⟩; replace hq := Below.then hq hb; clear hb; clear e11a e11b; have e11a := (n11.below hq).c0; have e11b := (n11.below hq).c1; clear e12a e12b e12c e12d; have e12a := (n12.below hq).c0; have e12b := (n12.below hq).c1; have e12c := (n12.below hq).c2; have e12d := (n12.below hq).c3))
          go_ret
          exact ⟨rfl, M6.out.2.2.trans (hq.mono M6.out.2.2.size)⟩
        | true =>
          have HYN := hidD (HGD.out.1 rfl)
          clear HGD HZ
          obtain ⟨sg, hsg⟩ : ∃ sg, y.sign = sg := ⟨_, rfl⟩
          have s0 : (sg != 0) = true := by rw [bne_iff_ne, ← hsg]; exact fun h => HYN.out (Int.sign_eq_zero_iff_zero.1 h)
          have HSG := hidD hsg
          clear hsg
          obtain ⟨a13, l13, c13, s13, n13, i13⟩ := M6.out.big (i := 1) rfl
          have e13a := n13.c0
          have e13b := n13.c1
          have HA0 := hidD (fun (V : World) (h : Below wc.heap.size wc V) => rsign_c _ y V (i13.below h))
          rw [HSG.out] at HA0
          have HA1 := hidD (fun (V : World) (h : Below wc.heap.size wc V) => kalive_c V (tab_below HT.out (M6.out.2.2.trans (h.mono M6.out.2.2.size))))
          have hq : Below wc.heap.size wc wc := Below.refl _ _
          go_wp2_with (first
              | (go_at_call 23; refine (HA0.out _ hq).mono ?_; clear HA0; rintro e x0 ⟨rfl, hb⟩; replace hq := Below.then hq hb; clear hb; clear e13a e13b; have e13a := (n13.below hq).c0; have e13b := (n13.below hq).c1)
              | (go_at_call 19; refine (HA1.out _ hq).mono ?_; clear HA1; rintro e x1 ⟨rfl, hb⟩; replace hq := Below.then hq hb; clear hb; clear e13a e13b; have e13a := (n13.below hq).c0; have e13b := (n13.below hq).c1))
          go_ret
          exact ⟨rfl, M6.out.2.2.trans (hq.mono M6.out.2.2.size)⟩
    | false =>
      have hall : ok = true ∧ is = true ∧ gd = true := by have h := HBB.out; cases ok <;> cases is <;> cases gd <;> simp at h ⊢
      obtain ⟨rfl, rfl, rfl⟩ := hall
      have HYN := hidD (HGD.out.1 rfl)
      clear HGD HZ HBB
      obtain ⟨T, hT⟩ : ∃ S : ByteArray, ⟨(textQ c).toArray⟩ = S := ⟨_, rfl⟩
      have HTT := hidD hT
      clear hT
      go_upto_region 8 with fail
      obtain ⟨a14, l14, c14, s14, n14, i14⟩ := M6.out.big (i := 0) rfl
      have e14a := n14.c0
      have e14b := n14.c1
      obtain ⟨a15, l15, c15, s15, n15, i15⟩ := M6.out.big (i := 1) rfl
      have e15a := n15.c0
      have e15b := n15.c1
      obtain ⟨s16, a16, l16, c16, t16, b16, k16, d16, n16, r16, i16, j16⟩ := M6.out.rat (i := 4) rfl
      have e16a := n16.c0
      have e16b := n16.c1
      have e16c := n16.c2
      have e16d := n16.c3
      have HA0 := hidD (fun (V : World) (h : Below wc.heap.size wc V) => qtext_c _ c V (r16.below h) HQ.out (tab_below HT.out (M6.out.2.2.trans (h.mono M6.out.2.2.size))))
      rw [HTT.out] at HA0
      have HA1 := hidD (fun (V : World) (h : Below wc.heap.size wc V) => smade_c _ _ x y V (i14.below h) (i15.below h) HYN.out HX.out HY.out)
      rw [HC.out] at HA1
      have HA2 := hidD (fun (V : World) (h : Below wc.heap.size wc V) (vm : Value) (gm : IsRef V vm c) => stext_c vm c V gm HQ.out)
      rw [HTT.out] at HA2
      have HA3 := hidD (fun (V : World) (h : Below wc.heap.size wc V) => kalive_c V (tab_below HT.out (M6.out.2.2.trans (h.mono M6.out.2.2.size))))
      have hq : Below wc.heap.size wc wc.drew := (Below.refl _ wc).drew
      go_region_held3 (fun w' => w'.cell? ⟨B1, 0, none⟩ = some (.slice a14 l14 c14) ∧ w'.cell? ⟨B1, 1, none⟩ = some (.bool s14) ∧ w'.cell? ⟨B2, 0, none⟩ = some (.slice a15 l15 c15) ∧ w'.cell? ⟨B2, 1, none⟩ = some (.bool s15) ∧ w'.cell? ⟨B8, 0, none⟩ = some (.bool s16) ∧ w'.cell? ⟨B8, 1, none⟩ = some (.slice a16 l16 c16) ∧ w'.cell? ⟨B8, 2, none⟩ = some (.bool t16) ∧ w'.cell? ⟨B8, 3, none⟩ = some (.slice b16 k16 d16)) (first | (with_reducible exact ⟨e14a, e14b, e15a, e15b, e16a, e16b, e16c, e16d⟩) | (go_keep; done) | (refine ⟨?_, ?_, ?_, ?_, ?_, ?_, ?_, ?_⟩ <;> ((repeat rw [cell_set_nb (by omega)]); first | assumption | (go_keep; done))))
        (first
          | (go_at_call 11; refine (HA0.out _ hq).mono ?_; clear HA0; rintro e x0 ⟨rfl, hb⟩; replace hq := Below.then hq hb; clear hb; clear e14a e14b; have e14a := (n14.below hq).c0; have e14b := (n14.below hq).c1; clear e15a e15b; have e15a := (n15.below hq).c0; have e15b := (n15.below hq).c1; clear e16a e16b e16c e16d; have e16a := (n16.below hq).c0; have e16b := (n16.below hq).c1; have e16c := (n16.below hq).c2; have e16d := (n16.below hq).c3)
          | (go_at_call 24; refine (HA1.out _ hq).mono ?_; clear HA1; rintro e x1 ⟨vm, rfl, gm, hb⟩; replace hq := Below.then hq hb; clear hb; clear e14a e14b; have e14a := (n14.below hq).c0; have e14b := (n14.below hq).c1; clear e15a e15b; have e15a := (n15.below hq).c0; have e15b := (n15.below hq).c1; clear e16a e16b e16c e16d; have e16a := (n16.below hq).c0; have e16b := (n16.below hq).c1; have e16c := (n16.below hq).c2; have e16d := (n16.below hq).c3)
          | (go_at_call 12; refine (HA2.out _ hq _ gm).mono ?_; clear HA2; rintro e x2 ⟨rfl, hb⟩; replace gm := gm.below hb; replace hq := Below.then hq hb; clear hb; clear e14a e14b; have e14a := (n14.below hq).c0; have e14b := (n14.below hq).c1; clear e15a e15b; have e15a := (n15.below hq).c0; have e15b := (n15.below hq).c1; clear e16a e16b e16c e16d; have e16a := (n16.below hq).c0; have e16b := (n16.below hq).c1; have e16c := (n16.below hq).c2; have e16d := (n16.below hq).c3)
          | (go_at_call 19; refine (HA3.out _ hq).mono ?_; clear HA3; rintro e x3 ⟨rfl, hb⟩; replace gm := gm.below hb; replace hq := Below.then hq hb; clear hb; clear e14a e14b; have e14a := (n14.below hq).c0; have e14b := (n14.below hq).c1; clear e15a e15b; have e15a := (n15.below hq).c0; have e15b := (n15.below hq).c1; clear e16a e16b e16c e16d; have e16a := (n16.below hq).c0; have e16b := (n16.below hq).c1; have e16c := (n16.below hq).c2; have e16d := (n16.below hq).c3))
      all_goals go_wp2_with fail
      go_ret
      exact ⟨rfl, M6.out.2.2.trans (hq.mono M6.out.2.2.size)⟩
end Go.Proofs.YtcahodpphikgnaaGreatDoor
