import Derived.Test.YtahpgnkhophgpaaDoorRefR
namespace Go.Proofs.YtahpgnkhophgpaaDoor
open Go.RowKit Go.Shelf

set_option maxRecDepth 100000 in
set_option maxHeartbeats 4000000 in
theorem parse0_w (s : ByteArray) (h0 : 0 < s.size) (h1 : s.size ≤ 2000) (hm : ((s[0].toNat : Int) == 45) = false) (hq : ((s[0].toNat : Int) == 48) = true) (hq2 : (s.toList == [48]) = true) (w : World) :
    Calls Tryd.prog 7 #[.string s] w (ParsePost (lst s) false w) := by
  obtain ⟨i0, hinf, hz0, hz1, hz2⟩ := info_parts Tryd.infoInt
  have he := not_empty h0
  go_enter Tryd.func7, Tryd.ntmps7
  go_wp2
  have bR := (Box2.new w 30 (.slice none 0 0) (.bool false)).alloc (.cells #[.slice none 0 0, .bool false] 30)
  have bb := Box2.new (w.alloc (.cells #[.slice none 0 0, .bool false] 30)) 30 (.slice none 0 0) (.bool false)
  simp only [World.size_alloc] at bb
  have hB0 := below_2 w (.cells #[.slice none 0 0, .bool false] 30) (.cells #[.slice none 0 0, .bool false] 30)
  go_loopw [6] (fun ev wr => ∃ (k : Nat) (acc : List Nat) (ao : Option Addr) (cv : Nat), ev = .int .i64 ((s.size : Int) - 4 * k) ∧ 4 * k ≤ s.size + 3 ∧ acc.length ≤ 600 ∧ Hid (ParseAt (lst s) k acc) ∧ Box2 wr w.heap.size 30 (.slice none 0 0) (.bool false) ∧ Box2 wr (w.heap.size + 1) 30 (.slice ao acc.length cv) (.bool false) ∧ wr.ownsRow (w.heap.size + 1 + 1) 3 1 (.slice ao acc.length cv) acc.length (cellsOf .i64 acc) ∧ Below w.heap.size w wr ∧ w.heap.size + 1 + 1 ≤ wr.heap.size)
    (fun ev _ => (intOf ev + 3).toNat)
  case atStart => exact ⟨0, [], none, 0, by simp, by omega, by simp, ParseAt.start _, bR, bb, World.ownsRow_nil _ _ _ _, hB0, by simp⟩
  case round =>
    clear bR bb hB0
    obtain ⟨k, acc, ao, cv, rfl, hk, hla, HA, bR, bb, hown, hB, hsz⟩ := hrel
    have c0 := bb.c0
    have c1 := bb.c1
    have f0 := bb.f0
    have f1 := bb.f1
    have r0 := bR.c0
    have r1 := bR.c1
    have g0 := bR.f0
    have g1 := bR.f1
    by_cases hgo : 4 * k < s.size
    · have hgI : (0 : Int) < (s.size : Int) - 4 * k := by omega
      go_wp2
      all_goals
        go_loop [7, 8] (fun dv iv => ∃ i d : Nat, iv = .int .i64 i ∧ dv = .int .i64 d ∧ s.size - 4 * k - 4 ≤ i ∧ i ≤ s.size - 4 * k ∧ d < 10000 ∧ Hid (GroupAt (lst s) (s.size - 4 * k - 4) i d)) (fun _ iv => s.size - (intOf iv).toNat)
        case atStart => exact ⟨s.size - 4 * k - 4, 0, by first | (congr 1; omega) | (congr 1; (simp; omega)), rfl, Nat.le_refl _, by omega, by omega, group_start _ _⟩
        case round =>
          obtain ⟨i, d, rfl, rfl, hlo, hhi, hd4, HG⟩ := hrel
          by_cases hi : i < s.size - 4 * k
          · have hiI : (i : Int) < (s.size : Int) - 4 * k := by omega
            have hiT : i < s.size := by omega
            by_cases hdg : isD s[i] = true
            · have hb := isD_bounds hdg
              have HG2 := hide (group_step HG.out hlo (by rw [lst_length]; exact hiT) (by rw [lst_get s i hiT]; exact hdg))
              have hlt := group_lt HG2.out (by omega)
              rw [lst_get s i hiT] at HG2 hlt
              have HD := hide hdg
              clear hdg
              have hb1 : 48 ≤ s[i].toNat := hb.1
              have hb2 : s[i].toNat ≤ 57 := hb.2
              have HH := hide hlt
              clear hb hlt HD
              go_wp2
              exact ⟨⟨i + 1, 10 * d + s[i].toNat - 48, by simp, by (congr 1; omega), by omega, by omega, HH.out, HG2⟩, by simp [intOf]; omega⟩
            · have hall : (lst s).all isD = false := by
                rw [List.all_eq_false]
                exact ⟨_, List.getElem_mem (by rw [lst_length]; exact hiT), by rw [lst_get s i hiT]; exact hdg⟩
              have hnd : s[i].toNat < 48 ∨ (48 ≤ s[i].toNat ∧ 57 < s[i].toNat) := by
                simp [isD] at hdg
                omega
              have HN := hide hall
              clear HG hdg hall
              rcases hnd with hnd | ⟨hnd1, hnd2⟩
              · go_wp2
                exact bodyPost_ret (v := noBig) (by simp [results, Tryd.results7, go_sem, r0, r1, noBig]) rfl (ParsePost.no HN.out ((hB.setCell (Nat.le_refl _) _).setCell (Nat.le_refl _) _))
              · go_wp2
                exact bodyPost_ret (v := noBig) (by simp [results, Tryd.results7, go_sem, r0, r1, noBig]) rfl (ParsePost.no HN.out ((hB.setCell (Nat.le_refl _) _).setCell (Nat.le_refl _) _))
          · have hie : i = s.size - 4 * k := by omega
            have hiI : decide ((i : Int) < (s.size : Int) - 4 * k) = false := decide_eq_false (by omega)
            have HN : Hid (ParseAt (lst s) (k + 1) (acc ++ [d])) := by
              refine ParseAt.step HA.out (by rw [lst_length]; exact hgo) ?_
              rw [lst_length, ← hie]
              rw [hie] at HG ⊢
              exact HG.out
            have hl1 : (acc ++ [d]).length ≤ 600 := by
              have e1 := HN.out.1
              rw [e1]; omega
            clear hie HG
            have el : (acc ++ [d]).length = acc.length + 1 := by simp
            have HE := hide el
            have HL := hide hl1
            have hl2 : acc.length + 1 ≤ 600 := by omega
            clear el hl1
            go_wp2_with (first
              | (at_builtin; refine wpList_append_own _ rfl _ _ 28 rfl (w.heap.size + 1 + 1) 3 i0 (.int .i64 0) 1 8 Tryd.underlying28 hinf hz0 hz1 hz2 rfl (by decide) (.slice ao acc.length cv) acc.length (cellsOf .i64 acc) rfl (hown.alloc _) ⟨wr.heap.size, 0, none⟩ 1 1 [_] rfl rfl (cell_one_new _ _ _) (by simp [Value.oneCell']) (by unfold maxLen; omega) (by omega) (by simp; omega) ?_; intro v' w3 hown' hgrow hnil; obtain ⟨g, cv', e1, ho, bb3, hB3, hsz3, hk3⟩ := append_fld d rfl (by omega) (by omega) hB bb hown hown' hgrow; have d0 := bb3.c0; have d1 := bb3.f0; subst e1))
            go_roundw
            case rel => exact ⟨k + 1, acc ++ [d], some ⟨g, 0, none⟩, cv', by (congr 1; omega), by omega, HL.out, HN, (hk3 _ _ _ _ (by omega) bR).far (by simp) _, by rw [HE.out]; exact bb3.set0 _, by rw [HE.out] at ho ⊢; exact ho, hB3.setCell (by simp) _, by simpa [World.setCell] using hsz3⟩
            case measure => simp [intOf]; omega
    · have hgI : decide ((0 : Int) < (s.size : Int) - 4 * k) = false := decide_eq_false (by omega)
      obtain ⟨ht, hall⟩ := HA.out.done (by rw [lst_length]; omega)
      have HT := hide ht
      have HN := hide hall
      have hrow := Row.of_owns hown (by omega)
      clear ht hall HA
      go_wp2_with (first
        | (go_at_call 29; refine (trim_c _ _ _ hrow).mono ?_; rintro e w' ⟨u, rfl, hu, rfl⟩; obtain ⟨au, cu, eu, _⟩ := id hu; subst eu))
      obtain ⟨hr1, hB1⟩ := set2_fin (.slice au (trimL acc).length cu) (.bool false) hB (Nat.le_succ _) bb rfl rfl hu
      have bR1 := (bR.far (p := ⟨w.heap.size + 1, 0, none⟩) (by simp) (.slice au (trimL acc).length cu)).far (p := ⟨w.heap.size + 1, 1, none⟩) (by simp) (.bool false)
      obtain ⟨hr2, hB2⟩ := set2_fin (.slice au (trimL acc).length cu) (.bool false) hB1 (Nat.le_refl _) bR1 rfl rfl hr1
      have bR2 := (bR1.set0 (.slice au (trimL acc).length cu)).set1 (.bool false)
      have q0 := bR2.c0
      have q1 := bR2.c1
      rw [HT.out] at hr2 q0 q1 hB2 ⊢
      exact bodyPost_ret (v := .tuple #[.agg #[.slice au (limbs 10000 (num (lst s))).length cu, .bool false], .bool true]) (by simp [results, Tryd.results7, go_sem, q0, q1]) rfl (ParsePost.yes HN.out ⟨au, _, cu, by simp, hr2⟩ hB2)
end Go.Proofs.YtahpgnkhophgpaaDoor
