import Derived.Test.YtjmmnpfedhkjbaaDoorK15
import Derived.Test.YtjmmnpfedhkjbaaDoorK01
import Derived.Deep.DeepCutAuto
import Derived.Lib.Strings
namespace Go.Proofs.YtjmmnpfedhkjbaaDoor
open Go.RowKit Go.Shelf

/-- What a text's loop knows: k groups of four digits are read, from the text's end on. -/
def ParseAt (tl : List UInt8) (k : Nat) (acc : List Nat) : Prop :=
  acc.length = k ∧ Dig 10000 acc ∧ val 10000 acc = num (tl.drop (tl.length - 4 * k)) ∧ (tl.drop (tl.length - 4 * k)).all isD = true

theorem ParseAt.start (tl : List UInt8) : ParseAt tl 0 [] := ⟨rfl, Dig.nil _, by simp [num, dgs, val], by simp⟩

/-- What the inner loop knows: the digits from lo on up to i are read. -/
def GroupAt (tl : List UInt8) (lo i d : Nat) : Prop := d = num ((tl.take i).drop lo) ∧ ((tl.take i).drop lo).all isD = true

theorem group_start (tl : List UInt8) (lo : Nat) : GroupAt tl lo lo 0 := by
  have h : (tl.take lo).drop lo = [] := List.drop_eq_nil_of_le (by rw [List.length_take]; omega)
  exact ⟨by rw [h]; simp [num, dgs, val], by rw [h]; rfl⟩

theorem group_step {tl : List UInt8} {lo i d : Nat} (h : GroupAt tl lo i d) (hlo : lo ≤ i) (hi : i < tl.length) (hd : isD tl[i] = true) : GroupAt tl lo (i + 1) (10 * d + tl[i].toNat - 48) := by
  obtain ⟨h1, h2⟩ := h
  have e : (tl.take (i + 1)).drop lo = (tl.take i).drop lo ++ [tl[i]] := by
    rw [List.take_succ_eq_append_getElem hi, List.drop_append_of_le_length (by rw [List.length_take]; omega)]
  have hb := isD_bounds hd
  refine ⟨?_, ?_⟩
  · rw [e, num_snoc, ← h1]; omega
  · rw [e, List.all_append, h2]; simp [hd]

theorem group_lt {tl : List UInt8} {lo i d : Nat} (h : GroupAt tl lo i d) (hi : i ≤ lo + 4) : d < 10000 := by
  obtain ⟨h1, h2⟩ := h
  rw [h1]
  have h3 := val_lt (dig_dgs h2)
  rw [dgs_length] at h3
  have h4 : ((tl.take i).drop lo).length ≤ 4 := by rw [List.length_drop, List.length_take]; omega
  have h5 : (10 : Nat) ^ ((tl.take i).drop lo).length ≤ 10 ^ 4 := Nat.pow_le_pow_right (by omega) h4
  exact Nat.lt_of_lt_of_le h3 h5

theorem drop_mid (tl : List UInt8) (p q : Nat) (hpq : p ≤ q) (hq : q ≤ tl.length) : tl.drop p = (tl.take q).drop p ++ tl.drop q := by
  conv => lhs; rw [← List.take_append_drop q tl]
  rw [List.drop_append_of_le_length (by rw [List.length_take]; omega)]

theorem ParseAt.step {tl : List UInt8} {k : Nat} {acc : List Nat} (h : ParseAt tl k acc) (hk : 4 * k < tl.length) {d : Nat} (hg : GroupAt tl (tl.length - 4 * k - 4) (tl.length - 4 * k) d) : ParseAt tl (k + 1) (acc ++ [d]) := by
  obtain ⟨h1, h2, h3, h4⟩ := h
  have hd := group_lt hg (by omega)
  have e : tl.drop (tl.length - 4 * (k + 1)) = (tl.take (tl.length - 4 * k)).drop (tl.length - 4 * k - 4) ++ tl.drop (tl.length - 4 * k) := by
    rw [show tl.length - 4 * (k + 1) = tl.length - 4 * k - 4 from by omega]
    exact drop_mid tl _ _ (by omega) (by omega)
  obtain ⟨g1, g2⟩ := hg
  refine ⟨by simp; omega, h2.append (Dig.cons hd (Dig.nil _)), ?_, ?_⟩
  · rw [e, num_append, val_snoc, h3, h1, ← g1, List.length_drop, show tl.length - (tl.length - 4 * k) = 4 * k from by omega, pow4]
  · rw [e, List.all_append, g2, h4]; rfl

theorem ParseAt.done {tl : List UInt8} {k : Nat} {acc : List Nat} (h : ParseAt tl k acc) (hk : tl.length ≤ 4 * k) : trimL acc = limbs 10000 (num tl) ∧ tl.all isD = true := by
  obtain ⟨h1, h2, h3, h4⟩ := h
  rw [show tl.length - 4 * k = 0 from by omega, List.drop_zero] at h3 h4
  exact ⟨by rw [← limbs_val (by omega) h2, h3], h4⟩

end Go.Proofs.YtjmmnpfedhkjbaaDoor
namespace Go.Proofs.YtjmmnpfedhkjbaaDoor
open Go.RowKit Go.Shelf

/-- The list of a text's bytes. -/
def lst (s : ByteArray) : List UInt8 := s.data.toList

theorem lst_length (s : ByteArray) : (lst s).length = s.size := Array.length_toList

theorem lst_get (s : ByteArray) (i : Nat) (h : i < s.size) : (lst s)[i]'(by rw [lst_length]; exact h) = s[i] := rfl

/-- The value that a text gives that is no number. -/
def noBig : Value := .tuple #[.agg #[.slice none 0 0, .bool false], .bool false]

/-- What a call of Parse leaves, where the text's head is in order. -/
def ParsePost (l : List UInt8) (sg : Bool) (w : World) (e : Ending) (w' : World) : Prop :=
  (l.all isD = true → ∃ u, e = .returned (.tuple #[u, .bool true]) ∧ IsBig w' u (if sg then -(num l : Int) else num l)) ∧ (l.all isD = false → e = .returned noBig) ∧ Below w.heap.size w w'

theorem ParsePost.no {l : List UInt8} {sg : Bool} {w w' : World} (h : l.all isD = false) (hB : Below w.heap.size w w') : ParsePost l sg w (.returned noBig) w' :=
  ⟨fun h' => (by rw [h] at h'; cases h'), fun _ => rfl, hB⟩

theorem ParsePost.yes {l : List UInt8} {sg : Bool} {w w' : World} {u : Value} (h : l.all isD = true) (hu : IsBig w' u (if sg then -(num l : Int) else num l)) (hB : Below w.heap.size w w') : ParsePost l sg w (.returned (.tuple #[u, .bool true])) w' :=
  ⟨fun _ => ⟨u, rfl, hu⟩, fun h' => (by rw [h] at h'; cases h'), hB⟩

theorem minus_true {n : Nat} (h : n ≠ 0) : decide ((if true = true then -(n : Int) else n) < 0) = true := by
  simp; omega

theorem not_empty {s : ByteArray} (h0 : 0 < s.size) : s.toList.isEmpty = false := by
  rw [Lib.toList_data]
  have := lst_length s
  cases h : s.data.toList with
  | nil => rw [lst, h] at this; simp at this; omega
  | cons x l => rfl

end Go.Proofs.YtjmmnpfedhkjbaaDoor
namespace Go.Proofs.YtjmmnpfedhkjbaaDoor
open Go.RowKit Go.Shelf

set_option maxRecDepth 100000 in
set_option maxHeartbeats 4000000 in
theorem parseS_w (s : ByteArray) (h0 : 0 < s.size) (h1 : s.size ≤ 2000) (hm : ((s[0].toNat : Int) == 45) = false) (hq : ((s[0].toNat : Int) == 48) = false) (w : World) :
    Calls Tryd.prog 7 #[.string s] w (ParsePost (lst s) false w) := by
  obtain ⟨i0, hinf, hz0, hz1, hz2⟩ := info_parts Tryd.infoInt
  have he := not_empty h0
  go_enter Tryd.func7, Tryd.ntmps7
  go_wp2
  have bR := (Box2.new w 30 (.slice none 0 0) (.bool false)).alloc (.cells #[.slice none 0 0, .bool false] 30)
  have bb := Box2.new (w.alloc (.cells #[.slice none 0 0, .bool false] 30)) 30 (.slice none 0 0) (.bool false)
  simp only [World.size_alloc] at bb
  have hB0 := below_2 w (.cells #[.slice none 0 0, .bool false] 30) (.cells #[.slice none 0 0, .bool false] 30)
  go_loopw [6] (fun ev wr => ∃ (k : Nat) (acc : List Nat) (ao : Option Addr) (cv : Nat), ev = .int .i64 ((s.size : Int) - 4 * k) ∧ 4 * k ≤ s.size + 3 ∧ acc.length ≤ 600 ∧ Hid (ParseAt (lst s) k acc) ∧ Box2 wr w.heap.size 30 (.slice none 0 0) (.bool false) ∧ Box2 wr (w.heap.size + 1) 30 (.slice ao acc.length cv) (.bool false) ∧ wr.ownsRow (w.heap.size + 1 + 1) 3 1 (.slice ao acc.length cv) acc.length (cellsOf .i64 acc) ∧ Below w.heap.size w wr ∧ w.heap.size + 1 + 1 ≤ wr.heap.size)
    (fun ev _ => (intOf ev + 3).toNat)
  case atStart => exact ⟨0, [], none, 0, by simp, by omega, by simp, ParseAt.start _, bR, bb, World.ownsRow_nil _ _ _ _, hB0, by simp⟩
  case round =>
    clear bR bb hB0
    obtain ⟨k, acc, ao, cv, rfl, hk, hla, HA, bR, bb, hown, hB, hsz⟩ := hrel
    have c0 := bb.c0
    have c1 := bb.c1
    have f0 := bb.f0
    have f1 := bb.f1
    have r0 := bR.c0
    have r1 := bR.c1
    have g0 := bR.f0
    have g1 := bR.f1
    by_cases hgo : 4 * k < s.size
    · have hgI : (0 : Int) < (s.size : Int) - 4 * k := by omega
      go_wp2
      all_goals
        go_loop [7, 8] (fun dv iv => ∃ i d : Nat, iv = .int .i64 i ∧ dv = .int .i64 d ∧ s.size - 4 * k - 4 ≤ i ∧ i ≤ s.size - 4 * k ∧ d < 10000 ∧ Hid (GroupAt (lst s) (s.size - 4 * k - 4) i d)) (fun _ iv => s.size - (intOf iv).toNat)
        case atStart => exact ⟨s.size - 4 * k - 4, 0, by first | (congr 1; omega) | (congr 1; (simp; omega)), rfl, Nat.le_refl _, by omega, by omega, group_start _ _⟩
        case round =>
          obtain ⟨i, d, rfl, rfl, hlo, hhi, hd4, HG⟩ := hrel
          by_cases hi : i < s.size - 4 * k
          · have hiI : (i : Int) < (s.size : Int) - 4 * k := by omega
            have hiT : i < s.size := by omega
            by_cases hdg : isD s[i] = true
            · have hb := isD_bounds hdg
              have HG2 := hide (group_step HG.out hlo (by rw [lst_length]; exact hiT) (by rw [lst_get s i hiT]; exact hdg))
              have hlt := group_lt HG2.out (by omega)
              rw [lst_get s i hiT] at HG2 hlt
              have HD := hide hdg
              clear hdg
              have hb1 : 48 ≤ s[i].toNat := hb.1
              have hb2 : s[i].toNat ≤ 57 := hb.2
              have HH := hide hlt
              clear hb hlt HD
              go_wp2
              exact ⟨⟨i + 1, 10 * d + s[i].toNat - 48, by simp, by (congr 1; omega), by omega, by omega, HH.out, HG2⟩, by simp [intOf]; omega⟩
            · have hall : (lst s).all isD = false := by
                rw [List.all_eq_false]
                exact ⟨_, List.getElem_mem (by rw [lst_length]; exact hiT), by rw [lst_get s i hiT]; exact hdg⟩
              have hnd : s[i].toNat < 48 ∨ (48 ≤ s[i].toNat ∧ 57 < s[i].toNat) := by
                simp [isD] at hdg
                omega
              have HN := hide hall
              clear HG hdg hall
              rcases hnd with hnd | ⟨hnd1, hnd2⟩
              · go_wp2
                exact bodyPost_ret (v := noBig) (by simp [results, Tryd.results7, go_sem, r0, r1, noBig]) rfl (ParsePost.no HN.out ((hB.setCell (Nat.le_refl _) _).setCell (Nat.le_refl _) _))
              · go_wp2
                exact bodyPost_ret (v := noBig) (by simp [results, Tryd.results7, go_sem, r0, r1, noBig]) rfl (ParsePost.no HN.out ((hB.setCell (Nat.le_refl _) _).setCell (Nat.le_refl _) _))
          · have hie : i = s.size - 4 * k := by omega
            have hiI : decide ((i : Int) < (s.size : Int) - 4 * k) = false := decide_eq_false (by omega)
            have HN : Hid (ParseAt (lst s) (k + 1) (acc ++ [d])) := by
              refine ParseAt.step HA.out (by rw [lst_length]; exact hgo) ?_
              rw [lst_length, ← hie]
              rw [hie] at HG ⊢
              exact HG.out
            have hl1 : (acc ++ [d]).length ≤ 600 := by
              have e1 := HN.out.1
              rw [e1]; omega
            clear hie HG
            have el : (acc ++ [d]).length = acc.length + 1 := by simp
            have HE := hide el
            have HL := hide hl1
            have hl2 : acc.length + 1 ≤ 600 := by omega
            clear el hl1
            go_wp2_with (first
              | (at_builtin; refine wpList_append_own _ rfl _ _ 28 rfl (w.heap.size + 1 + 1) 3 i0 (.int .i64 0) 1 8 Tryd.underlying28 hinf hz0 hz1 hz2 rfl (by decide) (.slice ao acc.length cv) acc.length (cellsOf .i64 acc) rfl (hown.alloc _) ⟨wr.heap.size, 0, none⟩ 1 1 [_] rfl rfl (cell_one_new _ _ _) (by simp [Value.oneCell']) (by unfold maxLen; omega) (by omega) (by simp; omega) ?_; intro v' w3 hown' hgrow hnil; obtain ⟨g, cv', e1, ho, bb3, hB3, hsz3, hk3⟩ := append_fld d rfl (by omega) (by omega) hB bb hown hown' hgrow; have d0 := bb3.c0; have d1 := bb3.f0; subst e1))
            go_roundw
            case rel => exact ⟨k + 1, acc ++ [d], some ⟨g, 0, none⟩, cv', by (congr 1; omega), by omega, HL.out, HN, (hk3 _ _ _ _ (by omega) bR).far (by simp) _, by rw [HE.out]; exact bb3.set0 _, by rw [HE.out] at ho ⊢; exact ho, hB3.setCell (by simp) _, by simpa [World.setCell] using hsz3⟩
            case measure => simp [intOf]; omega
    · have hgI : decide ((0 : Int) < (s.size : Int) - 4 * k) = false := decide_eq_false (by omega)
      obtain ⟨ht, hall⟩ := HA.out.done (by rw [lst_length]; omega)
      have HT := hide ht
      have HN := hide hall
      have hrow := Row.of_owns hown (by omega)
      clear ht hall HA
      go_wp2_with (first
        | (go_at_call 29; refine (trim_c _ _ _ hrow).mono ?_; rintro e w' ⟨u, rfl, hu, rfl⟩; obtain ⟨au, cu, eu, _⟩ := id hu; subst eu))
      obtain ⟨hr1, hB1⟩ := set2_fin (.slice au (trimL acc).length cu) (.bool false) hB (Nat.le_succ _) bb rfl rfl hu
      have bR1 := (bR.far (p := ⟨w.heap.size + 1, 0, none⟩) (by simp) (.slice au (trimL acc).length cu)).far (p := ⟨w.heap.size + 1, 1, none⟩) (by simp) (.bool false)
      obtain ⟨hr2, hB2⟩ := set2_fin (.slice au (trimL acc).length cu) (.bool false) hB1 (Nat.le_refl _) bR1 rfl rfl hr1
      have bR2 := (bR1.set0 (.slice au (trimL acc).length cu)).set1 (.bool false)
      have q0 := bR2.c0
      have q1 := bR2.c1
      rw [HT.out] at hr2 q0 q1 hB2 ⊢
      exact bodyPost_ret (v := .tuple #[.agg #[.slice au (limbs 10000 (num (lst s))).length cu, .bool false], .bool true]) (by simp [results, Tryd.results7, go_sem, q0, q1]) rfl (ParsePost.yes HN.out ⟨au, _, cu, by simp, hr2⟩ hB2)
end Go.Proofs.YtjmmnpfedhkjbaaDoor
namespace Go.Proofs.YtjmmnpfedhkjbaaDoor
open Go.RowKit Go.Shelf

set_option maxRecDepth 100000 in
set_option maxHeartbeats 4000000 in
theorem parse0_w (s : ByteArray) (h0 : 0 < s.size) (h1 : s.size ≤ 2000) (hm : ((s[0].toNat : Int) == 45) = false) (hq : ((s[0].toNat : Int) == 48) = true) (hq2 : (s.toList == [48]) = true) (w : World) :
    Calls Tryd.prog 7 #[.string s] w (ParsePost (lst s) false w) := by
  obtain ⟨i0, hinf, hz0, hz1, hz2⟩ := info_parts Tryd.infoInt
  have he := not_empty h0
  go_enter Tryd.func7, Tryd.ntmps7
  go_wp2
  have bR := (Box2.new w 30 (.slice none 0 0) (.bool false)).alloc (.cells #[.slice none 0 0, .bool false] 30)
  have bb := Box2.new (w.alloc (.cells #[.slice none 0 0, .bool false] 30)) 30 (.slice none 0 0) (.bool false)
  simp only [World.size_alloc] at bb
  have hB0 := below_2 w (.cells #[.slice none 0 0, .bool false] 30) (.cells #[.slice none 0 0, .bool false] 30)
  go_loopw [6] (fun ev wr => ∃ (k : Nat) (acc : List Nat) (ao : Option Addr) (cv : Nat), ev = .int .i64 ((s.size : Int) - 4 * k) ∧ 4 * k ≤ s.size + 3 ∧ acc.length ≤ 600 ∧ Hid (ParseAt (lst s) k acc) ∧ Box2 wr w.heap.size 30 (.slice none 0 0) (.bool false) ∧ Box2 wr (w.heap.size + 1) 30 (.slice ao acc.length cv) (.bool false) ∧ wr.ownsRow (w.heap.size + 1 + 1) 3 1 (.slice ao acc.length cv) acc.length (cellsOf .i64 acc) ∧ Below w.heap.size w wr ∧ w.heap.size + 1 + 1 ≤ wr.heap.size)
    (fun ev _ => (intOf ev + 3).toNat)
  case atStart => exact ⟨0, [], none, 0, by simp, by omega, by simp, ParseAt.start _, bR, bb, World.ownsRow_nil _ _ _ _, hB0, by simp⟩
  case round =>
    clear bR bb hB0
    obtain ⟨k, acc, ao, cv, rfl, hk, hla, HA, bR, bb, hown, hB, hsz⟩ := hrel
    have c0 := bb.c0
    have c1 := bb.c1
    have f0 := bb.f0
    have f1 := bb.f1
    have r0 := bR.c0
    have r1 := bR.c1
    have g0 := bR.f0
    have g1 := bR.f1
    by_cases hgo : 4 * k < s.size
    · have hgI : (0 : Int) < (s.size : Int) - 4 * k := by omega
      go_wp2
      all_goals
        go_loop [7, 8] (fun dv iv => ∃ i d : Nat, iv = .int .i64 i ∧ dv = .int .i64 d ∧ s.size - 4 * k - 4 ≤ i ∧ i ≤ s.size - 4 * k ∧ d < 10000 ∧ Hid (GroupAt (lst s) (s.size - 4 * k - 4) i d)) (fun _ iv => s.size - (intOf iv).toNat)
        case atStart => exact ⟨s.size - 4 * k - 4, 0, by first | (congr 1; omega) | (congr 1; (simp; omega)), rfl, Nat.le_refl _, by omega, by omega, group_start _ _⟩
        case round =>
          obtain ⟨i, d, rfl, rfl, hlo, hhi, hd4, HG⟩ := hrel
          by_cases hi : i < s.size - 4 * k
          · have hiI : (i : Int) < (s.size : Int) - 4 * k := by omega
            have hiT : i < s.size := by omega
            by_cases hdg : isD s[i] = true
            · have hb := isD_bounds hdg
              have HG2 := hide (group_step HG.out hlo (by rw [lst_length]; exact hiT) (by rw [lst_get s i hiT]; exact hdg))
              have hlt := group_lt HG2.out (by omega)
              rw [lst_get s i hiT] at HG2 hlt
              have HD := hide hdg
              clear hdg
              have hb1 : 48 ≤ s[i].toNat := hb.1
              have hb2 : s[i].toNat ≤ 57 := hb.2
              have HH := hide hlt
              clear hb hlt HD
              go_wp2
              exact ⟨⟨i + 1, 10 * d + s[i].toNat - 48, by simp, by (congr 1; omega), by omega, by omega, HH.out, HG2⟩, by simp [intOf]; omega⟩
            · have hall : (lst s).all isD = false := by
                rw [List.all_eq_false]
                exact ⟨_, List.getElem_mem (by rw [lst_length]; exact hiT), by rw [lst_get s i hiT]; exact hdg⟩
              have hnd : s[i].toNat < 48 ∨ (48 ≤ s[i].toNat ∧ 57 < s[i].toNat) := by
                simp [isD] at hdg
                omega
              have HN := hide hall
              clear HG hdg hall
              rcases hnd with hnd | ⟨hnd1, hnd2⟩
              · go_wp2
                exact bodyPost_ret (v := noBig) (by simp [results, Tryd.results7, go_sem, r0, r1, noBig]) rfl (ParsePost.no HN.out ((hB.setCell (Nat.le_refl _) _).setCell (Nat.le_refl _) _))
              · go_wp2
                exact bodyPost_ret (v := noBig) (by simp [results, Tryd.results7, go_sem, r0, r1, noBig]) rfl (ParsePost.no HN.out ((hB.setCell (Nat.le_refl _) _).setCell (Nat.le_refl _) _))
          · have hie : i = s.size - 4 * k := by omega
            have hiI : decide ((i : Int) < (s.size : Int) - 4 * k) = false := decide_eq_false (by omega)
            have HN : Hid (ParseAt (lst s) (k + 1) (acc ++ [d])) := by
              refine ParseAt.step HA.out (by rw [lst_length]; exact hgo) ?_
              rw [lst_length, ← hie]
              rw [hie] at HG ⊢
              exact HG.out
            have hl1 : (acc ++ [d]).length ≤ 600 := by
              have e1 := HN.out.1
              rw [e1]; omega
            clear hie HG
            have el : (acc ++ [d]).length = acc.length + 1 := by simp
            have HE := hide el
            have HL := hide hl1
            have hl2 : acc.length + 1 ≤ 600 := by omega
            clear el hl1
            go_wp2_with (first
              | (at_builtin; refine wpList_append_own _ rfl _ _ 28 rfl (w.heap.size + 1 + 1) 3 i0 (.int .i64 0) 1 8 Tryd.underlying28 hinf hz0 hz1 hz2 rfl (by decide) (.slice ao acc.length cv) acc.length (cellsOf .i64 acc) rfl (hown.alloc _) ⟨wr.heap.size, 0, none⟩ 1 1 [_] rfl rfl (cell_one_new _ _ _) (by simp [Value.oneCell']) (by unfold maxLen; omega) (by omega) (by simp; omega) ?_; intro v' w3 hown' hgrow hnil; obtain ⟨g, cv', e1, ho, bb3, hB3, hsz3, hk3⟩ := append_fld d rfl (by omega) (by omega) hB bb hown hown' hgrow; have d0 := bb3.c0; have d1 := bb3.f0; subst e1))
            go_roundw
            case rel => exact ⟨k + 1, acc ++ [d], some ⟨g, 0, none⟩, cv', by (congr 1; omega), by omega, HL.out, HN, (hk3 _ _ _ _ (by omega) bR).far (by simp) _, by rw [HE.out]; exact bb3.set0 _, by rw [HE.out] at ho ⊢; exact ho, hB3.setCell (by simp) _, by simpa [World.setCell] using hsz3⟩
            case measure => simp [intOf]; omega
    · have hgI : decide ((0 : Int) < (s.size : Int) - 4 * k) = false := decide_eq_false (by omega)
      obtain ⟨ht, hall⟩ := HA.out.done (by rw [lst_length]; omega)
      have HT := hide ht
      have HN := hide hall
      have hrow := Row.of_owns hown (by omega)
      clear ht hall HA
      go_wp2_with (first
        | (go_at_call 29; refine (trim_c _ _ _ hrow).mono ?_; rintro e w' ⟨u, rfl, hu, rfl⟩; obtain ⟨au, cu, eu, _⟩ := id hu; subst eu))
      obtain ⟨hr1, hB1⟩ := set2_fin (.slice au (trimL acc).length cu) (.bool false) hB (Nat.le_succ _) bb rfl rfl hu
      have bR1 := (bR.far (p := ⟨w.heap.size + 1, 0, none⟩) (by simp) (.slice au (trimL acc).length cu)).far (p := ⟨w.heap.size + 1, 1, none⟩) (by simp) (.bool false)
      obtain ⟨hr2, hB2⟩ := set2_fin (.slice au (trimL acc).length cu) (.bool false) hB1 (Nat.le_refl _) bR1 rfl rfl hr1
      have bR2 := (bR1.set0 (.slice au (trimL acc).length cu)).set1 (.bool false)
      have q0 := bR2.c0
      have q1 := bR2.c1
      rw [HT.out] at hr2 q0 q1 hB2 ⊢
      exact bodyPost_ret (v := .tuple #[.agg #[.slice au (limbs 10000 (num (lst s))).length cu, .bool false], .bool true]) (by simp [results, Tryd.results7, go_sem, q0, q1]) rfl (ParsePost.yes HN.out ⟨au, _, cu, by simp, hr2⟩ hB2)
end Go.Proofs.YtjmmnpfedhkjbaaDoor
namespace Go.Proofs.YtjmmnpfedhkjbaaDoor
open Go.RowKit Go.Shelf

set_option maxRecDepth 100000 in
set_option maxHeartbeats 4000000 in
theorem parseM_w (s tb : ByteArray) (HTB : Hid (s.extract 1 s.size = tb)) (h0 : 0 < s.size) (h1 : s.size ≤ 2000) (hm : ((s[0].toNat : Int) == 45) = true) (ht0 : 0 < tb.size) (ht1 : tb.size < s.size) (HNZ : Hid ((lst tb).all isD = true → num (lst tb) ≠ 0)) (hq : ((tb[0].toNat : Int) == 48) = false) (w : World) :
    Calls Tryd.prog 7 #[.string s] w (ParsePost (lst tb) true w) := by
  obtain ⟨i0, hinf, hz0, hz1, hz2⟩ := info_parts Tryd.infoInt
  have he := not_empty ht0
  go_enter Tryd.func7, Tryd.ntmps7
  go_upto_region 4 with fail
  rw [HTB.out]
  go_wp2
  have bR := (Box2.new w 30 (.slice none 0 0) (.bool false)).alloc (.cells #[.slice none 0 0, .bool false] 30)
  have bb := Box2.new (w.alloc (.cells #[.slice none 0 0, .bool false] 30)) 30 (.slice none 0 0) (.bool false)
  simp only [World.size_alloc] at bb
  have hB0 := below_2 w (.cells #[.slice none 0 0, .bool false] 30) (.cells #[.slice none 0 0, .bool false] 30)
  go_loopw [6] (fun ev wr => ∃ (k : Nat) (acc : List Nat) (ao : Option Addr) (cv : Nat), ev = .int .i64 ((tb.size : Int) - 4 * k) ∧ 4 * k ≤ tb.size + 3 ∧ acc.length ≤ 600 ∧ Hid (ParseAt (lst tb) k acc) ∧ Box2 wr w.heap.size 30 (.slice none 0 0) (.bool false) ∧ Box2 wr (w.heap.size + 1) 30 (.slice ao acc.length cv) (.bool false) ∧ wr.ownsRow (w.heap.size + 1 + 1) 3 1 (.slice ao acc.length cv) acc.length (cellsOf .i64 acc) ∧ Below w.heap.size w wr ∧ w.heap.size + 1 + 1 ≤ wr.heap.size)
    (fun ev _ => (intOf ev + 3).toNat)
  case atStart => exact ⟨0, [], none, 0, by simp, by omega, by simp, ParseAt.start _, bR, bb, World.ownsRow_nil _ _ _ _, hB0, by simp⟩
  case round =>
    clear bR bb hB0
    obtain ⟨k, acc, ao, cv, rfl, hk, hla, HA, bR, bb, hown, hB, hsz⟩ := hrel
    have c0 := bb.c0
    have c1 := bb.c1
    have f0 := bb.f0
    have f1 := bb.f1
    have r0 := bR.c0
    have r1 := bR.c1
    have g0 := bR.f0
    have g1 := bR.f1
    by_cases hgo : 4 * k < tb.size
    · have hgI : (0 : Int) < (tb.size : Int) - 4 * k := by omega
      go_wp2
      all_goals
        go_loop [7, 8] (fun dv iv => ∃ i d : Nat, iv = .int .i64 i ∧ dv = .int .i64 d ∧ tb.size - 4 * k - 4 ≤ i ∧ i ≤ tb.size - 4 * k ∧ d < 10000 ∧ Hid (GroupAt (lst tb) (tb.size - 4 * k - 4) i d)) (fun _ iv => tb.size - (intOf iv).toNat)
        case atStart => exact ⟨tb.size - 4 * k - 4, 0, by first | (congr 1; omega) | (congr 1; (simp; omega)), rfl, Nat.le_refl _, by omega, by omega, group_start _ _⟩
        case round =>
          obtain ⟨i, d, rfl, rfl, hlo, hhi, hd4, HG⟩ := hrel
          by_cases hi : i < tb.size - 4 * k
          · have hiI : (i : Int) < (tb.size : Int) - 4 * k := by omega
            have hiT : i < tb.size := by omega
            by_cases hdg : isD tb[i] = true
            · have hb := isD_bounds hdg
              have HG2 := hide (group_step HG.out hlo (by rw [lst_length]; exact hiT) (by rw [lst_get tb i hiT]; exact hdg))
              have hlt := group_lt HG2.out (by omega)
              rw [lst_get tb i hiT] at HG2 hlt
              have HD := hide hdg
              clear hdg
              have hb1 : 48 ≤ tb[i].toNat := hb.1
              have hb2 : tb[i].toNat ≤ 57 := hb.2
              have HH := hide hlt
              clear hb hlt HD
              go_wp2
              exact ⟨⟨i + 1, 10 * d + tb[i].toNat - 48, by simp, by (congr 1; omega), by omega, by omega, HH.out, HG2⟩, by simp [intOf]; omega⟩
            · have hall : (lst tb).all isD = false := by
                rw [List.all_eq_false]
                exact ⟨_, List.getElem_mem (by rw [lst_length]; exact hiT), by rw [lst_get tb i hiT]; exact hdg⟩
              have hnd : tb[i].toNat < 48 ∨ (48 ≤ tb[i].toNat ∧ 57 < tb[i].toNat) := by
                simp [isD] at hdg
                omega
              have HN := hide hall
              clear HG hdg hall
              rcases hnd with hnd | ⟨hnd1, hnd2⟩
              · go_wp2
                exact bodyPost_ret (v := noBig) (by simp [results, Tryd.results7, go_sem, r0, r1, noBig]) rfl (ParsePost.no HN.out ((hB.setCell (Nat.le_refl _) _).setCell (Nat.le_refl _) _))
              · go_wp2
                exact bodyPost_ret (v := noBig) (by simp [results, Tryd.results7, go_sem, r0, r1, noBig]) rfl (ParsePost.no HN.out ((hB.setCell (Nat.le_refl _) _).setCell (Nat.le_refl _) _))
          · have hie : i = tb.size - 4 * k := by omega
            have hiI : decide ((i : Int) < (tb.size : Int) - 4 * k) = false := decide_eq_false (by omega)
            have HN : Hid (ParseAt (lst tb) (k + 1) (acc ++ [d])) := by
              refine ParseAt.step HA.out (by rw [lst_length]; exact hgo) ?_
              rw [lst_length, ← hie]
              rw [hie] at HG ⊢
              exact HG.out
            have hl1 : (acc ++ [d]).length ≤ 600 := by
              have e1 := HN.out.1
              rw [e1]; omega
            clear hie HG
            have el : (acc ++ [d]).length = acc.length + 1 := by simp
            have HE := hide el
            have HL := hide hl1
            have hl2 : acc.length + 1 ≤ 600 := by omega
            clear el hl1
            go_wp2_with (first
              | (at_builtin; refine wpList_append_own _ rfl _ _ 28 rfl (w.heap.size + 1 + 1) 3 i0 (.int .i64 0) 1 8 Tryd.underlying28 hinf hz0 hz1 hz2 rfl (by decide) (.slice ao acc.length cv) acc.length (cellsOf .i64 acc) rfl (hown.alloc _) ⟨wr.heap.size, 0, none⟩ 1 1 [_] rfl rfl (cell_one_new _ _ _) (by simp [Value.oneCell']) (by unfold maxLen; omega) (by omega) (by simp; omega) ?_; intro v' w3 hown' hgrow hnil; obtain ⟨g, cv', e1, ho, bb3, hB3, hsz3, hk3⟩ := append_fld d rfl (by omega) (by omega) hB bb hown hown' hgrow; have d0 := bb3.c0; have d1 := bb3.f0; subst e1))
            go_roundw
            case rel => exact ⟨k + 1, acc ++ [d], some ⟨g, 0, none⟩, cv', by (congr 1; omega), by omega, HL.out, HN, (hk3 _ _ _ _ (by omega) bR).far (by simp) _, by rw [HE.out]; exact bb3.set0 _, by rw [HE.out] at ho ⊢; exact ho, hB3.setCell (by simp) _, by simpa [World.setCell] using hsz3⟩
            case measure => simp [intOf]; omega
    · have hgI : decide ((0 : Int) < (tb.size : Int) - 4 * k) = false := decide_eq_false (by omega)
      obtain ⟨ht, hall⟩ := HA.out.done (by rw [lst_length]; omega)
      have HT := hide ht
      have HN := hide hall
      have hrow := Row.of_owns hown (by omega)
      clear ht hall HA
      go_wp2_with (first
        | (go_at_call 29; refine (trim_c _ _ _ hrow).mono ?_; rintro e w' ⟨u, rfl, hu, rfl⟩; obtain ⟨au, cu, eu, _⟩ := id hu; subst eu))
      obtain ⟨hr1, hB1⟩ := set2_fin (.slice au (trimL acc).length cu) (.bool true) hB (Nat.le_succ _) bb rfl rfl hu
      have bR1 := (bR.far (p := ⟨w.heap.size + 1, 0, none⟩) (by simp) (.slice au (trimL acc).length cu)).far (p := ⟨w.heap.size + 1, 1, none⟩) (by simp) (.bool true)
      obtain ⟨hr2, hB2⟩ := set2_fin (.slice au (trimL acc).length cu) (.bool true) hB1 (Nat.le_refl _) bR1 rfl rfl hr1
      have bR2 := (bR1.set0 (.slice au (trimL acc).length cu)).set1 (.bool true)
      have q0 := bR2.c0
      have q1 := bR2.c1
      rw [HT.out] at hr2 q0 q1 hB2 ⊢
      exact bodyPost_ret (v := .tuple #[.agg #[.slice au (limbs 10000 (num (lst tb))).length cu, .bool true], .bool true]) (by simp [results, Tryd.results7, go_sem, q0, q1]) rfl (ParsePost.yes HN.out ⟨au, _, cu, by rw [minus_true (HNZ.out HN.out)], by simpa [RN] using hr2⟩ hB2)
end Go.Proofs.YtjmmnpfedhkjbaaDoor
namespace Go.Proofs.YtjmmnpfedhkjbaaDoor
open Go.RowKit Go.Shelf

set_option maxRecDepth 100000 in
set_option maxHeartbeats 1000000 in
theorem parseF1_w (s : ByteArray) (h0 : s.size = 0) (w : World) : Calls Tryd.prog 7 #[.string s] w fun e w' => e = .returned noBig ∧ Below w.heap.size w w' := by
  have hs : s = ⟨#[]⟩ := by
    apply ByteArray.ext
    exact Array.eq_empty_of_size_eq_zero h0
  subst hs
  go_enter Tryd.func7, Tryd.ntmps7
  go_wp2
  exact bodyPost_ret (v := noBig) (by simp [results, Tryd.results7, go_sem, noBig]) rfl ⟨rfl, (Below.refl _ _).alloc (Nat.le_refl _) _⟩

set_option maxRecDepth 100000 in
set_option maxHeartbeats 1000000 in
theorem parseF2_w (s : ByteArray) (h0 : 2000 < s.size) (hs : s.size ≤ 140737488351232) (w : World) : Calls Tryd.prog 7 #[.string s] w fun e w' => e = .returned noBig ∧ Below w.heap.size w w' := by
  have h1 : 0 < s.size := by omega
  by_cases hm : ((s[0].toNat : Int) == 45) = true
  · obtain ⟨tb, htb⟩ : ∃ tb, s.extract 1 s.size = tb := ⟨_, rfl⟩
    have HTB := hide htb
    have ht0 : 0 < tb.size := by rw [← htb, ByteArray.size_extract]; omega
    have he := not_empty ht0
    clear htb
    go_enter Tryd.func7, Tryd.ntmps7
    go_upto_region 4 with fail
    rw [HTB.out]
    go_wp2
    exact bodyPost_ret (v := noBig) (by simp [results, Tryd.results7, go_sem, noBig]) rfl ⟨rfl, (Below.refl _ _).alloc (Nat.le_refl _) _⟩
  · have hm' : ((s[0].toNat : Int) == 45) = false := by simpa using hm
    have he := not_empty h1
    clear hm
    go_enter Tryd.func7, Tryd.ntmps7
    go_wp2
    exact bodyPost_ret (v := noBig) (by simp [results, Tryd.results7, go_sem, noBig]) rfl ⟨rfl, (Below.refl _ _).alloc (Nat.le_refl _) _⟩

set_option maxRecDepth 100000 in
set_option maxHeartbeats 1000000 in
theorem parseF3_w (s : ByteArray) (h0 : s.size = 1) (hm : ∀ h : 0 < s.size, ((s[0].toNat : Int) == 45) = true) (w : World) : Calls Tryd.prog 7 #[.string s] w fun e w' => e = .returned noBig ∧ Below w.heap.size w w' := by
  have h1 : 0 < s.size := by omega
  have hm := hm h1
  obtain ⟨tb, htb⟩ : ∃ tb, s.extract 1 s.size = tb := ⟨_, rfl⟩
  have HTB := hide htb
  have ht0 : tb = ⟨#[]⟩ := by
    apply ByteArray.ext
    apply Array.eq_empty_of_size_eq_zero
    show tb.size = 0
    rw [← htb, ByteArray.size_extract]; omega
  subst ht0
  have hs : s.size ≤ 1 := by omega
  clear htb h0
  go_enter Tryd.func7, Tryd.ntmps7
  go_upto_region 4 with fail
  rw [HTB.out]
  go_wp2
  exact bodyPost_ret (v := noBig) (by simp [results, Tryd.results7, go_sem, noBig]) rfl ⟨rfl, (Below.refl _ _).alloc (Nat.le_refl _) _⟩

set_option maxRecDepth 100000 in
set_option maxHeartbeats 1000000 in
theorem parseF4_w (s : ByteArray) (h0 : 0 < s.size) (h2 : s.size ≤ 2000) (hm : ((s[0].toNat : Int) == 45) = false) (hq : ((s[0].toNat : Int) == 48) = true) (hq2 : (s.toList == [48]) = false) (w : World) : Calls Tryd.prog 7 #[.string s] w fun e w' => e = .returned noBig ∧ Below w.heap.size w w' := by
  have he := not_empty h0
  go_enter Tryd.func7, Tryd.ntmps7
  go_wp2
  exact bodyPost_ret (v := noBig) (by simp [results, Tryd.results7, go_sem, noBig]) rfl ⟨rfl, (Below.refl _ _).alloc (Nat.le_refl _) _⟩

set_option maxRecDepth 100000 in
set_option maxHeartbeats 1000000 in
theorem parseF5_w (s tb : ByteArray) (HTB : Hid (s.extract 1 s.size = tb)) (h0 : 0 < s.size) (h2 : s.size ≤ 2000) (hm : ((s[0].toNat : Int) == 45) = true) (ht0 : 0 < tb.size) (hq : ((tb[0].toNat : Int) == 48) = true) (hq2 : (s.toList == [48]) = false) (w : World) : Calls Tryd.prog 7 #[.string s] w fun e w' => e = .returned noBig ∧ Below w.heap.size w w' := by
  have he := not_empty ht0
  go_enter Tryd.func7, Tryd.ntmps7
  go_upto_region 4 with fail
  rw [HTB.out]
  go_wp2
  exact bodyPost_ret (v := noBig) (by simp [results, Tryd.results7, go_sem, noBig]) rfl ⟨rfl, (Below.refl _ _).alloc (Nat.le_refl _) _⟩
end Go.Proofs.YtjmmnpfedhkjbaaDoor
namespace Go.Proofs.YtjmmnpfedhkjbaaDoor
open Go.RowKit Go.Shelf

theorem lst_head {s : ByteArray} (h : 0 < s.size) : (lst s).head? = some s[0] := by
  have hl := lst_length s
  cases hc : lst s with
  | nil => rw [hc] at hl; simp at hl; omega
  | cons x l =>
    have := lst_get s 0 h
    simp only [hc, List.getElem_cons_zero] at this
    rw [List.head?_cons, this]

theorem u8_eq_iff {c d : UInt8} : ((c.toNat : Int) == (d.toNat : Int)) = true ↔ c = d := by
  rw [beq_iff_eq, Int.ofNat_inj, UInt8.toNat_inj]

theorem lst_extract (s : ByteArray) : lst (s.extract 1 s.size) = (lst s).tail := by
  unfold lst
  rw [Lib.extract_data, ← List.drop_one, List.take_of_length_le]
  have := lst_length s
  unfold lst at this
  rw [List.length_drop, this]
  omega

theorem u8_45 {c : UInt8} : ((c.toNat : Int) == 45) = true ↔ c = 45 := u8_eq_iff (d := 45)
theorem u8_48 {c : UInt8} : ((c.toNat : Int) == 48) = true ↔ c = 48 := u8_eq_iff (d := 48)

theorem good_iff {l : List UInt8} : good l = true ↔ l.length ≤ 2000 ∧ tailOf l ≠ [] ∧ (¬ (tailOf l).head? = some 48 ∨ l = [48]) ∧ (tailOf l).all isD = true := by
  simp only [good, Bool.and_eq_true, decide_eq_true_eq, Bool.or_eq_true, Bool.not_eq_true', decide_eq_false_iff_not, List.isEmpty_eq_false_iff, and_assoc]

/-- What a call of Parse leaves. -/
def ParseSaid (l : List UInt8) (w : World) (e : Ending) (w' : World) : Prop :=
  (good l = true → ∃ u, e = .returned (.tuple #[u, .bool true]) ∧ IsBig w' u (valZ l)) ∧ (good l = false → e = .returned noBig) ∧ Below w.heap.size w w'

theorem ParseSaid.bad {l : List UInt8} {w w' : World} {e : Ending} (h : ¬ good l = true) (he : e = .returned noBig ∧ Below w.heap.size w w') : ParseSaid l w e w' :=
  ⟨fun g => absurd g h, fun _ => he.1, he.2⟩

theorem ParseSaid.of {l tl : List UInt8} {sg : Bool} {w w' : World} {e : Ending} (hg : good l = true ↔ tl.all isD = true) (hv : valZ l = if sg then -(num tl : Int) else num tl) (h : ParsePost tl sg w e w') : ParseSaid l w e w' := by
  obtain ⟨h1, h2, h3⟩ := h
  refine ⟨fun g => ?_, fun g => h2 ?_, h3⟩
  · rw [hv]; exact h1 (hg.1 g)
  · cases hc : tl.all isD with
    | false => rfl
    | true => rw [hg.2 hc] at g; cases g

theorem parse_c (s : ByteArray) (hs : s.size ≤ 140737488351232) (w : World) : Calls Tryd.prog 7 #[.string s] w (ParseSaid (lst s) w) := by
  have hlen := lst_length s
  by_cases h0 : s.size = 0
  · refine (parseF1_w s h0 w).mono fun e w' h => ParseSaid.bad ?_ h
    rw [good_iff]
    intro ⟨_, h1, _⟩
    have : lst s = [] := List.eq_nil_of_length_eq_zero (by omega)
    rw [this] at h1
    exact h1 rfl
  by_cases h2 : 2000 < s.size
  · refine (parseF2_w s h2 hs w).mono fun e w' h => ParseSaid.bad ?_ h
    rw [good_iff]
    intro ⟨h1, _⟩
    omega
  have hp : 0 < s.size := by omega
  have hh := lst_head hp
  by_cases hm : s[0] = 45
  · have hmm : (lst s).head? = some 45 := by rw [hh, hm]
    have htl : tailOf (lst s) = lst (s.extract 1 s.size) := by rw [tailOf, if_pos hmm, lst_extract]
    have hne48 : ¬ lst s = [48] := by intro h; rw [h] at hmm; simp at hmm
    have hq2 : (s.toList == [48]) = false := by rw [Lib.toList_data]; exact beq_eq_false_iff_ne.2 hne48
    by_cases h1 : s.size = 1
    · refine (parseF3_w s h1 (fun _ => u8_45.2 hm) w).mono fun e w' h => ParseSaid.bad ?_ h
      rw [good_iff, htl]
      intro ⟨_, h3, _⟩
      apply h3
      apply List.eq_nil_of_length_eq_zero
      rw [lst_length, ByteArray.size_extract]
      omega
    · have ht0 : 0 < (s.extract 1 s.size).size := by rw [ByteArray.size_extract]; omega
      have ht1 : (s.extract 1 s.size).size < s.size := by rw [ByteArray.size_extract]; omega
      have hth := lst_head ht0
      by_cases hz : (s.extract 1 s.size)[0] = 48
      · refine (parseF5_w s _ rfl hp (by omega) (u8_45.2 hm) ht0 (u8_48.2 hz) hq2 w).mono fun e w' h => ParseSaid.bad ?_ h
        rw [good_iff, htl]
        intro ⟨_, _, h3, _⟩
        rcases h3 with h3 | h3
        · apply h3; rw [hth, hz]
        · exact hne48 h3
      · have hz' : (((s.extract 1 s.size)[0].toNat : Int) == 48) = false := by
          cases hb : (((s.extract 1 s.size)[0].toNat : Int) == 48) with
          | false => rfl
          | true => exact absurd (u8_48.1 hb) hz
        refine (parseM_w s _ rfl hp (by omega) (u8_45.2 hm) ht0 ht1 ?_ hz' w).mono fun e w' h => ParseSaid.of ?_ ?_ h
        · intro ha
          cases hc : lst (s.extract 1 s.size) with
          | nil => rw [hc] at hth; simp at hth
          | cons c t =>
            rw [hc] at ha hth
            refine (decN_num ha ?_).2
            intro hc48
            apply hz
            simp at hth
            rw [← hth, hc48]
        · rw [good_iff, htl]
          constructor
          · exact fun h => h.2.2.2
          · intro h
            refine ⟨by omega, ?_, Or.inl ?_, h⟩
            · intro h3
              rw [h3] at hth; simp at hth
            · rw [hth]; intro h3; exact hz (Option.some.inj h3)
        · rw [valZ, if_pos hmm, htl]; simp
  · have hmm : ¬ (lst s).head? = some 45 := by rw [hh]; intro h; exact hm (Option.some.inj h)
    have htl : tailOf (lst s) = lst s := by rw [tailOf, if_neg hmm]
    have hm' : ((s[0].toNat : Int) == 45) = false := by
      cases hb : ((s[0].toNat : Int) == 45) with
      | false => rfl
      | true => exact absurd (u8_45.1 hb) hm
    have hne : lst s ≠ [] := by intro h; rw [h] at hh; simp at hh
    by_cases hz : s[0] = 48
    · by_cases h48 : lst s = [48]
      · refine (parse0_w s hp (by omega) hm' (u8_48.2 hz) ?_ w).mono fun e w' h => ParseSaid.of ?_ ?_ h
        · rw [Lib.toList_data]; exact beq_iff_eq.2 h48
        · rw [good_iff, htl]
          exact ⟨fun h => h.2.2.2, fun h => ⟨by omega, hne, Or.inr h48, h⟩⟩
        · rw [valZ, if_neg hmm, htl]; simp
      · refine (parseF4_w s hp (by omega) hm' (u8_48.2 hz) ?_ w).mono fun e w' h => ParseSaid.bad ?_ h
        · rw [Lib.toList_data]; exact beq_eq_false_iff_ne.2 h48
        · rw [good_iff, htl]
          intro ⟨_, _, h3, _⟩
          rcases h3 with h3 | h3
          · apply h3; rw [hh, hz]
          · exact h48 h3
    · have hz' : ((s[0].toNat : Int) == 48) = false := by
        cases hb : ((s[0].toNat : Int) == 48) with
        | false => rfl
        | true => exact absurd (u8_48.1 hb) hz
      refine (parseS_w s hp (by omega) hm' hz' w).mono fun e w' h => ParseSaid.of ?_ ?_ h
      · rw [good_iff, htl]
        refine ⟨fun h => h.2.2.2, fun h => ⟨by omega, hne, Or.inl ?_, h⟩⟩
        rw [hh]; intro h3; exact hz (Option.some.inj h3)
      · rw [valZ, if_neg hmm, htl]; simp
end Go.Proofs.YtjmmnpfedhkjbaaDoor
