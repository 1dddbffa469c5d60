import Derived.Test.YtjmmnpfedhkjbaaDoorK03
import Derived.Test.YtjmmnpfedhkjbaaDoorK01
import Derived.Lib.Strings
namespace Go.Proofs.YtjmmnpfedhkjbaaDoor
open Go.RowKit Go.Shelf

/-- A word's base. -/
def B64 : Nat := 18446744073709551616
theorem two_le_B64 : 2 ≤ B64 := by unfold B64; omega

/-- The slice value v holds the words of n. -/
def UN (W : World) (v : Value) (n : Nat) : Prop := Row .u64 W v (limbs B64 n)

theorem UN.below {W W' : World} {v : Value} {n : Nat} (h : UN W v n) (hb : Below W.heap.size W W') : UN W' v n := Row.below h hb
theorem UN.form {W : World} {v : Value} {n : Nat} (h : UN W v n) : ∃ a cap, v = .slice a (limbs B64 n).length cap := by
  obtain ⟨a, cap, e, _⟩ := h
  exact ⟨a, cap, e⟩
theorem UN.len {W : World} {a : Option Addr} {l c n : Nat} (h : UN W (.slice a l c) n) : l = (limbs B64 n).length := by
  obtain ⟨a', cap, e, _⟩ := h
  cases e
  rfl

/-- The value v is the program's number z. -/
def IsInt (W : World) (v : Value) (z : Int) : Prop := ∃ a l cap, v = .agg #[.bool (decide (z < 0)), .slice a l cap] ∧ UN W (.slice a l cap) z.natAbs

theorem IsInt.below {W W' : World} {v : Value} {z : Int} (h : IsInt W v z) (hb : Below W.heap.size W W') : IsInt W' v z := by
  obtain ⟨a, l, cap, e, hr⟩ := h
  exact ⟨a, l, cap, e, hr.below hb⟩

theorem wlen_pos_iff {n : Nat} : 0 < (limbs B64 n).length ↔ n ≠ 0 := by
  rw [List.length_pos_iff, Ne, limbs_eq_nil two_le_B64]

theorem agg_bool' {d : Value} {p q : Bool} (h : p = q) : Value.agg #[.bool p, d] = .agg #[.bool q, d] := by rw [h]

set_option maxHeartbeats 400000 in
theorem sign_c (b : Bool) (w : World) : Calls Tryd.prog 36 #[.bool b] w fun e w' => e = .returned (.int .i64 (if b then 1 else -1)) ∧ w' = w := by
  cases b
  · go_enter Tryd.func36, Tryd.ntmps36
    go_wp2
    go_ret
    exact ⟨rfl, rfl⟩
  · go_enter Tryd.func36, Tryd.ntmps36
    go_wp2
    go_ret
    exact ⟨rfl, rfl⟩

set_option maxHeartbeats 400000 in
theorem signed_w (b : Bool) (a : Option Addr) (l cap : Nat) (w : World) : Calls Tryd.prog 27 #[.bool b, .slice a l cap] w fun e w' => e = .returned (.agg #[.bool (b && decide (0 < l)), .slice a l cap]) ∧ Below w.heap.size w w' := by
  cases b
  · go_enter Tryd.func27, Tryd.ntmps27
    go_wp2
    exact bodyPost_ret (v := .agg #[.bool false, .slice a l cap]) (by simp [results, Tryd.results27, go_sem]) rfl ⟨by simp, (Below.refl _ _).alloc (Nat.le_refl _) _⟩
  · go_enter Tryd.func27, Tryd.ntmps27
    go_wp2
    exact bodyPost_ret (v := .agg #[.bool (decide (0 < l)), .slice a l cap]) (by simp [results, Tryd.results27, go_sem]) rfl ⟨by simp, (Below.refl _ _).alloc (Nat.le_refl _) _⟩

theorem signed_c (b : Bool) (v : Value) (n : Nat) (w : World) (h : UN w v n) : Calls Tryd.prog 27 #[.bool b, v] w fun e w' => ∃ u, e = .returned u ∧ IsInt w' u (if b then -(n : Int) else n) ∧ Below w.heap.size w w' := by
  obtain ⟨a, cap, rfl⟩ := h.form
  refine (signed_w b a _ cap w).mono ?_
  rintro e w' ⟨rfl, hB⟩
  refine ⟨_, rfl, ⟨a, (limbs B64 n).length, cap, ?_, ?_⟩, hB⟩
  · refine agg_bool' ?_
    rw [Bool.eq_iff_iff]
    simp only [Bool.and_eq_true, decide_eq_true_eq]
    rw [wlen_pos_iff]
    cases b
    · simp
    · simp; omega
  · have e : (if b then -(n : Int) else n).natAbs = n := by cases b <;> simp
    rw [e]
    exact h.below hB

/-- The list of a text's bytes. -/
def wlst (s : ByteArray) : List UInt8 := s.data.toList

theorem wlst_length (s : ByteArray) : (wlst s).length = s.size := Array.length_toList
theorem wlst_get (s : ByteArray) (i : Nat) (h : i < s.size) : (wlst s)[i]'(by rw [wlst_length]; exact h) = s[i] := rfl

theorem ret_bool {a b : Bool} (h : a = b) : Ending.returned (.bool a) = .returned (.bool b) := by rw [h]

/-- Digits alone, without a needless zero. -/
def isNum (l : List UInt8) : Bool := l.all isD && (decide (l = [48]) || (!l.isEmpty && !decide (l.head? = some 48)))

set_option maxRecDepth 100000 in
set_option maxHeartbeats 1000000 in
theorem isNumber_w (s : ByteArray) (hs : s.size ≤ 140737488351232) (w : World) : Calls Tryd.prog 26 #[.string s] w fun e w' => e = .returned (.bool (isNum (wlst s))) ∧ w' = w := by
  go_enter Tryd.func26, Tryd.ntmps26
  go_wp2
  go_loop [6] (fun iv => ∃ i : Nat, iv = .int .i64 i ∧ i ≤ s.size ∧ Hid (((wlst s).take i).all isD = true)) (fun iv => s.size - (intOf iv).toNat)
  case atStart => exact ⟨0, rfl, Nat.zero_le _, rfl⟩
  case round =>
    obtain ⟨i, rfl, hi, HA⟩ := hrel
    by_cases hlt : i < s.size
    · by_cases hd : isD s[i] = true
      · have hb := isD_bounds hd
        have hb1 : 48 ≤ s[i].toNat := hb.1
        have hb2 : s[i].toNat ≤ 57 := hb.2
        have HN : Hid (((wlst s).take (i + 1)).all isD = true) := by
          show _ = true
          rw [List.take_succ_eq_append_getElem (by rw [wlst_length]; exact hlt), List.all_append, HA.out, wlst_get s i hlt]
          simp [hd]
        clear hb hd
        go_wp2
        exact ⟨⟨i + 1, by simp, by omega, HN⟩, by simp [intOf]; omega⟩
      · have hall : isNum (wlst s) = false := by
          have : (wlst s).all isD = false := by
            rw [List.all_eq_false]
            exact ⟨_, List.getElem_mem (by rw [wlst_length]; exact hlt), by rw [wlst_get s i hlt]; exact hd⟩
          simp [isNum, this]
        have hnd : s[i].toNat < 48 ∨ (48 ≤ s[i].toNat ∧ 57 < s[i].toNat) := by
          simp [isD] at hd
          omega
        have HN := Hid.out (p := Hid (isNum (wlst s) = false)) hall
        clear hall hd
        rcases hnd with hnd | ⟨hnd1, hnd2⟩
        · go_wp2
          go_ret
          exact ⟨ret_bool HN.out.symm, rfl⟩
        · go_wp2
          go_ret
          exact ⟨ret_bool HN.out.symm, rfl⟩
    · have hall : (wlst s).all isD = true := by
        have := HA.out
        rwa [List.take_of_length_le (by rw [wlst_length]; omega)] at this
      by_cases h0 : s.size = 0
      · have hs0 : s = ⟨#[]⟩ := by
          apply ByteArray.ext
          exact Array.eq_empty_of_size_eq_zero h0
        subst hs0
        go_wp2
        go_ret
        exact ⟨rfl, rfl⟩
      · have hp : 0 < s.size := by omega
        have hne : s.toList.isEmpty = false := by
          rw [Lib.toList_data]
          have := wlst_length s
          cases h : s.data.toList with
          | nil => rw [wlst, h] at this; simp at this; omega
          | cons x l => rfl
        have hhd : (wlst s).head? = some s[0] := by
          have hl := wlst_length s
          cases hc : wlst s with
          | nil => rw [hc] at hl; simp at hl; omega
          | cons x l =>
            have := wlst_get s 0 hp
            simp only [hc, List.getElem_cons_zero] at this
            rw [List.head?_cons, this]
        have hnem : (wlst s).isEmpty = false := by rw [← hne, Lib.toList_data]; rfl
        have hres : isNum (wlst s) = ((s.toList == [48]) || ((s[0].toNat : Int) != 48)) := by
          rw [isNum, hall, hnem, hhd, Lib.toList_data]
          have e1 : decide (wlst s = [48]) = (s.data.toList == [48]) := by
            rw [Bool.eq_iff_iff, decide_eq_true_iff, beq_iff_eq]; rfl
          have e2 : (!decide (some s[0] = some (48 : UInt8))) = ((s[0].toNat : Int) != 48) := by
            rw [Bool.eq_iff_iff]
            simp only [Bool.not_eq_true', decide_eq_false_iff_not, bne_iff_ne, Option.some.injEq, ne_eq]
            refine not_congr ?_
            rw [← UInt8.toNat_inj]
            show _ ↔ (s[0].toNat : Int) = ((48 : Nat) : Int)
            rw [Int.ofNat_inj]
            rfl
          rw [e1, e2]
          simp
        have HR := Hid.out (p := Hid (isNum (wlst s) = ((s.toList == [48]) || ((s[0].toNat : Int) != 48)))) hres
        clear hres hhd hnem hall HA h0
        cases hq : (s.toList == [48])
        · rw [hq] at HR
          go_wp2
          go_ret
          exact ⟨ret_bool HR.out.symm, rfl⟩
        · rw [hq] at HR
          go_wp2
          go_ret
          exact ⟨ret_bool HR.out.symm, rfl⟩
end Go.Proofs.YtjmmnpfedhkjbaaDoor
