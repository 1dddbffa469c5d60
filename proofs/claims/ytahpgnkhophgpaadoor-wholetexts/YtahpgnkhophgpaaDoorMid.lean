import Derived.Test.YtahpgnkhophgpaaDoorArr
namespace Go.Proofs.YtahpgnkhophgpaaDoor
open Go.RowKit Go.Shelf

theorem hidD {p : Prop} (h : p) : Hid p := h

/-- The block's words while addTimes goes on. -/
def mid (xs : List Nat) (ro i : Nat) (q : List Nat) : List Nat := xs.take ro ++ (q ++ xs.drop (ro + i))

theorem mid_zero (xs : List Nat) (ro : Nat) : mid xs ro 0 [] = xs := by simp [mid]
theorem mid_length {xs : List Nat} {ro i : Nat} {q : List Nat} (hq : q.length = i) (h : ro + i ≤ xs.length) : (mid xs ro i q).length = xs.length := by
  simp only [mid, List.length_append, List.length_take, List.length_drop]; omega
theorem mid_get {xs : List Nat} {ro i : Nat} {q : List Nat} (hq : q.length = i) (h : ro + i < xs.length) : (mid xs ro i q)[ro + i]?.getD 0 = xs[ro + i]?.getD 0 := by
  have h1 : (xs.take ro).length = ro := by rw [List.length_take]; omega
  rw [mid, List.getElem?_append_right (by omega), h1, List.getElem?_append_right (by omega), List.getElem?_drop]
  congr 2
  omega
theorem mid_set {xs : List Nat} {ro i : Nat} {q : List Nat} (hq : q.length = i) (h : ro + i < xs.length) (d : Nat) : (mid xs ro i q).set (ro + i) d = mid xs ro (i + 1) (q ++ [d]) := by
  have h1 : (xs.take ro).length = ro := by rw [List.length_take]; omega
  rw [mid, List.set_append_right _ _ (by omega), h1, show ro + i - ro = i from by omega, List.set_append_right _ _ (by omega), hq, Nat.sub_self]
  rw [List.drop_eq_getElem_cons h, List.set_cons_zero, mid]
  simp [Nat.add_assoc]

/-- A row without its words behind i is as it was there. -/
theorem mid_rest {xs : List Nat} {ro i len : Nat} {q : List Nat} (hi : i ≤ len) : mid xs ro i q = mid xs ro len (q ++ (xs.drop (ro + i)).take (len - i)) := by
  rw [mid, mid, List.append_assoc]
  congr 2
  have e : xs.drop (ro + len) = (xs.drop (ro + i)).drop (len - i) := by rw [List.drop_drop]; congr 1; omega
  rw [e, List.take_append_drop]

theorem sub_step {x y c : Nat} (hx : x < B64) (hy : y < B64) (hc : c ≤ 1) : subLo x y c < B64 ∧ subHi x y c ≤ 1 ∧ subLo x y c + y + c = x + B64 * subHi x y c := by
  unfold subLo subHi
  unfold B64 at *
  split <;> omega

theorem add_step {x y c : Nat} (hx : x < B64) (hy : y < B64) (hc : c ≤ 1) : addLo x y c < B64 ∧ addHi x y c ≤ 1 ∧ addLo x y c + B64 * addHi x y c = x + y + c := by
  unfold addLo addHi
  unfold B64 at *
  omega

/-- What the loops of takeOff know. -/
def SubAt (xs bs : List Nat) (ro i c : Nat) (q : List Nat) : Prop :=
  q.length = i ∧ Dig B64 q ∧ c ≤ 1 ∧ val B64 q + val B64 (bs.take i) = val B64 ((xs.drop ro).take i) + B64 ^ i * c

theorem SubAt.start (xs bs : List Nat) (ro : Nat) : SubAt xs bs ro 0 0 [] := ⟨rfl, Dig.nil _, by omega, by simp [val]⟩

theorem SubAt.step {xs bs : List Nat} {ro i c : Nat} {q : List Nat} (h : SubAt xs bs ro i c q) (d c' : Nat) (hd : d < B64) (ho : c' ≤ 1) (he : d + bs[i]?.getD 0 + c = xs[ro + i]?.getD 0 + B64 * c') : SubAt xs bs ro (i + 1) c' (q ++ [d]) := by
  obtain ⟨h1, h2, h3, h4⟩ := h
  refine ⟨by simp; omega, h2.append (Dig.cons hd (Dig.nil _)), ho, ?_⟩
  rw [val_snoc, h1, val_take_succ, val_take_succ, List.getElem?_drop, Nat.pow_succ, Nat.mul_assoc]
  have e2 : B64 ^ i * d + B64 ^ i * (bs[i]?.getD 0) + B64 ^ i * c = B64 ^ i * (xs[ro + i]?.getD 0) + B64 ^ i * (B64 * c') := by
    rw [← Nat.mul_add, ← Nat.mul_add, he, Nat.mul_add]
  omega

theorem SubAt.rest {xs bs : List Nat} {ro i len : Nat} {q : List Nat} (h : SubAt xs bs ro i 0 q) (hx : Dig B64 xs) (hb : bs.length ≤ i) (hi : i ≤ len) (hl : ro + len ≤ xs.length) : SubAt xs bs ro len 0 (q ++ (xs.drop (ro + i)).take (len - i)) := by
  obtain ⟨h1, h2, h3, h4⟩ := h
  refine ⟨by rw [List.length_append, List.length_take, List.length_drop]; omega, h2.append ((hx.drop _).take _), by omega, ?_⟩
  have e1 : (xs.drop ro).take len = (xs.drop ro).take i ++ (xs.drop (ro + i)).take (len - i) := by
    rw [← List.drop_drop, ← List.take_add, show i + (len - i) = len from by omega]
  have e2 : ((xs.drop ro).take i).length = i := by rw [List.length_take, List.length_drop]; omega
  rw [e1, val_append, val_append, h1, e2]
  rw [List.take_of_length_le hb] at h4
  rw [List.take_of_length_le (show bs.length ≤ len by omega)]
  omega

/-- What the loops of add know. -/
def AddAt (xs bs : List Nat) (ro i c : Nat) (q : List Nat) : Prop :=
  q.length = i ∧ Dig B64 q ∧ c ≤ 1 ∧ val B64 q + B64 ^ i * c = val B64 ((xs.drop ro).take i) + val B64 (bs.take i)

theorem AddAt.start (xs bs : List Nat) (ro : Nat) : AddAt xs bs ro 0 0 [] := ⟨rfl, Dig.nil _, by omega, by simp [val]⟩

theorem AddAt.step {xs bs : List Nat} {ro i c : Nat} {q : List Nat} (h : AddAt xs bs ro i c q) (d c' : Nat) (hd : d < B64) (ho : c' ≤ 1) (he : d + B64 * c' = xs[ro + i]?.getD 0 + bs[i]?.getD 0 + c) : AddAt xs bs ro (i + 1) c' (q ++ [d]) := by
  obtain ⟨h1, h2, h3, h4⟩ := h
  refine ⟨by simp; omega, h2.append (Dig.cons hd (Dig.nil _)), ho, ?_⟩
  rw [val_snoc, h1, val_take_succ, val_take_succ, List.getElem?_drop, Nat.pow_succ, Nat.mul_assoc]
  have e2 : B64 ^ i * d + B64 ^ i * (B64 * c') = B64 ^ i * (xs[ro + i]?.getD 0) + B64 ^ i * (bs[i]?.getD 0) + B64 ^ i * c := by
    rw [← Nat.mul_add, he, Nat.mul_add, Nat.mul_add]
  omega

theorem AddAt.rest {xs bs : List Nat} {ro i len : Nat} {q : List Nat} (h : AddAt xs bs ro i 0 q) (hx : Dig B64 xs) (hb : bs.length ≤ i) (hi : i ≤ len) (hl : ro + len ≤ xs.length) : AddAt xs bs ro len 0 (q ++ (xs.drop (ro + i)).take (len - i)) := by
  obtain ⟨h1, h2, h3, h4⟩ := h
  refine ⟨by rw [List.length_append, List.length_take, List.length_drop]; omega, h2.append ((hx.drop _).take _), by omega, ?_⟩
  have e1 : (xs.drop ro).take len = (xs.drop ro).take i ++ (xs.drop (ro + i)).take (len - i) := by
    rw [← List.drop_drop, ← List.take_add, show i + (len - i) = len from by omega]
  have e2 : ((xs.drop ro).take i).length = i := by rw [List.length_take, List.length_drop]; omega
  rw [e1, val_append, val_append, h1, e2]
  rw [List.take_of_length_le hb] at h4
  rw [List.take_of_length_le (show bs.length ≤ len by omega)]
  omega
end Go.Proofs.YtahpgnkhophgpaaDoor
