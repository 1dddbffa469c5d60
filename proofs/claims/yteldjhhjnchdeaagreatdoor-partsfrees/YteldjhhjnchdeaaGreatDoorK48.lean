import Derived.Test.YteldjhhjnchdeaaGreatDoorK47
namespace Go.Proofs.YteldjhhjnchdeaaGreatDoor
open Go.RowKit Go.Shelf

namespace M3
attribute [local go_sem] Oper.semAt_some
set_option maxRecDepth 100000 in
set_option maxHeartbeats 16000000 in
theorem partsFrees_c (s t : ByteArray) (hs : s.size ≤ 140737488351232) (ht : t.size ≤ 140737488351232) (w : World) (htab : Pow10 w) :
    Calls Tryz.prog 4 #[.string s, .string t] w fun r w' => r = .returned (.bool true) ∧ Below w.heap.size w w' := by
  have hmx : Tryz.prog.follows .mixedOrders = true := by kernel_rfl
  have HT := hidD htab
  have cP := prs_cd (wlst s)
  have cQ := prs_cd (wlst t)
  have lP := (parseP_small (wlst s)).1
  have lQ := (parseP_small (wlst t)).1
  have tP := parseP_trim (wlst s)
  have HR1 := hidD (fun (V : World) => jRead_c s hs V)
  have HR2 := hidD (fun (V : World) => jRead_c t ht V)
  have HG1 := hidD (fun (V : World) => jGiven_c s V)
  have HG2 := hidD (fun (V : World) => jGiven_c t V)
  obtain ⟨p, hp⟩ : ∃ p, (parseP (wlst s)).1 = p := ⟨_, rfl⟩
  obtain ⟨q, hq⟩ : ∃ q, (parseP (wlst t)).1 = q := ⟨_, rfl⟩
  rw [hp] at cP lP tP HR1 HG1
  rw [hq] at cQ lQ HR2 HG2
  have cPQ : Cd 41 (mulQ p q) := (cP.mul cQ).mono (by omega)
  have lPQ := mulQ_len p q
  have oPQ : TimesOk p q := cP.times cQ (by omega)
  obtain ⟨pq, hpq⟩ : ∃ x, mulQ p q = x := ⟨_, rfl⟩
  rw [hpq] at cPQ lPQ
  have cW : Cd 75 (mulQ pq p) := (cPQ.mul cP).mono (by omega)
  have lW := mulQ_len pq p
  have oW : TimesOk pq p := cPQ.times cP (by omega)
  have sl : ∀ x : List Rat, (slopeQ x).length ≤ x.length := fun x => Nat.le_trans (trim_length_le _) (by simp [slopeR])
  have s1 := sl p
  have s2 := sl (mulQ pq p)
  have ch1 : ChOk 17 p (slopeQ p) := ChOk.of tP (slopeQ_trim _) (cP.mono (by omega)) (cP.slope (by omega)) (n := 9) lP (by omega) (by decide) (by omega)
  have ch2 : ChOk 76 (mulQ pq p) (slopeQ (mulQ pq p)) := ChOk.of (mulQ_trim _ _) (slopeQ_trim _) (cW.mono (by omega)) (cW.slope (by omega)) (n := 27) (by omega) (by omega) (by decide) (by omega)
  have ok1 : FrOk 17 p := ⟨ch1, by
    have h1 : ChA 17 p (slopeQ p) ≤ (17 + 1) * (9 + 9 + 1) := Nat.mul_le_mul_left _ (by omega)
    have h2 : (p.length + 3) * (ChA 17 p (slopeQ p) + 1) ≤ (9 + 3) * ((17 + 1) * (9 + 9 + 1) + 1) := Nat.mul_le_mul (by omega) (by omega)
    omega⟩
  have ok2 : FrOk 76 (mulQ pq p) := ⟨ch2, by
    have h1 : ChA 76 (mulQ pq p) (slopeQ (mulQ pq p)) ≤ (76 + 1) * (27 + 27 + 1) := Nat.mul_le_mul_left _ (by omega)
    have h2 : ((mulQ pq p).length + 3) * (ChA 76 (mulQ pq p) (slopeQ (mulQ pq p)) + 1) ≤ (27 + 3) * ((76 + 1) * (27 + 27 + 1) + 1) := Nat.mul_le_mul (by omega) (by omega)
    omega⟩
  have frs : ∀ (K : Nat) (x : List Rat), FrOk K x → Sqs (freQ x) ∧ (freQ x).length ≤ 3000000 ∧ trimQ (freQ x) = freQ x := fun K x ok => by
    have h8 := ok.ch.bd
    have h9 := ok.le
    have h7 : (x.length + 3) * (ChA K x (slopeQ x) + 1) = (x.length + 1) * (ChA K x (slopeQ x) + 1) + 2 * (ChA K x (slopeQ x) + 1) := by rw [← Nat.add_mul]
    have h6 := (ok.cd.ov ok.ch.gcd (gcdQ_trim _ _) (gcdQ_monic ok.ch.tp ok.ch.tq)).mon (ovQ_trim _ _)
    refine ⟨h6.sqs (by omega), ?_, monQ_trim _⟩
    unfold freQ
    rw [monQ_length (ovQ_trim _ _)]
    unfold ovQ
    split
    · simp
    · unfold quoQ
      refine Nat.le_trans (trim_length_le _) ?_
      rw [(splitAt_length _ _ _ _ _).1]
      have := ok.ch.ln
      omega
  obtain ⟨f1, f2, f3⟩ := frs 17 p ok1
  obtain ⟨k1, k2, k3⟩ := frs 76 (mulQ pq p) ok2
  have sP := cP.sqs (by omega)
  have sQ := cQ.sqs (by omega)
  have sPQ := cPQ.sqs (by omega)
  have C2 := hidD (fun (V : World) (x y : Value) (hx : IsPoly V x p) (hy : IsPoly V y q) => yTimes_n x y p q V hx hy sP sQ oPQ (by omega))
  have C3 := hidD (fun (V : World) (x y : Value) (hx : IsPoly V x pq) (hy : IsPoly V y p) => yTimes_n x y pq p V hx hy sPQ sP oW (by omega))
  have C4 := hidD (fun (V : World) (x : Value) (hx : IsPoly V x p) => gFree_c 17 x p V hx ok1)
  have C5 := hidD (fun (V : World) (x : Value) (hx : IsPoly V x (mulQ pq p)) => gFree_c 76 x (mulQ pq p) V hx ok2)
  have D2 := hidD (fun (V : World) (x y : Value) (hx : RowK false V x p) (hy : RowK false V y q) => xTimes_c x y p q V hx hy sP sQ oPQ (by omega))
  have D3 := hidD (fun (V : World) (x y : Value) (hx : RowK false V x pq) (hy : RowK false V y p) => xTimes_c x y pq p V hx hy sPQ sP oW (by omega))
  have D4 := hidD (fun (V : World) (x : Value) (hx : RowK false V x p) => zFree_c 17 x p V hx ok1)
  have D5 := hidD (fun (V : World) (x : Value) (hx : RowK false V x (mulQ pq p)) => zFree_c 76 x (mulQ pq p) V hx ok2)
  have TA := hidD (fun (V : World) (x : Value) (hx : IsPoly V x (freQ p)) (hp : Pow10 V) => yText_c x (freQ p) V hx f1 (fun m => polyT_ok f1 f2 m) hp)
  have TB := hidD (fun (V : World) (x : Value) (hx : IsPoly V x (freQ (mulQ pq p))) (hp : Pow10 V) => yText_c x _ V hx k1 (fun m => polyT_ok k1 k2 m) hp)
  have XA := hidD (fun (V : World) (x : Value) (hx : RowK false V x (freQ p)) (hp : Pow10 V) => xText_c x (freQ p) V hx f1 (fun m => polyT_ok f1 f2 m) f3 hp)
  have XB := hidD (fun (V : World) (x : Value) (hx : RowK false V x (freQ (mulQ pq p))) (hp : Pow10 V) => xText_c x _ V hx k1 (fun m => polyT_ok k1 k2 m) k3 hp)
  have AL := hidD (fun (V : World) (hp : Pow10 V) => halive_c V hp)
  rw [hpq] at C2 D2
  obtain ⟨SA, hSA⟩ : ∃ S : ByteArray, ⟨(textP (freQ p)).toArray⟩ = S := ⟨_, rfl⟩
  obtain ⟨SB, hSB⟩ : ∃ S : ByteArray, ⟨(textP (freQ (mulQ pq p))).toArray⟩ = S := ⟨_, rfl⟩
  rw [hSA] at TA XA
  rw [hSB] at TB XB
  have M1 : Hid (Mem w w []) := hidD (Mem.nil w)
  clear htab cP cQ lP lQ tP hp hq cPQ lPQ oPQ hpq cW lW oW sl s1 s2 ch1 ch2 ok1 ok2 frs f1 f2 f3 k1 k2 k3 sP sQ sPQ hSA hSB hs ht
  go_enter Tryz.func4, Tryz.ntmps4
  go_upto_region 2 with (go_at_call 7; refine (HG1.out _).mono ?_; clear HG1; rintro e w1 ⟨u1, rfl, hu1, hb1⟩; obtain ⟨a901, l901, c901, rfl⟩ := IsPoly.form hu1)
  obtain ⟨V1, hV⟩ : ∃ V, w1.alloc (.cells #[.slice a901 l901 c901] 25) = V := ⟨_, rfl⟩
  obtain ⟨B1, hBk⟩ : ∃ B, w1.heap.size = B := ⟨_, rfl⟩
  have MM : Mem w (w1.alloc (.cells #[.slice a901 l901 c901] 25)) [some (w1.heap.size, .poly (p))] := Mem.push (M1.out.below hb1) (.poly (p)) hu1
  rw [hV, hBk] at MM
  rw [hV]
  rw [hBk]
  have M2 : Hid (Mem w V1 [some (B1, .poly (p))]) := hidD (MM)
  clear M1
  clear MM hV hBk
  clear hu1 hb1
  refine wp_region_tab hmx [[], [], [1], [0, 2, 2], [], [4, 3, 3, 0, 1, 2, 3, 4]] (by kernel_rfl) (by decide)
    (fun D act V => ∃ (t13x t14x t15x t16x t6x : Value) (x4 : Option (Nat × Dat)), act = { tmps := #[Value.string s, Value.string t, undef, undef, Value.bool false, Value.pointer (some { block := B1, off := 0 }), t6x, undef, undef, undef, undef, Value.string s, Value.agg #[Value.slice a901 l901 c901], t13x, t14x, t15x, t16x, undef, undef, undef, undef, undef, undef, undef, undef, undef, undef, undef, undef, undef, undef, undef, undef, undef, undef, undef, undef, undef, undef, undef, undef, undef, undef, undef, undef, undef, undef, undef, undef], defers := [] } ∧ Hid ((D 0 = true → Has V t13x (.poly (p))) ∧ (D 1 = true → t14x = Value.string t) ∧ (D 2 = true → Has V t15x (.poly (q))) ∧ (D 3 = true → Has V t16x (.poly (pq))) ∧ ((D 4 = false → x4 = none) ∧ (D 4 = true → D 5 = false → ∃ B : Nat, t6x = .pointer (some ⟨B, 0, none⟩) ∧ x4 = some (B, .poly [])) ∧ (D 5 = true → ∃ B : Nat, t6x = .pointer (some ⟨B, 0, none⟩) ∧ x4 = some (B, .poly (pq))))) ∧ Hid (Mem w V [some (B1, .poly (p)), x4]))
    ⟨_, _, _, _, _, none, rfl, hidD ⟨by simp, by simp, by simp, by simp, by simp⟩, hidD ((M2.out).none).drew⟩ ?step2 ?fin2
  case step2 =>
    rintro D act V i ds hcl hi hds hDi ⟨t13x, t14x, t15x, t16x, t6x, x4, rfl, GG, MM⟩
    have hi6 : i < 6 := (List.getElem?_eq_some_iff.1 hi).1
    obtain rfl | rfl | rfl | rfl | rfl | rfl : i = 0 ∨ i = 1 ∨ i = 2 ∨ i = 3 ∨ i = 4 ∨ i = 5 := by omega
    all_goals
      simp only [List.getElem?_cons_zero, List.getElem?_cons_succ, Option.some.injEq] at hi
      subst hi
    · clear hds
      obtain ⟨a, l, c, n, r⟩ := MM.out.poly2 (i := 0) rfl
      have e0 := n.cell
      refine wpOp_go rfl rfl (fun K hK => ?_)
      go_simp
      exact hK _ _ ⟨_, _, _, _, _, _, rfl, hidD ⟨fun _ => r, GG.out.2.1, GG.out.2.2.1, GG.out.2.2.2.1, GG.out.2.2.2.2⟩, hidD (MM.out)⟩
    · clear hds
      refine wpOp_go rfl rfl (fun K hK => ?_)
      go_simp
      exact hK _ _ ⟨_, _, _, _, _, _, rfl, hidD ⟨GG.out.1, fun _ => rfl, GG.out.2.2.1, GG.out.2.2.2.1, GG.out.2.2.2.2⟩, hidD (MM.out)⟩
    · obtain rfl := (GG.out.2.1 (hds 1 (by simp)))
      have HC := hidD (HG2.out V)
      clear hds
      refine wpOp_go rfl rfl (fun K hK => ?_)
      go_simp
      go_wp2_with (go_at_call 7; refine HC.out.mono ?_; rintro e w5 ⟨v5, rfl, hv5, hb5⟩)
      exact ⟨_, _, _, _, _, _, rfl, hidD ⟨fun h => (GG.out.1 h).below hb5, fun _ => rfl, fun _ => hv5, fun h => (GG.out.2.2.2.1 h).below hb5, GG.out.2.2.2.2⟩, hidD (MM.out.below hb5)⟩
    · have h0 := (GG.out.1 (hds 0 (by simp)))
      have h1 := (GG.out.2.2.1 (hds 2 (by simp)))
      have HC := hidD (C2.out V _ _ h0 h1)
      clear hds h0 h1
      refine wpOp_go rfl rfl (fun K hK => ?_)
      go_simp
      go_wp2_with (go_at_call 9; refine HC.out.mono ?_; rintro e w5 ⟨v5, rfl, hv5, hb5⟩)
      exact ⟨_, _, _, _, _, _, rfl, hidD ⟨fun h => (GG.out.1 h).below hb5, GG.out.2.1, fun h => (GG.out.2.2.1 h).below hb5, fun _ => hv5, GG.out.2.2.2.2⟩, hidD (MM.out.below hb5)⟩
    · have hf : D 5 = false := by
        cases h : D 5 with
        | false => rfl
        | true => rw [hcl 5 _ rfl h 4 (by simp)] at hDi; cases hDi
      obtain rfl := GG.out.2.2.2.2.1 hDi
      clear hds
      refine wpOp_go rfl rfl (fun K hK => ?_)
      go_simp
      exact hK _ _ ⟨_, _, _, _, _, _, rfl, hidD ⟨fun h => (GG.out.1 h).alloc _, GG.out.2.1, fun h => (GG.out.2.2.1 h).alloc _, fun h => (GG.out.2.2.2.1 h).alloc _, ⟨fun h => by simp at h, fun _ _ => ⟨_, rfl, rfl⟩, fun h => by simp [hf] at h⟩⟩, hidD (MM.out.fill (i := 1) rfl (.poly []) (poly0 _))⟩
    · obtain ⟨B, rfl, rfl⟩ := GG.out.2.2.2.2.2.1 (hds 4 (by simp)) hDi
      have hds0 := hds 4 (by simp)
      have hv := (GG.out.2.2.2.1 (hds 3 (by simp)))
      obtain ⟨a1, l1, c1, rfl⟩ := IsPoly.form (show IsPoly V _ _ from hv)
      obtain ⟨a, l, c, n, r⟩ := MM.out.poly2 (i := 1) rfl
      have e0 := n.cell
      have f0 := n.frozen
      clear hds
      refine wpOp_go rfl rfl (fun K hK => ?_)
      go_simp
      exact hK _ _ ⟨_, _, _, _, _, _, rfl, hidD ⟨fun h => (GG.out.1 h).set1 n rfl _, GG.out.2.1, fun h => (GG.out.2.2.1 h).set1 n rfl _, fun h => (GG.out.2.2.2.1 h).set1 n rfl _, ⟨fun h => by simp [hds0] at h, fun _ h => by simp at h, fun _ => ⟨B, rfl, rfl⟩⟩⟩, hidD (MM.out.putPoly (i := 1) rfl hv)⟩
  rintro D act V3 hDD ⟨t13x, t14x, t15x, t16x, t6x, x4, rfl, GG, MM⟩
  obtain ⟨B4, rfl, rfl⟩ := GG.out.2.2.2.2.2.2 (hDD 5 (by decide))
  obtain rfl := GG.out.2.1 (hDD 1 (by decide))
  clear GG hDD M2
  have M3 : Hid (Mem w V3 [some (B1, .poly (p)), some (B4, .poly (pq))]) := MM
  clear MM
  clear HG2 C2
  obtain ⟨a5, l5, c5, n5, r5⟩ := M3.out.poly2 (i := 0) rfl
  have e5a := n5.cell
  obtain ⟨a6, l6, c6, n6, r6⟩ := M3.out.poly2 (i := 1) rfl
  have e6a := n6.cell
  have f6a := n6.frozen
  have H1 := hidD (C3.out V3 _ _ r6 r5)
  clear C3
  go_upto_region 4 with (go_at_call 9; refine H1.out.mono ?_; clear H1; rintro e w3 ⟨u3, rfl, hu3, hq⟩; obtain ⟨a903, l903, c903, rfl⟩ := IsPoly.form hu3; clear e6a; have e6a := (boxed_below n6 hq).cell; clear f6a; have f6a := (boxed_below n6 hq).frozen)
  obtain ⟨V7, hV⟩ : ∃ V, w3.setCell ⟨B4, 0, none⟩ (.slice a903 l903 c903) = V := ⟨_, rfl⟩
  have MM : Mem w (w3.setCell ⟨B4, 0, none⟩ (.slice a903 l903 c903)) [some (B1, .poly (p)), some (B4, .poly (mulQ pq p))] := Mem.putPoly (M3.out.below hq) (i := 1) rfl hu3
  rw [hV] at MM
  rw [hV]
  have M4 : Hid (Mem w V7 [some (B1, .poly (p)), some (B4, .poly (mulQ pq p))]) := hidD (MM)
  clear M3
  clear MM hV
  clear hu3 hq f6a
  clear n5 e5a r5 n6 e6a r6
  obtain ⟨a8, l8, c8, n8, r8⟩ := M4.out.poly2 (i := 0) rfl
  have e8a := n8.cell
  have H1 := hidD (C4.out V7 _ r8)
  clear C4
  go_upto_region 5 with (go_at_call 16; refine H1.out.mono ?_; clear H1; rintro e w4 ⟨u4, rfl, hu4, hb4⟩; obtain ⟨a904, l904, c904, rfl⟩ := IsPoly.form hu4)
  clear n8 e8a r8
  obtain ⟨V9, hV⟩ : ∃ V, w4.alloc (.cells #[.slice a904 l904 c904] 25) = V := ⟨_, rfl⟩
  obtain ⟨B9, hBk⟩ : ∃ B, w4.heap.size = B := ⟨_, rfl⟩
  have MM : Mem w (w4.alloc (.cells #[.slice a904 l904 c904] 25)) [some (B1, .poly (p)), some (B4, .poly (mulQ pq p)), some (w4.heap.size, .poly (freQ p))] := Mem.push (M4.out.below hb4) (.poly (freQ p)) hu4
  rw [hV, hBk] at MM
  rw [hV]
  rw [hBk]
  have M5 : Hid (Mem w V9 [some (B1, .poly (p)), some (B4, .poly (mulQ pq p)), some (B9, .poly (freQ p))]) := hidD (MM)
  clear M4
  clear MM hV hBk
  clear hu4 hb4
  obtain ⟨a10, l10, c10, n10, r10⟩ := M5.out.poly2 (i := 1) rfl
  have e10a := n10.cell
  have H1 := hidD (C5.out V9 _ r10)
  clear C5
  go_upto_region 6 with (go_at_call 16; refine H1.out.mono ?_; clear H1; rintro e w5 ⟨u5, rfl, hu5, hb5⟩; obtain ⟨a905, l905, c905, rfl⟩ := IsPoly.form hu5)
  clear n10 e10a r10
  obtain ⟨V11, hV⟩ : ∃ V, w5.alloc (.cells #[.slice a905 l905 c905] 25) = V := ⟨_, rfl⟩
  obtain ⟨B11, hBk⟩ : ∃ B, w5.heap.size = B := ⟨_, rfl⟩
  have MM : Mem w (w5.alloc (.cells #[.slice a905 l905 c905] 25)) [some (B1, .poly (p)), some (B4, .poly (mulQ pq p)), some (B9, .poly (freQ p)), some (w5.heap.size, .poly (freQ (mulQ pq p)))] := Mem.push (M5.out.below hb5) (.poly (freQ (mulQ pq p))) hu5
  rw [hV, hBk] at MM
  rw [hV]
  rw [hBk]
  have M6 : Hid (Mem w V11 [some (B1, .poly (p)), some (B4, .poly (mulQ pq p)), some (B9, .poly (freQ p)), some (B11, .poly (freQ (mulQ pq p)))]) := hidD (MM)
  clear M5
  clear MM hV hBk
  clear hu5 hb5
  obtain ⟨a12, l12, c12, n12, r12⟩ := M6.out.poly2 (i := 2) rfl
  obtain ⟨a13, l13, c13, n13, r13⟩ := M6.out.poly2 (i := 3) rfl
  have nA := n12
  have rA := r12
  clear n12 r12
  have nB := n13
  have rB := r13
  clear n13 r13
  have M := hidD M6.out.2.2
  clear M6
  have hq : Below V11.heap.size V11 V11 := Below.refl _ _
  go_upto_region 7 with (go_at_call 10; refine (HR1.out _).mono ?_; clear HR1; rintro e w6 ⟨u6, rfl, hu6, hb6⟩; obtain ⟨xa6, xl6, xc6, rfl⟩ := hu6.form)
  have rX := hu6
  replace hq := Below.then hq hb6
  clear hu6 hb6
  go_upto_region 8 with (first
    | (go_at_call 10; refine (HR2.out _).mono ?_; clear HR2; rintro e w7 ⟨u7, rfl, hu7, hb⟩; replace rX := rX.below hb; replace hq := Below.then hq hb; clear hb)
    | (go_at_call 14; refine (D2.out _ _ _ rX hu7).mono ?_; clear D2; rintro e w8 ⟨u8, rfl, hu8, hb⟩; replace rX := rX.below hb; replace hq := Below.then hq hb; clear hb)
    | (go_at_call 14; refine (D3.out _ _ _ hu8 rX).mono ?_; clear D3; rintro e w9 ⟨u9, rfl, hu9, hb⟩; replace rX := rX.below hb; replace hq := Below.then hq hb; clear hb; obtain ⟨xa9, xl9, xc9, rfl⟩ := hu9.form))
  have rY := hu9
  clear hu7 hu8 hu9
  replace nA := nA.bel hq
  replace rA := rA.below hq
  replace nB := nB.bel hq
  replace rB := rB.below hq
  replace M := hidD (M.out.trans (hq.mono M.out.size))
  clear hq
  have HTB := hidD (fun (V : World) (h : Below w9.heap.size w9 V) => show Pow10 V from tab_below HT.out (M.out.trans (h.mono M.out.size)))
  have HC := hidD (fun (V : World) (h : Below w9.heap.size w9 V) => show V.cell? _ = _ ∧ V.cell? _ = _ from ⟨(nA.bel h).cell, (nB.bel h).cell⟩)
  have hq : Below w9.heap.size w9 w9 := Below.refl _ _
  obtain ⟨eA, eB⟩ := HC.out _ hq
  go_wp2_with (first
    | (go_at_call 11; refine (TA.out _ _ (rA.below hq) (HTB.out _ hq)).mono ?_; clear TA; rintro e x1 ⟨rfl, hb⟩; replace hq := Below.then hq hb; clear hb eA eB; obtain ⟨eA, eB⟩ := HC.out _ hq)
    | (go_at_call 17; refine (D4.out _ _ (rX.below hq)).mono ?_; clear D4; rintro e x2 ⟨v1, rfl, hv1, hb⟩; replace hq := Below.then hq hb; clear hb eA eB; obtain ⟨eA, eB⟩ := HC.out _ hq)
    | (go_at_call 12; refine (XA.out _ _ hv1 (HTB.out _ hq)).mono ?_; clear XA; rintro e x3 ⟨rfl, hb⟩; replace hq := Below.then hq hb; clear hb eA eB; obtain ⟨eA, eB⟩ := HC.out _ hq)
    | (go_at_call 11; refine (TB.out _ _ (rB.below hq) (HTB.out _ hq)).mono ?_; clear TB; rintro e x4 ⟨rfl, hb⟩; replace hq := Below.then hq hb; clear hb eA eB; obtain ⟨eA, eB⟩ := HC.out _ hq)
    | (go_at_call 17; refine (D5.out _ _ (rY.below hq)).mono ?_; clear D5; rintro e x5 ⟨v2, rfl, hv2, hb⟩; replace hq := Below.then hq hb; clear hb eA eB; obtain ⟨eA, eB⟩ := HC.out _ hq)
    | (go_at_call 12; refine (XB.out _ _ hv2 (HTB.out _ hq)).mono ?_; clear XB; rintro e x6 ⟨rfl, hb⟩; replace hq := Below.then hq hb; clear hb eA eB; obtain ⟨eA, eB⟩ := HC.out _ hq)
    | (go_at_call 15; refine (AL.out _ (HTB.out _ hq)).mono ?_; clear AL; rintro e x7 ⟨rfl, hb⟩; replace hq := Below.then hq hb; clear hb eA eB; obtain ⟨eA, eB⟩ := HC.out _ hq))
  go_ret
  exact ⟨rfl, M.out.trans (hq.mono M.out.size)⟩
end M3
end Go.Proofs.YteldjhhjnchdeaaGreatDoor
