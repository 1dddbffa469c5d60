import Derived.Test.YtcahejkcdcjjgaaGreatDoorK24
import Derived.Test.YtcahejkcdcjjgaaGreatDoorK04
import Derived.Test.YtcahejkcdcjjgaaGreatDoorK09
import Derived.Lib.BitFns
set_option maxRecDepth 100000
set_option maxHeartbeats 16000000
namespace Go.Proofs.YtcahejkcdcjjgaaGreatDoor
open Go.RowKit Go.Shelf
attribute [local go_sem] Oper.semAt_some
theorem Jgd {W:World} {a:Option Addr} {l c n:Nat} (h:RN W (.slice a l c) n):Jo W (.agg #[.slice a l c,.bool false]) (n:Int):=by
 refine ⟨a,l,c,?_,by rw [Int.natAbs_natCast];exact h⟩;have:decide ((n:Int)<0)=false:=decide_eq_false (by omega);rw [this]
theorem Jsp {W:World} {a:Option Addr} {l c:Nat} {q:Bool} {n:Nat} {z:Int} (h:Jo W (.agg #[.slice a l c,.bool q]) z) (hz:z=(n:Int)):RN W (.slice a l c) n∧q=false:=by
 obtain ⟨a',l',c',e,hr⟩:=h;simp only [Value.agg.injEq,Array.mk.injEq,List.cons.injEq,Value.slice.injEq,Value.bool.injEq,and_true] at e;obtain ⟨⟨rfl,rfl,rfl⟩,e2⟩:=e;rw [hz,Int.natAbs_natCast] at hr;refine ⟨hr,?_⟩;rw [e2,hz];exact decide_eq_false (by omega)
theorem Jon (a:Option Addr) (la ca:Nat) (b:Option Addr) (lb cb m n:Nat) (w:World) (ra:RN w (.slice a la ca) m) (rb:RN w (.slice b lb cb) n) (hmn:m<n*10000) (hlb:lb≤1000000000) :
 Calls Tryz.prog 183 #[.slice a la ca,.slice b lb cb] w fun e w'=>e=.returned (.int .i64 ((m / n:Nat):Int))∧Below w.heap.size w w':=by
 have hsz:szB (n:Int)≤1000000000:=by unfold szB;rw [Int.natAbs_natCast,←(Jp rb).1];exact hlb
 have HSZ:=Ja hsz;have HRA:=Ja ra;have HRB:=Ja rb;have HMN:=Ja hmn;clear ra rb hmn hsz;go_enter Tryz.func183,Tryz.ntmps183
 go_wp2_with fail
 go_loopw [5,6] (fun lv hv wr=>∃ lo hi:Nat,lv=.int .i64 (lo:Nat)∧hv=.int .i64 (hi:Nat)∧lo<hi∧hi≤10000∧Hid (n*lo≤m∧m<n*hi)∧Below w.heap.size w wr)
  (fun lv hv _=>(intOf hv - intOf lv).toNat)
 case atStart=>exact ⟨0,10000,rfl,rfl,by omega,by omega,Ja ⟨by omega,HMN.out⟩,Below.refl _ w⟩
 case round=>
  obtain ⟨lo,hi,rfl,rfl,h1,h2,HI,hB⟩:=hrel;obtain ⟨df,hdf⟩:∃ df:Nat,(hi:Int) - (lo:Int)=(df:Int):=⟨hi - lo,by omega⟩;have w1:IntKind.i64.wrap (df:Int)=(df:Int):=IntWalk.i64_in _ (by omega);by_cases hgo:1<df
  · obtain ⟨sm,hsm⟩:∃ sm:Nat,(lo:Int)+(hi:Int)=(sm:Int):=⟨lo+hi,by omega⟩;have w2:IntKind.i64.wrap (sm:Int)=(sm:Int):=IntWalk.i64_in _ (by omega);obtain ⟨md,hmd⟩:∃ md:Nat,(sm:Int) / 2=(md:Int):=⟨sm / 2,by omega⟩;have w3:IntKind.i64.wrap (md:Int)=(md:Int):=IntWalk.i64_in _ (by omega);have h3:lo<md∧md<hi:=by omega
    have HOF:=Ja (Jl0 (md:Nat) (by omega) (by omega) wr);have HTM:=Ja (fun (V:World) (u:Value) (h:Below wr.heap.size wr V) (hu:Jo V u (md:Nat))=>Jil (.agg #[.slice b lb cb,.bool false]) u (n:Nat) (md:Nat) V (Jgd (RN.below (RN.below HRB.out hB) h)) hu HSZ.out (Jd2 (by omega) (by omega)));obtain ⟨cm,hcm⟩:∃ cm:Int,Yv (n*md) m=cm:=⟨_,rfl⟩;have HOR:=Ja (show ∀ (V:World) (u:Value),Below wr.heap.size wr V→RN V u (n*md)→Calls Tryz.prog 143 #[u,.slice a la ca] V fun e w'=>e=.returned (.int .i64 cm)∧Below V.heap.size V w' from fun V u h hu=>by
     have h1:=Jg1 10000 (by omega) u (.slice a la ca) (Jb 10000 (n*md)) (Jb 10000 m) V hu (RN.below (RN.below HRA.out hB) h) (Jk (by omega) _) (Jk (by omega) _) (JW (by omega) _) (JW (by omega) _);rw [Jj (by omega),Jj (by omega),hcm] at h1;exact h1)
    have HCM:=Ja hcm;clear hcm;go_upto_region 6 with (first
     | (go_at_call 93;refine HOF.out.mono ?_;rintro e w5 ⟨u5,rfl,hu5,hb5⟩;obtain ⟨a5,l5,c5,rfl⟩:=hu5.form;obtain ⟨s5,hs5⟩:∃ q,decide (((md:Nat):Int)<0)=q:=⟨_,rfl⟩;rw [hs5] at hu5;rw [hs5];clear hs5)
     | (go_at_call 109;refine (HTM.out _ _ hb5 hu5).mono ?_;rintro e w6 ⟨u6,rfl,hu6,hb6⟩;obtain ⟨a6,l6,c6,rfl⟩:=hu6.form;obtain ⟨s6,hs6⟩:∃ q,decide (((n:Nat):Int)*((md:Nat):Int)<0)=q:=⟨_,rfl⟩;rw [hs6] at hu6;rw [hs6];clear hs6))
    obtain ⟨hr6,rfl⟩:=Jsp (n:=n*md) hu6 (by rw [Int.natCast_mul]);have bx:=Jg.new w6 47 (.slice a6 l6 c6) (.bool false);obtain ⟨W7,hW7⟩:∃ W7,w6.alloc (.cells #[.slice a6 l6 c6,.bool false] 47)=W7:=⟨_,rfl⟩;have hb7:Below wr.heap.size wr W7:=by rw [←hW7];exact ((hb5.trans (hb6.mono hb5.size)).alloc (hb5.trans (hb6.mono hb5.size)).size _)
    have hr7:RN W7 (.slice a6 l6 c6) (n*md):=by rw [←hW7];exact RN.below hr6 ((Below.refl _ w6).alloc (Nat.le_refl _) _)
    rw [hW7] at bx ⊢;have k0:=bx.c0;have k1:=bx.c1;clear hW7 HOF HTM hu5 hu6 hr6;have hB7:Below w.heap.size w W7:=hB.trans (hb7.mono hB.size);by_cases hle:cm≤0
    · have hle2:n*md≤m:=by
       have h:=HCM.out;unfold Yv at h;split at h
       · omega
       · split at h <;> omega
      go_wp2_with (go_at_call 143;refine (HOR.out _ _ hb7 hr7).mono ?_;rintro e w8 ⟨rfl,hb8⟩)
      exact ⟨⟨md,hi,rfl,rfl,by omega,h2,Ja ⟨hle2,HI.out.2⟩,hB7.trans (hb8.mono hB7.size)⟩,by simp [intOf];omega⟩
    · have hle2:m<n*md:=by
       have h:=HCM.out;unfold Yv at h;split at h
       · omega
       · split at h
         · assumption
         · omega
      go_wp2_with (go_at_call 143;refine (HOR.out _ _ hb7 hr7).mono ?_;rintro e w8 ⟨rfl,hb8⟩)
      exact ⟨⟨lo,md,rfl,rfl,by omega,by omega,Ja ⟨HI.out.1,hle2⟩,hB7.trans (hb8.mono hB7.size)⟩,by simp [intOf];omega⟩
  · have HE:=Ja (show m / n=lo by
     obtain ⟨e1,e2⟩:=HI.out;have e3:hi=lo+1:=by omega
     rw [e3,Nat.mul_add,Nat.mul_one] at e2;apply Nat.le_antisymm
     · apply Nat.le_of_lt_succ;rw [Nat.div_lt_iff_lt_mul (by omega),Nat.succ_mul,Nat.mul_comm lo];exact e2
     · rw [Nat.le_div_iff_mul_le (by omega),Nat.mul_comm];exact e1)
    go_wp2_with fail
    go_ret;exact ⟨by rw [HE.out];rfl,hB⟩
end Go.Proofs.YtcahejkcdcjjgaaGreatDoor
