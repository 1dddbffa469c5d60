import Derived.Test.YtcahejkcdcjjgaaGreatDoorK24
import Derived.Lib.BitFns
set_option maxRecDepth 100000
set_option maxHeartbeats 16000000
namespace Go.Proofs.YtcahejkcdcjjgaaGreatDoor
open Go.RowKit Go.Shelf
attribute [local go_sem] Oper.semAt_some
theorem Jig{W:World}{a:Option Addr}{l c n:Nat}(h:RN W (.slice a l c) n):Jo W (.agg #[.slice a l c,.bool false]) (n:Int):=by
 refine⟨a,l,c,?_,by rw[Ch];exact h⟩;have:decide ((n:Int)<0)=false:=decide_eq_false (by omega);rw[this]
theorem Juy{W:World}{a:Option Addr}{l c:Nat}{q:Bool}{n:Nat}{z:Int}(h:Jo W (.agg #[.slice a l c,.bool q]) z)(hz:z=(n:Int)):RN W (.slice a l c) n∧q=false:=by
 obtain⟨a',l',c',e,hr⟩:=h;simp only[Value.agg.injEq,Fv,C6,Value.slice.injEq,Value.bool.injEq,and_true]at e;obtain⟨⟨rfl,rfl,rfl⟩,e2⟩:=e;rw[hz,Ch]at hr;refine⟨hr,?_⟩;rw[e2,hz];exact decide_eq_false (by omega)
theorem Jqw(a:Option Addr)(la ca:Nat)(b:Option Addr)(lb cb m n:Nat)(w:World)(ra:RN w (.slice a la ca) m)(rb:RN w (.slice b lb cb) n)(hmn:m<n*10000)(hlb:lb≤1000000000):
 Calls Tryz.prog 183 #[.slice a la ca,.slice b lb cb] w fun e w'=>e=.returned (.int .i64 ((m/n:Nat):Int))∧Below w.heap.size w w':=by
 have Qd:szB (n:Int)≤1000000000:=by unfold szB;rw[Ch,←(Jp rb).1];exact hlb
 have Qm:=Ja Qd;have Qj:=Ja ra;have Ql:=Ja rb;have Qk:=Ja hmn;clear ra rb hmn Qd;go_enter Tryz.func183,Tryz.ntmps183
 go_wp2_with fail
 go_loopw [5,6] (fun lv hv wr=>∃lo hi:Nat,lv=.int .i64 (lo:Nat)∧hv=.int .i64 (hi:Nat)∧lo<hi∧hi≤10000∧Hid (n*lo≤m∧m<n*hi)∧Below w.heap.size w wr)
  (fun lv hv _=>(intOf hv-intOf lv).toNat)
 case atStart=>exact⟨0,10000,rfl,rfl,by omega,by omega,Ja ⟨by omega,Qk.o⟩,Below.refl _ w⟩
 case round=>
  obtain⟨lo,hi,rfl,rfl,h1,h2,HI,hB⟩:=hrel;obtain⟨df,hdf⟩:∃df:Nat,(hi:Int)-(lo:Int)=(df:Int):=⟨hi-lo,by omega⟩;have w1:IntKind.i64.wrap (df:Int)=(df:Int):=IntWalk.i64_in _ (by omega);by_cases hgo:1<df
  · obtain⟨sm,hsm⟩:∃sm:Nat,(lo:Int)+(hi:Int)=(sm:Int):=⟨lo+hi,by omega⟩;have w2:IntKind.i64.wrap (sm:Int)=(sm:Int):=IntWalk.i64_in _ (by omega);obtain⟨md,hmd⟩:∃md:Nat,(sm:Int)/2=(md:Int):=⟨sm/2,by omega⟩;have w3:IntKind.i64.wrap (md:Int)=(md:Int):=IntWalk.i64_in _ (by omega);have h3:lo<md∧md<hi:=by omega
    have Qe:=Ja (Jja (md:Nat) (by omega) (by omega) wr);have Qi:=Ja (fun(V:World) (u:Value) (h:Below wr.heap.size wr V) (hu:Jo V u (md:Nat))=>Xt (.agg #[.slice b lb cb,.bool false]) u (n:Nat) (md:Nat) V (Jig (RN.below (RN.below Ql.o hB) h)) hu Qm.o (Jfx (by omega) (by omega)));obtain⟨cm,hcm⟩:=ex (YP (n*md) m:Int);have Qf:=Ja (show ∀(V:World) (u:Value),Below wr.heap.size wr V→RN V u (n*md)→Calls Tryz.prog 143 #[u,.slice a la ca] V fun e w'=>e=.returned (.int .i64 cm)∧Below V.heap.size V w' from fun V u h hu=>by
     have h1:=Ji7 10000 (by omega) u (.slice a la ca) (Jc 10000 (n*md)) (Jc 10000 m) V hu (RN.below (RN.below Qj.o hB) h) (Jm (by omega) _) (Jm (by omega) _) (Ya (by omega) _) (Ya (by omega) _);rw[Jl (by omega),Jl (by omega),hcm]at h1;exact h1)
    have Qg:=Ja hcm;clear hcm;go_upto_region 6 with(first
     |(go_at_call 93;refine Qe.o.mono ?_;rintro e w5 ⟨u5,rfl,hu5,hb5⟩;obtain⟨a5,l5,c5,rfl⟩:=hu5.form;obtain⟨s5,hs5⟩:=ex (decide (((md:Nat):Int)<0));rw[hs5]at hu5;rw[hs5];clear hs5)
     |(go_at_call 109;refine(Qi.o _ _ hb5 hu5).mono ?_;rintro e w6 ⟨u6,rfl,hu6,hb6⟩;obtain⟨a6,l6,c6,rfl⟩:=hu6.form;obtain⟨s6,hs6⟩:=ex (decide (((n:Nat):Int)*((md:Nat):Int)<0));rw[hs6]at hu6;rw[hs6];clear hs6))
    obtain⟨hr6,rfl⟩:=Juy (n:=n*md) hu6 (by rw[CW]);have bx:=Jk.new w6 47 (.slice a6 l6 c6) (.bool false);obtain⟨W7,hW7⟩:=ex (w6.alloc (.cells #[.slice a6 l6 c6,.bool false] 47));have Qc:Below wr.heap.size wr W7:=by rw[←hW7];exact((hb5.trans (hb6.mono hb5.size)).alloc (hb5.trans (hb6.mono hb5.size)).size _)
    have Qh:RN W7 (.slice a6 l6 c6) (n*md):=by rw[←hW7];exact RN.below hr6 ((Below.refl _ w6).alloc (Aa _) _)
    rw[hW7]at bx ⊢;have k0:=bx.c0;have k1:=bx.c1;clear hW7 Qe Qi hu5 hu6 hr6;have Qb:Below w.heap.size w W7:=hB.trans (Qc.mono hB.size);by_cases hle:cm≤0
    · have Qa:n*md≤m:=by
       have h:=Qg.o;unfold YP at h;split at h
       · omega
       · split at h<;>omega
      go_wp2_with(go_at_call 143;refine(Qf.o _ _ Qc Qh).mono ?_;rintro e w8 ⟨rfl,hb8⟩)
      exact⟨⟨md,hi,rfl,rfl,by omega,h2,Ja ⟨Qa,HI.o.2⟩,Qb.trans (hb8.mono Qb.size)⟩,by simp[intOf];omega⟩
    · have Qa:m<n*md:=by
       have h:=Qg.o;unfold YP at h;split at h
       · omega
       · split at h
         · assumption
         · omega
      go_wp2_with(go_at_call 143;refine(Qf.o _ _ Qc Qh).mono ?_;rintro e w8 ⟨rfl,hb8⟩)
      exact⟨⟨lo,md,rfl,rfl,by omega,by omega,Ja ⟨HI.o.1,Qa⟩,Qb.trans (hb8.mono Qb.size)⟩,by simp[intOf];omega⟩
  · have HE:=Ja (show m/n=lo by
     obtain⟨e1,e2⟩:=HI.o;have e3:hi=lo+1:=by omega
     rw[e3,Av,Fi]at e2;apply Nat.le_antisymm
     · apply CM;rw[AP (by omega),Nat.succ_mul,As lo];exact e2
     · rw[C4 (by omega),As];exact e1)
    go_wp2_with fail
    go_ret;exact⟨by rw[HE.o];rfl,hB⟩
