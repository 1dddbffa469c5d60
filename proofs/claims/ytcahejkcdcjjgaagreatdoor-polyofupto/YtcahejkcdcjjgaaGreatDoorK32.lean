import Derived.Test.YtcahejkcdcjjgaaGreatDoorK31
import Derived.Test.YtcahejkcdcjjgaaGreatDoorK22
import Derived.Test.YtcahejkcdcjjgaaGreatDoorK24
import Derived.Test.YtcahejkcdcjjgaaGreatDoorK26
import Derived.Deep.RegionWith
import Derived.Test.YtcahejkcdcjjgaaGreatDoorK25
import Derived.Test.YtcahejkcdcjjgaaGreatDoorK04
import Derived.Test.YtcahejkcdcjjgaaGreatDoorK28
import Derived.Lib.AppendZeros
set_option maxRecDepth 100000
set_option maxHeartbeats 16000000
namespace Go.Proofs.YtcahejkcdcjjgaaGreatDoor
open Go.RowKit Go.Shelf
attribute [local go_sem] Oper.semAt_some
def Jle (W:World):Value→Nat
 | .slice (some p) l _=>val 10000 ((List.range l).map fun j=>Jdn W ⟨p.block,p.off+j,none⟩)
 | _=>0
theorem RN.rowVal {W:World} {a:Option Addr} {l c n:Nat} (h:RN W (.slice a l c) n):Jle W (.slice a l c)=n:=by
 obtain ⟨h1,_,_,_,h5⟩:=Jp h;rcases Nat.eq_zero_or_pos l with h0 | h0
 · subst h0;have hn:n=0:=(Jw (by omega)).1 (List.eq_nil_of_length_eq_zero h1.symm);subst hn;cases a <;> rfl
 · obtain ⟨b,off,rfl,_,_⟩:=h5 0 h0;show val 10000 ((List.range l).map fun j=>Jdn W ⟨b,off+j,none⟩)=n;have e:(List.range l).map (fun j=>Jdn W ⟨b,off+j,none⟩)=Jb 10000 n:=by
    refine List.ext_getElem (by rw [List.length_map,List.length_range];exact h1) (fun j g1 g2=>?_);obtain ⟨b',off',e,_,hc⟩:=h5 j (by omega);cases e;rw [List.getElem_map,List.getElem_range,Jdn,hc,List.getElem?_eq_getElem g2];rfl
   rw [e,Jj (by omega)]
theorem Jdq {m n:Nat} (h:n≤m):(Jb 10000 n).length≤(Jb 10000 m).length:=by
 rcases Nat.lt_or_ge (Jb 10000 m).length (Jb 10000 n).length with h1 | h1
 · have:=Yi (by omega) h1;omega
 · exact h1
theorem Jr7 (va vb:Value) (x y:Int) (w:World) (ha:Jo w va x) (hb:Jo w vb y) (hma:szB x≤100000000) (hmb:szB y≤100000000) :
 Calls Tryz.prog 125 #[va,vb] w fun e w'=>∃ u,e=.returned u∧Jo w' u (Int.gcd x y:Nat)∧Below w.heap.size w w':=by
 obtain ⟨a,la,ca,rfl,ra⟩:=ha;obtain ⟨b,lb,cb,rfl,rb⟩:=hb;obtain ⟨s,hs⟩:∃ s,decide (x<0)=s:=⟨_,rfl⟩;obtain ⟨t,ht⟩:∃ t,decide (y<0)=t:=⟨_,rfl⟩;rw [hs,ht];clear hs ht;obtain ⟨W0,hW0⟩:∃ W0,((w.alloc (.cells #[.slice a la ca,.bool s] 47)).alloc (.cells #[.slice b lb cb,.bool t] 47)).alloc (.cells #[.slice none 0 0,.bool false] 47)=W0:=⟨_,rfl⟩;have hB0:Below w.heap.size w W0:=by rw [←hW0];exact YF w _ _ _
 have b0:Jg W0 w.heap.size 47 (.slice a la ca) (.bool s):=by rw [←hW0];exact ((Jg.new w _ _ _).alloc _).alloc _
 have b1:Jg W0 (w.heap.size+1) 47 (.slice b lb cb) (.bool t):=by
  have h:=(Jg.new (w.alloc (.cells #[.slice a la ca,.bool s] 47)) 47 (.slice b lb cb) (.bool t)).alloc (.cells #[.slice none 0 0,.bool false] 47);rw [World.size_alloc,hW0] at h;exact h
 have bR:Jg W0 (w.heap.size+1+1) 47 (.slice none 0 0) (.bool false):=by
  have h:=Jg.new ((w.alloc (.cells #[.slice a la ca,.bool s] 47)).alloc (.cells #[.slice b lb cb,.bool t] 47)) 47 (.slice none 0 0) (.bool false);rw [World.size_alloc,World.size_alloc,hW0] at h;exact h
 have r0:=RN.below ra hB0;have r1:=RN.below rb hB0;have k0:=b0.c0;have k2:=b1.c0;have hla:la≤100000000:=by rw [RN.len ra];exact hma
 have hlb:lb≤100000000:=by rw [RN.len rb];exact hmb
 have HW0:=Ja hW0;clear hW0 ra rb hma hmb;go_enter Tryz.func125,Tryz.ntmps125
 go_upto_region 1 with fail
 rw [HW0.out];clear HW0;go_wp2_with fail
 go_loopw [5,6] (fun xv yv wr=>∃ (a0:Option Addr) (l0 c0 X:Nat) (a1:Option Addr) (l1 c1 Y:Nat),xv=.slice a0 l0 c0∧yv=.slice a1 l1 c1∧Hid (RN wr (.slice a0 l0 c0) X)∧Hid (RN wr (.slice a1 l1 c1) Y)∧Hid (Nat.gcd X Y=Int.gcd x y)∧(l0≤100000000∧l1≤100000000)∧Below W0.heap.size W0 wr)
  (fun _ yv wr=>Jle wr yv)
 case atStart=>exact ⟨a,la,ca,x.natAbs,b,lb,cb,y.natAbs,rfl,rfl,Ja r0,Ja r1,Ja rfl,⟨hla,hlb⟩,Below.refl _ W0⟩
 case round=>
  clear r0 r1 hla hlb;obtain ⟨a0,l0,c0,X,a1,l1,c1,Y,rfl,rfl,hX,hY,hG,⟨hl0,hl1⟩,hB⟩:=hrel;rcases Nat.eq_zero_or_pos l1 with h0 | h0
  · subst h0;have hYz:Y=0:=(Jw (by omega)).1 (List.eq_nil_of_length_eq_zero (RN.len hY.out).symm);have HE:=Ja (show X=Int.gcd x y by rw [←hG.out,hYz,Nat.gcd_zero_right]);have bRw:=bR.below hB;have q0:=bRw.c0;have q1:=bRw.c1;have f0:=bRw.f0;have f1:=bRw.f1;clear hYz;go_wp2_with fail
    have hfin:=(Jgd hX.out).box bRw rfl rfl (x0:=.slice a0 l0 c0) (x1:=.bool false);rw [HE.out] at hfin;have hB2:=hB0.trans (hB.mono hB0.size);have z0:=((bRw.set0 (.slice a0 l0 c0)).set1 (.bool false)).c0;have z1:=((bRw.set0 (.slice a0 l0 c0)).set1 (.bool false)).c1;exact bodyPost_ret (v:=.agg #[.slice a0 l0 c0,.bool false]) (by simp [results,Tryz.results125,go_sem,z0,z1]) rfl ⟨_,rfl,hfin,(hB2.setCell (p:=⟨_,0,none⟩) (by simp only;omega) _).setCell (p:=⟨_,1,none⟩) (by simp only;omega) _⟩
  · have hY0:Y≠0:=fun e=>by
     have h:=RN.len hY.out;rw [e,Jv] at h;simp at h;omega
    have HLG:=Ja (Jld a0 l0 c0 a1 l1 c1 X Y wr hX.out hY.out hY0 hl0 hl1);have hmod:=Nat.mod_lt X (show Y > 0 by omega);go_wp2_with (go_at_call 157;refine HLG.out.mono ?_;rintro e w2 ⟨u,v,rfl,hu,hv,hb2⟩;obtain ⟨ua,uc,rfl⟩:=RN.form hu;obtain ⟨va,vc,rfl⟩:=RN.form hv)
    have hY2:=RN.below hY.out hb2;refine ⟨⟨a1,l1,c1,Y,va,_,vc,X % Y,rfl,rfl,Ja hY2,Ja hv,Ja (by rw [←hG.out,Nat.gcd_comm Y,←Nat.gcd_rec,Nat.gcd_comm]),⟨hl1,?_⟩,hB.trans (hb2.mono hB.size)⟩,?_⟩
    · have h1:=Jdq (Nat.le_of_lt hmod);rw [←RN.len hY.out] at h1;omega
    · rw [RN.rowVal hv,RN.rowVal hY.out];exact hmod
theorem Jm2 (w:World) (o0 o1 o2 o3:Value) (p0 p1:Value) :
 Jg ((((w.alloc (.cells #[o0,o1] 47)).alloc (.cells #[o2,o3] 47)).alloc (.cells #[p0,p1] 47)).alloc (.cells #[p0,p1] 47)) w.heap.size 47 o0 o1∧
 Jg ((((w.alloc (.cells #[o0,o1] 47)).alloc (.cells #[o2,o3] 47)).alloc (.cells #[p0,p1] 47)).alloc (.cells #[p0,p1] 47)) (w.heap.size+1) 47 o2 o3∧
 Jg ((((w.alloc (.cells #[o0,o1] 47)).alloc (.cells #[o2,o3] 47)).alloc (.cells #[p0,p1] 47)).alloc (.cells #[p0,p1] 47)) (w.heap.size+1+1) 47 p0 p1∧
 Jg ((((w.alloc (.cells #[o0,o1] 47)).alloc (.cells #[o2,o3] 47)).alloc (.cells #[p0,p1] 47)).alloc (.cells #[p0,p1] 47)) (w.heap.size+1+1+1) 47 p0 p1:=by
 refine ⟨(((Jg.new w _ _ _).alloc _).alloc _).alloc _,?_,?_,?_⟩
 · have h:=((Jg.new (w.alloc (.cells #[o0,o1] 47)) 47 o2 o3).alloc (.cells #[p0,p1] 47)).alloc (.cells #[p0,p1] 47);rw [World.size_alloc] at h;exact h
 · have h:=(Jg.new ((w.alloc (.cells #[o0,o1] 47)).alloc (.cells #[o2,o3] 47)) 47 p0 p1).alloc (.cells #[p0,p1] 47);rw [World.size_alloc,World.size_alloc] at h;exact h
 · have h:=Jg.new (((w.alloc (.cells #[o0,o1] 47)).alloc (.cells #[o2,o3] 47)).alloc (.cells #[p0,p1] 47)) 47 p0 p1;rw [World.size_alloc,World.size_alloc,World.size_alloc] at h;exact h
theorem Jo2 {W:World} {a:Option Addr} {l c n:Nat} (h:RN W (.slice a l c) n) (m:Bool):Jo W (.agg #[.slice a l c,.bool (m && decide (0<l))]) (if m=true then -(n:Int) else (n:Int)):=by
 have hl:=RN.len h;have hz:0<l↔n≠0:=by
  rw [hl];constructor
  · intro h1 h2;rw [h2,Jv] at h1;simp at h1
  · intro h1;exact List.length_pos_iff.2 (fun e=>h1 ((Jw (by omega)).1 e))
 cases m with
 | false=>
  refine ⟨a,l,c,?_,by simp;exact h⟩;have:decide ((n:Int)<0)=false:=decide_eq_false (by omega);simp [this]
 | true=>
  refine ⟨a,l,c,?_,by simp;exact h⟩;simp only [Bool.true_and,if_true];have:decide (0<l)=decide (-(n:Int)<0):=by
   by_cases hn:n=0
   · rw [decide_eq_false (fun h1=>hz.1 h1 hn),decide_eq_false (by omega)]
   · rw [decide_eq_true (hz.2 hn),decide_eq_true (by omega)]
  rw [this]
theorem Jo3 (a:Option Addr) (la ca:Nat) (b:Option Addr) (lb cb X Y:Nat) (s t:Bool) (z r:Int) (w:World) (hu:RN w (.slice a la ca) X) (hv:RN w (.slice b lb cb) Y) (hY:Y≠0) (hla:la≤100000000) (hlb:lb≤100000000)
 (HP:Hid (¬ (s=true∧X % Y≠0)→(if (!(s == t))=true then -((X / Y:Nat):Int) else ((X / Y:Nat):Int))=z∧((X % Y:Nat):Int)=r))
 (HN:Hid (s=true∧X % Y≠0→(if (!(s == t))=true then -((X / Y+1:Nat):Int) else ((X / Y+1:Nat):Int))=z∧((Y - X % Y:Nat):Int)=r)) :
 Calls Tryz.prog 127 #[.agg #[.slice a la ca,.bool s],.agg #[.slice b lb cb,.bool t]] w fun e w'=>∃ q o,e=.returned (.tuple #[q,o])∧Jo w' q z∧Jo w' o r∧Below w.heap.size w w':=by
 have hmx:Tryz.prog.follows .mixedOrders=true:=by kernel_rfl
 obtain ⟨b0,b1,b4,b5⟩:=Jm2 w (.slice a la ca) (.bool s) (.slice b lb cb) (.bool t) (.slice none 0 0) (.bool false);have hB0:=Jk8 w (.cells #[.slice a la ca,.bool s] 47) (.cells #[.slice b lb cb,.bool t] 47) (.cells #[.slice none 0 0,.bool false] 47) (.cells #[.slice none 0 0,.bool false] 47);obtain ⟨W0,hW0⟩:∃ W0,(((w.alloc (.cells #[.slice a la ca,.bool s] 47)).alloc (.cells #[.slice b lb cb,.bool t] 47)).alloc (.cells #[.slice none 0 0,.bool false] 47)).alloc (.cells #[.slice none 0 0,.bool false] 47)=W0:=⟨_,rfl⟩;rw [hW0] at b0 b1 b4 b5 hB0;have HW0:=Ja hW0;have hu0:=RN.below hu hB0;have hv0:=RN.below hv hB0;have HLG:=Ja (Jld a la ca b lb cb X Y W0 hu0 hv0 hY hla hlb);have HV0:=Ja hv0;have HLA:=Ja (RN.len hu).symm;have k0:=b0.c0;have k1:=b0.c1;have k2:=b1.c0;have k3:=b1.c1;clear hW0 hu hv hu0 hv0;go_enter Tryz.func127,Tryz.ntmps127
 go_upto_region 1 with fail
 rw [HW0.out];go_upto_region 2 with (go_at_call 157;refine HLG.out.mono ?_;rintro e w1 ⟨u1,v1,rfl,hu1,hv1,hb1⟩;obtain ⟨ua,uc,rfl⟩:=RN.form hu1;obtain ⟨va,vc,rfl⟩:=RN.form hv1)
 clear HLG HW0;obtain ⟨lr,hlre⟩:∃ lr,(Jb 10000 (X % Y)).length=lr:=⟨_,rfl⟩;obtain ⟨lq,hlqe⟩:∃ lq,(Jb 10000 (X / Y)).length=lq:=⟨_,rfl⟩;have HLR:=Ja (show lr=0↔X % Y=0 by
  rw [←hlre];exact ⟨fun h=>(Jw (by omega)).1 (List.eq_nil_of_length_eq_zero h),fun h=>by rw [h,Jv];rfl⟩)
 rw [hlre] at hv1 ⊢;rw [hlqe] at hu1 ⊢;have hlq:lq≤100000000:=by
  have h1:=Jdq (m:=X) (n:=X / Y) (Nat.div_le_self _ _);have h2:=HLA.out;omega
 have HLQ:=Ja hlqe.symm;clear hlre hlqe;have k0:=(b0.below hb1).c0;have k1:=(b0.below hb1).c1;have k2:=(b1.below hb1).c0;have k3:=(b1.below hb1).c1;have HMD:=Ja (Jb4 ua lq uc (!(s == t)) w1);go_upto_region 3 with (go_at_call 141;refine HMD.out.mono ?_;rintro e w2 ⟨rfl,hb2⟩)
 obtain ⟨m8,hm8⟩:∃ m8:Bool,((!(s == t)) && decide (0<lq))=m8:=⟨_,rfl⟩;have hI:=Jo2 (RN.below hu1 hb2) (!(s == t));rw [hm8] at hI ⊢;obtain ⟨W3,hW3⟩:∃ W3,w2.alloc (.cells #[.slice ua lq uc,.bool m8] 47)=W3:=⟨_,rfl⟩;have hb23:Below w2.heap.size w2 W3:=by rw [←hW3];exact (Below.refl _ w2).alloc (Nat.le_refl _) _
 have b8:Jg W3 w2.heap.size 47 (.slice ua lq uc) (.bool m8):=by rw [←hW3];exact Jg.new w2 _ _ _
 have hb13:Below w1.heap.size w1 W3:=hb2.trans (hb23.mono hb2.size);have hb3:Below W0.heap.size W0 W3:=hb1.trans (hb13.mono hb1.size);have hI3:=hI.below hb23;have hR3:=RN.below hv1 hb13;have hB3:=hB0.trans (hb3.mono hB0.size);obtain ⟨B8,hB8⟩:∃ B8,w2.heap.size=B8:=⟨_,rfl⟩;have hB8w:w.heap.size+1+1+1<B8:=by
  have h1:=(b5.below (hb1.trans (hb2.mono hb1.size))).lt;omega
 rw [hW3];rw [hB8] at b8 ⊢;clear hW3 hB8 hm8 hI HMD;have p0:=b0.below hb3;have p1:=b1.below hb3;have p4:=b4.below hb3;have p5:=b5.below hb3;clear b0 b1 b4 b5 k0 k1 k2 k3;have k0:=p0.c0;have k1:=p0.c1;have k2:=p1.c0;have k3:=p1.c1;have k8:=b8.c0;have k9:=b8.c1;have q0:=p4.c0;have q1:=p4.c1;have q2:=p5.c0;have q3:=p5.c1;have f0:=p4.f0;have f1:=p4.f1;have f2:=p5.f0;have f3:=p5.f1;obtain ⟨cd,hcd⟩:∃ cd:Bool,(!s || decide (lr=0))=cd:=⟨_,rfl⟩;have HCD:=Ja hcd;clear hcd;go_cut [31] (fun v w4=>v=.bool cd∧w4=W3)
 case first=>
  cases s with
  | false=>
   have e5:cd=true:=by rw [←HCD.out];rfl
   go_wp2_with fail
   go_meet
   case rel=>exact ⟨by rw [e5],rfl⟩
  | true=>
   by_cases h5:lr=0
   · have e5:cd=true:=by rw [←HCD.out];simp;omega
     have h6:((lr:Int) == 0)=true:=by simp;omega
     clear h5;go_wp2_with fail
     go_meet
     case rel=>exact ⟨by rw [e5],rfl⟩
   · have e5:cd=false:=by rw [←HCD.out];simp;omega
     have h6:((lr:Int) == 0)=false:=by simp;omega
     clear h5;go_wp2_with fail
     go_meet
     case rel=>exact ⟨by rw [e5],rfl⟩
 case rest=>
  obtain ⟨rfl,rfl⟩:=hcut;cases cd with
  | true=>
   have hc:¬ (s=true∧X % Y≠0):=fun ⟨h1,h2⟩=>by
    have h:=HCD.out;rw [h1] at h;simp at h;exact h2 (HLR.out.1 h)
   obtain ⟨z1,z2⟩:=HP.out hc;rw [z1] at hI3;have HMD:=Ja (Jb4 va lr vc s);have hsl:(s && decide (0<lr))=false:=by
    have h:=HCD.out;cases s with
    | false=>rfl
    | true=>simp at h;simp;omega
   rw [hsl] at HMD;have HZ2:=Ja z2;clear hsl z1 z2 hc;go_wp2_with fail
   go_region_with (first
    | (go_at_call 141;refine (HMD.out _).mono ?_;rintro e w5 ⟨rfl,hb5⟩;have k8:=((b8.drew).below hb5).c0;have k9:=((b8.drew).below hb5).c1;have q0:=((p4.drew).below hb5).c0;have q1:=((p4.drew).below hb5).c1;have q2:=((p5.drew).below hb5).c0;have q3:=((p5.drew).below hb5).c1;have f0:=((p4.drew).below hb5).f0;have f1:=((p4.drew).below hb5).f1;have f2:=((p5.drew).below hb5).f0;have f3:=((p5.drew).below hb5).f1))
   all_goals
    go_wp2_with fail
    have hbc:Below wc.heap.size wc w5:=((Below.refl _ wc).drew).trans (hb5.mono (Nat.le_refl _));have b45:=p4.below hbc;have b55:=p5.below hbc;obtain ⟨z4,z5⟩:=Jd3 (.slice ua lq uc) (.bool m8) (.slice va lr vc) (.bool false) b45 b55;have z4a:=z4.c0;have z4b:=z4.c1;have z5a:=z5.c0;have z5b:=z5.c1;have b57:Jg ((w5.setCell ⟨w.heap.size+1+1,0,none⟩ (.slice ua lq uc)).setCell ⟨w.heap.size+1+1,1,none⟩ (.bool m8)) (w.heap.size+1+1+1) 47 (.slice none 0 0) (.bool false):=(b55.far (by simp) _).far (by simp) _;have hR5:=(Jgd hR3).below hbc;rw [HZ2.out] at hR5;have hz1:=((hI3.below hbc).box b45 rfl rfl (x0:=.slice ua lq uc) (x1:=.bool m8)).box b57 rfl rfl (x0:=.slice va lr vc) (x1:=.bool false);have hz2:=(hR5.box b45 rfl rfl (x0:=.slice ua lq uc) (x1:=.bool m8)).box b57 rfl rfl (x0:=.slice va lr vc) (x1:=.bool false);have hB6:=hB3.trans (hbc.mono hB3.size);exact bodyPost_ret (v:=.tuple #[.agg #[.slice ua lq uc,.bool m8],.agg #[.slice va lr vc,.bool false]]) (by simp [results,Tryz.results127,go_sem,z4a,z4b,z5a,z5b]) rfl ⟨_,_,rfl,hz1,hz2,(((hB6.setCell (p:=⟨_,0,none⟩) (by simp only;omega) _).setCell (p:=⟨_,1,none⟩) (by simp only;omega) _).setCell (p:=⟨_,0,none⟩) (by simp only;omega) _).setCell (p:=⟨_,1,none⟩) (by simp only;omega) _⟩
  | false=>
   have hc:s=true∧X % Y≠0:=by
    have h:=HCD.out;simp at h;exact ⟨h.1,fun e=>h.2 (HLR.out.2 e)⟩
   obtain ⟨z1,z2⟩:=HN.out hc;rw [hc.1] at z1;have hI4:Jo wc (.agg #[.slice ua lq uc,.bool m8]) (if (!(true == t))=true then -((X / Y:Nat):Int) else ((X / Y:Nat):Int)):=by have h:=hI3;rw [hc.1] at h;exact h
   have HI4:=Ja hI4;have HZ1:=Ja z1;have HZ2:=Ja z2;have hmod:=Nat.mod_lt X (show Y > 0 by omega);have HOF:=Ja (Jl0 1 (by omega) (by omega));have HMI:=Ja (fun (V:World) (h:Below wc.heap.size wc V)=>Jdx _ _ Y (X % Y) V (RN.below (RN.below HV0.out hb3) h) (RN.below hR3 h) (by omega) (by rw [←RN.len HV0.out];omega));clear hc hI4 z1 z2 hI3;cases t with
   | true=>
    have HSU:=Ja (show ∀ (V:World) (u:Value),Below wc.heap.size wc V→Jo V u 1→Calls Tryz.prog 108 #[.agg #[.slice ua lq uc,.bool m8],u] V fun e w'=>∃ u,e=.returned u∧Jo w' u z∧Below V.heap.size V w' from fun V u h hu=>by
     have hx:=HI4.out.below h;simp only [beq_self_eq_true,Bool.not_true,Bool.false_eq_true,if_false] at hx;have h1:=Jrh _ u _ 1 V hx hu (by unfold szB;rw [Int.natAbs_natCast,←HLQ.out];omega) (Jd2 (by omega) (by omega));have h2:=HZ1.out;simp only [beq_self_eq_true,Bool.not_true,Bool.false_eq_true,if_false] at h2;rw [show ((X / Y:Nat):Int)+1=z from by rw [←h2];push_cast;rfl] at h1;exact h1)
    clear HI4 HZ1 HN HP;go_upto_region 6 with fail
    refine Jq hmx [[],[],[0,1,1],[],[3],[],[4,5,2],[6],[2,6,0,1,2],[7,8,0,1,2,3,4,5,6,7,8]] (by kernel_rfl) (by decide)
     (fun DD ac V=>∃ t39 t40 t41 t42 t43 t44 t45 t46:Value,ac={ tmps:=#[.agg #[.slice a la ca,.bool s],.agg #[.slice b lb cb,.bool true],.pointer (some ⟨w.heap.size,0,none⟩),.pointer (some ⟨w.heap.size+1,0,none⟩),.pointer (some ⟨w.heap.size+1+1,0,none⟩),.pointer (some ⟨w.heap.size+1+1+1,0,none⟩),.slice ua lq uc,.slice va lr vc,.pointer (some ⟨B8,0,none⟩),u9,u10,u11,u12,u13,u14,u15,u16,u17,u18,u19,u20,u21,u22,u23,u24,u25,u26,u27,u28,u29,u30,.bool false,u32,u33,u34,u35,u36,.pointer (some ⟨w.heap.size+1,1,none⟩),.bool true,t39,t40,t41,t42,t43,t44,t45,t46,u47,u48,u49,u50,u51,u52,u53,u54],defers:=[] }∧Hid (DD 0=true→t39=.agg #[.slice ua lq uc,.bool m8])∧Hid (DD 1=true→DD 8=false→Jo V t40 1)∧Hid (DD 2=true→DD 8=false→∃ a5 l5 c5 s5,t41=.agg #[.slice a5 l5 c5,.bool s5]∧Jo V t41 z)∧Hid (DD 3=true→t42=.pointer (some ⟨w.heap.size+1,0,none⟩))∧Hid (DD 4=true→t43=.slice b lb cb)∧Hid (DD 5=true→t44=.slice va lr vc)∧Hid (DD 6=true→DD 8=false→∃ a6 l6 c6,t45=.slice a6 l6 c6∧RN V t45 (Y - X % Y))∧Hid (DD 7=true→∃ a6 l6 c6,t45=.slice a6 l6 c6∧t46=.agg #[.slice a6 l6 c6,.bool false])∧Hid (DD 8=true→∃ V0 a5 l5 c5 s5 a6 l6 c6,t41=.agg #[.slice a5 l5 c5,.bool s5]∧t45=.slice a6 l6 c6∧Jo V0 (.agg #[.slice a5 l5 c5,.bool s5]) z∧RN V0 (.slice a6 l6 c6) (Y - X % Y)∧Below wc.heap.size wc V0∧(DD 9=false→V=((V0.setCell ⟨w.heap.size+1+1,0,none⟩ (.slice a5 l5 c5)).setCell ⟨w.heap.size+1+1,1,none⟩ (.bool s5)))∧(DD 9=true→V=(((V0.setCell ⟨w.heap.size+1+1,0,none⟩ (.slice a5 l5 c5)).setCell ⟨w.heap.size+1+1,1,none⟩ (.bool s5)).setCell ⟨w.heap.size+1+1+1,0,none⟩ (.slice a6 l6 c6)).setCell ⟨w.heap.size+1+1+1,1,none⟩ (.bool false)))∧Hid (DD 8=false→Below wc.heap.size wc V))
     ⟨_,_,_,_,_,_,_,_,rfl,Ja (fun h=>by cases h),Ja (fun h=>by cases h),Ja (fun h=>by cases h),Ja (fun h=>by cases h),Ja (fun h=>by cases h),Ja (fun h=>by cases h),Ja (fun h=>by cases h),Ja (fun h=>by cases h),Ja (fun h=>by cases h),Ja (fun _=>(Below.refl _ wc).drew)⟩ ?step ?fin
    case step=>
     rintro DD a2 V i ds hcl2 hi2 hds hDi ⟨t39,t40,t41,t42,t43,t44,t45,t46,rfl,g0,g1,g2,g3,g4,g5,g6,g7,g8,gq⟩;have hi10:i<10:=(List.getElem?_eq_some_iff.1 hi2).1;obtain rfl | rfl | rfl | rfl | rfl | rfl | rfl | rfl | rfl | rfl:i=0∨i=1∨i=2∨i=3∨i=4∨i=5∨i=6∨i=7∨i=8∨i=9:=by omega
     all_goals
      simp only [List.getElem?_cons_zero,List.getElem?_cons_succ,Option.some.injEq] at hi2;subst hi2;clear hi10
     · have hf8:DD 8=false:=by
        cases h:DD 8 with
        | false=>rfl
        | true=>rw [hcl2 8 _ rfl h 0 (by simp)] at hDi;cases hDi
       have hq:=gq.out hf8;have k8:=(b8.below hq).c0;have k9:=(b8.below hq).c1;clear hds hcl2;refine Jt rfl rfl (fun K hK=>?_);go_simp;exact hK _ _ ⟨_,_,_,_,_,_,_,_,rfl,Ja (fun _=>rfl),g1,g2,g3,g4,g5,g6,g7,Ja (fun h=>by simp [hf8] at h),gq⟩
     · have hf8:DD 8=false:=by
        cases h:DD 8 with
        | false=>rfl
        | true=>rw [hcl2 8 _ rfl h 1 (by simp)] at hDi;cases hDi
       have hf2:DD 2=false:=by
        cases h:DD 2 with
        | false=>rfl
        | true=>rw [hcl2 2 _ rfl h 1 (by simp)] at hDi;cases hDi
       have hq:=gq.out hf8;clear hds hcl2;refine Jt rfl rfl (fun K hK=>?_);go_simp;go_wp2_with (go_at_call 93;refine (HOF.out _).mono ?_;rintro e w5 ⟨u5,rfl,hu5,hb5⟩)
       exact ⟨_,_,_,_,_,_,_,_,rfl,g0,Ja (fun _ _=>hu5),Ja (fun h=>by simp [hf2] at h),g3,g4,g5,Ja (fun h h2=>by obtain ⟨a6,l6,c6,e,q⟩:=g6.out h h2;exact ⟨a6,l6,c6,e,RN.below q hb5⟩),g7,Ja (fun h=>by simp [hf8] at h),Ja (fun _=>hq.trans (hb5.mono hq.size))⟩
     · have hf8:DD 8=false:=by
        cases h:DD 8 with
        | false=>rfl
        | true=>rw [hcl2 8 _ rfl h 2 (by simp)] at hDi;cases hDi
       have hq:=gq.out hf8;obtain rfl:=g0.out (hds 0 (by simp));have h1:=g1.out (hds 1 (by simp)) hf8;clear hds hcl2;refine Jt rfl rfl (fun K hK=>?_);go_simp;go_wp2_with (go_at_call 108;refine (HSU.out _ _ hq h1).mono ?_;rintro e w5 ⟨u5,rfl,hu5,hb5⟩;obtain ⟨a5,l5,c5,rfl⟩:=hu5.form;obtain ⟨s5,hs5⟩:∃ q,decide (z<0)=q:=⟨_,rfl⟩;rw [hs5] at hu5;rw [hs5];clear hs5)
       exact ⟨_,_,_,_,_,_,_,_,rfl,Ja (fun _=>rfl),Ja (fun h h2=>(g1.out h h2).below hb5),Ja (fun _ _=>⟨a5,l5,c5,s5,rfl,hu5⟩),g3,g4,g5,Ja (fun h h2=>by obtain ⟨a6,l6,c6,e,q⟩:=g6.out h h2;exact ⟨a6,l6,c6,e,RN.below q hb5⟩),g7,Ja (fun h=>by simp [hf8] at h),Ja (fun _=>hq.trans (hb5.mono hq.size))⟩
     · clear hds hcl2;refine Jt rfl rfl (fun K hK=>?_);go_simp;exact hK _ _ ⟨_,_,_,_,_,_,_,_,rfl,g0,g1,g2,Ja (fun _=>rfl),g4,g5,g6,g7,g8,gq⟩
     · have hf6:DD 6=false:=by
        cases h:DD 6 with
        | false=>rfl
        | true=>rw [hcl2 6 _ rfl h 4 (by simp)] at hDi;cases hDi
       have hf8:DD 8=false:=by
        cases h:DD 8 with
        | false=>rfl
        | true=>rw [hcl2 8 _ rfl h 6 (by simp)] at hf6;cases hf6
       have hq:=gq.out hf8;obtain rfl:=g3.out (hds 3 (by simp));have k2:=(p1.below hq).c0;clear hds hcl2;refine Jt rfl rfl (fun K hK=>?_);go_simp;exact hK _ _ ⟨_,_,_,_,_,_,_,_,rfl,g0,g1,g2,Ja (fun _=>rfl),Ja (fun _=>rfl),g5,g6,g7,Ja (fun h=>by simp [hf8] at h),gq⟩
     · clear hds hcl2;refine Jt rfl rfl (fun K hK=>?_);go_simp;exact hK _ _ ⟨_,_,_,_,_,_,_,_,rfl,g0,g1,g2,g3,g4,Ja (fun _=>rfl),g6,g7,g8,gq⟩
     · have hf8:DD 8=false:=by
        cases h:DD 8 with
        | false=>rfl
        | true=>rw [hcl2 8 _ rfl h 6 (by simp)] at hDi;cases hDi
       have hf7:DD 7=false:=by
        cases h:DD 7 with
        | false=>rfl
        | true=>rw [hcl2 7 _ rfl h 6 (by simp)] at hDi;cases hDi
       have hq:=gq.out hf8;obtain rfl:=g4.out (hds 4 (by simp));obtain rfl:=g5.out (hds 5 (by simp));clear hds hcl2;refine Jt rfl rfl (fun K hK=>?_);go_simp;go_wp2_with (go_at_call 144;refine (HMI.out _ hq).mono ?_;rintro e w5 ⟨u5,rfl,hu5,hb5⟩;obtain ⟨a6,c6,rfl⟩:=RN.form hu5)
       exact ⟨_,_,_,_,_,_,_,_,rfl,g0,Ja (fun h h2=>(g1.out h h2).below hb5),Ja (fun h h2=>by obtain ⟨a5,l5,c5,s5,e,q⟩:=g2.out h h2;exact ⟨a5,l5,c5,s5,e,q.below hb5⟩),g3,Ja (fun _=>rfl),Ja (fun _=>rfl),Ja (fun _ _=>⟨_,_,_,rfl,hu5⟩),Ja (fun h=>by simp [hf7] at h),Ja (fun h=>by simp [hf8] at h),Ja (fun _=>hq.trans (hb5.mono hq.size))⟩
     · obtain ⟨a6,l6,c6,e6⟩:∃ a6 l6 c6,t45=.slice a6 l6 c6:=by
        cases h8:DD 8 with
        | false=>obtain ⟨a6,l6,c6,e,_⟩:=g6.out (hds 6 (by simp)) h8;exact ⟨a6,l6,c6,e⟩
        | true=>obtain ⟨_,_,_,_,_,a6,l6,c6,_,e,_⟩:=g8.out h8;exact ⟨a6,l6,c6,e⟩
       obtain rfl:=e6;clear hds hcl2;refine Jt rfl rfl (fun K hK=>?_);go_simp;exact hK _ _ ⟨_,_,_,_,_,_,_,_,rfl,g0,g1,g2,g3,g4,g5,g6,Ja (fun _=>⟨a6,l6,c6,rfl,rfl⟩),g8,gq⟩
     · have hf9:DD 9=false:=by
        cases h:DD 9 with
        | false=>rfl
        | true=>rw [hcl2 9 _ rfl h 8 (by simp)] at hDi;cases hDi
       have hq:=gq.out hDi;obtain ⟨a5,l5,c5,s5,e5,h5⟩:=g2.out (hds 2 (by simp)) hDi;obtain ⟨a6,l6,c6,e6,h6⟩:=g6.out (hds 6 (by simp)) hDi;obtain rfl:=e5;obtain rfl:=e6;have q0:=(p4.below hq).c0;have q1:=(p4.below hq).c1;have f0:=(p4.below hq).f0;have f1:=(p4.below hq).f1;clear g1 g2 g6;clear hds hcl2;refine Jt rfl rfl (fun K hK=>?_);go_simp;exact hK _ _ ⟨_,_,_,_,_,_,_,_,rfl,g0,Ja (fun _ h=>by simp at h),Ja (fun _ h=>by simp at h),g3,g4,g5,Ja (fun _ h=>by simp at h),g7,Ja (fun _=>⟨V,a5,l5,c5,s5,a6,l6,c6,rfl,rfl,h5,h6,hq,fun _=>rfl,fun h=>by simp [hf9] at h⟩),Ja (fun h=>by simp at h)⟩
     · obtain ⟨V0,a5,l5,c5,s5,a6,l6,c6,e5,e6,h5,h6,hq,hV,_⟩:=g8.out (hds 8 (by simp));obtain rfl:=hV hDi;obtain ⟨a7,l7,c7,e7,e8⟩:=g7.out (hds 7 (by simp));obtain rfl:=e8;obtain rfl:=e6;cases e7;obtain rfl:=e5;have bb:=((p5.below hq).far (p:=⟨w.heap.size+1+1,0,none⟩) (by simp) (.slice a5 l5 c5)).far (p:=⟨w.heap.size+1+1,1,none⟩) (by simp) (.bool s5);have q0:=bb.c0;have q1:=bb.c1;have f0:=bb.f0;have f1:=bb.f1;have h8:=hds 8 (by simp);clear hV;clear hds hcl2;refine Jt rfl rfl (fun K hK=>?_);go_simp;exact hK _ _ ⟨_,_,_,_,_,_,_,_,rfl,g0,Ja (fun _ h=>by simp [h8] at h),Ja (fun _ h=>by simp [h8] at h),g3,g4,g5,Ja (fun _ h=>by simp [h8] at h),Ja (fun _=>⟨_,_,_,rfl,rfl⟩),Ja (fun _=>⟨V0,a5,l5,c5,s5,a6,l6,c6,rfl,rfl,h5,h6,hq,fun h=>by simp at h,fun _=>rfl⟩),Ja (fun h=>by simp [h8] at h)⟩
    case fin=>
     rintro DD a2 V hDD ⟨t39,t40,t41,t42,t43,t44,t45,t46,rfl,g0,g1,g2,g3,g4,g5,g6,g7,g8,gq⟩;obtain ⟨V0,a5,l5,c5,s5,a6,l6,c6,e5,e6,h5,h6,hq,_,hV⟩:=g8.out (hDD 8 (by decide));obtain rfl:=hV (hDD 9 (by decide));clear g0 g1 g2 g3 g4 g5 g6 g7 g8 gq hDD hV e5 e6 HMI HOF;go_wp2_with fail
     have b45:=p4.below hq;have b55:=p5.below hq;obtain ⟨z4,z5⟩:=Jd3 (.slice a5 l5 c5) (.bool s5) (.slice a6 l6 c6) (.bool false) b45 b55;have z4a:=z4.c0;have z4b:=z4.c1;have z5a:=z5.c0;have z5b:=z5.c1;have b57:Jg ((V0.setCell ⟨w.heap.size+1+1,0,none⟩ (.slice a5 l5 c5)).setCell ⟨w.heap.size+1+1,1,none⟩ (.bool s5)) (w.heap.size+1+1+1) 47 (.slice none 0 0) (.bool false):=(b55.far (by simp) _).far (by simp) _;have hR5:=Jgd h6;rw [HZ2.out] at hR5;have hz1:=(h5.box b45 rfl rfl (x0:=.slice a5 l5 c5) (x1:=.bool s5)).box b57 rfl rfl (x0:=.slice a6 l6 c6) (x1:=.bool false);have hz2:=(hR5.box b45 rfl rfl (x0:=.slice a5 l5 c5) (x1:=.bool s5)).box b57 rfl rfl (x0:=.slice a6 l6 c6) (x1:=.bool false);have hB6:=hB3.trans (hq.mono hB3.size);exact bodyPost_ret (v:=.tuple #[.agg #[.slice a5 l5 c5,.bool s5],.agg #[.slice a6 l6 c6,.bool false]]) (by simp [results,Tryz.results127,go_sem,z4a,z4b,z5a,z5b]) rfl ⟨_,_,rfl,hz1,hz2,(((hB6.setCell (p:=⟨_,0,none⟩) (by simp only;omega) _).setCell (p:=⟨_,1,none⟩) (by simp only;omega) _).setCell (p:=⟨_,0,none⟩) (by simp only;omega) _).setCell (p:=⟨_,1,none⟩) (by simp only;omega) _⟩
   | false=>
    have HSU:=Ja (show ∀ (V:World) (u:Value),Below wc.heap.size wc V→Jo V u 1→Calls Tryz.prog 158 #[.agg #[.slice ua lq uc,.bool m8],u] V fun e w'=>∃ u,e=.returned u∧Jo w' u z∧Below V.heap.size V w' from fun V u h hu=>by
     have hx:=HI4.out.below h;rw [if_pos (by rfl)] at hx;have h1:=Jqo _ u _ 1 V hx hu (by unfold szB;rw [Int.natAbs_neg,Int.natAbs_natCast,←HLQ.out];omega) (Jd2 (by omega) (by omega));have h2:=HZ1.out;rw [if_pos (by rfl)] at h2;rw [show -((X / Y:Nat):Int) - 1=z from by rw [←h2];push_cast;omega] at h1;exact h1)
    clear HI4 HZ1 HN HP;go_upto_region 7 with fail
    refine Jq hmx [[],[],[0,1,1],[],[3],[],[4,5,2],[6],[2,6,0,1,2],[7,8,0,1,2,3,4,5,6,7,8]] (by kernel_rfl) (by decide)
     (fun DD ac V=>∃ t47 t48 t49 t50 t51 t52 t53 t54:Value,ac={ tmps:=#[.agg #[.slice a la ca,.bool s],.agg #[.slice b lb cb,.bool false],.pointer (some ⟨w.heap.size,0,none⟩),.pointer (some ⟨w.heap.size+1,0,none⟩),.pointer (some ⟨w.heap.size+1+1,0,none⟩),.pointer (some ⟨w.heap.size+1+1+1,0,none⟩),.slice ua lq uc,.slice va lr vc,.pointer (some ⟨B8,0,none⟩),u9,u10,u11,u12,u13,u14,u15,u16,u17,u18,u19,u20,u21,u22,u23,u24,u25,u26,u27,u28,u29,u30,.bool false,u32,u33,u34,u35,u36,.pointer (some ⟨w.heap.size+1,1,none⟩),.bool false,u39,u40,u41,u42,u43,u44,u45,u46,t47,t48,t49,t50,t51,t52,t53,t54],defers:=[] }∧Hid (DD 0=true→t47=.agg #[.slice ua lq uc,.bool m8])∧Hid (DD 1=true→DD 8=false→Jo V t48 1)∧Hid (DD 2=true→DD 8=false→∃ a5 l5 c5 s5,t49=.agg #[.slice a5 l5 c5,.bool s5]∧Jo V t49 z)∧Hid (DD 3=true→t50=.pointer (some ⟨w.heap.size+1,0,none⟩))∧Hid (DD 4=true→t51=.slice b lb cb)∧Hid (DD 5=true→t52=.slice va lr vc)∧Hid (DD 6=true→DD 8=false→∃ a6 l6 c6,t53=.slice a6 l6 c6∧RN V t53 (Y - X % Y))∧Hid (DD 7=true→∃ a6 l6 c6,t53=.slice a6 l6 c6∧t54=.agg #[.slice a6 l6 c6,.bool false])∧Hid (DD 8=true→∃ V0 a5 l5 c5 s5 a6 l6 c6,t49=.agg #[.slice a5 l5 c5,.bool s5]∧t53=.slice a6 l6 c6∧Jo V0 (.agg #[.slice a5 l5 c5,.bool s5]) z∧RN V0 (.slice a6 l6 c6) (Y - X % Y)∧Below wc.heap.size wc V0∧(DD 9=false→V=((V0.setCell ⟨w.heap.size+1+1,0,none⟩ (.slice a5 l5 c5)).setCell ⟨w.heap.size+1+1,1,none⟩ (.bool s5)))∧(DD 9=true→V=(((V0.setCell ⟨w.heap.size+1+1,0,none⟩ (.slice a5 l5 c5)).setCell ⟨w.heap.size+1+1,1,none⟩ (.bool s5)).setCell ⟨w.heap.size+1+1+1,0,none⟩ (.slice a6 l6 c6)).setCell ⟨w.heap.size+1+1+1,1,none⟩ (.bool false)))∧Hid (DD 8=false→Below wc.heap.size wc V))
     ⟨_,_,_,_,_,_,_,_,rfl,Ja (fun h=>by cases h),Ja (fun h=>by cases h),Ja (fun h=>by cases h),Ja (fun h=>by cases h),Ja (fun h=>by cases h),Ja (fun h=>by cases h),Ja (fun h=>by cases h),Ja (fun h=>by cases h),Ja (fun h=>by cases h),Ja (fun _=>(Below.refl _ wc).drew)⟩ ?step ?fin
    case step=>
     rintro DD a2 V i ds hcl2 hi2 hds hDi ⟨t47,t48,t49,t50,t51,t52,t53,t54,rfl,g0,g1,g2,g3,g4,g5,g6,g7,g8,gq⟩;have hi10:i<10:=(List.getElem?_eq_some_iff.1 hi2).1;obtain rfl | rfl | rfl | rfl | rfl | rfl | rfl | rfl | rfl | rfl:i=0∨i=1∨i=2∨i=3∨i=4∨i=5∨i=6∨i=7∨i=8∨i=9:=by omega
     all_goals
      simp only [List.getElem?_cons_zero,List.getElem?_cons_succ,Option.some.injEq] at hi2;subst hi2;clear hi10
     · have hf8:DD 8=false:=by
        cases h:DD 8 with
        | false=>rfl
        | true=>rw [hcl2 8 _ rfl h 0 (by simp)] at hDi;cases hDi
       have hq:=gq.out hf8;have k8:=(b8.below hq).c0;have k9:=(b8.below hq).c1;clear hds hcl2;refine Jt rfl rfl (fun K hK=>?_);go_simp;exact hK _ _ ⟨_,_,_,_,_,_,_,_,rfl,Ja (fun _=>rfl),g1,g2,g3,g4,g5,g6,g7,Ja (fun h=>by simp [hf8] at h),gq⟩
     · have hf8:DD 8=false:=by
        cases h:DD 8 with
        | false=>rfl
        | true=>rw [hcl2 8 _ rfl h 1 (by simp)] at hDi;cases hDi
       have hf2:DD 2=false:=by
        cases h:DD 2 with
        | false=>rfl
        | true=>rw [hcl2 2 _ rfl h 1 (by simp)] at hDi;cases hDi
       have hq:=gq.out hf8;clear hds hcl2;refine Jt rfl rfl (fun K hK=>?_);go_simp;go_wp2_with (go_at_call 93;refine (HOF.out _).mono ?_;rintro e w5 ⟨u5,rfl,hu5,hb5⟩)
       exact ⟨_,_,_,_,_,_,_,_,rfl,g0,Ja (fun _ _=>hu5),Ja (fun h=>by simp [hf2] at h),g3,g4,g5,Ja (fun h h2=>by obtain ⟨a6,l6,c6,e,q⟩:=g6.out h h2;exact ⟨a6,l6,c6,e,RN.below q hb5⟩),g7,Ja (fun h=>by simp [hf8] at h),Ja (fun _=>hq.trans (hb5.mono hq.size))⟩
     · have hf8:DD 8=false:=by
        cases h:DD 8 with
        | false=>rfl
        | true=>rw [hcl2 8 _ rfl h 2 (by simp)] at hDi;cases hDi
       have hq:=gq.out hf8;obtain rfl:=g0.out (hds 0 (by simp));have h1:=g1.out (hds 1 (by simp)) hf8;clear hds hcl2;refine Jt rfl rfl (fun K hK=>?_);go_simp;go_wp2_with (go_at_call 158;refine (HSU.out _ _ hq h1).mono ?_;rintro e w5 ⟨u5,rfl,hu5,hb5⟩;obtain ⟨a5,l5,c5,rfl⟩:=hu5.form;obtain ⟨s5,hs5⟩:∃ q,decide (z<0)=q:=⟨_,rfl⟩;rw [hs5] at hu5;rw [hs5];clear hs5)
       exact ⟨_,_,_,_,_,_,_,_,rfl,Ja (fun _=>rfl),Ja (fun h h2=>(g1.out h h2).below hb5),Ja (fun _ _=>⟨a5,l5,c5,s5,rfl,hu5⟩),g3,g4,g5,Ja (fun h h2=>by obtain ⟨a6,l6,c6,e,q⟩:=g6.out h h2;exact ⟨a6,l6,c6,e,RN.below q hb5⟩),g7,Ja (fun h=>by simp [hf8] at h),Ja (fun _=>hq.trans (hb5.mono hq.size))⟩
     · clear hds hcl2;refine Jt rfl rfl (fun K hK=>?_);go_simp;exact hK _ _ ⟨_,_,_,_,_,_,_,_,rfl,g0,g1,g2,Ja (fun _=>rfl),g4,g5,g6,g7,g8,gq⟩
     · have hf6:DD 6=false:=by
        cases h:DD 6 with
        | false=>rfl
        | true=>rw [hcl2 6 _ rfl h 4 (by simp)] at hDi;cases hDi
       have hf8:DD 8=false:=by
        cases h:DD 8 with
        | false=>rfl
        | true=>rw [hcl2 8 _ rfl h 6 (by simp)] at hf6;cases hf6
       have hq:=gq.out hf8;obtain rfl:=g3.out (hds 3 (by simp));have k2:=(p1.below hq).c0;clear hds hcl2;refine Jt rfl rfl (fun K hK=>?_);go_simp;exact hK _ _ ⟨_,_,_,_,_,_,_,_,rfl,g0,g1,g2,Ja (fun _=>rfl),Ja (fun _=>rfl),g5,g6,g7,Ja (fun h=>by simp [hf8] at h),gq⟩
     · clear hds hcl2;refine Jt rfl rfl (fun K hK=>?_);go_simp;exact hK _ _ ⟨_,_,_,_,_,_,_,_,rfl,g0,g1,g2,g3,g4,Ja (fun _=>rfl),g6,g7,g8,gq⟩
     · have hf8:DD 8=false:=by
        cases h:DD 8 with
        | false=>rfl
        | true=>rw [hcl2 8 _ rfl h 6 (by simp)] at hDi;cases hDi
       have hf7:DD 7=false:=by
        cases h:DD 7 with
        | false=>rfl
        | true=>rw [hcl2 7 _ rfl h 6 (by simp)] at hDi;cases hDi
       have hq:=gq.out hf8;obtain rfl:=g4.out (hds 4 (by simp));obtain rfl:=g5.out (hds 5 (by simp));clear hds hcl2;refine Jt rfl rfl (fun K hK=>?_);go_simp;go_wp2_with (go_at_call 144;refine (HMI.out _ hq).mono ?_;rintro e w5 ⟨u5,rfl,hu5,hb5⟩;obtain ⟨a6,c6,rfl⟩:=RN.form hu5)
       exact ⟨_,_,_,_,_,_,_,_,rfl,g0,Ja (fun h h2=>(g1.out h h2).below hb5),Ja (fun h h2=>by obtain ⟨a5,l5,c5,s5,e,q⟩:=g2.out h h2;exact ⟨a5,l5,c5,s5,e,q.below hb5⟩),g3,Ja (fun _=>rfl),Ja (fun _=>rfl),Ja (fun _ _=>⟨_,_,_,rfl,hu5⟩),Ja (fun h=>by simp [hf7] at h),Ja (fun h=>by simp [hf8] at h),Ja (fun _=>hq.trans (hb5.mono hq.size))⟩
     · obtain ⟨a6,l6,c6,e6⟩:∃ a6 l6 c6,t53=.slice a6 l6 c6:=by
        cases h8:DD 8 with
        | false=>obtain ⟨a6,l6,c6,e,_⟩:=g6.out (hds 6 (by simp)) h8;exact ⟨a6,l6,c6,e⟩
        | true=>obtain ⟨_,_,_,_,_,a6,l6,c6,_,e,_⟩:=g8.out h8;exact ⟨a6,l6,c6,e⟩
       obtain rfl:=e6;clear hds hcl2;refine Jt rfl rfl (fun K hK=>?_);go_simp;exact hK _ _ ⟨_,_,_,_,_,_,_,_,rfl,g0,g1,g2,g3,g4,g5,g6,Ja (fun _=>⟨a6,l6,c6,rfl,rfl⟩),g8,gq⟩
     · have hf9:DD 9=false:=by
        cases h:DD 9 with
        | false=>rfl
        | true=>rw [hcl2 9 _ rfl h 8 (by simp)] at hDi;cases hDi
       have hq:=gq.out hDi;obtain ⟨a5,l5,c5,s5,e5,h5⟩:=g2.out (hds 2 (by simp)) hDi;obtain ⟨a6,l6,c6,e6,h6⟩:=g6.out (hds 6 (by simp)) hDi;obtain rfl:=e5;obtain rfl:=e6;have q0:=(p4.below hq).c0;have q1:=(p4.below hq).c1;have f0:=(p4.below hq).f0;have f1:=(p4.below hq).f1;clear g1 g2 g6;clear hds hcl2;refine Jt rfl rfl (fun K hK=>?_);go_simp;exact hK _ _ ⟨_,_,_,_,_,_,_,_,rfl,g0,Ja (fun _ h=>by simp at h),Ja (fun _ h=>by simp at h),g3,g4,g5,Ja (fun _ h=>by simp at h),g7,Ja (fun _=>⟨V,a5,l5,c5,s5,a6,l6,c6,rfl,rfl,h5,h6,hq,fun _=>rfl,fun h=>by simp [hf9] at h⟩),Ja (fun h=>by simp at h)⟩
     · obtain ⟨V0,a5,l5,c5,s5,a6,l6,c6,e5,e6,h5,h6,hq,hV,_⟩:=g8.out (hds 8 (by simp));obtain rfl:=hV hDi;obtain ⟨a7,l7,c7,e7,e8⟩:=g7.out (hds 7 (by simp));obtain rfl:=e8;obtain rfl:=e6;cases e7;obtain rfl:=e5;have bb:=((p5.below hq).far (p:=⟨w.heap.size+1+1,0,none⟩) (by simp) (.slice a5 l5 c5)).far (p:=⟨w.heap.size+1+1,1,none⟩) (by simp) (.bool s5);have q0:=bb.c0;have q1:=bb.c1;have f0:=bb.f0;have f1:=bb.f1;have h8:=hds 8 (by simp);clear hV;clear hds hcl2;refine Jt rfl rfl (fun K hK=>?_);go_simp;exact hK _ _ ⟨_,_,_,_,_,_,_,_,rfl,g0,Ja (fun _ h=>by simp [h8] at h),Ja (fun _ h=>by simp [h8] at h),g3,g4,g5,Ja (fun _ h=>by simp [h8] at h),Ja (fun _=>⟨_,_,_,rfl,rfl⟩),Ja (fun _=>⟨V0,a5,l5,c5,s5,a6,l6,c6,rfl,rfl,h5,h6,hq,fun h=>by simp at h,fun _=>rfl⟩),Ja (fun h=>by simp [h8] at h)⟩
    case fin=>
     rintro DD a2 V hDD ⟨t47,t48,t49,t50,t51,t52,t53,t54,rfl,g0,g1,g2,g3,g4,g5,g6,g7,g8,gq⟩;obtain ⟨V0,a5,l5,c5,s5,a6,l6,c6,e5,e6,h5,h6,hq,_,hV⟩:=g8.out (hDD 8 (by decide));obtain rfl:=hV (hDD 9 (by decide));clear g0 g1 g2 g3 g4 g5 g6 g7 g8 gq hDD hV e5 e6 HMI HOF;go_wp2_with fail
     have b45:=p4.below hq;have b55:=p5.below hq;obtain ⟨z4,z5⟩:=Jd3 (.slice a5 l5 c5) (.bool s5) (.slice a6 l6 c6) (.bool false) b45 b55;have z4a:=z4.c0;have z4b:=z4.c1;have z5a:=z5.c0;have z5b:=z5.c1;have b57:Jg ((V0.setCell ⟨w.heap.size+1+1,0,none⟩ (.slice a5 l5 c5)).setCell ⟨w.heap.size+1+1,1,none⟩ (.bool s5)) (w.heap.size+1+1+1) 47 (.slice none 0 0) (.bool false):=(b55.far (by simp) _).far (by simp) _;have hR5:=Jgd h6;rw [HZ2.out] at hR5;have hz1:=(h5.box b45 rfl rfl (x0:=.slice a5 l5 c5) (x1:=.bool s5)).box b57 rfl rfl (x0:=.slice a6 l6 c6) (x1:=.bool false);have hz2:=(hR5.box b45 rfl rfl (x0:=.slice a5 l5 c5) (x1:=.bool s5)).box b57 rfl rfl (x0:=.slice a6 l6 c6) (x1:=.bool false);have hB6:=hB3.trans (hq.mono hB3.size);exact bodyPost_ret (v:=.tuple #[.agg #[.slice a5 l5 c5,.bool s5],.agg #[.slice a6 l6 c6,.bool false]]) (by simp [results,Tryz.results127,go_sem,z4a,z4b,z5a,z5b]) rfl ⟨_,_,rfl,hz1,hz2,(((hB6.setCell (p:=⟨_,0,none⟩) (by simp only;omega) _).setCell (p:=⟨_,1,none⟩) (by simp only;omega) _).setCell (p:=⟨_,0,none⟩) (by simp only;omega) _).setCell (p:=⟨_,1,none⟩) (by simp only;omega) _⟩
theorem Jcz (va vb:Value) (x y:Int) (w:World) (ha:Jo w va x) (hb:Jo w vb y) (hy:y≠0) (hlx:szB x≤100000000) (hly:szB y≤100000000) :
 Calls Tryz.prog 127 #[va,vb] w fun e w'=>∃ q o,e=.returned (.tuple #[q,o])∧Jo w' q (x / y)∧Jo w' o (x % y)∧Below w.heap.size w w':=by
 obtain ⟨a,la,ca,rfl,hu⟩:=ha;obtain ⟨b,lb,cb,rfl,hv⟩:=hb;refine Jo3 a la ca b lb cb x.natAbs y.natAbs _ _ (x / y) (x % y) w hu hv (by omega) (by rw [RN.len hu];exact hlx) (by rw [RN.len hv];exact hly) (fun hc=>Jdp hy (fun h=>hc ⟨decide_eq_true h.1,h.2⟩)) (fun hc=>Jbx hy ⟨of_decide_eq_true hc.1,hc.2⟩)
theorem Jlf (va:Value) (x:Int) (w:World) (ha:Jo w va x) :
 Calls Tryz.prog 98 #[va] w fun e w'=>e=.returned (.int .i64 x.sign)∧Below w.heap.size w w':=by
 obtain ⟨a,la,ca,rfl,ra⟩:=ha;have hlen:=RN.len ra;have hk:=(Jp ra).2.2.2.1;have hB0:Below w.heap.size w (w.alloc (.cells #[.slice a la ca,.bool (decide (x<0))] 47)):=(Below.refl _ w).alloc (Nat.le_refl _) _;have b0:=Jg.new w 47 (.slice a la ca) (.bool (decide (x<0)));have hz:la=0↔x=0:=by
  rw [hlen];constructor
  · intro h;have:=(Jw (B:=10000) (by omega)).1 (List.eq_nil_of_length_eq_zero h);omega
  · intro h;rw [h,Int.natAbs_zero,Jv];rfl
 have HZ:=Ja hz;obtain ⟨W0,hW0⟩:∃ W0,w.alloc (.cells #[.slice a la ca,.bool (decide (x<0))] 47)=W0:=⟨_,rfl⟩;rw [hW0] at hB0 b0;have HW0:=Ja hW0;have k0:=b0.c0;have k1:=b0.c1;by_cases hx:x<0
 · have hd:decide (x<0)=true:=decide_eq_true hx;rw [hd] at HW0 k1 ⊢;have HE:=Ja (Int.sign_eq_neg_one_of_neg hx);clear hlen hz hW0 ra hd b0;go_enter Tryz.func98,Tryz.ntmps98
   go_upto_region 1 with fail
   rw [HW0.out];go_wp2_with fail
   go_ret;exact ⟨by rw [HE.out];rfl,hB0⟩
 · have hd:decide (x<0)=false:=decide_eq_false hx;rw [hd] at HW0 k1 ⊢;clear hlen hz hW0 ra hd b0;rcases Nat.eq_zero_or_pos la with h0 | h0
   · subst h0;have HE:=Ja (show x.sign=0 by rw [HZ.out.1 rfl];rfl);go_enter Tryz.func98,Tryz.ntmps98
     go_upto_region 1 with fail
     rw [HW0.out];go_wp2_with fail
     go_ret;refine ⟨?_,hB0⟩;rw [HE.out];first | rfl | (simp;done)
   · have HE:=Ja (show x.sign=1 from Int.sign_eq_one_of_pos (by
      have:=HZ.out;rcases Int.lt_trichotomy x 0 with h | h | h
      · omega
      · have:=this.2 h;omega
      · exact h))
     have h1:min (1:Int) (la:Int)=1:=by omega
     have h2:(1:Int)≤(la:Int):=by omega
     have h3:¬ ((la:Int)<1):=by omega
     go_enter Tryz.func98,Tryz.ntmps98
     go_upto_region 1 with fail
     rw [HW0.out];go_wp2_with fail
     go_ret;refine ⟨?_,hB0⟩;rw [HE.out];first | rfl | (simp [h1];done)
theorem Jgn {x y:Int} (hy:y≠0):(0:Int)<(Int.gcd x y:Nat):=by
 have:=Int.gcd_pos_of_ne_zero_right x hy;omega
theorem JB.mk {W:World} {s t:Bool} {a b:Option Addr} {l c k d:Nat} {q:Rat} (h1:Jo W (.agg #[.slice a l c,.bool s]) q.num) (h2:Jo W (.agg #[.slice b k d,.bool t]) (q.den:Int)):JB W (.agg #[.slice a l c,.bool s,.slice b k d,.bool t]) q:=⟨_,_,_,_,_,_,_,_,rfl,h1,h2⟩
theorem Jo.sign {W:World} {a:Option Addr} {l c:Nat} {s:Bool} {z:Int} (h:Jo W (.agg #[.slice a l c,.bool s]) z):s=decide (z<0):=by
 obtain ⟨a',l',c',e,_⟩:=h;cases e;rfl
theorem Jqx (va vb:Value) (x y:Int) (w:World) (ha:Jo w va x) (hb:Jo w vb y) (hy:y≠0) (hsx:Sok x) (hsy:Sok y) :
 Calls Tryz.prog 92 #[va,vb] w fun e w'=>∃ u,e=.returned u∧JB w' u (Rat.divInt x y)∧Below w.heap.size w w':=by
 obtain ⟨a900,l900,c900,s900,rfl⟩:=Jo.form2 ha;obtain ⟨a901,l901,c901,s901,rfl⟩:=Jo.form2 hb;have M0:=((((Mem.nil w).push (.big (x)) ha).push (.big (y)) (Has.alloc (d:=.big (y)) hb _)).push .zref rfl);simp only [World.size_alloc] at M0;have M0:Mem w (((w.alloc (.cells #[.slice a900 l900 c900,.bool s900] 47)).alloc (.cells #[.slice a901 l901 c901,.bool s901] 47)).alloc (.cells #[.slice none 0 0,.bool false,.slice none 0 0,.bool false] 49)) [some (w.heap.size,.big (x)),some (w.heap.size+1,.big (y)),some (w.heap.size+1+1,.zref)]:=M0;obtain ⟨W0,hW0⟩:∃ W0,((w.alloc (.cells #[.slice a900 l900 c900,.bool s900] 47)).alloc (.cells #[.slice a901 l901 c901,.bool s901] 47)).alloc (.cells #[.slice none 0 0,.bool false,.slice none 0 0,.bool false] 49)=W0:=⟨_,rfl⟩;have HW0:=Ja hW0;rw [hW0] at M0;have M1:Hid (Mem w W0 [some (w.heap.size,.big (x)),some (w.heap.size+1,.big (y)),some (w.heap.size+1+1,.zref)]):=Ja M0;have HHY:=Ja hy;have HHSX:=Ja hsx;have HHSY:=Ja hsy;clear M0 hW0 ha hb hy hsx hsy;go_enter Tryz.func92,Tryz.ntmps92
 go_upto_region 1 with fail
 rw [HW0.out];clear HW0;obtain ⟨a1,l1,c1,s1,n1,i1⟩:=M1.out.big (i:=0) rfl;have e1a:=n1.c0;have e1b:=n1.c1;obtain ⟨a2,l2,c2,s2,n2,i2⟩:=M1.out.big (i:=1) rfl;have e2a:=n2.c0;have e2b:=n2.c1;go_upto_region 2 with (go_at_call 125;refine (Jr7 _ _ x y _ i1 i2 (by have:=HHSX.out.size;omega) (by have:=HHSY.out.size;omega)).mono ?_;rintro e w1 ⟨u,rfl,hu,hb⟩;obtain ⟨a90,l90,c90,s90,rfl⟩:=Jo.form2 hu)
 obtain ⟨V3,hV⟩:∃ V,w1.alloc (.cells #[.slice a90 l90 c90,.bool s90] 47)=V:=⟨_,rfl⟩;obtain ⟨B3,hBk⟩:∃ B,w1.heap.size=B:=⟨_,rfl⟩;have MM:Mem w (w1.alloc (.cells #[.slice a90 l90 c90,.bool s90] 47)) [some (w.heap.size,.big (x)),some (w.heap.size+1,.big (y)),some (w.heap.size+1+1,.zref),some (w1.heap.size,.big (((Int.gcd x y:Nat):Int)))]:=Mem.push (M1.out.below hb) (.big (((Int.gcd x y:Nat):Int))) hu;rw [hV,hBk] at MM;rw [hV];rw [hBk];have M2:Hid (Mem w V3 [some (w.heap.size,.big (x)),some (w.heap.size+1,.big (y)),some (w.heap.size+1+1,.zref),some (B3,.big (((Int.gcd x y:Nat):Int)))]):=Ja (MM);clear M1;clear MM hV hBk;clear n1 e1a e1b i1 n2 e2a e2b i2 hu hb;have HG:=Ja (Sok.gcd HHSX.out HHSY.out);by_cases hn:y<0
 · have HL:=Ja hn;obtain ⟨a4,l4,c4,s4,n4,i4⟩:=M2.out.big (i:=1) rfl;have e4a:=n4.c0;have e4b:=n4.c1;have hs:=Jo.sign i4;rw [decide_eq_true hn] at hs;subst hs;clear hn;go_upto_region 3 with fail
   clear n4 e4a e4b i4;obtain ⟨a5,l5,c5,s5,n5,i5⟩:=M2.out.big (i:=3) rfl;have e5a:=n5.c0;have e5b:=n5.c1;go_upto_region 4 with (go_at_call 126;refine (Jri _ (((Int.gcd x y:Nat):Int)) _ i5).mono ?_;rintro e w6 ⟨u6,rfl,hu6,hb6⟩;obtain ⟨a95,l95,c95,s95,rfl⟩:=Jo.form2 hu6;have e5a:=(n5.below hb6).c0;have e5b:=(n5.below hb6).c1;have f5a:=(n5.below hb6).f0;have f5b:=(n5.below hb6).f1)
   obtain ⟨V6,hV⟩:∃ V,(w6.setCell ⟨B3,0,none⟩ (.slice a95 l95 c95)).setCell ⟨B3,1,none⟩ (.bool s95)=V:=⟨_,rfl⟩;have MM:Mem w ((w6.setCell ⟨B3,0,none⟩ (.slice a95 l95 c95)).setCell ⟨B3,1,none⟩ (.bool s95)) [some (w.heap.size,.big (x)),some (w.heap.size+1,.big (y)),some (w.heap.size+1+1,.zref),some (B3,.big (-((Int.gcd x y:Nat):Int)))]:=Mem.putBig (M2.out.below hb6) (i:=3) rfl hu6;rw [hV] at MM;rw [hV];have M3:Hid (Mem w V6 [some (w.heap.size,.big (x)),some (w.heap.size+1,.big (y)),some (w.heap.size+1+1,.zref),some (B3,.big (-((Int.gcd x y:Nat):Int)))]):=Ja (MM);clear M2;clear MM hV;clear n5 e5a e5b i5 hu6 hb6 f5a f5b;have HNE:=Ja (show (-((Int.gcd x y:Nat):Int))≠0 by have:=Jgn (x:=x) HHY.out;omega);have HE:=Ja (show (-((Int.gcd x y:Nat):Int))=(if y<0 then -((Int.gcd x y:Nat):Int) else ((Int.gcd x y:Nat):Int)) by rw [if_pos HL.out]);have HSM:=Ja HG.out.neg;obtain ⟨a7,l7,c7,s7,n7,i7⟩:=M3.out.big (i:=0) rfl;have e7a:=n7.c0;have e7b:=n7.c1;obtain ⟨a8,l8,c8,s8,n8,i8⟩:=M3.out.big (i:=3) rfl;have e8a:=n8.c0;have e8b:=n8.c1;go_upto_region 5 with (go_at_call 127;refine (Jcz _ _ x ((-((Int.gcd x y:Nat):Int))) _ i7 i8 HNE.out (by have:=HHSX.out.size;omega) (by have:=HSM.out.size;omega)).mono ?_;rintro e w2 ⟨u1,u2,rfl,hu1,hu2,hb⟩;obtain ⟨a91,l91,c91,s91,rfl⟩:=Jo.form2 hu1;obtain ⟨a92,l92,c92,s92,rfl⟩:=Jo.form2 hu2)
   have MM:=Mem.push (Mem.push (M3.out.below hb) (.big (x / (-((Int.gcd x y:Nat):Int)))) hu1) (.big (x % (-((Int.gcd x y:Nat):Int)))) (Has.alloc (d:=.big (x % (-((Int.gcd x y:Nat):Int)))) hu2 _);simp only [World.size_alloc] at MM;have MM:Mem w ((w2.alloc (.cells #[.slice a91 l91 c91,.bool s91] 47)).alloc (.cells #[.slice a92 l92 c92,.bool s92] 47)) [some (w.heap.size,.big (x)),some (w.heap.size+1,.big (y)),some (w.heap.size+1+1,.zref),some (B3,.big (-((Int.gcd x y:Nat):Int))),some (w2.heap.size,.big (x / (-((Int.gcd x y:Nat):Int)))),some (w2.heap.size+1,.big (x % (-((Int.gcd x y:Nat):Int))))]:=MM;obtain ⟨V10,hV⟩:∃ V,(w2.alloc (.cells #[.slice a91 l91 c91,.bool s91] 47)).alloc (.cells #[.slice a92 l92 c92,.bool s92] 47)=V:=⟨_,rfl⟩;obtain ⟨B9,hBk⟩:∃ B,w2.heap.size=B:=⟨_,rfl⟩;rw [hV,hBk] at MM;rw [hV];rw [hBk];obtain ⟨B10,hBj⟩:∃ B,B9+1=B:=⟨_,rfl⟩;rw [hBj] at MM ⊢;have M4:Hid (Mem w V10 [some (w.heap.size,.big (x)),some (w.heap.size+1,.big (y)),some (w.heap.size+1+1,.zref),some (B3,.big (-((Int.gcd x y:Nat):Int))),some (B9,.big (x / (-((Int.gcd x y:Nat):Int)))),some (B10,.big (x % (-((Int.gcd x y:Nat):Int))))]):=Ja (MM);clear M3;clear MM hV hBk hBj;clear n7 e7a e7b i7 n8 e8a e8b i8 hu1 hu2 hb;obtain ⟨a11,l11,c11,s11,n11,i11⟩:=M4.out.big (i:=1) rfl;have e11a:=n11.c0;have e11b:=n11.c1;obtain ⟨a12,l12,c12,s12,n12,i12⟩:=M4.out.big (i:=3) rfl;have e12a:=n12.c0;have e12b:=n12.c1;go_upto_region 6 with (go_at_call 127;refine (Jcz _ _ y ((-((Int.gcd x y:Nat):Int))) _ i11 i12 HNE.out (by have:=HHSY.out.size;omega) (by have:=HSM.out.size;omega)).mono ?_;rintro e w3 ⟨u1,u2,rfl,hu1,hu2,hb⟩;obtain ⟨a93,l93,c93,s93,rfl⟩:=Jo.form2 hu1;obtain ⟨a94,l94,c94,s94,rfl⟩:=Jo.form2 hu2)
   have MM:=Mem.push (Mem.push (M4.out.below hb) (.big (y / (-((Int.gcd x y:Nat):Int)))) hu1) (.big (y % (-((Int.gcd x y:Nat):Int)))) (Has.alloc (d:=.big (y % (-((Int.gcd x y:Nat):Int)))) hu2 _);simp only [World.size_alloc] at MM;have MM:Mem w ((w3.alloc (.cells #[.slice a93 l93 c93,.bool s93] 47)).alloc (.cells #[.slice a94 l94 c94,.bool s94] 47)) [some (w.heap.size,.big (x)),some (w.heap.size+1,.big (y)),some (w.heap.size+1+1,.zref),some (B3,.big (-((Int.gcd x y:Nat):Int))),some (B9,.big (x / (-((Int.gcd x y:Nat):Int)))),some (B10,.big (x % (-((Int.gcd x y:Nat):Int)))),some (w3.heap.size,.big (y / (-((Int.gcd x y:Nat):Int)))),some (w3.heap.size+1,.big (y % (-((Int.gcd x y:Nat):Int))))]:=MM;obtain ⟨V14,hV⟩:∃ V,(w3.alloc (.cells #[.slice a93 l93 c93,.bool s93] 47)).alloc (.cells #[.slice a94 l94 c94,.bool s94] 47)=V:=⟨_,rfl⟩;obtain ⟨B13,hBk⟩:∃ B,w3.heap.size=B:=⟨_,rfl⟩;rw [hV,hBk] at MM;rw [hV];rw [hBk];obtain ⟨B14,hBj⟩:∃ B,B13+1=B:=⟨_,rfl⟩;rw [hBj] at MM ⊢;have M5:Hid (Mem w V14 [some (w.heap.size,.big (x)),some (w.heap.size+1,.big (y)),some (w.heap.size+1+1,.zref),some (B3,.big (-((Int.gcd x y:Nat):Int))),some (B9,.big (x / (-((Int.gcd x y:Nat):Int)))),some (B10,.big (x % (-((Int.gcd x y:Nat):Int)))),some (B13,.big (y / (-((Int.gcd x y:Nat):Int)))),some (B14,.big (y % (-((Int.gcd x y:Nat):Int))))]):=Ja (MM);clear M4;clear MM hV hBk hBj;clear n11 e11a e11b i11 n12 e12a e12b i12 hu1 hu2 hb;obtain ⟨a15,l15,c15,s15,n15,i15⟩:=M5.out.big (i:=4) rfl;have e15a:=n15.c0;have e15b:=n15.c1;obtain ⟨a16,l16,c16,s16,n16,i16⟩:=M5.out.big (i:=6) rfl;have e16a:=n16.c0;have e16b:=n16.c1;have n17:=M5.out.zref (i:=2) rfl;have e17a:=n17.c0;have e17b:=n17.c1;have e17c:=n17.c2;have e17d:=n17.c3;have f17a:=n17.f0;have f17b:=n17.f1;have f17c:=n17.f2;have f17d:=n17.f3;have hr:JB V14 (.agg #[.slice a15 l15 c15,.bool s15,.slice a16 l16 c16,.bool s16]) (Rat.divInt x y):=JB.mk (by rw [XP HHY.out,←HE.out];exact i15) (by rw [XQ HHY.out,←HE.out];exact i16);have hge:=M5.out.ge 2 rfl;have hB:=M5.out.2.2;go_wp2_with fail
   exact bodyPost_ret (v:=.agg #[.slice a15 l15 c15,.bool s15,.slice a16 l16 c16,.bool s16]) (by simp [results,Tryz.results92,go_sem,e17a,e17b,e17c,e17d]) rfl ⟨_,rfl,hr.put4 n17 rfl rfl rfl rfl _ _ _ _,Js hB hge _ _ _ _⟩
 · have HL:=Ja hn;obtain ⟨a18,l18,c18,s18,n18,i18⟩:=M2.out.big (i:=1) rfl;have e18a:=n18.c0;have e18b:=n18.c1;have hs:=Jo.sign i18;rw [decide_eq_false hn] at hs;subst hs;clear hn;go_upto_region 4 with fail
   clear n18 e18a e18b i18;have HNE:=Ja (show ((Int.gcd x y:Nat):Int)≠0 by have:=Jgn (x:=x) HHY.out;omega);have HE:=Ja (show ((Int.gcd x y:Nat):Int)=(if y<0 then -((Int.gcd x y:Nat):Int) else ((Int.gcd x y:Nat):Int)) by rw [if_neg (by have:=HL.out;omega)]);have HSM:=Ja HG.out;obtain ⟨a19,l19,c19,s19,n19,i19⟩:=M2.out.big (i:=0) rfl;have e19a:=n19.c0;have e19b:=n19.c1;obtain ⟨a20,l20,c20,s20,n20,i20⟩:=M2.out.big (i:=3) rfl;have e20a:=n20.c0;have e20b:=n20.c1;go_upto_region 5 with (go_at_call 127;refine (Jcz _ _ x (((Int.gcd x y:Nat):Int)) _ i19 i20 HNE.out (by have:=HHSX.out.size;omega) (by have:=HSM.out.size;omega)).mono ?_;rintro e w2 ⟨u1,u2,rfl,hu1,hu2,hb⟩;obtain ⟨a91,l91,c91,s91,rfl⟩:=Jo.form2 hu1;obtain ⟨a92,l92,c92,s92,rfl⟩:=Jo.form2 hu2)
   have MM:=Mem.push (Mem.push (M2.out.below hb) (.big (x / ((Int.gcd x y:Nat):Int))) hu1) (.big (x % ((Int.gcd x y:Nat):Int))) (Has.alloc (d:=.big (x % ((Int.gcd x y:Nat):Int))) hu2 _);simp only [World.size_alloc] at MM;have MM:Mem w ((w2.alloc (.cells #[.slice a91 l91 c91,.bool s91] 47)).alloc (.cells #[.slice a92 l92 c92,.bool s92] 47)) [some (w.heap.size,.big (x)),some (w.heap.size+1,.big (y)),some (w.heap.size+1+1,.zref),some (B3,.big (((Int.gcd x y:Nat):Int))),some (w2.heap.size,.big (x / ((Int.gcd x y:Nat):Int))),some (w2.heap.size+1,.big (x % ((Int.gcd x y:Nat):Int)))]:=MM;obtain ⟨V22,hV⟩:∃ V,(w2.alloc (.cells #[.slice a91 l91 c91,.bool s91] 47)).alloc (.cells #[.slice a92 l92 c92,.bool s92] 47)=V:=⟨_,rfl⟩;obtain ⟨B21,hBk⟩:∃ B,w2.heap.size=B:=⟨_,rfl⟩;rw [hV,hBk] at MM;rw [hV];rw [hBk];obtain ⟨B22,hBj⟩:∃ B,B21+1=B:=⟨_,rfl⟩;rw [hBj] at MM ⊢;have M3:Hid (Mem w V22 [some (w.heap.size,.big (x)),some (w.heap.size+1,.big (y)),some (w.heap.size+1+1,.zref),some (B3,.big (((Int.gcd x y:Nat):Int))),some (B21,.big (x / ((Int.gcd x y:Nat):Int))),some (B22,.big (x % ((Int.gcd x y:Nat):Int)))]):=Ja (MM);clear M2;clear MM hV hBk hBj;clear n19 e19a e19b i19 n20 e20a e20b i20 hu1 hu2 hb;obtain ⟨a23,l23,c23,s23,n23,i23⟩:=M3.out.big (i:=1) rfl;have e23a:=n23.c0;have e23b:=n23.c1;obtain ⟨a24,l24,c24,s24,n24,i24⟩:=M3.out.big (i:=3) rfl;have e24a:=n24.c0;have e24b:=n24.c1;go_upto_region 6 with (go_at_call 127;refine (Jcz _ _ y (((Int.gcd x y:Nat):Int)) _ i23 i24 HNE.out (by have:=HHSY.out.size;omega) (by have:=HSM.out.size;omega)).mono ?_;rintro e w3 ⟨u1,u2,rfl,hu1,hu2,hb⟩;obtain ⟨a93,l93,c93,s93,rfl⟩:=Jo.form2 hu1;obtain ⟨a94,l94,c94,s94,rfl⟩:=Jo.form2 hu2)
   have MM:=Mem.push (Mem.push (M3.out.below hb) (.big (y / ((Int.gcd x y:Nat):Int))) hu1) (.big (y % ((Int.gcd x y:Nat):Int))) (Has.alloc (d:=.big (y % ((Int.gcd x y:Nat):Int))) hu2 _);simp only [World.size_alloc] at MM;have MM:Mem w ((w3.alloc (.cells #[.slice a93 l93 c93,.bool s93] 47)).alloc (.cells #[.slice a94 l94 c94,.bool s94] 47)) [some (w.heap.size,.big (x)),some (w.heap.size+1,.big (y)),some (w.heap.size+1+1,.zref),some (B3,.big (((Int.gcd x y:Nat):Int))),some (B21,.big (x / ((Int.gcd x y:Nat):Int))),some (B22,.big (x % ((Int.gcd x y:Nat):Int))),some (w3.heap.size,.big (y / ((Int.gcd x y:Nat):Int))),some (w3.heap.size+1,.big (y % ((Int.gcd x y:Nat):Int)))]:=MM;obtain ⟨V26,hV⟩:∃ V,(w3.alloc (.cells #[.slice a93 l93 c93,.bool s93] 47)).alloc (.cells #[.slice a94 l94 c94,.bool s94] 47)=V:=⟨_,rfl⟩;obtain ⟨B25,hBk⟩:∃ B,w3.heap.size=B:=⟨_,rfl⟩;rw [hV,hBk] at MM;rw [hV];rw [hBk];obtain ⟨B26,hBj⟩:∃ B,B25+1=B:=⟨_,rfl⟩;rw [hBj] at MM ⊢;have M4:Hid (Mem w V26 [some (w.heap.size,.big (x)),some (w.heap.size+1,.big (y)),some (w.heap.size+1+1,.zref),some (B3,.big (((Int.gcd x y:Nat):Int))),some (B21,.big (x / ((Int.gcd x y:Nat):Int))),some (B22,.big (x % ((Int.gcd x y:Nat):Int))),some (B25,.big (y / ((Int.gcd x y:Nat):Int))),some (B26,.big (y % ((Int.gcd x y:Nat):Int)))]):=Ja (MM);clear M3;clear MM hV hBk hBj;clear n23 e23a e23b i23 n24 e24a e24b i24 hu1 hu2 hb;obtain ⟨a27,l27,c27,s27,n27,i27⟩:=M4.out.big (i:=4) rfl;have e27a:=n27.c0;have e27b:=n27.c1;obtain ⟨a28,l28,c28,s28,n28,i28⟩:=M4.out.big (i:=6) rfl;have e28a:=n28.c0;have e28b:=n28.c1;have n29:=M4.out.zref (i:=2) rfl;have e29a:=n29.c0;have e29b:=n29.c1;have e29c:=n29.c2;have e29d:=n29.c3;have f29a:=n29.f0;have f29b:=n29.f1;have f29c:=n29.f2;have f29d:=n29.f3;have hr:JB V26 (.agg #[.slice a27 l27 c27,.bool s27,.slice a28 l28 c28,.bool s28]) (Rat.divInt x y):=JB.mk (by rw [XP HHY.out,←HE.out];exact i27) (by rw [XQ HHY.out,←HE.out];exact i28);have hge:=M4.out.ge 2 rfl;have hB:=M4.out.2.2;go_wp2_with fail
   exact bodyPost_ret (v:=.agg #[.slice a27 l27 c27,.bool s27,.slice a28 l28 c28,.bool s28]) (by simp [results,Tryz.results92,go_sem,e29a,e29b,e29c,e29d]) rfl ⟨_,rfl,hr.put4 n29 rfl rfl rfl rfl _ _ _ _,Js hB hge _ _ _ _⟩
theorem Jhj (va:Value) (q:Rat) (w:World) (ha:JB w va q) :
 Calls Tryz.prog 56 #[va] w fun e w'=>e=.returned (.int .i64 q.num.sign)∧Below w.heap.size w w':=by
 obtain ⟨n,hn⟩:∃ n,q.num.sign=n:=⟨_,rfl⟩;rw [hn];have HN:=Ja hn;clear hn;obtain ⟨a900,l900,c900,s900,b900,k900,d900,t900,rfl⟩:=JB.form ha;have M0:=((Mem.nil w).push (.ref (q)) ha);have M0:Mem w (w.alloc (.cells #[.slice a900 l900 c900,.bool s900,.slice b900 k900 d900,.bool t900] 49)) [some (w.heap.size,.ref (q))]:=M0;obtain ⟨W0,hW0⟩:∃ W0,w.alloc (.cells #[.slice a900 l900 c900,.bool s900,.slice b900 k900 d900,.bool t900] 49)=W0:=⟨_,rfl⟩;have HW0:=Ja hW0;rw [hW0] at M0;have M1:Hid (Mem w W0 [some (w.heap.size,.ref (q))]):=Ja M0;clear M0 hW0 ha;go_enter Tryz.func56,Tryz.ntmps56
 go_upto_region 1 with fail
 rw [HW0.out];clear HW0;obtain ⟨a1,l1,c1,s1,b1,k1,d1,t1,n1,r1,i1,j1⟩:=M1.out.ref (i:=0) rfl;have e1a:=n1.c0;have e1b:=n1.c1;have e1c:=n1.c2;have e1d:=n1.c3;have HC:=Ja (Jlf _ q.num W0 i1);rw [HN.out] at HC;go_wp2_with (go_at_call 98;refine HC.out.mono ?_;clear HC;rintro e w1 ⟨rfl,hq⟩)
 go_ret;exact ⟨rfl,M1.out.2.2.trans (hq.mono M1.out.2.2.size)⟩
theorem XK (n:Int) (h1:-9223372036854775808≤n) (h2:n≤9223372036854775807) (w:World) :
 Calls Tryz.prog 62 #[.int .i64 n] w fun e w'=>∃ u,e=.returned u∧JB w' u (n:Rat)∧Below w.heap.size w w':=by
 have HO:=Ja (fun (V:World)=>Jl0 n h1 h2 V);clear h1 h2;have M0:=((Mem.nil w).push .zref rfl);have M0:Mem w (w.alloc (.cells #[.slice none 0 0,.bool false,.slice none 0 0,.bool false] 49)) [some (w.heap.size,.zref)]:=M0;obtain ⟨W0,hW0⟩:∃ W0,w.alloc (.cells #[.slice none 0 0,.bool false,.slice none 0 0,.bool false] 49)=W0:=⟨_,rfl⟩;have HW0:=Ja hW0;rw [hW0] at M0;have M1:Hid (Mem w W0 [some (w.heap.size,.zref)]):=Ja M0;clear M0 hW0;go_enter Tryz.func62,Tryz.ntmps62
 go_upto_region 1 with fail
 rw [HW0.out];clear HW0;have n1:=M1.out.zref (i:=0) rfl;have e1a:=n1.c0;have e1b:=n1.c1;have e1c:=n1.c2;have e1d:=n1.c3;have f1a:=n1.f0;have f1b:=n1.f1;have f1c:=n1.f2;have f1d:=n1.f3;go_wp2_with (first
  | (go_at_call 93;refine (HO.out _).mono ?_;clear HO;rintro e w1 ⟨u1,rfl,hu1,hb1⟩;obtain ⟨a91,l91,c91,s91,rfl⟩:=Jo.form2 hu1)
  | (go_at_call 93;refine (Jl0 1 (by omega) (by omega) _).mono ?_;rintro e w2 ⟨u2,rfl,hu2,hb2⟩;obtain ⟨a92,l92,c92,s92,rfl⟩:=Jo.form2 hu2;have hq:=hb1.trans (hb2.mono hb1.size);have e1a:=(n1.below hq).c0;have e1b:=(n1.below hq).c1;have e1c:=(n1.below hq).c2;have e1d:=(n1.below hq).c3;have f1a:=(n1.below hq).f0;have f1b:=(n1.below hq).f1;have f1c:=(n1.below hq).f2;have f1d:=(n1.below hq).f3))
 have hr:JB w2 (.agg #[.slice a91 l91 c91,.bool s91,.slice a92 l92 c92,.bool s92]) (n:Rat):=JB.mk (hu1.below hb2) hu2;have hq2:=M1.out.2.2.trans (hq.mono M1.out.2.2.size);have hge:=M1.out.ge 0 rfl;exact bodyPost_ret (v:=.agg #[.slice a91 l91 c91,.bool s91,.slice a92 l92 c92,.bool s92]) (by simp [results,Tryz.results62,go_sem,e1a,e1b,e1c,e1d]) rfl ⟨_,rfl,hr.put4 (n1.below hq) rfl rfl rfl rfl _ _ _ _,Js hq2 hge _ _ _ _⟩
theorem RowK.formsF {W:World} {a:Option Addr} {l cap:Nat} {qs:List Rat} (h:RowK false W (.slice a l cap) qs):l=qs.length∧l≤cap∧cap≤9223372036854775807∧l≤1099511627776∧∃ (s t:Nat→Bool) (aa bb:Nat→Option Addr) (ll cc kk dd:Nat→Nat),∀ j,j<l→JB W (.agg #[.slice (aa j) (ll j) (cc j),.bool (s j),.slice (bb j) (kk j) (dd j),.bool (t j)]) (cf qs j)∧
 ∃ b,a=some ⟨b,0,none⟩∧b<W.heap.size∧W.cell? ⟨b,j*4,none⟩=some (.slice (aa j) (ll j) (cc j))∧W.cell? ⟨b,j*4+1,none⟩=some (.bool (s j))∧W.cell? ⟨b,j*4+2,none⟩=some (.slice (bb j) (kk j) (dd j))∧W.cell? ⟨b,j*4+3,none⟩=some (.bool (t j)):=by
 obtain ⟨h1,h2,h3,h4,x,y,z,u,hc⟩:=h.pick;refine ⟨h1,h2,h3,h4,fun j=>Jqp (y j),fun j=>Jqp (u j),fun j=>Jqq (x j),fun j=>Jqq (z j),fun j=>Jht (x j),fun j=>Jqr (x j),fun j=>Jht (z j),fun j=>Jqr (z j),fun j hj=>?_⟩;obtain ⟨hi,b,ea,hb,c0,c1,c2,c3⟩:=hc j hj;obtain ⟨a',l',c',s,b',k',d',t,e,_⟩:=(show JB W _ _ from hi);simp only [Value.agg.injEq,Array.mk.injEq,List.cons.injEq,and_true] at e;obtain ⟨e0,e1,e2,e3⟩:=e;rw [e0,e1,e2,e3] at hi;rw [e0] at c0;rw [e1] at c1;rw [e2] at c2;rw [e3] at c3;dsimp only;rw [e0,e1,e2,e3];exact ⟨hi,b,ea,hb,c0,c1,c2,c3⟩
theorem sign_zero (q:Rat):(q.num.sign == 0)=decide (q=0):=by
 rw [Bool.eq_iff_iff,beq_iff_eq,decide_eq_true_eq,Int.sign_eq_zero_iff_zero,Rat.num_eq_zero]
theorem Ji1 {qs:List Rat} {len k:Nat} (hl:len=qs.length) (hk:k≤len) (h1:∀ j,k≤j→cf qs j=0) (h2:k=0∨cf qs (k - 1)≠0):JG qs=qs.take k∧(JG qs).length=k:=by
 have e:=Jfy (p:=qs) (n:=k) (by omega) h2 h1;exact ⟨e,by rw [e,List.length_take];omega⟩
theorem Jqy (a:Option Addr) (len cap:Nat) (qs:List Rat) (w:World) (h:RowK false w (.slice a len cap) qs) :
 Calls Tryz.prog 23 #[.slice a len cap] w fun e w'=>e=.returned (.slice a (JG qs).length cap)∧RowK false w' (.slice a (JG qs).length cap) (JG qs)∧Below w.heap.size w w':=by
 obtain ⟨hl,hcap,hcm,hlm,s,t,aa,bb,ll,cc,kk,dd,hc⟩:=h.formsF;have HL:=Ja hl;have HC:=Ja hc;have HH:=Ja h;clear hc hl h;go_enter Tryz.func23,Tryz.ntmps23
 go_wp2;go_loopw [3] (fun v wr=>∃ k:Nat,k≤len∧v=.int .i64 (k:Int)∧Hid ((∀ j,k≤j→cf qs j=0)∧Below w.heap.size w wr)) (fun v _=>(intOf v).toNat)
 case atStart=>exact ⟨len,Nat.le_refl _,rfl,Ja ⟨fun j hj=>Jea (by have:=HL.out;omega),Below.refl _ _⟩⟩
 case round=>
  obtain ⟨k,hk,rfl,HR⟩:=hrel;cases k with
  | zero=>
   go_wp2;go_ret;obtain ⟨e1,e2⟩:=Ji1 HL.out (k:=0) (Nat.zero_le _) HR.out.1 (Or.inl rfl);refine ⟨by rw [e2];rfl,?_,HR.out.2⟩;rw [e2,e1];exact (HH.out.below HR.out.2).take (by omega)
  | succ k=>
   obtain ⟨hi,b,rfl,hb,k0,k1,k2,k3⟩:=HC.out k (by omega);have hB:=HR.out.2;have HX:=Ja (hi.below hB);replace k0:=(hB.cell (p:=⟨b,_,none⟩) hb).trans k0;replace k1:=(hB.cell (p:=⟨b,_,none⟩) hb).trans k1;replace k2:=(hB.cell (p:=⟨b,_,none⟩) hb).trans k2;replace k3:=(hB.cell (p:=⟨b,_,none⟩) hb).trans k3;have HS:=Ja (Jhj _ _ wr HX.out);have hz:=sign_zero (cf qs k);clear hi hB HX;by_cases hx:cf qs k=0
   · rw [show decide (cf qs k=0)=true from decide_eq_true hx] at hz;have HZ:=Ja hx;clear hx;generalize (cf qs k).num.sign=n at HS hz;go_wp2_with (go_at_call 56;refine HS.out.mono ?_;rintro e w1 ⟨rfl,hb1⟩)
     go_roundw
     case rel=>
      refine ⟨k,by omega,by simp,Ja ⟨fun j hj=>?_,HR.out.2.trans (hb1.mono HR.out.2.size)⟩⟩;by_cases hjk:j=k
      · rw [hjk];exact HZ.out
      · exact HR.out.1 j (by omega)
     case measure=>simp [intOf]
   · rw [show decide (cf qs k=0)=false from decide_eq_false hx] at hz;have HZ:=Ja hx;clear hx;generalize (cf qs k).num.sign=n at HS hz;go_wp2_with (go_at_call 56;refine HS.out.mono ?_;rintro e w1 ⟨rfl,hb1⟩)
     go_ret;have hB2:=HR.out.2.trans (hb1.mono HR.out.2.size);obtain ⟨e1,e2⟩:=Ji1 HL.out (k:=k+1) (by omega) HR.out.1 (Or.inr HZ.out);refine ⟨by rw [e2];rfl,?_,hB2⟩;rw [e2,e1];exact (HH.out.below hB2).take (by omega)
theorem Jqz (v:Value) (qs:List Rat) (w:World) (h:RowK false w v qs) :
 Calls Tryz.prog 23 #[v] w fun e w'=>∃ u,e=.returned u∧RowK false w' u (JG qs)∧Below w.heap.size w w':=by
 obtain ⟨a,l,c,rfl⟩:=h.form;refine (Jqy a l c qs w h).mono ?_;rintro e w' ⟨rfl,h1,h2⟩;exact ⟨_,rfl,h1,h2⟩
def Jc0 (f:Nat→Rat) (k:Nat):List Rat:=(List.range k).map f
theorem Y8 (f:Nat→Rat) (k:Nat):(Jc0 f k).length=k:=by simp [Jc0]
theorem Jap (f:Nat→Rat) (k:Nat):Jc0 f (k+1)=Jc0 f k++[f k]:=by simp [Jc0,List.range_succ]
theorem Jo4 (f:Nat→Rat) (k i:Nat):cf (Jc0 f k) i=if i<k then f i else 0:=Jgt k f i
end Go.Proofs.YtcahejkcdcjjgaaGreatDoor
