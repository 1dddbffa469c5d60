import Derived.Test.YtcahejkcdcjjgaaGreatDoorK32
import Derived.Test.YtcahejkcdcjjgaaGreatDoorK09
import Derived.Test.YtcahejkcdcjjgaaGreatDoorK20
import Derived.Test.YtcahejkcdcjjgaaGreatDoorK02
import Derived.Test.YtcahejkcdcjjgaaGreatDoorK24
set_option maxRecDepth 100000
set_option maxHeartbeats 16000000
namespace Go.Proofs.YtcahejkcdcjjgaaGreatDoor
open Go.RowKit Go.Shelf
attribute [local go_sem] Oper.semAt_some
def Jjh (r:Bool) (W0:World) (V:World) (o:Value) (qs:List Rat):Prop:=Jbv r W0.heap.size V o qs∧Below W0.heap.size W0 V
theorem Jjh.below {r:Bool} {W0 V V':World} {o:Value} {qs:List Rat} (h:Jjh r W0 V o qs) (hb:Below V.heap.size V V'):Jjh r W0 V' o qs:=⟨h.1.below hb,h.2.trans (hb.mono h.2.size)⟩
theorem Jnd (va vq:Value) (ps:List Rat) (q:Rat) (w:World) (ha:RowK false w va ps) (hq:Jy w vq q) (hps:Sqs ps) (hsq:Sq q) (hlen:ps.length<1099511627776) :
 Calls Tryz.prog 72 #[va,vq] w fun e w'=>∃ u,e=.returned u∧RowK false w' u (Jr (X5 q ps))∧Below w.heap.size w w':=by
 have hmx:Tryz.prog.follows .mixedOrders=true:=by kernel_rfl
 obtain ⟨a,la,ca,rfl⟩:=ha.form;obtain ⟨a8,l8,c8,s8,b8,k8,d8,t8,rfl⟩:=Jy.form hq;obtain ⟨hla,hca,hcma,hlma,s,t,aa,bb,ll,cc,kk,dd,hc⟩:=ha.formsF;have b0:=JH.new w 49 (.slice a8 l8 c8) (.bool s8) (.slice b8 k8 d8) (.bool t8);have hB0:Below w.heap.size w (w.alloc (.cells #[.slice a8 l8 c8,.bool s8,.slice b8 k8 d8,.bool t8] 49)):=(Below.refl _ w).alloc (Nat.le_refl _) _;obtain ⟨W0,hW0⟩:∃ W0,w.alloc (.cells #[.slice a8 l8 c8,.bool s8,.slice b8 k8 d8,.bool t8] 49)=W0:=⟨_,rfl⟩;rw [hW0] at hB0 b0;have HW0:=Ja hW0;have HA:=Ja hc;have HQ:=Ja (hq.below hB0);have HP:=Ja hps;have HSQ:=Ja hsq;have HLA:=Ja hla;have HB0:=Ja hB0;have HN0:=Ja b0;have HLN:=Ja hlen;clear ha hq hps hsq hla hca hcma hc hW0 hlen b0 hB0;go_enter Tryz.func72,Tryz.ntmps72
 go_upto_region 1 with fail
 rw [HW0.out];go_wp2;go_loopw [5,6] (fun o i wr=>∃ k:Nat,k≤la∧i=.int .i64 (k:Int)∧(∃ oa oc,o=.slice oa k oc)∧Hid (Jjh false W0 wr o (XP (fun i=>cf ps i*q) k))) (fun _ i _=>la - (intOf i).toNat)
 case atStart=>exact ⟨0,Nat.zero_le _,rfl,⟨_,_,rfl⟩,Ja ⟨Jbv.nil _ _ _,Below.refl _ _⟩⟩
 case round=>
  obtain ⟨k,hk,rfl,⟨oa,oc,rfl⟩,HR⟩:=hrel;by_cases hlt:k<la
  · have hlt2:(k:Int)<(la:Int):=by omega
    obtain ⟨hi,b,rfl,hb,c0,c1,c2,c3⟩:=HA.out k hlt;have HCL:=Ja (show ∀ V,Below W0.heap.size W0 V→(V.cell? ⟨b,k*4,none⟩=some (.slice (aa k) (ll k) (cc k))∧V.cell? ⟨b,k*4+1,none⟩=some (.bool (s k))∧V.cell? ⟨b,k*4+2,none⟩=some (.slice (bb k) (kk k) (dd k))∧V.cell? ⟨b,k*4+3,none⟩=some (.bool (t k)))∧Jy V (.agg #[.slice (aa k) (ll k) (cc k),.bool (s k),.slice (bb k) (kk k) (dd k),.bool (t k)]) (cf ps k) from fun V h=>by
     have hB:=HB0.out.trans (h.mono HB0.out.size);exact ⟨⟨(hB.cell (p:=⟨b,_,none⟩) hb).trans c0,(hB.cell (p:=⟨b,_,none⟩) hb).trans c1,(hB.cell (p:=⟨b,_,none⟩) hb).trans c2,(hB.cell (p:=⟨b,_,none⟩) hb).trans c3⟩,hi.below hB⟩)
    have HK:=Ja (show k+1≤1099511627776 by have:=HLN.out;have:=HLA.out;omega);clear hi c0 c1 c2 c3 hb;go_wp2_with fail
    have ST0:=HR.out.below ((Below.refl _ wr).drew);refine Jq hmx [[],[],[],[1,2],[3],[],[4,5],[6],[0,7,6],[8,8,0,1,2,3,4,5,6,7,8]] (by kernel_rfl) (by decide)
     (fun D act V=>∃ (t13x t14x t15x t16x t17x t18x t19x t20x t21x t5x:Value),act={ tmps:=#[Value.slice (some ⟨b,0,none⟩) la ca,Value.agg #[Value.slice a8 l8 c8,Value.bool s8,Value.slice b8 k8 d8,Value.bool t8],undef,.pointer (some ⟨w.heap.size,0,none⟩),Value.slice none 0 0,t5x,Value.int IntKind.i64 ↑k,Value.int IntKind.i64 ↑k,Value.slice (some ⟨b,0,none⟩) la ca,Value.int IntKind.i64 ↑la,Value.bool true,u11,u12,t13x,t14x,t15x,t16x,t17x,t18x,t19x,t20x,t21x,undef,undef],defers:=[] }∧Hid ((D 0=true→t13x=.slice oa k oc)∧(D 1=true→t14x=.slice (some ⟨b,0,none⟩) la ca)∧(D 2=true→t15x=.int .i64 (k:Int))∧(D 3=true→t16x=.pointer (some ⟨b,k*4,none⟩))∧(D 4=true→D 8=false→Jy V t17x (cf ps k))∧(D 5=true→D 8=false→Jy V t18x q)∧(D 6=true→D 8=false→Jy V t19x (cf ps k*q))∧(D 7=true→∃ a l c,t20x=.slice a l c)∧(D 8=true→∃ a l c,t21x=.slice a l c)∧((D 9=false→t5x=Value.slice oa k oc)∧(D 9=true→t5x=t21x)))∧Hid ((D 7=false→Jjh false W0 V (.slice oa k oc) (XP (fun i=>cf ps i*q) k))∧(D 7=true→D 8=false→∃ (V0:World) (x y z u:Value),V=V0.alloc (.cells #[x,y,z,u] (tyK false))∧(Jjh false W0 V0 (.slice oa k oc) (XP (fun i=>cf ps i*q) k))∧IsK false V0 (.agg #[x,y,z,u]) (cf ps k*q)∧t20x=.slice (some ⟨V0.heap.size,0,none⟩) 1 1)∧(D 8=true→Jjh false W0 V t21x (XP (fun i=>cf ps i*q) k++[cf ps k*q]))))
     ⟨_,_,_,_,_,_,_,_,_,_,rfl,Ja ⟨by simp,by simp,by simp,by simp,by simp,by simp,by simp,by simp,by simp,⟨fun _=>rfl,by simp⟩⟩,Ja ⟨fun _=>ST0,by simp,by simp⟩⟩ ?step1 ?fin1
    case step1=>
     rintro D act V i ds hcl hi hds hDi ⟨t13x,t14x,t15x,t16x,t17x,t18x,t19x,t20x,t21x,t5x,rfl,GG,SS0⟩;have hi6:i<10:=(List.getElem?_eq_some_iff.1 hi).1;obtain rfl | rfl | rfl | rfl | rfl | rfl | rfl | rfl | rfl | rfl:i=0∨i=1∨i=2∨i=3∨i=4∨i=5∨i=6∨i=7∨i=8∨i=9:=by omega
     all_goals
      simp only [List.getElem?_cons_zero,List.getElem?_cons_succ,Option.some.injEq] at hi;subst hi
     · have hf0:D 8=false:=nyt hcl rfl (by simp) hDi;have ho9:D 9=false:=nyt hcl rfl (by simp) hDi;obtain rfl:=GG.out.2.2.2.2.2.2.2.2.2.1 ho9;clear hds;refine Jd rfl rfl (fun K hK=>?_);go_simp;obtain ⟨_,G1,G2,G3,G4,G5,G6,G7,G8,_⟩:=GG.out;exact hK _ _ ⟨_,_,_,_,_,_,_,_,_,_,rfl,Ja ⟨fun _=>rfl,G1,G2,G3,G4,G5,G6,G7,G8,⟨fun _=>rfl,fun h=>by simp [ho9] at h⟩⟩,Ja ⟨fun h=>SS0.out.1 (by simpa using h),fun h h2=>SS0.out.2.1 (by simpa using h) (by simpa using h2),fun h=>SS0.out.2.2 (by simpa using h)⟩⟩
     · have hf0:D 8=false:=by
        cases h:D 8 with
        | false=>rfl
        | true=>rw [(hcl 3 _ rfl (hcl 4 _ rfl (hcl 6 _ rfl (hcl 7 _ rfl (hcl 8 _ rfl h 7 (by simp)) 6 (by simp)) 4 (by simp)) 3 (by simp)) 1 (by simp))] at hDi;cases hDi
       have hg0:D 7=false:=by
        cases h:D 7 with
        | false=>rfl
        | true=>rw [(hcl 3 _ rfl (hcl 4 _ rfl (hcl 6 _ rfl (hcl 7 _ rfl h 6 (by simp)) 4 (by simp)) 3 (by simp)) 1 (by simp))] at hDi;cases hDi
       have hS0:=SS0.out.1 hg0;clear hds;refine Jd rfl rfl (fun K hK=>?_);go_simp;exact hK _ _ ⟨_,_,_,_,_,_,_,_,_,_,rfl,Ja ⟨GG.out.1,fun _=>rfl,GG.out.2.2.1,GG.out.2.2.2.1,GG.out.2.2.2.2.1,GG.out.2.2.2.2.2.1,GG.out.2.2.2.2.2.2.1,GG.out.2.2.2.2.2.2.2.1,GG.out.2.2.2.2.2.2.2.2.1,⟨fun h=>GG.out.2.2.2.2.2.2.2.2.2.1 (by simpa using h),fun h=>GG.out.2.2.2.2.2.2.2.2.2.2 (by simpa using h)⟩⟩,Ja ⟨fun _=>hS0,fun h=>by simp [hg0] at h,fun h=>by simp [hf0] at h⟩⟩
     · have hf0:D 8=false:=by
        cases h:D 8 with
        | false=>rfl
        | true=>rw [(hcl 3 _ rfl (hcl 4 _ rfl (hcl 6 _ rfl (hcl 7 _ rfl (hcl 8 _ rfl h 7 (by simp)) 6 (by simp)) 4 (by simp)) 3 (by simp)) 2 (by simp))] at hDi;cases hDi
       have hg0:D 7=false:=by
        cases h:D 7 with
        | false=>rfl
        | true=>rw [(hcl 3 _ rfl (hcl 4 _ rfl (hcl 6 _ rfl (hcl 7 _ rfl h 6 (by simp)) 4 (by simp)) 3 (by simp)) 2 (by simp))] at hDi;cases hDi
       have hS0:=SS0.out.1 hg0;clear hds;refine Jd rfl rfl (fun K hK=>?_);go_simp;exact hK _ _ ⟨_,_,_,_,_,_,_,_,_,_,rfl,Ja ⟨GG.out.1,GG.out.2.1,fun _=>rfl,GG.out.2.2.2.1,GG.out.2.2.2.2.1,GG.out.2.2.2.2.2.1,GG.out.2.2.2.2.2.2.1,GG.out.2.2.2.2.2.2.2.1,GG.out.2.2.2.2.2.2.2.2.1,⟨fun h=>GG.out.2.2.2.2.2.2.2.2.2.1 (by simpa using h),fun h=>GG.out.2.2.2.2.2.2.2.2.2.2 (by simpa using h)⟩⟩,Ja ⟨fun _=>hS0,fun h=>by simp [hg0] at h,fun h=>by simp [hf0] at h⟩⟩
     · have hf0:D 8=false:=by
        cases h:D 8 with
        | false=>rfl
        | true=>rw [(hcl 4 _ rfl (hcl 6 _ rfl (hcl 7 _ rfl (hcl 8 _ rfl h 7 (by simp)) 6 (by simp)) 4 (by simp)) 3 (by simp))] at hDi;cases hDi
       have hg0:D 7=false:=by
        cases h:D 7 with
        | false=>rfl
        | true=>rw [(hcl 4 _ rfl (hcl 6 _ rfl (hcl 7 _ rfl h 6 (by simp)) 4 (by simp)) 3 (by simp))] at hDi;cases hDi
       have hS0:=SS0.out.1 hg0;obtain rfl:=GG.out.2.1 (hds 1 (by simp));obtain rfl:=GG.out.2.2.1 (hds 2 (by simp));clear hds;refine Jd rfl rfl (fun K hK=>?_);go_simp;exact hK _ _ ⟨_,_,_,_,_,_,_,_,_,_,rfl,Ja ⟨GG.out.1,fun _=>rfl,fun _=>rfl,fun _=>rfl,GG.out.2.2.2.2.1,GG.out.2.2.2.2.2.1,GG.out.2.2.2.2.2.2.1,GG.out.2.2.2.2.2.2.2.1,GG.out.2.2.2.2.2.2.2.2.1,⟨fun h=>GG.out.2.2.2.2.2.2.2.2.2.1 (by simpa using h),fun h=>GG.out.2.2.2.2.2.2.2.2.2.2 (by simpa using h)⟩⟩,Ja ⟨fun _=>hS0,fun h=>by simp [hg0] at h,fun h=>by simp [hf0] at h⟩⟩
     · have hf0:D 8=false:=by
        cases h:D 8 with
        | false=>rfl
        | true=>rw [(hcl 6 _ rfl (hcl 7 _ rfl (hcl 8 _ rfl h 7 (by simp)) 6 (by simp)) 4 (by simp))] at hDi;cases hDi
       have hg0:D 7=false:=by
        cases h:D 7 with
        | false=>rfl
        | true=>rw [(hcl 6 _ rfl (hcl 7 _ rfl h 6 (by simp)) 4 (by simp))] at hDi;cases hDi
       have hS0:=SS0.out.1 hg0;obtain rfl:=GG.out.2.2.2.1 (hds 3 (by simp));obtain ⟨⟨e0,e1,e2,e3⟩,hr⟩:=HCL.out V hS0.2;clear hds;refine Jd rfl rfl (fun K hK=>?_);go_simp;exact hK _ _ ⟨_,_,_,_,_,_,_,_,_,_,rfl,Ja ⟨GG.out.1,GG.out.2.1,GG.out.2.2.1,fun _=>rfl,fun _ _=>hr,GG.out.2.2.2.2.2.1,GG.out.2.2.2.2.2.2.1,GG.out.2.2.2.2.2.2.2.1,GG.out.2.2.2.2.2.2.2.2.1,⟨fun h=>GG.out.2.2.2.2.2.2.2.2.2.1 (by simpa using h),fun h=>GG.out.2.2.2.2.2.2.2.2.2.2 (by simpa using h)⟩⟩,Ja ⟨fun _=>hS0,fun h=>by simp [hg0] at h,fun h=>by simp [hf0] at h⟩⟩
     · have hf0:D 8=false:=by
        cases h:D 8 with
        | false=>rfl
        | true=>rw [(hcl 6 _ rfl (hcl 7 _ rfl (hcl 8 _ rfl h 7 (by simp)) 6 (by simp)) 5 (by simp))] at hDi;cases hDi
       have hg0:D 7=false:=by
        cases h:D 7 with
        | false=>rfl
        | true=>rw [(hcl 6 _ rfl (hcl 7 _ rfl h 6 (by simp)) 5 (by simp))] at hDi;cases hDi
       have hS0:=SS0.out.1 hg0;have n0:=HN0.out.below hS0.2;have e0:=n0.c0;have e1:=n0.c1;have e2:=n0.c2;have e3:=n0.c3;clear hds;refine Jd rfl rfl (fun K hK=>?_);go_simp;exact hK _ _ ⟨_,_,_,_,_,_,_,_,_,_,rfl,Ja ⟨GG.out.1,GG.out.2.1,GG.out.2.2.1,GG.out.2.2.2.1,GG.out.2.2.2.2.1,fun _ _=>HQ.out.below hS0.2,GG.out.2.2.2.2.2.2.1,GG.out.2.2.2.2.2.2.2.1,GG.out.2.2.2.2.2.2.2.2.1,⟨fun h=>GG.out.2.2.2.2.2.2.2.2.2.1 (by simpa using h),fun h=>GG.out.2.2.2.2.2.2.2.2.2.2 (by simpa using h)⟩⟩,Ja ⟨fun _=>hS0,fun h=>by simp [hg0] at h,fun h=>by simp [hf0] at h⟩⟩
     · have hf0:D 8=false:=nyt hcl rfl (by simp) hDi;have hg0:D 7=false:=nyt hcl rfl (by simp) hDi;have hS0:=SS0.out.1 hg0;have h0:=GG.out.2.2.2.2.1 (hds 4 (by simp)) hf0;have h1:=GG.out.2.2.2.2.2.1 (hds 5 (by simp)) hf0;clear hds;have HC:=Ja (Jph _ _ (cf ps k) q V h0 h1 (HP.out.at k) HSQ.out);clear h0 h1;refine Jd rfl rfl (fun K hK=>?_);go_simp;go_wp2_with (go_at_call 73;refine HC.out.mono ?_;rintro e w5 ⟨v5,rfl,hv5,hb5⟩)
       exact ⟨_,_,_,_,_,_,_,_,_,_,rfl,Ja ⟨GG.out.1,GG.out.2.1,GG.out.2.2.1,GG.out.2.2.2.1,fun h h2=>(GG.out.2.2.2.2.1 h h2).below hb5,fun h h2=>(GG.out.2.2.2.2.2.1 h h2).below hb5,fun _ _=>hv5,GG.out.2.2.2.2.2.2.2.1,GG.out.2.2.2.2.2.2.2.2.1,⟨fun h=>GG.out.2.2.2.2.2.2.2.2.2.1 (by simpa using h),fun h=>GG.out.2.2.2.2.2.2.2.2.2.2 (by simpa using h)⟩⟩,Ja ⟨fun _=>hS0.below hb5,fun h=>by simp [hg0] at h,fun h=>by simp [hf0] at h⟩⟩
     · have hf0:D 8=false:=nyt hcl rfl (by simp) hDi;have hS0:=SS0.out.1 hDi;have h0:=GG.out.2.2.2.2.2.2.1 (hds 6 (by simp)) hf0;obtain ⟨a9,l9,c9,s9,b9,k9,d9,t9,rfl⟩:=Jy.form h0;clear hds;refine Jd rfl rfl (fun K hK=>?_);go_simp;exact hK _ _ ⟨_,_,_,_,_,_,_,_,_,_,rfl,Ja ⟨GG.out.1,GG.out.2.1,GG.out.2.2.1,GG.out.2.2.2.1,fun h h2=>(GG.out.2.2.2.2.1 h h2).below ((Below.refl _ V).alloc (Nat.le_refl _) _),fun h h2=>(GG.out.2.2.2.2.2.1 h h2).below ((Below.refl _ V).alloc (Nat.le_refl _) _),fun h h2=>(GG.out.2.2.2.2.2.2.1 h h2).below ((Below.refl _ V).alloc (Nat.le_refl _) _),fun _=>⟨_,_,_,rfl⟩,GG.out.2.2.2.2.2.2.2.2.1,⟨fun h=>GG.out.2.2.2.2.2.2.2.2.2.1 (by simpa using h),fun h=>GG.out.2.2.2.2.2.2.2.2.2.2 (by simpa using h)⟩⟩,Ja ⟨fun h=>by simp at h,fun _ _=>⟨V,_,_,_,_,rfl,hS0,h0,rfl⟩,fun h=>by simp [hf0] at h⟩⟩
     · obtain ⟨V0,x9,y9,z9,u9,rfl,hS0,hq9,hb9⟩:=SS0.out.2.1 (hds 7 (by simp)) hDi;obtain rfl:=GG.out.1 (hds 0 (by simp));have ho9:D 9=false:=nyt hcl rfl (by simp) hDi;have hds7:=hds 7 (by simp);obtain ⟨v5,w5,hap,ho5,hk5,hb5⟩:=XO false W0.heap.size V0 _ _ hS0.1 hq9 (by rw [JV];exact HK.out) hS0.2.size;dsimp only [tsK,tyK] at hap;subst hb9;obtain ⟨a6,c6,e6,_⟩:=ho5.form;subst e6;clear hds;refine Jd rfl rfl (fun K hK=>?_);refine Lib.wp_append_run _ _ _ 30 30 rfl _ _ rfl rfl _ _ hap (hK _ _ ?_);exact ⟨_,_,_,_,_,_,_,_,_,_,rfl,Ja ⟨fun _=>rfl,GG.out.2.1,GG.out.2.2.1,GG.out.2.2.2.1,fun _ h=>by simp at h,fun _ h=>by simp at h,fun _ h=>by simp at h,GG.out.2.2.2.2.2.2.2.1,fun _=>⟨_,_,_,rfl⟩,⟨fun h=>GG.out.2.2.2.2.2.2.2.2.2.1 (by simpa using h),fun h=>by simp [ho9] at h⟩⟩,Ja ⟨fun h=>by simp [hds7] at h,fun _ h=>by simp at h,fun _=>⟨ho5,hb5 _ _ (Nat.le_refl _) hS0.2⟩⟩⟩
     · clear hds;refine Jd rfl rfl (fun K hK=>?_);go_simp;obtain ⟨G0,G1,G2,G3,G4,G5,G6,G7,G8,_⟩:=GG.out;exact hK _ _ ⟨_,_,_,_,_,_,_,_,_,_,rfl,Ja ⟨G0,G1,G2,G3,G4,G5,G6,G7,G8,⟨fun h=>by simp at h,fun _=>rfl⟩⟩,Ja ⟨fun h=>SS0.out.1 (by simpa using h),fun h h2=>SS0.out.2.1 (by simpa using h) (by simpa using h2),fun h=>SS0.out.2.2 (by simpa using h)⟩⟩
    case fin1=>
     rintro D act V hDD ⟨t13x,t14x,t15x,t16x,t17x,t18x,t19x,t20x,t21x,t5x,rfl,GG,SS0⟩;have HO:=Ja (SS0.out.2.2 (hDD 8 (by decide)));obtain rfl:=GG.out.2.2.2.2.2.2.2.2.2.2 (hDD 9 (by decide));clear GG SS0 hDD;obtain ⟨a9,c9,e9,_⟩:=HO.out.1.form;rw [←Y1,JV] at e9;subst e9;go_wp2_with fail
     go_roundw
     case rel=>exact ⟨k+1,by omega,by go_num,⟨a9,c9,rfl⟩,Ja (by rw [Y1];exact HO.out)⟩
     case measure=>simp [intOf];omega
  · have hkl:k=la:=by omega
    subst hkl;have HT:=Ja (Jh8 _ _ wr (HR.out.1.row (by rw [JV];omega)));have HE:=Ja (show Jr (XP (fun i=>cf ps i*q) k)=Jr (X5 q ps) from Yy fun j=>by
     rw [Jfs,Jb2];split
     · rfl
     · rw [XG (by have:=HLA.out;omega)];grind)
    rw [HE.out] at HT;go_wp2_with (go_at_call 23;refine HT.out.mono ?_;clear HT;rintro e w1 ⟨u1,rfl,hu1,hb1⟩;obtain ⟨a7,l7,c7,rfl⟩:=hu1.form)
    go_ret;exact ⟨_,rfl,hu1,(HB0.out.trans (HR.out.2.mono HB0.out.size)).trans (hb1.mono (Nat.le_trans HB0.out.size HR.out.2.size))⟩
theorem Jne {ps:List Rat} (h:Sqs ps):Sqs (Jr (X5 (-1) ps)):=Sqs.of fun i=>by
 rw [YV,Jb2,show cf ps i*-1=-(cf ps i) from by grind];exact (h.at i).neg
theorem Jcd (va vb:Value) (ps qs:List Rat) (w:World) (ha:RowK false w va ps) (hb:RowK false w vb qs) (hps:Sqs ps) (hqs:Sqs qs) (hlen:ps.length<1099511627776∧qs.length<1099511627776) :
 Calls Tryz.prog 31 #[va,vb] w fun e w'=>∃ u,e=.returned u∧RowK false w' u (Jqb ps qs)∧Below w.heap.size w w':=by
 obtain ⟨a,la,ca,rfl⟩:=ha.form;obtain ⟨b,lb,cb,rfl⟩:=hb.form;have HE:=Ja (show Jns ps (Jr (X5 (-1) qs))=Jqb ps qs from Yy fun j=>by rw [Jb1,YV,Jb1]);have H1:=Ja (Jdi (-1) (by omega) (by omega) w);have H2:=Ja (fun (V:World) (u:Value) (h:Below w.heap.size w V) (hu:Jy V u ((-1:Int):Rat))=>Jnd _ u qs (-1) V (hb.below h) hu hqs (Sq.of (k:=1) ⟨(Sm.one 1 (by omega)).neg,Sm.one 1 (by omega)⟩ (by omega)) hlen.2);have H3:=Ja (fun (V:World) (u:Value) (h:Below w.heap.size w V) (hu:RowK false V u (Jr (X5 (-1) qs)))=>Jcu _ u ps _ V (ha.below h) hu hps (Jne hqs) ⟨hlen.1,Nat.lt_of_le_of_lt (JE _) (by unfold X5;rw [List.length_map];exact hlen.2)⟩);rw [HE.out] at H3;clear ha hb hps hqs hlen;go_enter Tryz.func31,Tryz.ntmps31
 go_wp2_with (first
  | (go_at_call 62;refine H1.out.mono ?_;clear H1;rintro e w1 ⟨u1,rfl,hu1,hb1⟩)
  | (go_at_call 72;refine (H2.out _ _ hb1 hu1).mono ?_;clear H2;rintro e w2 ⟨u2,rfl,hu2,hb2⟩;have hq2:=Below.then hb1 hb2)
  | (go_at_call 30;refine (H3.out _ _ hq2 hu2).mono ?_;clear H3;rintro e w3 ⟨u3,rfl,hu3,hb3⟩;have hq3:=Below.then hq2 hb3;obtain ⟨a7,l7,c7,rfl⟩:=hu3.form))
 go_ret;exact ⟨_,rfl,hu3,hq3⟩
theorem Jdj (vq:Value) (n:Nat) (q:Rat) (w:World) (hq:Jy w vq q) (hn:n<1099511627775) :
 Calls Tryz.prog 74 #[.int .i64 (n:Int),vq] w fun e w'=>∃ u,e=.returned u∧RowK false w' u (Jr (upR n [q]))∧Below w.heap.size w w':=by
 obtain ⟨a8,l8,c8,s8,b8,k8,d8,t8,rfl⟩:=Jy.form hq;have b0:=JH.new w 49 (.slice a8 l8 c8) (.bool s8) (.slice b8 k8 d8) (.bool t8);have hB0:Below w.heap.size w (w.alloc (.cells #[.slice a8 l8 c8,.bool s8,.slice b8 k8 d8,.bool t8] 49)):=(Below.refl _ w).alloc (Nat.le_refl _) _;obtain ⟨W0,hW0⟩:∃ W0,w.alloc (.cells #[.slice a8 l8 c8,.bool s8,.slice b8 k8 d8,.bool t8] 49)=W0:=⟨_,rfl⟩;rw [hW0] at hB0 b0;have HW0:=Ja hW0;have HQ:=Ja (hq.below hB0);have HB0:=Ja hB0;have HN0:=Ja b0;clear hq hW0 b0 hB0;go_enter Tryz.func74,Tryz.ntmps74
 go_upto_region 1 with fail
 rw [HW0.out];go_wp2;go_loopw [5,6] (fun o i wr=>∃ k:Nat,k≤n∧i=.int .i64 (k:Int)∧(∃ oa oc,o=.slice oa k oc)∧Hid (Jjh false W0 wr o (XP (fun _=>0) k))) (fun _ i _=>n - (intOf i).toNat)
 case atStart=>exact ⟨0,Nat.zero_le _,rfl,⟨_,_,rfl⟩,Ja ⟨Jbv.nil _ _ _,Below.refl _ _⟩⟩
 case round=>
  obtain ⟨k,hk,rfl,⟨oa,oc,rfl⟩,HR⟩:=hrel;by_cases hlt:k<n
  · have hlt2:(k:Int)<(n:Int):=by omega
    have H1:=Ja (Jdi 0 (by omega) (by omega) wr);have HK:=Ja (show k+1≤1099511627776 by omega);go_wp2_with (first
     | (go_at_call 62;refine H1.out.mono ?_;clear H1;rintro e w3 ⟨u3,rfl,hu3,hq3⟩;obtain ⟨a91,l91,c91,s91,b91,k91,d91,t91,rfl⟩:=Jy.form hu3;obtain ⟨v9,w9,hap,ho9,hk9,hb9⟩:=XO false W0.heap.size w3 _ _ (HR.out.1.below hq3) hu3 (by rw [JV];exact HK.out) (by have:=HR.out.2.size;have:=hq3.size;omega);have HO9:=Ja ho9;have HB9:=Ja (hb9 W0.heap.size W0 (Nat.le_refl _) (HR.out.2.trans (hq3.mono HR.out.2.size)));clear ho9 hk9 hb9 hu3)
     | (at_builtin;refine Lib.wpList_append_run _ rfl _ _ 30 30 rfl _ _ rfl rfl _ _ hap ?_))
    obtain ⟨a9,c9,e9,_⟩:=HO9.out.form;go_roundw
    case rel=>
     refine ⟨k+1,by omega,by go_num,⟨a9,c9,?_⟩,Ja ⟨?_,HB9.out⟩⟩
     · rw [List.length_append,JV] at e9;exact e9
     · rw [Y1];exact HO9.out
    case measure=>simp [intOf];omega
  · have hkl:k=n:=by omega
    subst hkl;have n0:=HN0.out.below HR.out.2;have e0:=n0.c0;have e1:=n0.c1;have e2:=n0.c2;have e3:=n0.c3;obtain ⟨v9,w9,hap,ho9,hk9,hb9⟩:=XO false W0.heap.size wr _ _ HR.out.1 (HQ.out.below HR.out.2) (by rw [JV];omega) HR.out.2.size;dsimp only [tsK,tyK] at hap;have HE:=Ja (show Jr (XP (fun _=>0) k++[q])=Jr (upR k [q]) from Yy fun j=>by
     rw [Jhd,JV,Jhh,Jfs];by_cases h1:j=k
     · rw [if_pos h1,if_pos (by omega),h1,Nat.sub_self,Jat]
     · rw [if_neg h1];by_cases h2:k≤j
       · rw [if_pos h2,XG (by simp;omega)];split <;> rfl
       · rw [if_neg h2];split <;> rfl)
    have hB9:=hb9 W0.heap.size W0 (Nat.le_refl _) HR.out.2;have HT:=Ja (Jh8 _ _ w9 (ho9.row (by rw [List.length_append,JV];simp;omega)));rw [HE.out] at HT;clear ho9 hk9 hb9 n0;go_wp2_with (first
     | (at_builtin;refine Lib.wpList_append_run _ rfl _ _ 30 30 rfl _ _ rfl rfl _ _ hap ?_)
     | (go_at_call 23;refine HT.out.mono ?_;clear HT;rintro e w1 ⟨u1,rfl,hu1,hb1⟩;obtain ⟨a7,l7,c7,rfl⟩:=hu1.form))
    go_ret;exact ⟨_,rfl,hu1,(HB0.out.trans (hB9.mono HB0.out.size)).trans (hb1.mono (Nat.le_trans HB0.out.size hB9.size))⟩
def RdB (W:World) (R:Nat) (s:ByteArray) (I E A:Int):Prop:=W.heap[R]?=some (.cells #[.string s,.int .i64 I,.int .i64 E,.int .i64 A] 82 (0,0))
section
variable {W W':World} {R:Nat} {s:ByteArray} {I E A:Int}
theorem RdB.lt (h:RdB W R s I E A):R<W.heap.size:=(Array.getElem?_eq_some_iff.1 h).1
theorem RdB.c0 (h:RdB W R s I E A):W.cell? ⟨R,0,none⟩=some (.string s):=by simp [World.cell?,show W.heap[R]?=_ from h]
theorem RdB.c1 (h:RdB W R s I E A):W.cell? ⟨R,1,none⟩=some (.int .i64 I):=by simp [World.cell?,show W.heap[R]?=_ from h]
theorem RdB.c2 (h:RdB W R s I E A):W.cell? ⟨R,2,none⟩=some (.int .i64 E):=by simp [World.cell?,show W.heap[R]?=_ from h]
theorem RdB.c3 (h:RdB W R s I E A):W.cell? ⟨R,3,none⟩=some (.int .i64 A):=by simp [World.cell?,show W.heap[R]?=_ from h]
theorem RdB.f (h:RdB W R s I E A) (o:Nat):W.frozen? ⟨R,o,none⟩=false:=by simp [World.frozen?,show W.heap[R]?=_ from h]
theorem RdB.below (h:RdB W R s I E A) (hb:Below W.heap.size W W'):RdB W' R s I E A:=(hb.block R h.lt).trans h
theorem RdB.set1 (h:RdB W R s I E A) (x:Int):RdB (W.setCell ⟨R,1,none⟩ (.int .i64 x)) R s x E A:=by
 have:=JR (o:=1) h (.int .i64 x);exact this
theorem RdB.set2 (h:RdB W R s I E A) (x:Int):RdB (W.setCell ⟨R,2,none⟩ (.int .i64 x)) R s I x A:=by
 have:=JR (o:=2) h (.int .i64 x);exact this
theorem RdB.set3 (h:RdB W R s I E A) (x:Int):RdB (W.setCell ⟨R,3,none⟩ (.int .i64 x)) R s I E x:=by
 have:=JR (o:=3) h (.int .i64 x);exact this
theorem RdB.drewN (h:RdB W R s I E A) (n:Nat):RdB (W.drewN n) R s I E A:=h
end
theorem Jv (W:World) (n:Nat) (r:Option Nat):W.grownBy (W.drewN n) r:=⟨rfl,rfl,rfl,Nat.le_refl _,fun _ _ _=>rfl⟩
theorem XQ (R:Nat) (s:ByteArray) (I E A e p:Int) (w:World) (h:RdB w R s I E A) :
 Calls Tryz.prog 48 #[.pointer (some ⟨R,0,none⟩),.int .i64 e,.int .i64 p] w fun r w'=>r=.returned (.tuple #[])∧RdB w' R s I (if E=0 then e else E) (if E=0 then p else A)∧w.grownBy w' (some R):=by
 have c2:=h.c2;have f2:=h.f 2;have f3:=h.f 3;have c3:=h.c3;by_cases hE:E=0
 · rw [if_pos hE,if_pos hE];go_enter Tryz.func48,Tryz.ntmps48
   go_wp2;go_end0;exact ⟨rfl,(h.set2 e).set3 p,Jf (JB w R 2 _) (JB _ R 3 _)⟩
 · rw [if_neg hE,if_neg hE];have hb:(E == 0)=false:=by rw [beq_eq_false_iff_ne];exact hE
   go_enter Tryz.func48,Tryz.ntmps48
   go_wp2;go_end0;exact ⟨rfl,h,Yh _ _⟩
theorem Jek {c d:UInt8} (h:c≠d):((c.toNat:Int) == (d.toNat:Int))=false:=by
 rw [beq_eq_false_iff_ne];intro e;exact h (UInt8.toNat_inj.1 (by omega))
theorem Jg (s:ByteArray):(Jc s).length=s.size:=by unfold Jc;simp
theorem Jce {f:UInt8→Bool} {s:ByteArray} {I j:Nat} (h1:I≤j) (h2:j≤s.size) (h3:∀ k (hk:k<s.size),I≤k→k<j→f s[k]=true) (h4:∀ hj:j<s.size,f s[j]=false):YF f (Jc s) I=j:=
 Jc2 h1 (by rw [Jg];exact h2) (fun k hk g1 g2=>h3 k (by rwa [Jg] at hk) g1 g2) (fun hk=>h4 (by rwa [Jg] at hk))
theorem Jft {s:ByteArray} {j:Nat} {c:UInt8} (hj:j<s.size):JK (Jc s) j c=(s[j] == c):=by
 unfold JK;rw [List.getElem?_eq_getElem (by rw [Jg];exact hj)];rfl
theorem Jji {s:ByteArray} {j:Nat} {c:UInt8} (hj:s.size≤j):JK (Jc s) j c=false:=by
 unfold JK;rw [List.getElem?_eq_none (by rw [Jg];exact hj)];rfl
def rdI (W:World) (R:Nat):Nat:=(intOf ((W.cell? ⟨R,1,none⟩).getD undef)).toNat
theorem Xo {W:World} {R:Nat} {s:ByteArray} {I:Nat} {E A:Int} (h:RdB W R s I E A):rdI W R=I:=by
 unfold rdI;rw [h.c1];simp [intOf]
theorem Yj (R:Nat) (s:ByteArray) (I:Nat) (E A:Int) (c:UInt8) (w:World) (h:RdB w R s I E A) (hI:I≤s.size) (hs:s.size≤300) :
 Calls Tryz.prog 47 #[.pointer (some ⟨R,0,none⟩),.int .u8 (c.toNat:Int)] w fun r w'=>r=.returned (.bool (decide (E=0) && JK (Jc s) (skB (Jc s) I) c))∧RdB w' R s (skB (Jc s) I:Nat) E A∧w.grownBy w' (some R):=by
 have HH:=Ja h;clear h;go_enter Tryz.func47,Tryz.ntmps47
 go_wp2;go_loopw [5] (fun _ wr=>∃ j:Nat,I≤j∧j≤s.size∧Hid (RdB wr R s j E A∧w.grownBy wr (some R)∧∀ k (hk:k<s.size),I≤k→k<j→s[k]=32)) (fun _ wr=>s.size - rdI wr R)
 case atStart=>exact ⟨I,Nat.le_refl _,hI,Ja ⟨HH.out,Yh _ _,fun k _ h1 h2=>by omega⟩⟩
 case round=>
  obtain ⟨j,h1,h2,HR⟩:=hrel;have c0:=HR.out.1.c0;have c1:=HR.out.1.c1;have c2:=HR.out.1.c2;have f1:=HR.out.1.f 1;by_cases hlt:j<s.size
  · have hlt2:(j:Int)<(s.size:Int):=by omega
    have hj0:(0:Int)≤(j:Int):=by omega
    by_cases h32:s[j]=32
    · have hb:((s[j].toNat:Int) == 32)=true:=by rw [h32];rfl
      have H32:=Ja h32;clear h32;go_wp2_with fail
      go_quiet (fail)
      go_wp2;go_roundw
      case rel=>
       refine ⟨j+1,by omega,by omega,Ja ⟨?_,Jf (Jf HR.out.2.1 (Jv _ _ _)) (JB _ R 1 _),fun k hk g1 g2=>?_⟩⟩
       · have:=(HR.out.1.drewN nq).set1 ((j:Int)+1);rw [show ((j:Int)+1)=((j+1:Nat):Int) from by omega] at this;exact this
       · by_cases e:k=j
         · subst e;exact H32.out
         · exact HR.out.2.2 k hk g1 (by omega)
      case measure=>
       have e1:=Xo HR.out.1;have e2:rdI ((wr.drewN nq).setCell ⟨R,1,none⟩ (.int .i64 ((j:Int)+1))) R=j+1:=by
        have:=(HR.out.1.drewN nq).set1 ((j:Int)+1);rw [show ((j:Int)+1)=((j+1:Nat):Int) from by omega] at this ⊢;exact Xo this
       show s.size - rdI ((wr.drewN nq).setCell ⟨R,1,none⟩ (.int .i64 ((j:Int)+1))) R<s.size - rdI wr R;rw [e1,e2];omega
    · have hb:((s[j].toNat:Int) == 32)=false:=Jek (d:=32) h32;have HSK:=Ja (show skB (Jc s) I=j from Jce h1 h2 (fun k hk g1 g2=>by rw [HR.out.2.2 k hk g1 g2];rfl) (fun _=>beq_eq_false_iff_ne.2 h32));have HIS:=Ja (Jft (s:=s) (c:=c) hlt);clear h32;go_wp2_with fail
      go_quiet (fail)
      go_wp2;have HG:=Ja (show w.grownBy (wr.drewN nq) (some R) from Jf HR.out.2.1 (Jv _ _ _));have HD:=Ja (HR.out.1.drewN nq);have c0':=HD.out.c0;have c1':=HD.out.c1;have c2':=HD.out.c2;by_cases hE:E=0
      · have hEb:(E == 0)=true:=by rw [hE];rfl
        by_cases hc:s[j]=c
        · have hcb:((s[j].toNat:Int) == (c.toNat:Int))=true:=by rw [hc];exact beq_self_eq_true _
          have HF:=Ja (show (decide (E=0) && (s[j] == c))=true by rw [hE,hc];simp);clear hc hE;go_quiet (fail)
          go_wp2;go_ret;exact ⟨by rw [HSK.out,HIS.out,HF.out];rfl,by rw [HSK.out];exact HD.out.drewN _,Jf HG.out (Jv _ _ _)⟩
        · have hcb:((s[j].toNat:Int) == (c.toNat:Int))=false:=Jek hc;have HF:=Ja (show (decide (E=0) && (s[j] == c))=false by rw [beq_eq_false_iff_ne.2 hc,Bool.and_false]);clear hc hE;go_quiet (fail)
          go_wp2;go_ret;exact ⟨by rw [HSK.out,HIS.out,HF.out];rfl,by rw [HSK.out];exact HD.out.drewN _,Jf HG.out (Jv _ _ _)⟩
      · have hEb:(E == 0)=false:=by rw [beq_eq_false_iff_ne];exact hE
        have HF:=Ja (show (decide (E=0) && (s[j] == c))=false by rw [decide_eq_false hE,Bool.false_and]);clear hE;go_quiet (fail)
        go_wp2;go_ret;exact ⟨by rw [HSK.out,HIS.out,HF.out];rfl,by rw [HSK.out];exact HD.out.drewN _,Jf HG.out (Jv _ _ _)⟩
  · have hje:j=s.size:=by omega
    have hd:decide (j<s.size)=false:=decide_eq_false (by omega);have HSK:=Ja (show skB (Jc s) I=j from Jce h1 h2 (fun k hk g1 g2=>by rw [HR.out.2.2 k hk g1 g2];rfl) (fun h=>by omega));have HIS:=Ja (Jji (s:=s) (j:=j) (c:=c) (by omega));clear hje hlt;go_wp2_with fail
    go_quiet (fail)
    go_wp2;have HG:=Ja (show w.grownBy (wr.drewN nq) (some R) from Jf HR.out.2.1 (Jv _ _ _));have HD:=Ja (HR.out.1.drewN nq);have c0':=HD.out.c0;have c1':=HD.out.c1;have c2':=HD.out.c2;by_cases hE:E=0
    · have hEb:(E == 0)=true:=by rw [hE];rfl
      clear hE;go_quiet (fail)
      go_wp2;go_ret;exact ⟨by rw [HSK.out,HIS.out,Bool.and_false];rfl,by rw [HSK.out];exact HD.out.drewN _,Jf HG.out (Jv _ _ _)⟩
    · have hEb:(E == 0)=false:=by rw [beq_eq_false_iff_ne];exact hE
      clear hE;go_quiet (fail)
      go_wp2;go_ret;exact ⟨by rw [HSK.out,HIS.out,Bool.and_false];rfl,by rw [HSK.out];exact HD.out.drewN _,Jf HG.out (Jv _ _ _)⟩
end Go.Proofs.YtcahejkcdcjjgaaGreatDoor
namespace Go.Proofs.YtcahejkcdcjjgaaGreatDoor
open Go.RowKit Go.Shelf
attribute [local go_sem] Oper.semAt_some
theorem Jjj (c:UInt8) (w:World):Calls Tryz.prog 124 #[.int .u8 (c.toNat:Int)] w fun r w'=>r=.returned (.bool (isD c))∧w'=w:=by
 by_cases h1:48≤c.toNat
 · have g1:decide ((48:Int)≤(c.toNat:Int))=true:=decide_eq_true (by omega);by_cases h2:c.toNat≤57
   · have HD:=Ja (show isD c=true by simp [isD,h1,h2]);go_enter Tryz.func124,Tryz.ntmps124
     go_wp2;go_ret;exact ⟨by rw [HD.out];simp;omega,rfl⟩
   · have HD:=Ja (show isD c=false by simp [isD,h2]);go_enter Tryz.func124,Tryz.ntmps124
     go_wp2;go_ret;exact ⟨by rw [HD.out];simp;omega,rfl⟩
 · have HD:=Ja (show isD c=false by simp [isD,h1]);go_enter Tryz.func124,Tryz.ntmps124
   go_wp2;go_ret;exact ⟨by rw [HD.out];rfl,rfl⟩
theorem JX (R:Nat) (s:ByteArray) (I:Nat) (E A:Int) (c:UInt8) (w:World) (h:RdB w R s I E A) (hI:I≤s.size) (hs:s.size≤300) (b:Bool) (hb:b=(decide (E=0) && JK (Jc s) (skB (Jc s) I) c)) :
 Calls Tryz.prog 45 #[.pointer (some ⟨R,0,none⟩),.int .u8 (c.toNat:Int)] w fun r w'=>r=.returned (.bool b)∧RdB w' R s ((skB (Jc s) I+(if b then 1 else 0):Nat):Int) E A∧w.grownBy w' (some R):=by
 have HI:=Ja (Yj R s I E A c w h hI hs);have HS:=Ja (show skB (Jc s) I≤300 from Nat.le_trans (J8 (by rw [Jg];exact hI)) (by rw [Jg];exact hs));rw [←hb] at HI;clear h hI hs hb;cases b
 · go_enter Tryz.func45,Tryz.ntmps45
   go_wp2_with first
    | (go_at_call 47;refine HI.out.mono ?_;clear HI;rintro e w1 ⟨rfl,hr1,hg1⟩;have HR1:=Ja hr1;clear hr1;have HG1:=Ja hg1;clear hg1)
   go_ret;exact ⟨rfl,HR1.out,HG1.out⟩
 · go_enter Tryz.func45,Tryz.ntmps45
   go_wp2_with first
    | (go_at_call 47;refine HI.out.mono ?_;clear HI;rintro e w1 ⟨rfl,hr1,hg1⟩;have HR1:=Ja hr1;have c1:=hr1.c1;have f1:=hr1.f 1;clear hr1;have HG1:=Ja hg1;clear hg1;have hk:=HS.out;clear HS)
   go_ret;exact ⟨rfl,HR1.out.set1 _,Jf HG1.out (JB _ R 1 _)⟩
theorem Jly {l:List UInt8} (h:l.all isD=true):num l<10 ^ l.length:=by
 have:=J2 (Jea h);rwa [XH] at this
def Yk (l:List UInt8) (p d n:Nat):Prop:=p+d≤l.length∧((l.drop p).take d).all isD=true∧n=num ((l.drop p).take (min 12 d))
theorem Yk.zero {l:List UInt8} {p:Nat} (h:p≤l.length):Yk l p 0 0:=⟨by omega,by simp,by simp [num,dgs,val]⟩
theorem Jg5 (l:List UInt8) (p d:Nat) (h:p+d<l.length):(l.drop p).take (d+1)=(l.drop p).take d++[l[p+d]]:=by
 rw [List.take_succ_eq_append_getElem (by rw [List.length_drop];omega),List.getElem_drop]
theorem Yk.all {l:List UInt8} {p d n:Nat} (h:Yk l p d n) (hl:p+d<l.length) (hc:isD l[p+d]=true):((l.drop p).take (d+1)).all isD=true:=by
 rw [Jg5 l p d hl,List.all_append,h.2.1];simp [hc]
theorem Yk.next1 {l:List UInt8} {p d n:Nat} (h:Yk l p d n) (hl:p+d<l.length) (hc:isD l[p+d]=true) (hd:d<12):Yk l p (d+1) (10*n+(l[p+d].toNat - 48)):=by
 refine ⟨by omega,h.all hl hc,?_⟩;rw [show min 12 (d+1)=d+1 from by omega,Jg5 l p d hl,Jer,h.2.2,show min 12 d=d from by omega];omega
theorem Yk.next2 {l:List UInt8} {p d n:Nat} (h:Yk l p d n) (hl:p+d<l.length) (hc:isD l[p+d]=true) (hd:12≤d):Yk l p (d+1) n:=by
 refine ⟨by omega,h.all hl hc,?_⟩;rw [show min 12 (d+1)=min 12 d from by omega];exact h.2.2
theorem Yk.lt {l:List UInt8} {p d n:Nat} (h:Yk l p d n):n<10 ^ min 12 d:=by
 have h1:((l.drop p).take (min 12 d)).all isD=true:=by
  rw [List.all_eq_true];intro c hc;refine List.all_eq_true.1 h.2.1 c ?_;rw [show (l.drop p).take (min 12 d)=((l.drop p).take d).take (min 12 d) from by rw [List.take_take];congr 1;omega] at hc;exact List.mem_of_mem_take hc
 have h2:=Jly h1;rw [List.length_take,List.length_drop,←h.2.2] at h2;have:=h.1;rwa [show min (min 12 d) (l.length - p)=min 12 d from by omega] at h2
theorem Yk.lt12 {l:List UInt8} {p d n:Nat} (h:Yk l p d n):n<1000000000000:=
 Nat.lt_of_lt_of_le h.lt (Nat.pow_le_pow_right (n:=10) (by omega) (by omega:min 12 d≤12))
theorem Yk.lt11 {l:List UInt8} {p d n:Nat} (h:Yk l p d n) (hd:d<12):n<100000000000:=
 Nat.lt_of_lt_of_le h.lt (Nat.pow_le_pow_right (n:=10) (by omega) (by omega:min 12 d≤11))
theorem Yk.dg {l:List UInt8} {p d n:Nat} (h:Yk l p d n) (he:∀ hl:p+d<l.length,isD l[p+d]=false):dgE l p=p+d:=by
 refine Jc2 (by omega) h.1 (fun k hk h1 h2=>?_) he;have:=List.all_eq_true.1 h.2.1 (l[k]) ?_
 · exact this
 · rw [List.mem_iff_getElem];refine ⟨k - p,by rw [List.length_take,List.length_drop];omega,?_⟩;rw [List.getElem_take,List.getElem_drop];congr 1;omega
def rdE {α:Type} (r:Rd α) (E:Int):Int:=if E=0 then (match r with | .bad e _=>(e:Int) | .ok _ _=>0) else E
def rdA {α:Type} (r:Rd α) (E A:Int):Int:=if E=0 then (match r with | .bad _ p=>(p:Int) | .ok _ _=>A) else A
theorem Jcv (R:Nat) (s:ByteArray) (I:Nat) (E A:Int) (p:Nat) (w:World) (h:RdB w R s I E A) (hI:I≤s.size) (hs:s.size≤300) (hp:skB (Jc s) I=p) :
 Calls Tryz.prog 91 #[.pointer (some ⟨R,0,none⟩)] w fun r w'=>∃ d n:Nat,r=.returned (.tuple #[.int .i64 (n:Int),.int .i64 (p:Int)])∧dgE (Jc s) p=p+d∧Yk (Jc s) p d n∧RdB w' R s ((p+d:Nat):Int) (rdE (JO (Jc s) I) E) (rdA (JO (Jc s) I) E A)∧w.grownBy w' (some R):=by
 have HI:=Ja (Yj R s I E A 32 w h hI hs);rw [hp] at HI;have hps:p≤s.size:=by rw [←hp];exact Nat.le_trans (J8 (by rw [Jg];exact hI)) (by rw [Jg];exact Nat.le_refl _)
 have HP:=Ja hp;have HF:=Ja (fun (x y:Int) (I':Int) (V:World) (hh:RdB V R s I' E A)=>XQ R s I' E A x y V hh);clear h hI hp;go_enter Tryz.func91,Tryz.ntmps91
 go_wp2_with first
  | (go_at_call 47;refine HI.out.mono ?_;clear HI;rintro e w1 ⟨rfl,hr1,hg1⟩;have HR1:=Ja hr1;have c1:=hr1.c1;clear hr1;have HG1:=Ja hg1;clear hg1)
 go_loopw [5] (fun nv wr=>∃ d n:Nat,nv=.int .i64 (n:Int)∧p+d≤s.size∧Hid (RdB wr R s ((p+d:Nat):Int) E A∧w.grownBy wr (some R)∧Yk (Jc s) p d n)) (fun _ wr=>s.size - rdI wr R)
 case atStart=>exact ⟨0,0,rfl,by omega,Ja ⟨HR1.out,HG1.out,Yk.zero (by rw [Jg];exact hps)⟩⟩
 case round=>
  clear c1;obtain ⟨d,n,rfl,hds,HR⟩:=hrel;obtain ⟨j,hj⟩:∃ j,j=p+d:=⟨_,rfl⟩;have HJ:=Ja hj;rw [←hj] at hds HR;have hjd:(j:Int) - (p:Int)=(d:Int):=by omega
  clear hj;have c0:=HR.out.1.c0;have c1:=HR.out.1.c1;have f1:=HR.out.1.f 1;by_cases hlt:j<s.size
  · have hlt2:(j:Int)<(s.size:Int):=by omega
    have hj0:(0:Int)≤(j:Int):=by omega
    by_cases hdig:isD s[j]=true
    · have HX:=Ja (Jjj s[j]);rw [hdig] at HX;have hcb:=Yr hdig;have HDG:=Ja hdig;clear hdig;go_wp2_with fail
      go_quiet ((go_at_call 124;exact Calls.quiet_of_same (HX.out _)))
      obtain ⟨nq0,h0⟩:∃ k,k=nq:=⟨nq,rfl⟩;subst h0;have HR2:=Ja (show RdB (wr.drewN nq0) R s (j:Int) E A∧w.grownBy (wr.drewN nq0) (some R)∧Yk (Jc s) p d n from ⟨HR.out.1.drewN nq0,Jf HR.out.2.1 (Jv _ _ _),HR.out.2.2⟩);have HRI:=Ja (Xo HR.out.1);clear HX;by_cases hd12:d<12
      · have hd12':(d:Int)<12:=by omega
        have hn:=HR2.out.2.2.lt11 hd12;go_wp2;go_quiet (fail)
        have HR3:=Ja (show RdB ((wr.drewN nq0).drewN nq) R s (j:Int) E A∧w.grownBy ((wr.drewN nq0).drewN nq) (some R)∧Yk (Jc s) p d n from ⟨HR2.out.1.drewN nq,Jf HR2.out.2.1 (Jv _ _ _),HR2.out.2.2⟩);go_wp2;go_roundw
        case rel=>
         refine ⟨d+1,10*n+(s[j].toNat - 48),?_,?_,Ja ⟨?_,?_,?_⟩⟩
         · congr 1;omega
         · have:=HJ.out;omega
         · have:=(HR.out.1.drewN (nq0+nq)).set1 ((j:Int)+1);rw [show ((j:Int)+1)=((p+(d+1):Nat):Int) from by have:=HJ.out;omega] at this ⊢;exact this
         · exact Jf (Jf HR.out.2.1 (Jv _ _ _)) (JB _ R 1 _)
         · have:=HR.out.2.2.next1 (by rw [Jg];have:=HJ.out;omega) (by simp only [←HJ.out];exact HDG.out) hd12;simp only [←HJ.out] at this;exact this
        case measure=>
         have e2:=Xo ((HR.out.1.drewN (nq0+nq)).set1 ((j+1:Nat):Int));rw [show ((j+1:Nat):Int)=(j:Int)+1 from by omega] at e2;rw [e2,HRI.out];omega
      · have hd12':¬ (d:Int)<12:=by omega
        go_wp2;go_roundw
        case rel=>
         refine ⟨d+1,n,rfl,?_,Ja ⟨?_,?_,?_⟩⟩
         · have:=HJ.out;omega
         · have:=(HR.out.1.drewN nq0).set1 ((j:Int)+1);rw [show ((j:Int)+1)=((p+(d+1):Nat):Int) from by have:=HJ.out;omega] at this ⊢;exact this
         · exact Jf (Jf HR.out.2.1 (Jv _ _ _)) (JB _ R 1 _)
         · exact HR.out.2.2.next2 (by rw [Jg];have:=HJ.out;omega) (by simp only [←HJ.out];exact HDG.out) (by omega)
        case measure=>
         have e2:=Xo ((HR.out.1.drewN nq0).set1 ((j+1:Nat):Int));rw [show ((j+1:Nat):Int)=(j:Int)+1 from by omega] at e2;rw [e2,HRI.out];omega
    · have HX:=Ja (Jjj s[j]);have hdig:=Bool.eq_false_iff.2 hdig;rw [hdig] at HX;have HDE:=Ja (show dgE (Jc s) p=j by rw [HJ.out];exact HR.out.2.2.dg (fun hl=>by simp only [←HJ.out];exact hdig));clear hdig;go_wp2_with fail
      go_quiet ((go_at_call 124;exact Calls.quiet_of_same (HX.out _)))
      have HRF:=Ja (HR.out.1.drewN nq);have HG:=Ja (show w.grownBy (wr.drewN nq) (some R) from Jf HR.out.2.1 (Jv _ _ _));have HNA:=Ja HR.out.2.2;clear HR;by_cases hd0:d=0
      · have hjp:j=p:=by have:=HJ.out;omega
        have HN:=Ja (show JO (Jc s) I=.bad 2 p by unfold JO;rw [HP.out,HDE.out,if_pos hjp]);have HD0:=Ja hd0;clear hd0;go_wp2_with first
         | (go_at_call 48;refine (HF.out _ _ _ _ HRF.out).mono ?_;clear HF;rintro e w2 ⟨rfl,hr2,hg2⟩;have HR2:=Ja hr2;have c12:=hr2.c1;clear hr2;have HG2:=Ja (Jf HG.out hg2);clear hg2)
        refine bodyPost_ret (v:=.tuple #[.int .i64 (n:Int),.int .i64 (p:Int)]) (by simp [results,Tryz.results91,go_sem]) rfl ⟨d,n,rfl,by rw [HDE.out];exact HJ.out,HNA.out,?_,HG2.out⟩;rw [←HJ.out];have:=HR2.out;rw [HN.out];exact this
      · by_cases hd12:12<d
        · have hjp:¬ j=p:=by have:=HJ.out;omega
          have hjb:((j:Int) == (p:Int))=false:=by rw [beq_eq_false_iff_ne];omega
          have hd12':(12:Int)<(d:Int):=by omega
          have HN:=Ja (show JO (Jc s) I=.bad 3 p by unfold JO;rw [HP.out,HDE.out,if_neg hjp,if_pos (by have:=HJ.out;omega)]);clear hd0;go_wp2_with first
           | (go_at_call 48;refine (HF.out _ _ _ _ HRF.out).mono ?_;clear HF;rintro e w2 ⟨rfl,hr2,hg2⟩;have HR2:=Ja hr2;have c12:=hr2.c1;clear hr2;have HG2:=Ja (Jf HG.out hg2);clear hg2)
          refine bodyPost_ret (v:=.tuple #[.int .i64 (n:Int),.int .i64 (p:Int)]) (by simp [results,Tryz.results91,go_sem]) rfl ⟨d,n,rfl,by rw [HDE.out];exact HJ.out,HNA.out,?_,HG2.out⟩;rw [←HJ.out];have:=HR2.out;rw [HN.out];exact this
        · have hjp:¬ j=p:=by have:=HJ.out;omega
          have hjb:((j:Int) == (p:Int))=false:=by rw [beq_eq_false_iff_ne];omega
          have hd12':¬ (12:Int)<(d:Int):=by omega
          have hns:∃ a k,JO (Jc s) I=.ok a k:=by unfold JO;rw [HP.out,HDE.out,if_neg hjp,if_neg (by have:=HJ.out;omega)];exact ⟨_,_,rfl⟩
          obtain ⟨a,k,hns⟩:=hns;have HN:=Ja (show rdE (JO (Jc s) I) E=E∧rdA (JO (Jc s) I) E A=A by rw [hns];unfold rdE rdA;constructor <;> (by_cases hE:E=0 <;> simp [hE]));clear hns;clear hd0;go_wp2;refine bodyPost_ret (v:=.tuple #[.int .i64 (n:Int),.int .i64 (p:Int)]) (by simp [results,Tryz.results91,go_sem]) rfl ⟨d,n,rfl,by rw [HDE.out];exact HJ.out,HNA.out,?_,HG.out⟩;rw [show ((p:Int)+(d:Int))=(j:Int) from by have:=HJ.out;omega,HN.out.1,HN.out.2];exact HRF.out
  · have HDE:=Ja (show dgE (Jc s) p=j by rw [HJ.out];exact HR.out.2.2.dg (fun hl=>absurd hl (by rw [Jg];have:=HJ.out;omega)));have hd':decide (j<s.size)=false:=decide_eq_false (by omega);go_wp2_with fail
    go_quiet (fail)
    have HRF:=Ja (HR.out.1.drewN nq);have HG:=Ja (show w.grownBy (wr.drewN nq) (some R) from Jf HR.out.2.1 (Jv _ _ _));have HNA:=Ja HR.out.2.2;clear HR;by_cases hd0:d=0
    · have hjp:j=p:=by have:=HJ.out;omega
      have HN:=Ja (show JO (Jc s) I=.bad 2 p by unfold JO;rw [HP.out,HDE.out,if_pos hjp]);have HD0:=Ja hd0;clear hd0;go_wp2_with first
       | (go_at_call 48;refine (HF.out _ _ _ _ HRF.out).mono ?_;clear HF;rintro e w2 ⟨rfl,hr2,hg2⟩;have HR2:=Ja hr2;have c12:=hr2.c1;clear hr2;have HG2:=Ja (Jf HG.out hg2);clear hg2)
      refine bodyPost_ret (v:=.tuple #[.int .i64 (n:Int),.int .i64 (p:Int)]) (by simp [results,Tryz.results91,go_sem]) rfl ⟨d,n,rfl,by rw [HDE.out];exact HJ.out,HNA.out,?_,HG2.out⟩;rw [←HJ.out];have:=HR2.out;rw [HN.out];exact this
    · by_cases hd12:12<d
      · have hjp:¬ j=p:=by have:=HJ.out;omega
        have hjb:((j:Int) == (p:Int))=false:=by rw [beq_eq_false_iff_ne];omega
        have hd12':(12:Int)<(d:Int):=by omega
        have HN:=Ja (show JO (Jc s) I=.bad 3 p by unfold JO;rw [HP.out,HDE.out,if_neg hjp,if_pos (by have:=HJ.out;omega)]);clear hd0;go_wp2_with first
         | (go_at_call 48;refine (HF.out _ _ _ _ HRF.out).mono ?_;clear HF;rintro e w2 ⟨rfl,hr2,hg2⟩;have HR2:=Ja hr2;have c12:=hr2.c1;clear hr2;have HG2:=Ja (Jf HG.out hg2);clear hg2)
        refine bodyPost_ret (v:=.tuple #[.int .i64 (n:Int),.int .i64 (p:Int)]) (by simp [results,Tryz.results91,go_sem]) rfl ⟨d,n,rfl,by rw [HDE.out];exact HJ.out,HNA.out,?_,HG2.out⟩;rw [←HJ.out];have:=HR2.out;rw [HN.out];exact this
      · have hjp:¬ j=p:=by have:=HJ.out;omega
        have hjb:((j:Int) == (p:Int))=false:=by rw [beq_eq_false_iff_ne];omega
        have hd12':¬ (12:Int)<(d:Int):=by omega
        have hns:∃ a k,JO (Jc s) I=.ok a k:=by unfold JO;rw [HP.out,HDE.out,if_neg hjp,if_neg (by have:=HJ.out;omega)];exact ⟨_,_,rfl⟩
        obtain ⟨a,k,hns⟩:=hns;have HN:=Ja (show rdE (JO (Jc s) I) E=E∧rdA (JO (Jc s) I) E A=A by rw [hns];unfold rdE rdA;constructor <;> (by_cases hE:E=0 <;> simp [hE]));clear hns;clear hd0;go_wp2;refine bodyPost_ret (v:=.tuple #[.int .i64 (n:Int),.int .i64 (p:Int)]) (by simp [results,Tryz.results91,go_sem]) rfl ⟨d,n,rfl,by rw [HDE.out];exact HJ.out,HNA.out,?_,HG.out⟩;rw [show ((p:Int)+(d:Int))=(j:Int) from by have:=HJ.out;omega,HN.out.1,HN.out.2];exact HRF.out
end Go.Proofs.YtcahejkcdcjjgaaGreatDoor
namespace Go.Proofs.YtcahejkcdcjjgaaGreatDoor
open Go.RowKit Go.Shelf
def Rd.pos {α:Type} (r:Rd α):Prop:=∀ e p,r=.bad e p→e≠0
theorem XE {α:Type} {r:Rd α} {a:α} {k:Nat} (h:r=.ok a k) (E A:Int):rdE r E=E∧rdA r E A=A:=by
 subst h;unfold rdE rdA;constructor
 · by_cases hE:E=0
   · rw [if_pos hE,hE]
   · rw [if_neg hE]
 · by_cases hE:E=0
   · rw [if_pos hE]
   · rw [if_neg hE]
theorem Jsf {α:Type} {r:Rd α} {e p:Nat} (h:r=.bad e p) (A:Int):rdE r 0=(e:Int)∧rdA r 0 A=(p:Int):=by
 subst h;exact ⟨rfl,rfl⟩
theorem Ja9 {α:Type} (r:Rd α) {E:Int} (h:E≠0) (A:Int):rdE r E=E∧rdA r E A=A:=by
 unfold rdE rdA;exact ⟨if_neg h,if_neg h⟩
theorem Jel {α:Type} {r:Rd α} (hp:r.pos) {E:Int} (h:rdE r E=0):E=0∧∃ a k,r=.ok a k:=by
 by_cases hE:E=0
 · refine ⟨hE,?_⟩;cases r with
   | ok a k=>exact ⟨a,k,rfl⟩
   | bad e p=>
    exfalso
    rw [hE,(Jsf rfl 0).1] at h;exact hp e p rfl (by omega)
 · rw [(Ja9 r hE 0).1] at h;exact absurd h hE
theorem Jak (l:List UInt8) (i:Nat):(JO l i).pos:=by
 intro e p h;unfold JO at h;split at h
 · cases h;decide
 · split at h
   · cases h;decide
   · cases h
theorem Jnf (l:List UInt8) (i:Nat):(JZ l i).pos:=by
 intro e p h;unfold JZ at h;split at h
 · rename_i e' p' h1;cases h;exact Jak l i _ _ h1
 · split at h
   · split at h
     · rename_i e' p' h1;cases h;exact Jak _ _ _ _ h1
     · split at h
       · cases h;decide
       · cases h
   · cases h
theorem Jpi (l:List UInt8) (i:Nat):(YY l i).pos:=by
 intro e p h;unfold YY at h;split at h
 · split at h
   · rename_i e' p' h1;cases h;exact Jak _ _ _ _ h1
   · split at h
     · cases h;decide
     · cases h
 · cases h
theorem XR (l:List UInt8) (i:Nat):skB l (skB l i)=skB l i:=Jj8 _ l i
theorem Jlz (l:List UInt8) (i:Nat):JO l (skB l i)=JO l i:=by unfold JO;rw [XR]
theorem Jpj (l:List UInt8) (i:Nat):JZ l (skB l i)=JZ l i:=by unfold JZ;rw [Jlz]
def Xx (l:List UInt8) (i:Nat):Rd Rat:=if JK l (skB l i) 120 then .ok 1 (skB l i) else JZ l i
theorem Jg6 (l:List UInt8) (i:Nat):(Xx l i).pos:=by
 unfold Xx;split
 · intro e p h;cases h
 · exact Jnf l i
theorem Jjk {l:List UInt8} {j:Nat} (h:Jab l j=false):dgE l j=j:=by
 rcases Nat.lt_or_ge j l.length with hj | hj
 · refine Jc2 (Nat.le_refl _) (by omega) (fun k _ h1 h2=>by omega) (fun hk=>?_);unfold Jab at h;rw [List.getElem?_eq_getElem hk] at h;simpa using h
 · unfold dgE YF;rw [List.drop_eq_nil_of_le hj];rfl
theorem Jrg {l:List UInt8} {j:Nat} (h:Jab l j=true):JK l j 120=false:=by
 unfold Jab at h;unfold JK;cases hc:l[j]? with
 | none=>rfl
 | some c=>
  rw [hc] at h;simp only [Option.map_some,Option.getD_some] at h;have hb:=Yr h;rw [beq_eq_false_iff_ne];intro e;cases e;simp at hb
theorem Xe (l:List UInt8) (i:Nat):JN l i=match Xx l i with
 | .bad e p=>.bad e p
 | .ok c k=>if JK l (skB l k) 120 then (match YY l (skB l k+1) with | .bad e p=>.bad e p | .ok n m=>.ok (c,n) m) else .ok (c,0) (skB l k):=by
 unfold JN Xx;cases hd:Jab l (skB l i) with
 | true=>
  rw [Jrg hd,Jpj];simp only [if_true,Bool.false_eq_true,if_false];cases JZ l i <;> rfl
 | false=>
  simp only [Bool.false_eq_true,if_false];cases hx:JK l (skB l i) 120 with
  | true=>
   simp only [if_true,XR,hx];cases YY l (skB l i+1) <;> rfl
  | false=>
   simp only [Bool.false_eq_true,if_false];unfold JZ JO;rw [if_pos (Jjk hd)]
theorem Yk.of_ok {l:List UInt8} {i p d n:Nat} (h:Yk l p d n) (hp:skB l i=p) (hd:dgE l p=p+d) {ds:List UInt8} {p' k:Nat} (hn:JO l i=.ok (ds,p') k):p'=p∧k=p+d∧num ds=n:=by
 unfold JO at hn;rw [hp,hd] at hn;split at hn
 · cases hn
 · split at hn
   · cases hn
   · rename_i h1 h2;simp only [Rd.ok.injEq,Prod.mk.injEq] at hn;obtain ⟨⟨rfl,rfl⟩,rfl⟩:=hn;refine ⟨rfl,rfl,?_⟩;rw [h.2.2,show p+d - p=d from by omega,show min 12 d=d from by omega]
section
variable {W W':World} {R:Nat} {s:ByteArray} {I E A:Int}
theorem Jh9 (h:RdB W R s I E A) {cs:Array Value} {t:TypeId} {m:Nat × Nat} {b:Nat} (hb:W.heap[b]?=some (.cells cs t m)) (ht:t≠82):b≠R:=by
 intro e;subst e;have:=hb.symm.trans h;simp only [Option.some.injEq,Obj.cells.injEq] at this;exact ht this.2.1
theorem Jpk (h:RdB W R s I E A) (hg:W.grownBy W' (some R)):∀ k v ds,Row k W v ds→Row k W' v ds:=by
 intro k v ds hr;obtain ⟨a,cap,e,_⟩:=id hr;subst e;refine hr.grown hg (fun p ep hl=>?_);obtain ⟨b,off,ea,cs,m,ht⟩:=hr.typ hl;rw [ea] at ep;cases ep;exact Jh9 h ht (by cases k <;> (show _≠_;decide))
theorem Jy.rd {v:Value} {q:Rat} (hv:Jy W v q) (h:RdB W R s I E A) (hg:W.grownBy W' (some R)):Jy W' v q:=IsK.keep (r:=false) hv (Jpk h hg)
theorem RowK.rd {v:Value} {qs:List Rat} (hv:RowK false W v qs) (h:RdB W R s I E A) (hg:W.grownBy W' (some R)):RowK false W' v qs:=by
 obtain ⟨a,cap,e,h1,h2,h3,h4⟩:=hv;refine ⟨a,cap,e,h1,h2,h3,?_⟩;rcases h4 with h4 | ⟨b,ea,h5⟩
 · exact Or.inl h4
 · refine Or.inr ⟨b,ea,h5.keep (hg.block b h5.lt ?_) (Jpk h hg)⟩;obtain ⟨cs,h6,_⟩:=h5;have:=Jh9 h h6 (by show (49:TypeId)≠_;decide);intro e;cases e;exact this rfl
end
def TmB (w V:World) (R B:Nat) (s:ByteArray) (I E A:Int) (c:Rat):Prop:=
 RdB V R s I E A∧(∃ a l ca sg b k d t,JH V B 49 (.slice a l ca) (.bool sg) (.slice b k d) (.bool t)∧Jy V (.agg #[.slice a l ca,.bool sg,.slice b k d,.bool t]) c)∧w.grownBy V (some R)∧w.heap.size≤B
section
variable {w V V':World} {R B:Nat} {s:ByteArray} {I E A I' E' A':Int} {c:Rat}
theorem TmB.below (h:TmB w V R B s I E A c) (hb:Below V.heap.size V V'):TmB w V' R B s I E A c:=by
 obtain ⟨h1,⟨a,l,ca,sg,b,k,d,t,h2,h3⟩,h4,h5⟩:=h;exact ⟨h1.below hb,⟨a,l,ca,sg,b,k,d,t,h2.below hb,h3.below hb⟩,Jf h4 (JT hb _),h5⟩
theorem TmB.rd (h:TmB w V R B s I E A c) (hr:RdB V' R s I' E' A') (hg:V.grownBy V' (some R)):TmB w V' R B s I' E' A' c:=by
 obtain ⟨h1,⟨a,l,ca,sg,b,k,d,t,h2,h3⟩,h4,h5⟩:=h;have hne:B≠R:=Jh9 h1 h2 (by decide);exact ⟨hr,⟨a,l,ca,sg,b,k,d,t,(hg.block B h2.lt (fun e=>hne (Option.some.inj e))).trans h2,h3.rd h1 hg⟩,Jf h4 hg,h5⟩
theorem JY {w V:World} {r:Option Nat} {B:Nat} (h:w.grownBy V r) (hB:w.heap.size≤B) (o:Nat) (x:Value):w.grownBy (V.setCell ⟨B,o,none⟩ x) r:=by
 have h1:=JB V B o x;obtain ⟨a1,a2,a3,a4,a5⟩:=h;obtain ⟨b1,b2,b3,b4,b5⟩:=h1;exact ⟨b1.trans a1,b2.trans a2,b3.trans a3,Nat.le_trans a4 b4,fun i hi hne=>(b5 i (by omega) (by intro e;cases e;omega)).trans (a5 i hi hne)⟩
theorem TmB.put (h:TmB w V R B s I E A c) {a:Option Addr} {l ca:Nat} {sg:Bool} {b:Option Addr} {k d:Nat} {t:Bool} {c':Rat} (hv:Jy V (.agg #[.slice a l ca,.bool sg,.slice b k d,.bool t]) c') :
 TmB w (put4 V B (.slice a l ca) (.bool sg) (.slice b k d) (.bool t)) R B s I E A c':=by
 obtain ⟨h1,⟨a0,l0,ca0,sg0,b0,k0,d0,t0,h2,h3⟩,h4,h5⟩:=h;have hne:R≠B:=fun e=>Jh9 h1 h2 (by decide) e.symm;refine ⟨?_,⟨a,l,ca,sg,b,k,d,t,h2.put _ _ _ _,IsK.keep (r:=false) hv (fun _ _ _ g=>Row.put4 g h2 rfl rfl rfl rfl _ _ _ _)⟩,JY (JY (JY (JY h4 h5 0 _) h5 1 _) h5 2 _) h5 3 _,h5⟩;have g0:=(Below.heap_setCell V ⟨B,0,none⟩ (.slice a l ca) R hne).trans h1;have g1:=(Below.heap_setCell _ ⟨B,1,none⟩ (.bool sg) R hne).trans g0;have g2:=(Below.heap_setCell _ ⟨B,2,none⟩ (.slice b k d) R hne).trans g1;exact (Below.heap_setCell _ ⟨B,3,none⟩ (.bool t) R hne).trans g2
end
end Go.Proofs.YtcahejkcdcjjgaaGreatDoor
namespace Go.Proofs.YtcahejkcdcjjgaaGreatDoor
open Go.RowKit Go.Shelf
attribute [local go_sem] Oper.semAt_some
theorem Sok.word {n:Nat} (h:n<1000000000000):Sok (n:Int):=Sok.of (k:=1) (by unfold Sm B64;omega) (by omega)
def Jcw (c:Rat):Prop:=∃ x y:Nat,c=Rat.divInt (x:Int) (y:Int)∧x<1000000000000∧y≠0∧y<1000000000000
theorem Jcw.one:Jcw 1:=⟨1,1,by decide,by omega,by omega,by omega⟩
def Xf (l:List UInt8) (I:Nat) (E A:Int) (c:Rat) (I1:Nat) (E1 A1:Int):Prop:=
 E1=rdE (Xx l I) E∧A1=rdA (Xx l I) E A∧Jcw c∧I1≤l.length∧(E=0→∀ c0 k,Xx l I=.ok c0 k→c=c0∧I1=k)
theorem Jpl {l:List UInt8} {I:Nat} {E A:Int} (hI:I≤l.length) (h:(decide (E=0) && JK l (skB l I) 120)=true):Xf l I E A 1 (skB l I) E A:=by
 rw [Bool.and_eq_true] at h;have e:Xx l I=.ok 1 (skB l I):=by unfold Xx;rw [if_pos h.2]
 refine ⟨(XE e E A).1.symm,(XE e E A).2.symm,Jcw.one,J8 hI,fun _ c0 k hk=>?_⟩;rw [e] at hk;cases hk;exact ⟨rfl,rfl⟩
theorem Jg7 {l:List UInt8} {I:Nat} {E:Int} (h:(decide (E=0) && JK l (skB l I) 120)=false) (hE:E=0):Xx l I=JZ l I:=by
 rw [hE] at h;simp at h;unfold Xx;rw [h];simp
theorem Jcx (n:Nat):Rat.divInt (n:Int) 1=((n:Int):Rat):=by
 rw [←Rat.num_divInt_den ((n:Int):Rat)];simp
theorem Jpm {l:List UInt8} {I:Nat} {E A:Int} {p d n:Nat} (h:(decide (E=0) && JK l (skB l I) 120)=false) (hp:skB l I=p) (hd:dgE l p=p+d) (hn:Yk l p d n)
 (h2:(decide (rdE (JO l I) E=0) && JK l (skB l (p+d)) 47)=false):Xf l I E A (Rat.divInt (n:Int) 1) (skB l (p+d)) (rdE (JO l I) E) (rdA (JO l I) E A):=by
 have hf:Jcw (Rat.divInt (n:Int) 1):=⟨n,1,rfl,hn.lt12,by omega,by omega⟩;have hle:skB l (p+d)≤l.length:=J8 hn.1;by_cases hE:E=0
 · rw [Xf,Jg7 h hE];subst hE;cases hnS:JO l I with
   | bad e q=>
    have hc:JZ l I=.bad e q:=by unfold JZ;rw [hnS]
    rw [hc];exact ⟨rfl,rfl,hf,hle,fun _ c0 k hk=>by cases hk⟩
   | ok a k=>
    obtain ⟨ds,p'⟩:=a;obtain ⟨rfl,rfl,rfl⟩:=hn.of_ok hp hd hnS;rw [hnS,(XE rfl 0 0).1] at h2;simp at h2;have hc:JZ l I=.ok ((num ds:Int):Rat) (skB l (p'+d)):=by unfold JZ;rw [hnS];simp [h2]
    rw [hc];refine ⟨rfl,rfl,hf,hle,fun _ c0 k hk=>?_⟩;cases hk;exact ⟨Jcx _,rfl⟩
 · refine ⟨?_,?_,hf,hle,fun h0=>absurd h0 hE⟩
   · rw [(Ja9 _ hE A).1,(Ja9 _ hE A).1]
   · rw [(Ja9 _ hE A).2,(Ja9 _ hE A).2]
theorem Jpn {l:List UInt8} {I:Nat} {E A:Int} {p d n p2 d2 n2:Nat} (h:(decide (E=0) && JK l (skB l I) 120)=false) (hp:skB l I=p) (hd:dgE l p=p+d) (hn:Yk l p d n)
 (h2:(decide (rdE (JO l I) E=0) && JK l (skB l (p+d)) 47)=true) (hp2:skB l (skB l (p+d)+1)=p2) (hd2:dgE l p2=p2+d2) (hn2:Yk l p2 d2 n2) (E2 A2:Int) (hE2:E2=rdE (JO l (skB l (p+d)+1)) (rdE (JO l I) E)) (hA2:A2=rdA (JO l (skB l (p+d)+1)) (rdE (JO l I) E) (rdA (JO l I) E A)) :
 (n2=0→Xf l I E A (Rat.divInt (n:Int) 1) (p2+d2) (if E2=0 then 4 else E2) (if E2=0 then (p2:Int) else A2))∧(n2≠0→Xf l I E A (Rat.divInt (n:Int) (n2:Int)) (p2+d2) E2 A2):=by
 rw [Bool.and_eq_true,decide_eq_true_eq] at h2;obtain ⟨hE,a,k,hnS⟩:=Jel (Jak l I) h2.1;obtain ⟨ds,p'⟩:=a;obtain ⟨rfl,rfl,rfl⟩:=hn.of_ok hp hd hnS;subst hE;have hf:Jcw (Rat.divInt (num ds:Int) 1):=⟨num ds,1,rfl,hn.lt12,by omega,by omega⟩;rw [h2.1] at hE2 hA2;rw [hnS,(XE rfl 0 A).2] at hA2;unfold Xf;rw [Jg7 h rfl];cases hm:JO l (skB l (p'+d)+1) with
 | bad e q=>
  have hc:JZ l I=.bad e q:=by unfold JZ;rw [hnS];simp [h2.2,hm]
  have he:=Jak _ _ _ _ hm;rw [hm] at hE2 hA2;have e2:E2=(e:Int):=hE2;have a2:A2=(q:Int):=hA2;have e0:¬ E2=0:=by omega
  rw [hc,if_neg e0,if_neg e0,e2,a2];refine ⟨fun _=>⟨rfl,rfl,hf,hn2.1,fun _ c0 k hk=>by cases hk⟩,fun h0=>⟨rfl,rfl,⟨num ds,n2,rfl,hn.lt12,h0,hn2.lt12⟩,hn2.1,fun _ c0 k hk=>by cases hk⟩⟩
 | ok a k=>
  obtain ⟨es,p''⟩:=a;obtain ⟨rfl,rfl,rfl⟩:=hn2.of_ok hp2 hd2 hm;rw [hm,(XE rfl 0 A).1] at hE2;rw [hm,(XE rfl 0 A).2] at hA2;subst hE2 hA2;rw [if_pos rfl,if_pos rfl];refine ⟨fun h0=>?_,fun h0=>?_⟩
  · have hc:JZ l I=.bad 4 p'':=by unfold JZ;rw [hnS];simp [h2.2,hm,h0]
    rw [hc];exact ⟨rfl,rfl,hf,hn2.1,fun _ c0 k hk=>by cases hk⟩
  · have hc:JZ l I=.ok (Rat.divInt (num ds) (num es)) (p''+d2):=by unfold JZ;rw [hnS];simp [h2.2,hm,h0]
    rw [hc];refine ⟨rfl,rfl,⟨num ds,num es,rfl,hn.lt12,h0,hn2.lt12⟩,hn2.1,fun _ c0 k hk=>?_⟩;cases hk;exact ⟨rfl,rfl⟩
def Y2 (l:List UInt8) (I:Nat) (E A:Int) (c:Rat) (n I':Nat) (E' A':Int):Prop:=
 E'=rdE (JN l I) E∧A'=rdA (JN l I) E A∧(E=0→∀ c0 n0 k,JN l I=.ok (c0,n0) k→c=c0∧n=n0∧I'=k)
theorem Xf.zero {l:List UInt8} {I:Nat} {E A:Int} {c:Rat} {I1:Nat} {E1 A1:Int} (h:Xf l I E A c I1 E1 A1) (h0:E1=0):E=0∧A1=A∧Xx l I=.ok c I1:=by
 have h1:=h.1;rw [h0] at h1;obtain ⟨hE,c0,k,hk⟩:=Jel (Jg6 l I) h1.symm;obtain ⟨rfl,rfl⟩:=h.2.2.2.2 hE c0 k hk;exact ⟨hE,h.2.1.trans (XE hk E A).2,hk⟩
theorem Xf.set {l:List UInt8} {I:Nat} {E A:Int} {c:Rat} {I1:Nat} {E1 A1:Int} (h:Xf l I E A c I1 E1 A1) (h0:E1≠0) (n I':Nat):Y2 l I E A c n I' E1 A1:=by
 by_cases hE:E=0
 · subst hE;cases hh:Xx l I with
   | ok c0 k=>
    have:=h.1;rw [hh,(XE rfl 0 A).1] at this;exact absurd this h0
   | bad e p=>
    have ht:JN l I=.bad e p:=by rw [Xe,hh]
    have h1:=h.1;have h2:=h.2.1;rw [hh] at h1 h2;exact ⟨by rw [ht];exact h1,by rw [ht];exact h2,fun _ c0 n0 k hk=>by rw [ht] at hk;cases hk⟩
 · have h1:=h.1;have h2:=h.2.1;rw [(Ja9 _ hE A).1] at h1;rw [(Ja9 _ hE A).2] at h2;exact ⟨by rw [(Ja9 _ hE A).1];exact h1,by rw [(Ja9 _ hE A).2];exact h2,fun h=>absurd h hE⟩
theorem Y2.of {l:List UInt8} {I:Nat} {A:Int} {c:Rat} {n I':Nat} (h:JN l I=.ok (c,n) I'):Y2 l I 0 A c n I' 0 A:=by
 refine ⟨by rw [(XE h 0 A).1],by rw [(XE h 0 A).2],fun _ c0 n0 k hk=>?_⟩;rw [h] at hk;cases hk;exact ⟨rfl,rfl,rfl⟩
theorem Y2.bad {l:List UInt8} {I:Nat} {A:Int} {e p:Nat} (c:Rat) (n I':Nat) (h:JN l I=.bad e p):Y2 l I 0 A c n I' e p:=by
 exact ⟨by rw [h];rfl,by rw [h];rfl,fun _ c0 n0 k hk=>by rw [h] at hk;cases hk⟩
theorem Jpo {l:List UInt8} {I:Nat} {E A:Int} {c:Rat} {I1:Nat} {E1 A1:Int} (h:Xf l I E A c I1 E1 A1) (h3:(decide (E1=0) && JK l (skB l I1) 120)=false):Y2 l I E A c 0 (skB l I1) E1 A1:=by
 by_cases h0:E1=0
 · obtain ⟨rfl,rfl,hh⟩:=h.zero h0;subst h0;simp at h3;refine Y2.of ?_;rw [Xe,hh];simp [h3]
 · exact h.set h0 _ _
theorem Jpp {l:List UInt8} {I:Nat} {E A:Int} {c:Rat} {I1:Nat} {E1 A1:Int} (h:Xf l I E A c I1 E1 A1) (h3:(decide (E1=0) && JK l (skB l I1) 120)=true) (h4:(decide (E1=0) && JK l (skB l (skB l I1+1)) 94)=false):Y2 l I E A c 1 (skB l (skB l I1+1)) E1 A1:=by
 rw [Bool.and_eq_true,decide_eq_true_eq] at h3;obtain ⟨h0,h3⟩:=h3;obtain ⟨rfl,rfl,hh⟩:=h.zero h0;subst h0;simp at h4;refine Y2.of ?_;rw [Xe,hh];simp [h3,YY,h4]
theorem Jpq {l:List UInt8} {I:Nat} {E A:Int} {c:Rat} {I1:Nat} {E1 A1:Int} (h:Xf l I E A c I1 E1 A1) (h3:(decide (E1=0) && JK l (skB l I1) 120)=true) (h4:(decide (E1=0) && JK l (skB l (skB l I1+1)) 94)=true) {p d n:Nat} (hp:skB l (skB l (skB l I1+1)+1)=p) (hd:dgE l p=p+d) (hn:Yk l p d n) (E5 A5:Int)
 (hE5:E5=rdE (JO l (skB l (skB l I1+1)+1)) E1) (hA5:A5=rdA (JO l (skB l (skB l I1+1)+1)) E1 A1):(8<n→Y2 l I E A c 0 (p+d) (if E5=0 then 3 else E5) (if E5=0 then (p:Int) else A5))∧(¬ 8<n→Y2 l I E A c n (p+d) E5 A5):=by
 rw [Bool.and_eq_true,decide_eq_true_eq] at h3 h4;obtain ⟨h0,h3⟩:=h3;obtain ⟨_,h4⟩:=h4;obtain ⟨rfl,rfl,hh⟩:=h.zero h0;subst h0;cases hm:JO l (skB l (skB l I1+1)+1) with
 | bad e q=>
  rw [hm] at hE5 hA5;have he:=Jak _ _ _ _ hm;have e5:E5=(e:Int):=hE5;have a5:A5=(q:Int):=hA5;have e0:¬ E5=0:=by omega
  have ht:JN l I=.bad e q:=by rw [Xe,hh];simp [h3,YY,h4,hm]
  rw [if_neg e0,if_neg e0,e5,a5];exact ⟨fun _=>Y2.bad _ _ _ ht,fun _=>Y2.bad _ _ _ ht⟩
 | ok a k=>
  obtain ⟨es,p''⟩:=a;obtain ⟨rfl,rfl,rfl⟩:=hn.of_ok hp hd hm;rw [hm,(XE rfl 0 0).1] at hE5;rw [hm,(XE rfl 0 _).2] at hA5;subst hE5 hA5;rw [if_pos rfl,if_pos rfl];refine ⟨fun h8=>Y2.bad _ _ _ ?_,fun h8=>Y2.of ?_⟩
  · rw [Xe,hh];simp [h3,YY,h4,hm,h8]
  · rw [Xe,hh];simp [h3,YY,h4,hm,h8]
theorem TmB.new {w w1:World} {R:Nat} {s:ByteArray} {I E A:Int} {c:Rat} (h:RdB w R s I E A) (hb:Below w.heap.size w w1) {a:Option Addr} {l ca:Nat} {sg:Bool} {b:Option Addr} {k d:Nat} {t:Bool} (hv:Jy w1 (.agg #[.slice a l ca,.bool sg,.slice b k d,.bool t]) c) :
 TmB w (w1.alloc (.cells #[.slice a l ca,.bool sg,.slice b k d,.bool t] 49)) R w1.heap.size s I E A c:=by
 have ha:Below w1.heap.size w1 (w1.alloc (.cells #[.slice a l ca,.bool sg,.slice b k d,.bool t] 49)):=(Below.refl _ w1).alloc (Nat.le_refl _) _;exact ⟨(h.below hb).below ha,⟨a,l,ca,sg,b,k,d,t,JH.new _ _ _ _ _ _,hv.below ha⟩,Jf (JT hb _) (JT ha _),hb.size⟩
theorem Jpr (R:Nat) (s:ByteArray) (I:Nat) (E A:Int) (w:World) (h:RdB w R s I E A) (hI:I≤s.size) (hs:s.size≤300) :
 Calls Tryz.prog 46 #[.pointer (some ⟨R,0,none⟩)] w fun r w'=>∃ (u:Value) (c:Rat) (n I':Nat),r=.returned u∧RowK false w' u (Jr (upR n [c]))∧n≤8∧Jcw c∧I'≤s.size∧RdB w' R s (I':Int) (rdE (JN (Jc s) I) E) (rdA (JN (Jc s) I) E A)∧(E=0→∀ c0 n0 k,JN (Jc s) I=.ok (c0,n0) k→c=c0∧n=n0∧I'=k)∧w.grownBy w' (some R):=by
 have hIl:I≤(Jc s).length:=by rw [Jg];exact hI
 obtain ⟨b1,hb1⟩:∃ b,(decide (E=0) && JK (Jc s) (skB (Jc s) I) 120)=b:=⟨_,rfl⟩;have HB1:=Ja hb1;obtain ⟨I0,hI0⟩:∃ I0,skB (Jc s) I=I0:=⟨_,rfl⟩;have HI0:=Ja hI0;have hI0s:I0≤s.size:=by rw [←hI0,←Jg];exact J8 hIl
 have HW:=Ja (Jdi 1 (by omega) (by omega) w);have HIS:=Ja (fun (V:World) (hh:RdB V R s I E A)=>Yj R s I E A 120 V hh hI hs);rw [hb1,hI0] at HIS;have HH:=Ja h;have HIL:=Ja hIl;clear h hb1 hI0 hIl hI;go_enter Tryz.func46,Tryz.ntmps46
 go_upto_region 2 with (first
  | (go_at_call 62;refine HW.out.mono ?_;clear HW;rintro e w1 ⟨u1,rfl,hu1,hq1⟩;obtain ⟨a91,l91,c91,s91,b91,k91,d91,t91,rfl⟩:=Jy.form hu1))
 have hT:=TmB.new HH.out hq1 hu1;obtain ⟨W0,hW0⟩:∃ W0,w1.alloc (.cells #[.slice a91 l91 c91,.bool s91,.slice b91 k91 d91,.bool t91] 49)=W0:=⟨_,rfl⟩;rw [hW0] at hT;rw [hW0];obtain ⟨B,hB⟩:∃ B,w1.heap.size=B:=⟨_,rfl⟩;rw [hB] at hT;rw [hB];have HT:=Ja (show TmB w W0 R B s I E A 1 from hT);clear hT hu1 hq1 hW0 hB;go_upto_if 15 with (first
  | (go_at_call 47;refine (HIS.out _ HT.out.1).mono ?_;clear HIS;rintro e w2 ⟨rfl,hr2,hg2⟩;have HT2:=Ja (HT.out.rd hr2 hg2);clear hr2 hg2 HT))
 go_cut [4] (fun v w'=>v=.bool b1∧∃ (c:Rat) (I1:Nat) (E1 A1:Int),Hid (TmB w w' R B s (I1:Int) E1 A1 c∧Xf (Jc s) I E A c I1 E1 A1))
 case first=>
  cases b1 with
  | true=>
   go_wp2_with fail
   go_meet
   case rel=>exact ⟨rfl,1,I0,E,A,Ja ⟨HT2.out,by rw [←HI0.out];exact Jpl HIL.out HB1.out⟩⟩
  | false=>
   obtain ⟨E1,hE1⟩:∃ x,rdE (JO (Jc s) I) E=x:=⟨_,rfl⟩;obtain ⟨A1,hA1⟩:∃ x,rdA (JO (Jc s) I) E A=x:=⟨_,rfl⟩;have HN:=Ja (fun (V:World) (hh:RdB V R s I0 E A)=>Jcv R s I0 E A I0 V hh hI0s hs (by rw [←HI0.out];exact XR _ _));have hnk:JO (Jc s) I0=JO (Jc s) I:=by rw [←HI0.out];exact Jlz _ _
   rw [hnk,hE1,hA1] at HN;have HE1:=Ja hE1;have HA1:=Ja hA1;clear hE1 hA1 hnk;go_upto_if 22 with (first
    | (go_at_call 91;refine (HN.out _ HT2.out.1).mono ?_;clear HN;rintro e w3 ⟨d1,n1,rfl,hd1,hn1,hr3,hg3⟩;have HT3:=Ja (HT2.out.rd hr3 hg3);clear hr3 hg3 HT2;have HD1:=Ja hd1;have HN1:=Ja hn1;have hn12:=hn1.lt12;have hid:I0+d1≤s.size:=(by rw [←Jg];exact hn1.1);clear hd1 hn1;obtain ⟨b2,hb2⟩:∃ b,b=(decide (E1=0) && JK (Jc s) (skB (Jc s) (I0+d1)) 47):=⟨_,rfl⟩;have HB2:=Ja hb2;have HHS:=Ja (fun (V:World) (hh:RdB V R s ((I0+d1:Nat):Int) E1 A1)=>JX R s (I0+d1) E1 A1 47 V hh hid hs b2 hb2);clear hb2;obtain ⟨I2,hI2⟩:∃ x,skB (Jc s) (I0+d1)=x:=⟨_,rfl⟩;rw [hI2] at HHS;have HI2:=Ja hI2;have hI2s:I2≤s.size:=(by rw [←hI2,←Jg];exact J8 (by rw [Jg];exact hid));clear hI2)
    | (go_at_call 45;refine (HHS.out _ HT3.out.1).mono ?_;clear HHS;rintro e w4 ⟨rfl,hr4,hg4⟩;have HT4:=Ja (HT3.out.rd hr4 hg4);clear hr4 hg4 HT3))
   have HO1:=Ja (fun (V:World)=>Jhq (n1:Int) (by omega) (by omega) V);have HSX:=Ja (Sok.word hn12);cases b2 with
   | false=>
    have HO2:=Ja (fun (V:World)=>Jhq 1 (by omega) (by omega) V);have HSY:=Ja Sok.one;have HY:=Ja (show (1:Int)≠0 by omega);go_wp2_with (first
     | (go_at_call 93;refine (HO1.out _).mono ?_;clear HO1;rintro e w6 ⟨u6v,rfl,hu6,hq6⟩;have HT6:=Ja (HT4.out.below hq6);clear hq6;have HU6:=Ja hu6;clear hu6)
     | (go_at_call 93;refine (HO2.out _).mono ?_;clear HO2;rintro e w7 ⟨u7v,rfl,hu7,hq7⟩;have HT7:=Ja (HT6.out.below hq7);have HU67:=Ja (HU6.out.below hq7);clear hq7;have HU7:=Ja hu7;clear hu7)
     | (go_at_call 92;refine (Jdh _ _ _ _ _ HU67.out HU7.out HY.out HSX.out HSY.out).mono ?_;rintro e w8 ⟨u8v,rfl,hu8,hq8⟩;have hT8:=HT7.out.below hq8;clear hq8;obtain ⟨a98,l98,c98,s98,b98,k98,d98,t98,rfl⟩:=Jy.form hu8;have HT8:=Ja (hT8.put hu8);obtain ⟨_,⟨x0,x1,x2,x3,x4,x5,x6,x7,bx,_⟩,_,_⟩:=hT8;have e0:=bx.c0;have e1:=bx.c1;have e2:=bx.c2;have e3:=bx.c3;have g0:=bx.f0;have g1:=bx.f1;have g2:=bx.f2;have g3:=bx.f3;clear bx hu8))
    go_meet
    case rel=>exact ⟨rfl,_,_,_,_,Ja ⟨HT8.out,by have:=Jpm (A:=A) HB1.out HI0.out HD1.out HN1.out (by rw [HE1.out];exact HB2.out.symm);rw [HI2.out,HE1.out,HA1.out] at this;exact this⟩⟩
   | true=>
    have hlt2:I2+1≤s.size:=by
     have h5:=HB2.out.symm;rw [Bool.and_eq_true] at h5;have h6:=JQ h5.2;rw [HI2.out,Jg] at h6;omega
    obtain ⟨p2,hp2⟩:∃ x,skB (Jc s) (I2+1)=x:=⟨_,rfl⟩;have HN2:=Ja (fun (V:World) (hh:RdB V R s ((I2+1:Nat):Int) E1 A1)=>Jcv R s (I2+1) E1 A1 p2 V hh hlt2 hs hp2);have HP2:=Ja hp2;clear hp2;obtain ⟨E2,hE2⟩:∃ x,rdE (JO (Jc s) (I2+1)) E1=x:=⟨_,rfl⟩;obtain ⟨A2,hA2⟩:∃ x,rdA (JO (Jc s) (I2+1)) E1 A1=x:=⟨_,rfl⟩;rw [hE2,hA2] at HN2;have HE2:=Ja hE2;have HA2:=Ja hA2;clear hE2 hA2;go_upto_if 29 with (first
     | (go_at_call 91;refine (HN2.out _ HT4.out.1).mono ?_;clear HN2;rintro e w5 ⟨d2,n2,rfl,hd2,hn2,hr5,hg5⟩;have HT5:=Ja (HT4.out.rd hr5 hg5);clear hr5 hg5 HT4;have HD2:=Ja hd2;have HN2:=Ja hn2;have hn22:=hn2.lt12;clear hd2 hn2))
    have HHD:=Ja (Jpn (A:=A) HB1.out HI0.out HD1.out HN1.out (by rw [HE1.out];exact HB2.out.symm) (by rw [HI2.out];exact HP2.out) HD2.out HN2.out E2 A2 (by rw [HI2.out,HE1.out];exact HE2.out.symm) (by rw [HI2.out,HE1.out,HA1.out];exact HA2.out.symm));by_cases hn20:n2=0
    · have hnb:((n2:Int) == 0)=true:=by rw [hn20];rfl
      have HN20:=Ja hn20;clear hn20;have HF:=Ja (fun (V:World) (hh:RdB V R s ((p2+d2:Nat):Int) E2 A2)=>XQ R s ((p2+d2:Nat):Int) E2 A2 4 (p2:Int) V hh);have HO2:=Ja (fun (V:World)=>Jhq 1 (by omega) (by omega) V);have HSY:=Ja Sok.one;have HY:=Ja (show (1:Int)≠0 by omega);go_wp2_with (first
       | (go_at_call 48;refine (HF.out _ HT5.out.1).mono ?_;clear HF;rintro e w55 ⟨rfl,hr6,hg6⟩;have HT55:=Ja (HT5.out.rd hr6 hg6);clear hr6 hg6 HT5)
       | (go_at_call 93;refine (HO1.out _).mono ?_;clear HO1;rintro e w6 ⟨u6v,rfl,hu6,hq6⟩;have HT6:=Ja (HT55.out.below hq6);clear hq6;have HU6:=Ja hu6;clear hu6)
       | (go_at_call 93;refine (HO2.out _).mono ?_;clear HO2;rintro e w7 ⟨u7v,rfl,hu7,hq7⟩;have HT7:=Ja (HT6.out.below hq7);have HU67:=Ja (HU6.out.below hq7);clear hq7;have HU7:=Ja hu7;clear hu7)
       | (go_at_call 92;refine (Jdh _ _ _ _ _ HU67.out HU7.out HY.out HSX.out HSY.out).mono ?_;rintro e w8 ⟨u8v,rfl,hu8,hq8⟩;have hT8:=HT7.out.below hq8;clear hq8;obtain ⟨a98,l98,c98,s98,b98,k98,d98,t98,rfl⟩:=Jy.form hu8;have HT8:=Ja (hT8.put hu8);obtain ⟨_,⟨x0,x1,x2,x3,x4,x5,x6,x7,bx,_⟩,_,_⟩:=hT8;have e0:=bx.c0;have e1:=bx.c1;have e2:=bx.c2;have e3:=bx.c3;have g0:=bx.f0;have g1:=bx.f1;have g2:=bx.f2;have g3:=bx.f3;clear bx hu8))
      go_meet
      case rel=>exact ⟨rfl,_,_,_,_,Ja ⟨HT8.out,HHD.out.1 HN20.out⟩⟩
    · have hnb:((n2:Int) == 0)=false:=by rw [beq_eq_false_iff_ne];omega
      have HO2:=Ja (fun (V:World)=>Jhq (n2:Int) (by omega) (by omega) V);have HSY:=Ja (Sok.word hn22);have HY:=Ja (show (n2:Int)≠0 by omega);go_wp2_with (first
       | (go_at_call 93;refine (HO1.out _).mono ?_;clear HO1;rintro e w6 ⟨u6v,rfl,hu6,hq6⟩;have HT6:=Ja (HT5.out.below hq6);clear hq6;have HU6:=Ja hu6;clear hu6)
       | (go_at_call 93;refine (HO2.out _).mono ?_;clear HO2;rintro e w7 ⟨u7v,rfl,hu7,hq7⟩;have HT7:=Ja (HT6.out.below hq7);have HU67:=Ja (HU6.out.below hq7);clear hq7;have HU7:=Ja hu7;clear hu7)
       | (go_at_call 92;refine (Jdh _ _ _ _ _ HU67.out HU7.out HY.out HSX.out HSY.out).mono ?_;rintro e w8 ⟨u8v,rfl,hu8,hq8⟩;have hT8:=HT7.out.below hq8;clear hq8;obtain ⟨a98,l98,c98,s98,b98,k98,d98,t98,rfl⟩:=Jy.form hu8;have HT8:=Ja (hT8.put hu8);obtain ⟨_,⟨x0,x1,x2,x3,x4,x5,x6,x7,bx,_⟩,_,_⟩:=hT8;have e0:=bx.c0;have e1:=bx.c1;have e2:=bx.c2;have e3:=bx.c3;have g0:=bx.f0;have g1:=bx.f1;have g2:=bx.f2;have g3:=bx.f3;clear bx hu8))
      go_meet
      case rel=>exact ⟨rfl,_,_,_,_,Ja ⟨HT8.out,HHD.out.2 hn20⟩⟩
 case rest=>
  obtain ⟨rfl,c,I1,E1,A1,HC⟩:=hcut;have hI1:I1≤s.size:=by have:=HC.out.2.2.2.2.1;rwa [Jg] at this
  obtain ⟨b3,hb3⟩:∃ b,b=(decide (E1=0) && JK (Jc s) (skB (Jc s) I1) 120):=⟨_,rfl⟩;have HB3:=Ja hb3.symm;obtain ⟨I3,hI3⟩:∃ x,skB (Jc s) I1=x:=⟨_,rfl⟩;have HX:=Ja (fun (V:World) (hh:RdB V R s (I1:Int) E1 A1)=>JX R s I1 E1 A1 120 V hh hI1 hs b3 hb3);rw [hI3] at HX;have hI3s:I3≤s.size:=by rw [←hI3,←Jg];exact J8 (by rw [Jg];exact hI1)
  have HI3:=Ja hI3;clear hI3 hb3 HT2 HB1;go_upto_if 40 with (first
   | (go_at_call 45;refine (HX.out _ HC.out.1.1).mono ?_;clear HX;rintro e w3 ⟨rfl,hr3,hg3⟩;have HT3:=Ja (HC.out.1.rd hr3 hg3);clear hr3 hg3))
  cases b3 with
  | false=>
   obtain ⟨_,⟨y0,y1,y2,y3,y4,y5,y6,y7,bx,hy⟩,_,_⟩:=HT3.out;have e0:=bx.c0;have e1:=bx.c1;have e2:=bx.c2;have e3:=bx.c3;have HPW:=Ja (Jdj _ 0 c _ hy (by omega));clear bx hy;go_wp2_with (first
    | (go_at_call 74;refine HPW.out.mono ?_;clear HPW;rintro e w9 ⟨u9,rfl,hu9,hq9⟩;have HT9:=Ja (HT3.out.below hq9);clear hq9;have HU9:=Ja hu9;clear hu9;obtain ⟨a7,l7,c7,rfl⟩:=HU9.out.form))
   go_ret;have hok:=Jpo HC.out.2 HB3.out;refine ⟨_,c,0,_,rfl,HU9.out,by omega,HC.out.2.2.2.1,by rw [HI3.out];exact hI3s,?_,hok.2.2,HT9.out.2.2.1⟩;rw [←hok.1,←hok.2.1];rw [HI3.out];exact HT9.out.1
  | true=>
   have hlt3:I3+1≤s.size:=by
    have h5:=HB3.out;rw [Bool.and_eq_true] at h5;have h6:=JQ h5.2;rw [HI3.out,Jg] at h6;omega
   obtain ⟨b4,hb4⟩:∃ b,b=(decide (E1=0) && JK (Jc s) (skB (Jc s) (I3+1)) 94):=⟨_,rfl⟩;have HB4:=Ja hb4.symm;obtain ⟨I4,hI4⟩:∃ x,skB (Jc s) (I3+1)=x:=⟨_,rfl⟩;have HX:=Ja (fun (V:World) (hh:RdB V R s ((I3+1:Nat):Int) E1 A1)=>JX R s (I3+1) E1 A1 94 V hh hlt3 hs b4 hb4);rw [hI4] at HX;have hI4s:I4≤s.size:=by rw [←hI4,←Jg];exact J8 (by rw [Jg];exact hlt3)
   have HI4:=Ja hI4;clear hI4 hb4;go_upto_if 45 with (first
    | (go_at_call 45;refine (HX.out _ HT3.out.1).mono ?_;clear HX;rintro e w4 ⟨rfl,hr4,hg4⟩;have HT4:=Ja (HT3.out.rd hr4 hg4);clear hr4 hg4))
   cases b4 with
   | false=>
    obtain ⟨_,⟨y0,y1,y2,y3,y4,y5,y6,y7,bx,hy⟩,_,_⟩:=HT4.out;have e0:=bx.c0;have e1:=bx.c1;have e2:=bx.c2;have e3:=bx.c3;have HPW:=Ja (Jdj _ 1 c _ hy (by omega));clear bx hy;go_wp2_with (first
     | (go_at_call 74;refine HPW.out.mono ?_;clear HPW;rintro e w9 ⟨u9,rfl,hu9,hq9⟩;have HT9:=Ja (HT4.out.below hq9);clear hq9;have HU9:=Ja hu9;clear hu9;obtain ⟨a7,l7,c7,rfl⟩:=HU9.out.form))
    go_ret;have hok:=Jpp HC.out.2 HB3.out (by rw [HI3.out];exact HB4.out);refine ⟨_,c,1,_,rfl,HU9.out,by omega,HC.out.2.2.2.1,by rw [HI3.out,HI4.out];exact hI4s,?_,hok.2.2,HT9.out.2.2.1⟩;rw [←hok.1,←hok.2.1];rw [HI3.out,HI4.out];exact HT9.out.1
   | true=>
    have hlt4:I4+1≤s.size:=by
     have h5:=HB4.out;rw [Bool.and_eq_true] at h5;have h6:=JQ h5.2;rw [HI4.out,Jg] at h6;omega
    obtain ⟨p5,hp5⟩:∃ x,skB (Jc s) (I4+1)=x:=⟨_,rfl⟩;have HN5:=Ja (fun (V:World) (hh:RdB V R s ((I4+1:Nat):Int) E1 A1)=>Jcv R s (I4+1) E1 A1 p5 V hh hlt4 hs hp5);have HP5:=Ja hp5;clear hp5;obtain ⟨E5,hE5⟩:∃ x,rdE (JO (Jc s) (I4+1)) E1=x:=⟨_,rfl⟩;obtain ⟨A5,hA5⟩:∃ x,rdA (JO (Jc s) (I4+1)) E1 A1=x:=⟨_,rfl⟩;rw [hE5,hA5] at HN5;have HE5:=Ja hE5;have HA5:=Ja hA5;clear hE5 hA5;go_upto_if 54 with (first
     | (go_at_call 91;refine (HN5.out _ HT4.out.1).mono ?_;clear HN5;rintro e w5 ⟨d5,n5,rfl,hd5,hn5,hr5,hg5⟩;have HT5:=Ja (HT4.out.rd hr5 hg5);clear hr5 hg5 HT4;have HD5:=Ja hd5;have HN5:=Ja hn5;have hn52:=hn5.lt12;have h5s:p5+d5≤s.size:=(by rw [←Jg];exact hn5.1);clear hd5 hn5))
    have HHD:=Ja (Jpq HC.out.2 HB3.out (by rw [HI3.out];exact HB4.out) (by rw [HI3.out,HI4.out];exact HP5.out) HD5.out HN5.out E5 A5 (by rw [HI3.out,HI4.out];exact HE5.out.symm) (by rw [HI3.out,HI4.out];exact HA5.out.symm));by_cases h8:8<n5
    · have h8':(8:Int)<(n5:Int):=by omega
      have HF:=Ja (fun (V:World) (hh:RdB V R s ((p5+d5:Nat):Int) E5 A5)=>XQ R s ((p5+d5:Nat):Int) E5 A5 3 (p5:Int) V hh);go_upto_region 21 with (first
       | (go_at_call 48;refine (HF.out _ HT5.out.1).mono ?_;clear HF;rintro e w55 ⟨rfl,hr6,hg6⟩;have HT55:=Ja (HT5.out.rd hr6 hg6);clear hr6 hg6 HT5))
      obtain ⟨_,⟨y0,y1,y2,y3,y4,y5,y6,y7,bx,hy⟩,_,_⟩:=HT55.out;have e0:=bx.c0;have e1:=bx.c1;have e2:=bx.c2;have e3:=bx.c3;have HPW:=Ja (Jdj _ 0 c _ hy (by omega));clear bx hy;go_wp2_with (first
       | (go_at_call 74;refine HPW.out.mono ?_;clear HPW;rintro e w9 ⟨u9,rfl,hu9,hq9⟩;have HT9:=Ja (HT55.out.below hq9);clear hq9;have HU9:=Ja hu9;clear hu9;obtain ⟨a7,l7,c7,rfl⟩:=HU9.out.form))
      go_ret;have hok:=HHD.out.1 h8;refine ⟨_,c,0,p5+d5,rfl,HU9.out,by omega,HC.out.2.2.2.1,h5s,?_,hok.2.2,HT9.out.2.2.1⟩;rw [←hok.1,←hok.2.1];exact HT9.out.1
    · have h8':¬ (8:Int)<(n5:Int):=by omega
      obtain ⟨_,⟨y0,y1,y2,y3,y4,y5,y6,y7,bx,hy⟩,_,_⟩:=HT5.out;have e0:=bx.c0;have e1:=bx.c1;have e2:=bx.c2;have e3:=bx.c3;have HPW:=Ja (Jdj _ n5 c _ hy (by omega));clear bx hy;go_wp2_with (first
       | (go_at_call 74;refine HPW.out.mono ?_;clear HPW;rintro e w9 ⟨u9,rfl,hu9,hq9⟩;have HT9:=Ja (HT5.out.below hq9);clear hq9;have HU9:=Ja hu9;clear hu9;obtain ⟨a7,l7,c7,rfl⟩:=HU9.out.form))
      go_ret;have hok:=HHD.out.2 h8;refine ⟨_,c,n5,p5+d5,rfl,HU9.out,by omega,HC.out.2.2.2.1,h5s,?_,hok.2.2,HT9.out.2.2.1⟩;rw [←hok.1,←hok.2.1];exact HT9.out.1
end Go.Proofs.YtcahejkcdcjjgaaGreatDoor
