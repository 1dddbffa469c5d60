import Derived.Test.YtcahejkcdcjjgaaGreatDoorK32
set_option maxRecDepth 100000
set_option maxHeartbeats 16000000
namespace Go.Proofs.YtcahejkcdcjjgaaGreatDoor
open Go.RowKit Go.Shelf
attribute [local go_sem] Oper.semAt_some
def Jhb(r:Bool)(W0:World)(V:World)(o:Value)(qs:List Rat):Prop:=Ja2 r W0.heap.size V o qs∧Below W0.heap.size W0 V
theorem Jhb.below{r:Bool}{W0 V V':World}{o:Value}{qs:List Rat}(h:Jhb r W0 V o qs)(hb:Below V.heap.size V V'):Jhb r W0 V' o qs:=⟨h.1.below hb,h.2.trans (hb.mono h.2.size)⟩
theorem Jpa(va vq:Value)(ps:List Rat)(q:Rat)(w:World)(ha:RowK false w va ps)(hq:Jq w vq q)(hps:Sqs ps)(hsq:Sq q)(hlen:ps.length<1099511627776):
 Calls Tryz.prog 72 #[va,vq] w fun e w'=>∃u,e=.returned u∧RowK false w' u (Jh (YE q ps))∧Below w.heap.size w w':=by
 have Qn:Tryz.prog.follows .mixedOrders=true:=by kernel_rfl
 obtain⟨a,la,ca,rfl⟩:=ha.form;obtain⟨a8,l8,c8,s8,b8,k8,d8,t8,rfl⟩:=Jq.form hq;obtain⟨hla,hca,hcma,hlma,s,t,aa,bb,ll,cc,kk,dd,hc⟩:=ha.formsF;have b0:=JH.new w 49 (.slice a8 l8 c8) (.bool s8) (.slice b8 k8 d8) (.bool t8);have Qe:Below w.heap.size w (w.alloc (.cells #[.slice a8 l8 c8,.bool s8,.slice b8 k8 d8,.bool t8] 49)):=(Below.refl _ w).alloc (Aa _) _;obtain⟨W0,hW0⟩:=ex (w.alloc (.cells #[.slice a8 l8 c8,.bool s8,.slice b8 k8 d8,.bool t8] 49));rw[hW0]at Qe b0;have Qm:=Ja hW0;have HA:=Ja hc;have HQ:=Ja (hq.below Qe);have HP:=Ja hps;have Qo:=Ja hsq;have Qh:=Ja hla;have Qd:=Ja Qe;have Qj:=Ja b0;have Qi:=Ja hlen;clear ha hq hps hsq hla hca hcma hc hW0 hlen b0 Qe;go_enter Tryz.func72,Tryz.ntmps72
 go_upto_region 1 with fail
 rw[Qm.o];go_wp2;go_loopw [5,6] (fun o i wr=>∃k:Nat,k≤la∧i=.int .i64 (k:Int)∧(∃oa oc,o=.slice oa k oc)∧Hid (Jhb false W0 wr o (XB (fun i=>cf ps i*q) k))) (fun _ i _=>la-(intOf i).toNat)
 case atStart=>exact⟨0,AW _,rfl,⟨_,_,rfl⟩,Ja ⟨Ja2.nil _ _ _,Below.refl _ _⟩⟩
 case round=>
  obtain⟨k,hk,rfl,⟨oa,oc,rfl⟩,HR⟩:=hrel;by_cases hlt:k<la
  · have hlt2:(k:Int)<(la:Int):=by omega
    obtain⟨hi,b,rfl,hb,c0,c1,c2,c3⟩:=HA.o k hlt;have Qp:=Ja (show ∀V,Below W0.heap.size W0 V→(V.cell? ⟨b,k*4,none⟩=some (.slice (aa k) (ll k) (cc k))∧V.cell? ⟨b,k*4+1,none⟩=some (.bool (s k))∧V.cell? ⟨b,k*4+2,none⟩=some (.slice (bb k) (kk k) (dd k))∧V.cell? ⟨b,k*4+3,none⟩=some (.bool (t k)))∧Jq V (.agg #[.slice (aa k) (ll k) (cc k),.bool (s k),.slice (bb k) (kk k) (dd k),.bool (t k)]) (cf ps k)from fun V h=>by
     have hB:=Qd.o.trans (h.mono Qd.o.size);exact⟨⟨(hB.cell (p:=⟨b,_,none⟩) hb).trans c0,(hB.cell (p:=⟨b,_,none⟩) hb).trans c1,(hB.cell (p:=⟨b,_,none⟩) hb).trans c2,(hB.cell (p:=⟨b,_,none⟩) hb).trans c3⟩,hi.below hB⟩)
    have HK:=Ja (show k+1≤1099511627776 by have:=Qi.o;have:=Qh.o;omega);clear hi c0 c1 c2 c3 hb;go_wp2_with fail
    have Ql:=HR.o.below ((Below.refl _ wr).drew);refine Jr Qn [[],[],[],[1,2],[3],[],[4,5],[6],[0,7,6],[8,8,0,1,2,3,4,5,6,7,8]] (by kernel_rfl) (by decide)
     (fun D act V=>∃(ta tb tc td te tf tg ti tj tk:Value),act={ tmps:=#[.slice (some ⟨b,0,none⟩) la ca,.agg #[.slice a8 l8 c8,.bool s8,.slice b8 k8 d8,.bool t8],undef,.pointer (some ⟨w.heap.size,0,none⟩),.slice none 0 0,tk,.int .i64 ↑k,.int .i64 ↑k,.slice (some ⟨b,0,none⟩) la ca,.int .i64 ↑la,.bool true,u11,u12,ta,tb,tc,td,te,tf,tg,ti,tj,undef,undef],defers:=[] }∧Hid ((D 0=true→ta=.slice oa k oc)∧(D 1=true→tb=.slice (some ⟨b,0,none⟩) la ca)∧(D 2=true→tc=.int .i64 (k:Int))∧(D 3=true→td=.pointer (some ⟨b,k*4,none⟩))∧(D 4=true→D 8=false→Jq V te (cf ps k))∧(D 5=true→D 8=false→Jq V tf q)∧(D 6=true→D 8=false→Jq V tg (cf ps k*q))∧(D 7=true→∃a l c,ti=.slice a l c)∧(D 8=true→∃a l c,tj=.slice a l c)∧((D 9=false→tk=Value.slice oa k oc)∧(D 9=true→tk=tj)))∧Hid ((D 7=false→Jhb false W0 V (.slice oa k oc) (XB (fun i=>cf ps i*q) k))∧(D 7=true→D 8=false→∃(V0:World) (x y z u:Value),V=V0.alloc (.cells #[x,y,z,u] (tyK false))∧(Jhb false W0 V0 (.slice oa k oc) (XB (fun i=>cf ps i*q) k))∧IsK false V0 (.agg #[x,y,z,u]) (cf ps k*q)∧ti=.slice (some ⟨V0.heap.size,0,none⟩) 1 1)∧(D 8=true→Jhb false W0 V tj (XB (fun i=>cf ps i*q) k++[cf ps k*q]))))
     (E8 ⟨_,_,rfl,Ja ⟨by simp,by simp,by simp,by simp,by simp,by simp,by simp,by simp,by simp,⟨fun _=>rfl,by simp⟩⟩,Ja ⟨fun _=>Ql,by simp,by simp⟩⟩) ?step1 ?fin1
    case step1=>
     rintro D act V i ds hcl hi hds hDi ⟨ta,tb,tc,td,te,tf,tg,ti,tj,tk,rfl,GG,SS0⟩;have hi6:i<10:=(Ad.1 hi).1;obtain rfl|rfl|rfl|rfl|rfl|rfl|rfl|rfl|rfl|rfl:=Lt10 i (by omega)
     all_goals
      simp only[Aj,Ah,Ak]at hi;subst hi
     · have Qb:D 8=false:=nyt hcl hDi;have Qf:D 9=false:=nyt hcl hDi;obtain rfl:=GG.o.2.2.2.2.2.2.2.2.2.1 Qf;clear hds;refine Jb rfl rfl fun K hK=>?_;go_simp;obtain⟨_,G1,G2,G3,G4,G5,G6,G7,G8,_⟩:=GG.o;exact hK _ _ (E8 ⟨_,_,rfl,Ja ⟨fun _=>rfl,G1,G2,G3,G4,G5,G6,G7,G8,⟨fun _=>rfl,fun h=>by simp[Qf]at h⟩⟩,Ja ⟨fun h=>SS0.o.1 (by simpa using h),fun h h2=>SS0.o.2.1 (by simpa using h) (by simpa using h2),fun h=>SS0.o.2.2 (by simpa using h)⟩⟩)
     · have Qb:D 8=false:=by
        cases h:D 8 with
        |false=>rfl
        |true=>rw[(hcl 3 _ rfl (hcl 4 _ rfl (hcl 6 _ rfl (hcl 7 _ rfl (hcl 8 _ rfl h 7 (by simp)) 6 (by simp)) 4 (by simp)) 3 (by simp)) 1 (by simp))]at hDi;cases hDi
       have Qc:D 7=false:=by
        cases h:D 7 with
        |false=>rfl
        |true=>rw[(hcl 3 _ rfl (hcl 4 _ rfl (hcl 6 _ rfl (hcl 7 _ rfl h 6 (by simp)) 4 (by simp)) 3 (by simp)) 1 (by simp))]at hDi;cases hDi
       have Qa:=SS0.o.1 Qc;clear hds;refine Jb rfl rfl fun K hK=>?_;go_simp;exact hK _ _ (E8 ⟨_,_,rfl,Ja ⟨GG.o.1,fun _=>rfl,GG.o.2.2.1,GG.o.2.2.2.1,GG.o.2.2.2.2.1,GG.o.2.2.2.2.2.1,GG.o.2.2.2.2.2.2.1,GG.o.2.2.2.2.2.2.2.1,GG.o.2.2.2.2.2.2.2.2.1,⟨fun h=>GG.o.2.2.2.2.2.2.2.2.2.1 (by simpa using h),fun h=>GG.o.2.2.2.2.2.2.2.2.2.2 (by simpa using h)⟩⟩,Ja ⟨fun _=>Qa,fun h=>by simp[Qc]at h,fun h=>by simp[Qb]at h⟩⟩)
     · have Qb:D 8=false:=by
        cases h:D 8 with
        |false=>rfl
        |true=>rw[(hcl 3 _ rfl (hcl 4 _ rfl (hcl 6 _ rfl (hcl 7 _ rfl (hcl 8 _ rfl h 7 (by simp)) 6 (by simp)) 4 (by simp)) 3 (by simp)) 2 (by simp))]at hDi;cases hDi
       have Qc:D 7=false:=by
        cases h:D 7 with
        |false=>rfl
        |true=>rw[(hcl 3 _ rfl (hcl 4 _ rfl (hcl 6 _ rfl (hcl 7 _ rfl h 6 (by simp)) 4 (by simp)) 3 (by simp)) 2 (by simp))]at hDi;cases hDi
       have Qa:=SS0.o.1 Qc;clear hds;refine Jb rfl rfl fun K hK=>?_;go_simp;exact hK _ _ (E8 ⟨_,_,rfl,Ja ⟨GG.o.1,GG.o.2.1,fun _=>rfl,GG.o.2.2.2.1,GG.o.2.2.2.2.1,GG.o.2.2.2.2.2.1,GG.o.2.2.2.2.2.2.1,GG.o.2.2.2.2.2.2.2.1,GG.o.2.2.2.2.2.2.2.2.1,⟨fun h=>GG.o.2.2.2.2.2.2.2.2.2.1 (by simpa using h),fun h=>GG.o.2.2.2.2.2.2.2.2.2.2 (by simpa using h)⟩⟩,Ja ⟨fun _=>Qa,fun h=>by simp[Qc]at h,fun h=>by simp[Qb]at h⟩⟩)
     · have Qb:D 8=false:=by
        cases h:D 8 with
        |false=>rfl
        |true=>rw[(hcl 4 _ rfl (hcl 6 _ rfl (hcl 7 _ rfl (hcl 8 _ rfl h 7 (by simp)) 6 (by simp)) 4 (by simp)) 3 (by simp))]at hDi;cases hDi
       have Qc:D 7=false:=by
        cases h:D 7 with
        |false=>rfl
        |true=>rw[(hcl 4 _ rfl (hcl 6 _ rfl (hcl 7 _ rfl h 6 (by simp)) 4 (by simp)) 3 (by simp))]at hDi;cases hDi
       have Qa:=SS0.o.1 Qc;obtain rfl:=GG.o.2.1 (hds 1 (by simp));obtain rfl:=GG.o.2.2.1 (hds 2 (by simp));clear hds;refine Jb rfl rfl fun K hK=>?_;go_simp;exact hK _ _ (E8 ⟨_,_,rfl,Ja ⟨GG.o.1,fun _=>rfl,fun _=>rfl,fun _=>rfl,GG.o.2.2.2.2.1,GG.o.2.2.2.2.2.1,GG.o.2.2.2.2.2.2.1,GG.o.2.2.2.2.2.2.2.1,GG.o.2.2.2.2.2.2.2.2.1,⟨fun h=>GG.o.2.2.2.2.2.2.2.2.2.1 (by simpa using h),fun h=>GG.o.2.2.2.2.2.2.2.2.2.2 (by simpa using h)⟩⟩,Ja ⟨fun _=>Qa,fun h=>by simp[Qc]at h,fun h=>by simp[Qb]at h⟩⟩)
     · have Qb:D 8=false:=by
        cases h:D 8 with
        |false=>rfl
        |true=>rw[(hcl 6 _ rfl (hcl 7 _ rfl (hcl 8 _ rfl h 7 (by simp)) 6 (by simp)) 4 (by simp))]at hDi;cases hDi
       have Qc:D 7=false:=by
        cases h:D 7 with
        |false=>rfl
        |true=>rw[(hcl 6 _ rfl (hcl 7 _ rfl h 6 (by simp)) 4 (by simp))]at hDi;cases hDi
       have Qa:=SS0.o.1 Qc;obtain rfl:=GG.o.2.2.2.1 (hds 3 (by simp));obtain⟨⟨e0,e1,e2,e3⟩,hr⟩:=Qp.o V Qa.2;clear hds;refine Jb rfl rfl fun K hK=>?_;go_simp;exact hK _ _ (E8 ⟨_,_,rfl,Ja ⟨GG.o.1,GG.o.2.1,GG.o.2.2.1,fun _=>rfl,fun _ _=>hr,GG.o.2.2.2.2.2.1,GG.o.2.2.2.2.2.2.1,GG.o.2.2.2.2.2.2.2.1,GG.o.2.2.2.2.2.2.2.2.1,⟨fun h=>GG.o.2.2.2.2.2.2.2.2.2.1 (by simpa using h),fun h=>GG.o.2.2.2.2.2.2.2.2.2.2 (by simpa using h)⟩⟩,Ja ⟨fun _=>Qa,fun h=>by simp[Qc]at h,fun h=>by simp[Qb]at h⟩⟩)
     · have Qb:D 8=false:=by
        cases h:D 8 with
        |false=>rfl
        |true=>rw[(hcl 6 _ rfl (hcl 7 _ rfl (hcl 8 _ rfl h 7 (by simp)) 6 (by simp)) 5 (by simp))]at hDi;cases hDi
       have Qc:D 7=false:=by
        cases h:D 7 with
        |false=>rfl
        |true=>rw[(hcl 6 _ rfl (hcl 7 _ rfl h 6 (by simp)) 5 (by simp))]at hDi;cases hDi
       have Qa:=SS0.o.1 Qc;have n0:=Qj.o.below Qa.2;have e0:=n0.c0;have e1:=n0.c1;have e2:=n0.c2;have e3:=n0.c3;clear hds;refine Jb rfl rfl fun K hK=>?_;go_simp;exact hK _ _ (E8 ⟨_,_,rfl,Ja ⟨GG.o.1,GG.o.2.1,GG.o.2.2.1,GG.o.2.2.2.1,GG.o.2.2.2.2.1,fun _ _=>HQ.o.below Qa.2,GG.o.2.2.2.2.2.2.1,GG.o.2.2.2.2.2.2.2.1,GG.o.2.2.2.2.2.2.2.2.1,⟨fun h=>GG.o.2.2.2.2.2.2.2.2.2.1 (by simpa using h),fun h=>GG.o.2.2.2.2.2.2.2.2.2.2 (by simpa using h)⟩⟩,Ja ⟨fun _=>Qa,fun h=>by simp[Qc]at h,fun h=>by simp[Qb]at h⟩⟩)
     · have Qb:D 8=false:=nyt hcl hDi;have Qc:D 7=false:=nyt hcl hDi;have Qa:=SS0.o.1 Qc;have h0:=GG.o.2.2.2.2.1 (hds 4 (by simp)) Qb;have h1:=GG.o.2.2.2.2.2.1 (hds 5 (by simp)) Qb;clear hds;have HC:=Ja (Jk3 _ _ (cf ps k) q V h0 h1 (HP.o.at k) Qo.o);clear h0 h1;refine Jb rfl rfl fun K hK=>?_;go_simp;go_wp2_with(go_at_call 73;refine HC.o.mono ?_;rintro e w5 ⟨v5,rfl,hv5,hb5⟩)
       exact E8 ⟨_,_,rfl,Ja ⟨GG.o.1,GG.o.2.1,GG.o.2.2.1,GG.o.2.2.2.1,fun h h2=>(GG.o.2.2.2.2.1 h h2).below hb5,fun h h2=>(GG.o.2.2.2.2.2.1 h h2).below hb5,fun _ _=>hv5,GG.o.2.2.2.2.2.2.2.1,GG.o.2.2.2.2.2.2.2.2.1,⟨fun h=>GG.o.2.2.2.2.2.2.2.2.2.1 (by simpa using h),fun h=>GG.o.2.2.2.2.2.2.2.2.2.2 (by simpa using h)⟩⟩,Ja ⟨fun _=>Qa.below hb5,fun h=>by simp[Qc]at h,fun h=>by simp[Qb]at h⟩⟩
     · have Qb:D 8=false:=nyt hcl hDi;have Qa:=SS0.o.1 hDi;have h0:=GG.o.2.2.2.2.2.2.1 (hds 6 (by simp)) Qb;obtain⟨a9,l9,c9,s9,b9,k9,d9,t9,rfl⟩:=Jq.form h0;clear hds;refine Jb rfl rfl fun K hK=>?_;go_simp;exact hK _ _ (E8 ⟨_,_,rfl,Ja ⟨GG.o.1,GG.o.2.1,GG.o.2.2.1,GG.o.2.2.2.1,fun h h2=>(GG.o.2.2.2.2.1 h h2).below ((Below.refl _ V).alloc (Aa _) _),fun h h2=>(GG.o.2.2.2.2.2.1 h h2).below ((Below.refl _ V).alloc (Aa _) _),fun h h2=>(GG.o.2.2.2.2.2.2.1 h h2).below ((Below.refl _ V).alloc (Aa _) _),fun _=>⟨_,_,_,rfl⟩,GG.o.2.2.2.2.2.2.2.2.1,⟨fun h=>GG.o.2.2.2.2.2.2.2.2.2.1 (by simpa using h),fun h=>GG.o.2.2.2.2.2.2.2.2.2.2 (by simpa using h)⟩⟩,Ja ⟨fun h=>by simp at h,fun _ _=>⟨V,_,_,_,_,rfl,Qa,h0,rfl⟩,fun h=>by simp[Qb]at h⟩⟩)
     · obtain⟨V0,x9,y9,z9,u9,rfl,Qa,hq9,hb9⟩:=SS0.o.2.1 (hds 7 (by simp)) hDi;obtain rfl:=GG.o.1 (hds 0 (by simp));have Qf:D 9=false:=nyt hcl hDi;have Qg:=hds 7 (by simp);obtain⟨v5,w5,hap,ho5,hk5,hb5⟩:=XJ false W0.heap.size V0 _ _ Qa.1 hq9 (by rw[JM];exact HK.o) Qa.2.size;dsimp only[tsK,tyK]at hap;subst hb9;obtain⟨a6,c6,e6,_⟩:=ho5.form;subst e6;clear hds;refine Jb rfl rfl fun K hK=>?_;refine Lib.wp_append_run _ _ _ 30 30 rfl _ _ rfl rfl _ _ hap (hK _ _ ?_);exact E8 ⟨_,_,rfl,Ja ⟨fun _=>rfl,GG.o.2.1,GG.o.2.2.1,GG.o.2.2.2.1,fun _ h=>by simp at h,fun _ h=>by simp at h,fun _ h=>by simp at h,GG.o.2.2.2.2.2.2.2.1,fun _=>⟨_,_,_,rfl⟩,⟨fun h=>GG.o.2.2.2.2.2.2.2.2.2.1 (by simpa using h),fun h=>by simp[Qf]at h⟩⟩,Ja ⟨fun h=>by simp[Qg]at h,fun _ h=>by simp at h,fun _=>⟨ho5,hb5 _ _ (Aa _) Qa.2⟩⟩⟩
     · clear hds;refine Jb rfl rfl fun K hK=>?_;go_simp;obtain⟨G0,G1,G2,G3,G4,G5,G6,G7,G8,_⟩:=GG.o;exact hK _ _ (E8 ⟨_,_,rfl,Ja ⟨G0,G1,G2,G3,G4,G5,G6,G7,G8,⟨fun h=>by simp at h,fun _=>rfl⟩⟩,Ja ⟨fun h=>SS0.o.1 (by simpa using h),fun h h2=>SS0.o.2.1 (by simpa using h) (by simpa using h2),fun h=>SS0.o.2.2 (by simpa using h)⟩⟩)
    case fin1=>
     rintro D act V hDD ⟨ta,tb,tc,td,te,tf,tg,ti,tj,tk,rfl,GG,SS0⟩;have HO:=Ja (SS0.o.2.2 (hDD 8 (by decide)));obtain rfl:=GG.o.2.2.2.2.2.2.2.2.2.2 (hDD 9 (by decide));clear GG SS0 hDD;obtain⟨a9,c9,e9,_⟩:=HO.o.1.form;rw[←YU,JM]at e9;subst e9;go_wp2_with fail
     go_roundw
     case rel=>exact⟨k+1,by omega,by go_num,⟨a9,c9,rfl⟩,Ja (by rw[YU];exact HO.o)⟩
     case measure=>simp[intOf];omega
  · have Qk:k=la:=by omega
    subst Qk;have HT:=Ja (Jer _ _ wr (HR.o.1.row (by rw[JM];omega)));have HE:=Ja (show Jh (XB (fun i=>cf ps i*q) k)=Jh (YE q ps)from YD fun j=>by
     rw[Jes,YX];split
     · rfl
     · rw[J4 (by have:=Qh.o;omega)];grind)
    rw[HE.o]at HT;go_wp2_with(go_at_call 23;refine HT.o.mono ?_;clear HT;rintro e w1 ⟨u1,rfl,hu1,hb1⟩;obtain⟨a7,l7,c7,rfl⟩:=hu1.form)
    go_ret;exact⟨_,rfl,hu1,(Qd.o.trans (HR.o.2.mono Qd.o.size)).trans (hb1.mono (Aw Qd.o.size HR.o.2.size))⟩
theorem Jpb{ps:List Rat}(h:Sqs ps):Sqs (Jh (YE (-1) ps)):=Sqs.of fun i=>by
 rw[J8,YX,show cf ps i*-1=-(cf ps i)from by grind];exact(h.at i).neg
theorem X7(va vb:Value)(ps qs:List Rat)(w:World)(ha:RowK false w va ps)(hb:RowK false w vb qs)(hps:Sqs ps)(hqs:Sqs qs)(hlen:ps.length<1099511627776∧qs.length<1099511627776):
 Calls Tryz.prog 31 #[va,vb] w fun e w'=>∃u,e=.returned u∧RowK false w' u (XR ps qs)∧Below w.heap.size w w':=by
 obtain⟨a,la,ca,rfl⟩:=ha.form;obtain⟨b,lb,cb,rfl⟩:=hb.form;have HE:=Ja (show XV ps (Jh (YE (-1) qs))=XR ps qs from YD fun j=>by rw[Y8,J8,Y8]);have H1:=Ja (Jcq (-1) (by omega) (by omega) w);have H2:=Ja (fun(V:World) (u:Value) (h:Below w.heap.size w V) (hu:Jq V u ((-1:Int):Rat))=>Jpa _ u qs (-1) V (hb.below h) hu hqs (Sq.of (k:=1) ⟨(Sm.one 1 (by omega)).neg,Sm.one 1 (by omega)⟩ (by omega)) hlen.2);have H3:=Ja (fun(V:World) (u:Value) (h:Below w.heap.size w V) (hu:RowK false V u (Jh (YE (-1) qs)))=>Ja3 _ u ps _ V (ha.below h) hu hps (Jpb hqs) ⟨hlen.1,CJ (Jz _) (by unfold YE;rw[Fp];exact hlen.2)⟩);rw[HE.o]at H3;clear ha hb hps hqs hlen;go_enter Tryz.func31,Tryz.ntmps31
 go_wp2_with(first
  |(go_at_call 62;refine H1.o.mono ?_;clear H1;rintro e w1 ⟨u1,rfl,hu1,hb1⟩)
  |(go_at_call 72;refine(H2.o _ _ hb1 hu1).mono ?_;clear H2;rintro e w2 ⟨u2,rfl,hu2,hb2⟩;have Qa:=Below.then hb1 hb2)
  |(go_at_call 30;refine(H3.o _ _ Qa hu2).mono ?_;clear H3;rintro e w3 ⟨u3,rfl,hu3,hb3⟩;have Qb:=Below.then Qa hb3;obtain⟨a7,l7,c7,rfl⟩:=hu3.form))
 go_ret;exact⟨_,rfl,hu3,Qb⟩
theorem Jcr(vq:Value)(n:Nat)(q:Rat)(w:World)(hq:Jq w vq q)(hn:n<1099511627775):
 Calls Tryz.prog 74 #[.int .i64 (n:Int),vq] w fun e w'=>∃u,e=.returned u∧RowK false w' u (Jh (upR n [q]))∧Below w.heap.size w w':=by
 obtain⟨a8,l8,c8,s8,b8,k8,d8,t8,rfl⟩:=Jq.form hq;have b0:=JH.new w 49 (.slice a8 l8 c8) (.bool s8) (.slice b8 k8 d8) (.bool t8);have Qa:Below w.heap.size w (w.alloc (.cells #[.slice a8 l8 c8,.bool s8,.slice b8 k8 d8,.bool t8] 49)):=(Below.refl _ w).alloc (Aa _) _;obtain⟨W0,hW0⟩:=ex (w.alloc (.cells #[.slice a8 l8 c8,.bool s8,.slice b8 k8 d8,.bool t8] 49));rw[hW0]at Qa b0;have Qg:=Ja hW0;have HQ:=Ja (hq.below Qa);have Qb:=Ja Qa;have Qf:=Ja b0;clear hq hW0 b0 Qa;go_enter Tryz.func74,Tryz.ntmps74
 go_upto_region 1 with fail
 rw[Qg.o];go_wp2;go_loopw [5,6] (fun o i wr=>∃k:Nat,k≤n∧i=.int .i64 (k:Int)∧(∃oa oc,o=.slice oa k oc)∧Hid (Jhb false W0 wr o (XB (fun _=>0) k))) (fun _ i _=>n-(intOf i).toNat)
 case atStart=>exact⟨0,AW _,rfl,⟨_,_,rfl⟩,Ja ⟨Ja2.nil _ _ _,Below.refl _ _⟩⟩
 case round=>
  obtain⟨k,hk,rfl,⟨oa,oc,rfl⟩,HR⟩:=hrel;by_cases hlt:k<n
  · have hlt2:(k:Int)<(n:Int):=by omega
    have H1:=Ja (Jcq 0 (by omega) (by omega) wr);have HK:=Ja (show k+1≤1099511627776 by omega);go_wp2_with(first
     |(go_at_call 62;refine H1.o.mono ?_;clear H1;rintro e w3 ⟨u3,rfl,hu3,hq3⟩;obtain⟨a91,l91,c91,s91,b91,k91,d91,t91,rfl⟩:=Jq.form hu3;obtain⟨v9,w9,hap,ho9,hk9,hb9⟩:=XJ false W0.heap.size w3 _ _ (HR.o.1.below hq3) hu3 (by rw[JM];exact HK.o) (by have:=HR.o.2.size;have:=hq3.size;omega);have Qc:=Ja ho9;have Qe:=Ja (hb9 W0.heap.size W0 (Aa _) (HR.o.2.trans (hq3.mono HR.o.2.size)));clear ho9 hk9 hb9 hu3)
     |(at_builtin;refine Lib.wpList_append_run _ rfl _ _ 30 30 rfl _ _ rfl rfl _ _ hap ?_))
    obtain⟨a9,c9,e9,_⟩:=Qc.o.form;go_roundw
    case rel=>
     refine⟨k+1,by omega,by go_num,⟨a9,c9,?_⟩,Ja ⟨?_,Qe.o⟩⟩
     · rw[Ai,JM]at e9;exact e9
     · rw[YU];exact Qc.o
    case measure=>simp[intOf];omega
  · have Qh:k=n:=by omega
    subst Qh;have n0:=Qf.o.below HR.o.2;have e0:=n0.c0;have e1:=n0.c1;have e2:=n0.c2;have e3:=n0.c3;obtain⟨v9,w9,hap,ho9,hk9,hb9⟩:=XJ false W0.heap.size wr _ _ HR.o.1 (HQ.o.below HR.o.2) (by rw[JM];omega) HR.o.2.size;dsimp only[tsK,tyK]at hap;have HE:=Ja (show Jh (XB (fun _=>0) k++[q])=Jh (upR k [q])from YD fun j=>by
     rw[Jiv,JM,Jdo,Jes];by_cases h1:j=k
     · rw[if_pos h1,if_pos (by omega),h1,A0,Y7]
     · rw[if_neg h1];by_cases h2:k≤j
       · rw[if_pos h2,J4 (by simp;omega)];split<;>rfl
       · rw[if_neg h2];split<;>rfl)
    have Qd:=hb9 W0.heap.size W0 (Aa _) HR.o.2;have HT:=Ja (Jer _ _ w9 (ho9.row (by rw[Ai,JM];simp;omega)));rw[HE.o]at HT;clear ho9 hk9 hb9 n0;go_wp2_with(first
     |(at_builtin;refine Lib.wpList_append_run _ rfl _ _ 30 30 rfl _ _ rfl rfl _ _ hap ?_)
     |(go_at_call 23;refine HT.o.mono ?_;clear HT;rintro e w1 ⟨u1,rfl,hu1,hb1⟩;obtain⟨a7,l7,c7,rfl⟩:=hu1.form))
    go_ret;exact⟨_,rfl,hu1,(Qb.o.trans (Qd.mono Qb.o.size)).trans (hb1.mono (Aw Qb.o.size Qd.size))⟩
def RdB(W:World)(R:Nat)(s:ByteArray)(I E A:Int):Prop:=W.heap[R]?=some (.cells #[.string s,.int .i64 I,.int .i64 E,.int .i64 A] 82 (0,0))
section
variable {W W':World} {R:Nat} {s:ByteArray} {I E A:Int}
theorem RdB.lt(h:RdB W R s I E A):R<W.heap.size:=(Ac.1 h).1
theorem RdB.c0(h:RdB W R s I E A):W.cell? ⟨R,0,none⟩=some (.string s):=by simp[World.cell?,show W.heap[R]?=_ from h]
theorem RdB.c1(h:RdB W R s I E A):W.cell? ⟨R,1,none⟩=some (.int .i64 I):=by simp[World.cell?,show W.heap[R]?=_ from h]
theorem RdB.c2(h:RdB W R s I E A):W.cell? ⟨R,2,none⟩=some (.int .i64 E):=by simp[World.cell?,show W.heap[R]?=_ from h]
theorem RdB.c3(h:RdB W R s I E A):W.cell? ⟨R,3,none⟩=some (.int .i64 A):=by simp[World.cell?,show W.heap[R]?=_ from h]
theorem RdB.f(h:RdB W R s I E A)(o:Nat):W.frozen? ⟨R,o,none⟩=false:=by simp[World.frozen?,show W.heap[R]?=_ from h]
theorem RdB.below(h:RdB W R s I E A)(hb:Below W.heap.size W W'):RdB W' R s I E A:=(hb.block R h.lt).trans h
theorem RdB.set1(h:RdB W R s I E A)(x:Int):RdB (W.setCell ⟨R,1,none⟩ (.int .i64 x)) R s x E A:=by
 have:=JQ (o:=1) h (.int .i64 x);exact this
theorem RdB.set2(h:RdB W R s I E A)(x:Int):RdB (W.setCell ⟨R,2,none⟩ (.int .i64 x)) R s I x A:=by
 have:=JQ (o:=2) h (.int .i64 x);exact this
theorem RdB.set3(h:RdB W R s I E A)(x:Int):RdB (W.setCell ⟨R,3,none⟩ (.int .i64 x)) R s I E x:=by
 have:=JQ (o:=3) h (.int .i64 x);exact this
theorem RdB.drewN(h:RdB W R s I E A)(n:Nat):RdB (W.drewN n) R s I E A:=h
end
theorem JB(W:World)(n:Nat)(r:Option Nat):W.grownBy (W.drewN n) r:=⟨rfl,rfl,rfl,Aa _,fun _ _ _=>rfl⟩
theorem Jaj(R:Nat)(s:ByteArray)(I E A e p:Int)(w:World)(h:RdB w R s I E A):
 Calls Tryz.prog 48 #[.pointer (some ⟨R,0,none⟩),.int .i64 e,.int .i64 p] w fun r w'=>r=.returned (.tuple #[])∧RdB w' R s I (if E=0 then e else E) (if E=0 then p else A)∧w.grownBy w' (some R):=by
 have c2:=h.c2;have f2:=h.f 2;have f3:=h.f 3;have c3:=h.c3;by_cases hE:E=0
 · rw[if_pos hE,if_pos hE];go_enter Tryz.func48,Tryz.ntmps48
   go_wp2;go_end0;exact⟨rfl,(h.set2 e).set3 p,Jf (JE w R 2 _) (JE _ R 3 _)⟩
 · rw[if_neg hE,if_neg hE];have hb:(E==0)=false:=by rw[beq_eq_false_iff_ne];exact hE
   go_enter Tryz.func48,Tryz.ntmps48
   go_wp2;go_end0;exact⟨rfl,h,Yr _ _⟩
theorem Jf2{c d:UInt8}(h:c≠d):((c.toNat:Int)==(d.toNat:Int))=false:=by
 rw[beq_eq_false_iff_ne];intro e;exact h (UInt8.toNat_inj.1 (by omega))
theorem Jg(s:ByteArray):(Jd s).length=s.size:=by unfold Jd;simp
theorem Jdg{f:UInt8→Bool}{s:ByteArray}{I j:Nat}(h1:I≤j)(h2:j≤s.size)(h3:∀k (hk:k<s.size),I≤k→k<j→f s[k]=true)(h4:∀hj:j<s.size,f s[j]=false):Y1 f (Jd s) I=j:=
 Jd6 h1 (by rw[Jg];exact h2) (fun k hk g1 g2=>h3 k (by rwa[Jg]at hk) g1 g2) (fun hk=>h4 (by rwa[Jg]at hk))
theorem Jhc{s:ByteArray}{j:Nat}{c:UInt8}(hj:j<s.size):JL (Jd s) j c=(s[j]==c):=by
 unfold JL;rw[Ae (by rw[Jg];exact hj)];rfl
theorem Jk5{s:ByteArray}{j:Nat}{c:UInt8}(hj:s.size≤j):JL (Jd s) j c=false:=by
 unfold JL;rw[Aq (by rw[Jg];exact hj)];rfl
def rdI(W:World)(R:Nat):Nat:=(intOf ((W.cell? ⟨R,1,none⟩).getD undef)).toNat
theorem XL{W:World}{R:Nat}{s:ByteArray}{I:Nat}{E A:Int}(h:RdB W R s I E A):rdI W R=I:=by
 unfold rdI;rw[h.c1];simp[intOf]
theorem Ys(R:Nat)(s:ByteArray)(I:Nat)(E A:Int)(c:UInt8)(w:World)(h:RdB w R s I E A)(hI:I≤s.size)(hs:s.size≤300):
 Calls Tryz.prog 47 #[.pointer (some ⟨R,0,none⟩),.int .u8 (c.toNat:Int)] w fun r w'=>r=.returned (.bool (decide (E=0)&&JL (Jd s) (skB (Jd s) I) c))∧RdB w' R s (skB (Jd s) I:Nat) E A∧w.grownBy w' (some R):=by
 have HH:=Ja h;clear h;go_enter Tryz.func47,Tryz.ntmps47
 go_wp2;go_loopw [5] (fun _ wr=>∃j:Nat,I≤j∧j≤s.size∧Hid (RdB wr R s j E A∧w.grownBy wr (some R)∧∀k (hk:k<s.size),I≤k→k<j→s[k]=32)) (fun _ wr=>s.size-rdI wr R)
 case atStart=>exact⟨I,Aa _,hI,Ja ⟨HH.o,Yr _ _,fun k _ h1 h2=>by omega⟩⟩
 case round=>
  obtain⟨j,h1,h2,HR⟩:=hrel;have c0:=HR.o.1.c0;have c1:=HR.o.1.c1;have c2:=HR.o.1.c2;have f1:=HR.o.1.f 1;by_cases hlt:j<s.size
  · have hlt2:(j:Int)<(s.size:Int):=by omega
    have hj0:(0:Int)≤(j:Int):=by omega
    by_cases h32:s[j]=32
    · have hb:((s[j].toNat:Int)==32)=true:=by rw[h32];rfl
      have Qe:=Ja h32;clear h32;go_wp2_with fail
      go_quiet (fail)
      go_wp2;go_roundw
      case rel=>
       refine⟨j+1,by omega,by omega,Ja ⟨?_,Jf (Jf HR.o.2.1 (JB _ _ _)) (JE _ R 1 _),fun k hk g1 g2=>?_⟩⟩
       · have:=(HR.o.1.drewN nq).set1 ((j:Int)+1);rw[show((j:Int)+1)=((j+1:Nat):Int)from by omega]at this;exact this
       · by_cases e:k=j
         · subst e;exact Qe.o
         · exact HR.o.2.2 k hk g1 (by omega)
      case measure=>
       have e1:=XL HR.o.1;have e2:rdI ((wr.drewN nq).setCell ⟨R,1,none⟩ (.int .i64 ((j:Int)+1))) R=j+1:=by
        have:=(HR.o.1.drewN nq).set1 ((j:Int)+1);rw[show((j:Int)+1)=((j+1:Nat):Int)from by omega]at this ⊢;exact XL this
       show s.size-rdI ((wr.drewN nq).setCell ⟨R,1,none⟩ (.int .i64 ((j:Int)+1))) R<s.size-rdI wr R;rw[e1,e2];omega
    · have hb:((s[j].toNat:Int)==32)=false:=Jf2 (d:=32) h32;have Qa:=Ja (show skB (Jd s) I=j from Jdg h1 h2 (fun k hk g1 g2=>by rw[HR.o.2.2 k hk g1 g2];rfl) (fun _=>beq_eq_false_iff_ne.2 h32));have Qb:=Ja (Jhc (s:=s) (c:=c) hlt);clear h32;go_wp2_with fail
      go_quiet (fail)
      go_wp2;have HG:=Ja (show w.grownBy (wr.drewN nq) (some R)from Jf HR.o.2.1 (JB _ _ _));have HD:=Ja (HR.o.1.drewN nq);have c0':=HD.o.c0;have c1':=HD.o.c1;have c2':=HD.o.c2;by_cases hE:E=0
      · have Qc:(E==0)=true:=by rw[hE];rfl
        by_cases hc:s[j]=c
        · have Qd:((s[j].toNat:Int)==(c.toNat:Int))=true:=by rw[hc];exact beq_self_eq_true _
          have HF:=Ja (show(decide (E=0)&&(s[j]==c))=true by rw[hE,hc];simp);clear hc hE;go_quiet (fail)
          go_wp2;go_ret;exact⟨by rw[Qa.o,Qb.o,HF.o];rfl,by rw[Qa.o];exact HD.o.drewN _,Jf HG.o (JB _ _ _)⟩
        · have Qd:((s[j].toNat:Int)==(c.toNat:Int))=false:=Jf2 hc;have HF:=Ja (show(decide (E=0)&&(s[j]==c))=false by rw[beq_eq_false_iff_ne.2 hc,Bool.and_false]);clear hc hE;go_quiet (fail)
          go_wp2;go_ret;exact⟨by rw[Qa.o,Qb.o,HF.o];rfl,by rw[Qa.o];exact HD.o.drewN _,Jf HG.o (JB _ _ _)⟩
      · have Qc:(E==0)=false:=by rw[beq_eq_false_iff_ne];exact hE
        have HF:=Ja (show(decide (E=0)&&(s[j]==c))=false by rw[decide_eq_false hE,Bool.false_and]);clear hE;go_quiet (fail)
        go_wp2;go_ret;exact⟨by rw[Qa.o,Qb.o,HF.o];rfl,by rw[Qa.o];exact HD.o.drewN _,Jf HG.o (JB _ _ _)⟩
  · have Qf:j=s.size:=by omega
    have hd:decide (j<s.size)=false:=decide_eq_false (by omega);have Qa:=Ja (show skB (Jd s) I=j from Jdg h1 h2 (fun k hk g1 g2=>by rw[HR.o.2.2 k hk g1 g2];rfl) (fun h=>by omega));have Qb:=Ja (Jk5 (s:=s) (j:=j) (c:=c) (by omega));clear Qf hlt;go_wp2_with fail
    go_quiet (fail)
    go_wp2;have HG:=Ja (show w.grownBy (wr.drewN nq) (some R)from Jf HR.o.2.1 (JB _ _ _));have HD:=Ja (HR.o.1.drewN nq);have c0':=HD.o.c0;have c1':=HD.o.c1;have c2':=HD.o.c2;by_cases hE:E=0
    · have Qc:(E==0)=true:=by rw[hE];rfl
      clear hE;go_quiet (fail)
      go_wp2;go_ret;exact⟨by rw[Qa.o,Qb.o,Bool.and_false];rfl,by rw[Qa.o];exact HD.o.drewN _,Jf HG.o (JB _ _ _)⟩
    · have Qc:(E==0)=false:=by rw[beq_eq_false_iff_ne];exact hE
      clear hE;go_quiet (fail)
      go_wp2;go_ret;exact⟨by rw[Qa.o,Qb.o,Bool.and_false];rfl,by rw[Qa.o];exact HD.o.drewN _,Jf HG.o (JB _ _ _)⟩
end Go.Proofs.YtcahejkcdcjjgaaGreatDoor
namespace Go.Proofs.YtcahejkcdcjjgaaGreatDoor
open Go.RowKit Go.Shelf
attribute [local go_sem] Oper.semAt_some
theorem Jk6(c:UInt8)(w:World):Calls Tryz.prog 124 #[.int .u8 (c.toNat:Int)] w fun r w'=>r=.returned (.bool (isD c))∧w'=w:=by
 by_cases h1:48≤c.toNat
 · have g1:decide ((48:Int)≤(c.toNat:Int))=true:=decide_eq_true (by omega);by_cases h2:c.toNat≤57
   · have HD:=Ja (show isD c=true by simp[isD,h1,h2]);go_enter Tryz.func124,Tryz.ntmps124
     go_wp2;go_ret;exact⟨by rw[HD.o];simp;omega,rfl⟩
   · have HD:=Ja (show isD c=false by simp[isD,h2]);go_enter Tryz.func124,Tryz.ntmps124
     go_wp2;go_ret;exact⟨by rw[HD.o];simp;omega,rfl⟩
 · have HD:=Ja (show isD c=false by simp[isD,h1]);go_enter Tryz.func124,Tryz.ntmps124
   go_wp2;go_ret;exact⟨by rw[HD.o];rfl,rfl⟩
theorem J0(R:Nat)(s:ByteArray)(I:Nat)(E A:Int)(c:UInt8)(w:World)(h:RdB w R s I E A)(hI:I≤s.size)(hs:s.size≤300)(b:Bool)(hb:b=(decide (E=0)&&JL (Jd s) (skB (Jd s) I) c)):
 Calls Tryz.prog 45 #[.pointer (some ⟨R,0,none⟩),.int .u8 (c.toNat:Int)] w fun r w'=>r=.returned (.bool b)∧RdB w' R s ((skB (Jd s) I+(if b then 1 else 0):Nat):Int) E A∧w.grownBy w' (some R):=by
 have HI:=Ja (Ys R s I E A c w h hI hs);have HS:=Ja (show skB (Jd s) I≤300 from Aw (Yj (by rw[Jg];exact hI)) (by rw[Jg];exact hs));rw[←hb]at HI;clear h hI hs hb;cases b
 · go_enter Tryz.func45,Tryz.ntmps45
   go_wp2_with first
    |(go_at_call 47;refine HI.o.mono ?_;clear HI;rintro e w1 ⟨rfl,hr1,hg1⟩;have Qb:=Ja hr1;clear hr1;have Qa:=Ja hg1;clear hg1)
   go_ret;exact⟨rfl,Qb.o,Qa.o⟩
 · go_enter Tryz.func45,Tryz.ntmps45
   go_wp2_with first
    |(go_at_call 47;refine HI.o.mono ?_;clear HI;rintro e w1 ⟨rfl,hr1,hg1⟩;have Qb:=Ja hr1;have c1:=hr1.c1;have f1:=hr1.f 1;clear hr1;have Qa:=Ja hg1;clear hg1;have hk:=HS.o;clear HS)
   go_ret;exact⟨rfl,Qb.o.set1 _,Jf Qa.o (JE _ R 1 _)⟩
theorem Jnt{l:List UInt8}(h:l.all isD=true):num l<10^l.length:=by
 have:=J7 (Jfr h);rwa[Jad]at this
def Yt(l:List UInt8)(p d n:Nat):Prop:=p+d≤l.length∧((l.drop p).take d).all isD=true∧n=num ((l.drop p).take (min 12 d))
theorem Yt.zero{l:List UInt8}{p:Nat}(h:p≤l.length):Yt l p 0 0:=⟨by omega,by simp,by simp[num,dgs,val]⟩
theorem Jin(l:List UInt8)(p d:Nat)(h:p+d<l.length):(l.drop p).take (d+1)=(l.drop p).take d++[l[p+d]]:=by
 rw[Ca (by rw[AF];omega),CT]
theorem Yt.all{l:List UInt8}{p d n:Nat}(h:Yt l p d n)(hl:p+d<l.length)(hc:isD l[p+d]=true):((l.drop p).take (d+1)).all isD=true:=by
 rw[Jin l p d hl,CV,h.2.1];simp[hc]
theorem Yt.next1{l:List UInt8}{p d n:Nat}(h:Yt l p d n)(hl:p+d<l.length)(hc:isD l[p+d]=true)(hd:d<12):Yt l p (d+1) (10*n+(l[p+d].toNat-48)):=by
 refine⟨by omega,h.all hl hc,?_⟩;rw[show min 12 (d+1)=d+1 from by omega,Jin l p d hl,Jgb,h.2.2,show min 12 d=d from by omega];omega
theorem Yt.next2{l:List UInt8}{p d n:Nat}(h:Yt l p d n)(hl:p+d<l.length)(hc:isD l[p+d]=true)(hd:12≤d):Yt l p (d+1) n:=by
 refine⟨by omega,h.all hl hc,?_⟩;rw[show min 12 (d+1)=min 12 d from by omega];exact h.2.2
theorem Yt.lt{l:List UInt8}{p d n:Nat}(h:Yt l p d n):n<10^min 12 d:=by
 have h1:((l.drop p).take (min 12 d)).all isD=true:=by
  rw[A3];intro c hc;refine A3.1 h.2.1 c ?_;rw[show(l.drop p).take (min 12 d)=((l.drop p).take d).take (min 12 d)from by rw[List.take_take];congr 1;omega]at hc;exact Fk hc
 have h2:=Jnt h1;rw[Ag,AF,←h.2.2]at h2;have:=h.1;rwa[show min (min 12 d) (l.length-p)=min 12 d from by omega]at h2
theorem Yt.lt12{l:List UInt8}{p d n:Nat}(h:Yt l p d n):n<1000000000000:=
 AA h.lt (Ar (n:=10) (by omega) (by omega:min 12 d≤12))
theorem Yt.lt11{l:List UInt8}{p d n:Nat}(h:Yt l p d n)(hd:d<12):n<100000000000:=
 AA h.lt (Ar (n:=10) (by omega) (by omega:min 12 d≤11))
theorem Yt.dg{l:List UInt8}{p d n:Nat}(h:Yt l p d n)(he:∀hl:p+d<l.length,isD l[p+d]=false):dgE l p=p+d:=by
 refine Jd6 (by omega) h.1 (fun k hk h1 h2=>?_) he;have:=A3.1 h.2.1 (l[k]) ?_
 · exact this
 · rw[List.mem_iff_getElem];refine⟨k-p,by rw[Ag,AF];omega,?_⟩;rw[List.getElem_take,CT];congr 1;omega
def rdE{α:Type}(r:Rd α)(E:Int):Int:=if E=0 then(match r with|.bad e _=>(e:Int)|.ok _ _=>0)else E
def rdA{α:Type}(r:Rd α)(E A:Int):Int:=if E=0 then(match r with|.bad _ p=>(p:Int)|.ok _ _=>A)else A
theorem Jdy(R:Nat)(s:ByteArray)(I:Nat)(E A:Int)(p:Nat)(w:World)(h:RdB w R s I E A)(hI:I≤s.size)(hs:s.size≤300)(hp:skB (Jd s) I=p):
 Calls Tryz.prog 91 #[.pointer (some ⟨R,0,none⟩)] w fun r w'=>∃d n:Nat,r=.returned (.tuple #[.int .i64 (n:Int),.int .i64 (p:Int)])∧dgE (Jd s) p=p+d∧Yt (Jd s) p d n∧RdB w' R s ((p+d:Nat):Int) (rdE (JP (Jd s) I) E) (rdA (JP (Jd s) I) E A)∧w.grownBy w' (some R):=by
 have HI:=Ja (Ys R s I E A 32 w h hI hs);rw[hp]at HI;have Qp:p≤s.size:=by rw[←hp];exact Aw (Yj (by rw[Jg];exact hI)) (by rw[Jg];exact Aa _)
 have HP:=Ja hp;have HF:=Ja (fun(x y:Int) (I':Int) (V:World) (hh:RdB V R s I' E A)=>Jaj R s I' E A x y V hh);clear h hI hp;go_enter Tryz.func91,Tryz.ntmps91
 go_wp2_with first
  |(go_at_call 47;refine HI.o.mono ?_;clear HI;rintro e w1 ⟨rfl,hr1,hg1⟩;have Qm:=Ja hr1;have c1:=hr1.c1;clear hr1;have Qo:=Ja hg1;clear hg1)
 go_loopw [5] (fun nv wr=>∃d n:Nat,nv=.int .i64 (n:Int)∧p+d≤s.size∧Hid (RdB wr R s ((p+d:Nat):Int) E A∧w.grownBy wr (some R)∧Yt (Jd s) p d n)) (fun _ wr=>s.size-rdI wr R)
 case atStart=>exact⟨0,0,rfl,by omega,Ja ⟨Qm.o,Qo.o,Yt.zero (by rw[Jg];exact Qp)⟩⟩
 case round=>
  clear c1;obtain⟨d,n,rfl,hds,HR⟩:=hrel;obtain⟨j,hj⟩:∃j,j=p+d:=⟨_,rfl⟩;have HJ:=Ja hj;rw[←hj]at hds HR;have hjd:(j:Int)-(p:Int)=(d:Int):=by omega
  clear hj;have c0:=HR.o.1.c0;have c1:=HR.o.1.c1;have f1:=HR.o.1.f 1;by_cases hlt:j<s.size
  · have hlt2:(j:Int)<(s.size:Int):=by omega
    have hj0:(0:Int)≤(j:Int):=by omega
    by_cases Qa:isD s[j]=true
    · have HX:=Ja (Jk6 s[j]);rw[Qa]at HX;have hcb:=YA Qa;have Qk:=Ja Qa;clear Qa;go_wp2_with fail
      go_quiet ((go_at_call 124;exact Calls.quiet_of_same (HX.o _)))
      obtain⟨nq0,h0⟩:∃k,k=nq:=⟨nq,rfl⟩;subst h0;have Qc:=Ja (show RdB (wr.drewN nq0) R s (j:Int) E A∧w.grownBy (wr.drewN nq0) (some R)∧Yt (Jd s) p d n from⟨HR.o.1.drewN nq0,Jf HR.o.2.1 (JB _ _ _),HR.o.2.2⟩);have Ql:=Ja (XL HR.o.1);clear HX;by_cases hd12:d<12
      · have hd12':(d:Int)<12:=by omega
        have hn:=Qc.o.2.2.lt11 hd12;go_wp2;go_quiet (fail)
        have HR3:=Ja (show RdB ((wr.drewN nq0).drewN nq) R s (j:Int) E A∧w.grownBy ((wr.drewN nq0).drewN nq) (some R)∧Yt (Jd s) p d n from⟨Qc.o.1.drewN nq,Jf Qc.o.2.1 (JB _ _ _),Qc.o.2.2⟩);go_wp2;go_roundw
        case rel=>
         refine⟨d+1,10*n+(s[j].toNat-48),?_,?_,Ja ⟨?_,?_,?_⟩⟩
         · congr 1;omega
         · have:=HJ.o;omega
         · have:=(HR.o.1.drewN (nq0+nq)).set1 ((j:Int)+1);rw[show((j:Int)+1)=((p+(d+1):Nat):Int)from by have:=HJ.o;omega]at this ⊢;exact this
         · exact Jf (Jf HR.o.2.1 (JB _ _ _)) (JE _ R 1 _)
         · have:=HR.o.2.2.next1 (by rw[Jg];have:=HJ.o;omega) (by simp only[←HJ.o];exact Qk.o) hd12;simp only[←HJ.o]at this;exact this
        case measure=>
         have e2:=XL ((HR.o.1.drewN (nq0+nq)).set1 ((j+1:Nat):Int));rw[show((j+1:Nat):Int)=(j:Int)+1 from by omega]at e2;rw[e2,Ql.o];omega
      · have hd12':¬(d:Int)<12:=by omega
        go_wp2;go_roundw
        case rel=>
         refine⟨d+1,n,rfl,?_,Ja ⟨?_,?_,?_⟩⟩
         · have:=HJ.o;omega
         · have:=(HR.o.1.drewN nq0).set1 ((j:Int)+1);rw[show((j:Int)+1)=((p+(d+1):Nat):Int)from by have:=HJ.o;omega]at this ⊢;exact this
         · exact Jf (Jf HR.o.2.1 (JB _ _ _)) (JE _ R 1 _)
         · exact HR.o.2.2.next2 (by rw[Jg];have:=HJ.o;omega) (by simp only[←HJ.o];exact Qk.o) (by omega)
        case measure=>
         have e2:=XL ((HR.o.1.drewN nq0).set1 ((j+1:Nat):Int));rw[show((j+1:Nat):Int)=(j:Int)+1 from by omega]at e2;rw[e2,Ql.o];omega
    · have HX:=Ja (Jk6 s[j]);have Qa:=Bool.eq_false_iff.2 Qa;rw[Qa]at HX;have Qb:=Ja (show dgE (Jd s) p=j by rw[HJ.o];exact HR.o.2.2.dg (fun hl=>by simp only[←HJ.o];exact Qa));clear Qa;go_wp2_with fail
      go_quiet ((go_at_call 124;exact Calls.quiet_of_same (HX.o _)))
      have Qh:=Ja (HR.o.1.drewN nq);have HG:=Ja (show w.grownBy (wr.drewN nq) (some R)from Jf HR.o.2.1 (JB _ _ _));have Qg:=Ja HR.o.2.2;clear HR;by_cases hd0:d=0
      · have Qd:j=p:=by have:=HJ.o;omega
        have HN:=Ja (show JP (Jd s) I=.bad 2 p by unfold JP;rw[HP.o,Qb.o,if_pos Qd]);have Qn:=Ja hd0;clear hd0;go_wp2_with first
         |(go_at_call 48;refine(HF.o _ _ _ _ Qh.o).mono ?_;clear HF;rintro e w2 ⟨rfl,hr2,hg2⟩;have Qc:=Ja hr2;have Qi:=hr2.c1;clear hr2;have Qf:=Ja (Jf HG.o hg2);clear hg2)
        refine bodyPost_ret (v:=.tuple #[.int .i64 (n:Int),.int .i64 (p:Int)]) (by simp[results,Tryz.results91,go_sem]) rfl ⟨d,n,rfl,by rw[Qb.o];exact HJ.o,Qg.o,?_,Qf.o⟩;rw[←HJ.o];have:=Qc.o;rw[HN.o];exact this
      · by_cases hd12:12<d
        · have Qd:¬j=p:=by have:=HJ.o;omega
          have Qj:((j:Int)==(p:Int))=false:=by rw[beq_eq_false_iff_ne];omega
          have hd12':(12:Int)<(d:Int):=by omega
          have HN:=Ja (show JP (Jd s) I=.bad 3 p by unfold JP;rw[HP.o,Qb.o,if_neg Qd,if_pos (by have:=HJ.o;omega)]);clear hd0;go_wp2_with first
           |(go_at_call 48;refine(HF.o _ _ _ _ Qh.o).mono ?_;clear HF;rintro e w2 ⟨rfl,hr2,hg2⟩;have Qc:=Ja hr2;have Qi:=hr2.c1;clear hr2;have Qf:=Ja (Jf HG.o hg2);clear hg2)
          refine bodyPost_ret (v:=.tuple #[.int .i64 (n:Int),.int .i64 (p:Int)]) (by simp[results,Tryz.results91,go_sem]) rfl ⟨d,n,rfl,by rw[Qb.o];exact HJ.o,Qg.o,?_,Qf.o⟩;rw[←HJ.o];have:=Qc.o;rw[HN.o];exact this
        · have Qd:¬j=p:=by have:=HJ.o;omega
          have Qj:((j:Int)==(p:Int))=false:=by rw[beq_eq_false_iff_ne];omega
          have hd12':¬(12:Int)<(d:Int):=by omega
          have Qe:∃a k,JP (Jd s) I=.ok a k:=by unfold JP;rw[HP.o,Qb.o,if_neg Qd,if_neg (by have:=HJ.o;omega)];exact⟨_,_,rfl⟩
          obtain⟨a,k,Qe⟩:=Qe;have HN:=Ja (show rdE (JP (Jd s) I) E=E∧rdA (JP (Jd s) I) E A=A by rw[Qe];unfold rdE rdA;constructor<;>(by_cases hE:E=0<;>simp[hE]));clear Qe;clear hd0;go_wp2;refine bodyPost_ret (v:=.tuple #[.int .i64 (n:Int),.int .i64 (p:Int)]) (by simp[results,Tryz.results91,go_sem]) rfl ⟨d,n,rfl,by rw[Qb.o];exact HJ.o,Qg.o,?_,HG.o⟩;rw[show((p:Int)+(d:Int))=(j:Int)from by have:=HJ.o;omega,HN.o.1,HN.o.2];exact Qh.o
  · have Qb:=Ja (show dgE (Jd s) p=j by rw[HJ.o];exact HR.o.2.2.dg (fun hl=>absurd hl (by rw[Jg];have:=HJ.o;omega)));have hd':decide (j<s.size)=false:=decide_eq_false (by omega);go_wp2_with fail
    go_quiet (fail)
    have Qh:=Ja (HR.o.1.drewN nq);have HG:=Ja (show w.grownBy (wr.drewN nq) (some R)from Jf HR.o.2.1 (JB _ _ _));have Qg:=Ja HR.o.2.2;clear HR;by_cases hd0:d=0
    · have Qd:j=p:=by have:=HJ.o;omega
      have HN:=Ja (show JP (Jd s) I=.bad 2 p by unfold JP;rw[HP.o,Qb.o,if_pos Qd]);have Qn:=Ja hd0;clear hd0;go_wp2_with first
       |(go_at_call 48;refine(HF.o _ _ _ _ Qh.o).mono ?_;clear HF;rintro e w2 ⟨rfl,hr2,hg2⟩;have Qc:=Ja hr2;have Qi:=hr2.c1;clear hr2;have Qf:=Ja (Jf HG.o hg2);clear hg2)
      refine bodyPost_ret (v:=.tuple #[.int .i64 (n:Int),.int .i64 (p:Int)]) (by simp[results,Tryz.results91,go_sem]) rfl ⟨d,n,rfl,by rw[Qb.o];exact HJ.o,Qg.o,?_,Qf.o⟩;rw[←HJ.o];have:=Qc.o;rw[HN.o];exact this
    · by_cases hd12:12<d
      · have Qd:¬j=p:=by have:=HJ.o;omega
        have Qj:((j:Int)==(p:Int))=false:=by rw[beq_eq_false_iff_ne];omega
        have hd12':(12:Int)<(d:Int):=by omega
        have HN:=Ja (show JP (Jd s) I=.bad 3 p by unfold JP;rw[HP.o,Qb.o,if_neg Qd,if_pos (by have:=HJ.o;omega)]);clear hd0;go_wp2_with first
         |(go_at_call 48;refine(HF.o _ _ _ _ Qh.o).mono ?_;clear HF;rintro e w2 ⟨rfl,hr2,hg2⟩;have Qc:=Ja hr2;have Qi:=hr2.c1;clear hr2;have Qf:=Ja (Jf HG.o hg2);clear hg2)
        refine bodyPost_ret (v:=.tuple #[.int .i64 (n:Int),.int .i64 (p:Int)]) (by simp[results,Tryz.results91,go_sem]) rfl ⟨d,n,rfl,by rw[Qb.o];exact HJ.o,Qg.o,?_,Qf.o⟩;rw[←HJ.o];have:=Qc.o;rw[HN.o];exact this
      · have Qd:¬j=p:=by have:=HJ.o;omega
        have Qj:((j:Int)==(p:Int))=false:=by rw[beq_eq_false_iff_ne];omega
        have hd12':¬(12:Int)<(d:Int):=by omega
        have Qe:∃a k,JP (Jd s) I=.ok a k:=by unfold JP;rw[HP.o,Qb.o,if_neg Qd,if_neg (by have:=HJ.o;omega)];exact⟨_,_,rfl⟩
        obtain⟨a,k,Qe⟩:=Qe;have HN:=Ja (show rdE (JP (Jd s) I) E=E∧rdA (JP (Jd s) I) E A=A by rw[Qe];unfold rdE rdA;constructor<;>(by_cases hE:E=0<;>simp[hE]));clear Qe;clear hd0;go_wp2;refine bodyPost_ret (v:=.tuple #[.int .i64 (n:Int),.int .i64 (p:Int)]) (by simp[results,Tryz.results91,go_sem]) rfl ⟨d,n,rfl,by rw[Qb.o];exact HJ.o,Qg.o,?_,HG.o⟩;rw[show((p:Int)+(d:Int))=(j:Int)from by have:=HJ.o;omega,HN.o.1,HN.o.2];exact Qh.o
end Go.Proofs.YtcahejkcdcjjgaaGreatDoor
namespace Go.Proofs.YtcahejkcdcjjgaaGreatDoor
open Go.RowKit Go.Shelf
def Rd.pos{α:Type}(r:Rd α):Prop:=∀e p,r=.bad e p→e≠0
theorem X1{α:Type}{r:Rd α}{a:α}{k:Nat}(h:r=.ok a k)(E A:Int):rdE r E=E∧rdA r E A=A:=by
 subst h;unfold rdE rdA;constructor
 · by_cases hE:E=0
   · rw[if_pos hE,hE]
   · rw[if_neg hE]
 · by_cases hE:E=0
   · rw[if_pos hE]
   · rw[if_neg hE]
theorem Juk{α:Type}{r:Rd α}{e p:Nat}(h:r=.bad e p)(A:Int):rdE r 0=(e:Int)∧rdA r 0 A=(p:Int):=by
 subst h;exact⟨rfl,rfl⟩
theorem Jb3{α:Type}(r:Rd α){E:Int}(h:E≠0)(A:Int):rdE r E=E∧rdA r E A=A:=by
 unfold rdE rdA;exact⟨if_neg h,if_neg h⟩
theorem Jf3{α:Type}{r:Rd α}(hp:r.pos){E:Int}(h:rdE r E=0):E=0∧∃a k,r=.ok a k:=by
 by_cases hE:E=0
 · refine⟨hE,?_⟩;cases r with
   |ok a k=>exact⟨a,k,rfl⟩
   |bad e p=>
    exfalso
    rw[hE,(Juk rfl 0).1]at h;exact hp e p rfl (by omega)
 · rw[(Jb3 r hE 0).1]at h;exact absurd h hE
theorem Jbj(l:List UInt8)(i:Nat):(JP l i).pos:=by
 intro e p h;unfold JP at h;split at h
 · cases h;decide
 · split at h
   · cases h;decide
   · cases h
theorem Jpc(l:List UInt8)(i:Nat):(J9 l i).pos:=by
 intro e p h;unfold J9 at h;split at h
 · rename_i e' p' h1;cases h;exact Jbj l i _ _ h1
 · split at h
   · split at h
     · rename_i e' p' h1;cases h;exact Jbj _ _ _ _ h1
     · split at h
       · cases h;decide
       · cases h
   · cases h
theorem Jrb(l:List UInt8)(i:Nat):(XG l i).pos:=by
 intro e p h;unfold XG at h;split at h
 · split at h
   · rename_i e' p' h1;cases h;exact Jbj _ _ _ _ h1
   · split at h
     · cases h;decide
     · cases h
 · cases h
theorem Jak(l:List UInt8)(i:Nat):skB l (skB l i)=skB l i:=Jlz _ l i
theorem Jnu(l:List UInt8)(i:Nat):JP l (skB l i)=JP l i:=by unfold JP;rw[Jak]
theorem Jrc(l:List UInt8)(i:Nat):J9 l (skB l i)=J9 l i:=by unfold J9;rw[Jnu]
def Jay(l:List UInt8)(i:Nat):Rd Rat:=if JL l (skB l i) 120 then .ok 1 (skB l i)else J9 l i
theorem Jio(l:List UInt8)(i:Nat):(Jay l i).pos:=by
 unfold Jay;split
 · intro e p h;cases h
 · exact Jpc l i
theorem Jk7{l:List UInt8}{j:Nat}(h:Ja7 l j=false):dgE l j=j:=by
 rcases AC j l.length with hj|hj
 · refine Jd6 (Aa _) (by omega) (fun k _ h1 h2=>by omega) (fun hk=>?_);unfold Ja7 at h;rw[Ae hk]at h;simpa using h
 · unfold dgE Y1;rw[AG hj];rfl
theorem Jti{l:List UInt8}{j:Nat}(h:Ja7 l j=true):JL l j 120=false:=by
 unfold Ja7 at h;unfold JL;cases hc:l[j]? with
 |none=>rfl
 |some c=>
  rw[hc]at h;simp only[CX,C1]at h;have hb:=YA h;rw[beq_eq_false_iff_ne];intro e;cases e;simp at hb
theorem XT(l:List UInt8)(i:Nat):JR l i=match Jay l i with
 |.bad e p=>.bad e p
 |.ok c k=>if JL l (skB l k) 120 then(match XG l (skB l k+1)with|.bad e p=>.bad e p|.ok n m=>.ok (c,n) m)else .ok (c,0) (skB l k):=by
 unfold JR Jay;cases hd:Ja7 l (skB l i)with
 |true=>
  rw[Jti hd,Jrc];simp only[if_true,A6,if_false];cases J9 l i<;>rfl
 |false=>
  simp only[A6,if_false];cases hx:JL l (skB l i) 120 with
  |true=>
   simp only[if_true,Jak,hx];cases XG l (skB l i+1)<;>rfl
  |false=>
   simp only[A6,if_false];unfold J9 JP;rw[if_pos (Jk7 hd)]
theorem Yt.of_ok{l:List UInt8}{i p d n:Nat}(h:Yt l p d n)(hp:skB l i=p)(hd:dgE l p=p+d){ds:List UInt8}{p' k:Nat}(hn:JP l i=.ok (ds,p') k):p'=p∧k=p+d∧num ds=n:=by
 unfold JP at hn;rw[hp,hd]at hn;split at hn
 · cases hn
 · split at hn
   · cases hn
   · rename_i h1 h2;simp only[Rd.ok.injEq,Prod.mk.injEq]at hn;obtain⟨⟨rfl,rfl⟩,rfl⟩:=hn;refine⟨rfl,rfl,?_⟩;rw[h.2.2,show p+d-p=d from by omega,show min 12 d=d from by omega]
section
variable {W W':World} {R:Nat} {s:ByteArray} {I E A:Int}
theorem Jjr(h:RdB W R s I E A){cs:Array Value}{t:TypeId}{m:Nat × Nat}{b:Nat}(hb:W.heap[b]?=some (.cells cs t m))(ht:t≠82):b≠R:=by
 intro e;subst e;have:=hb.symm.trans h;simp only[Ak,Obj.cells.injEq]at this;exact ht this.2.1
theorem Jrd(h:RdB W R s I E A)(hg:W.grownBy W' (some R)):∀k v ds,Row k W v ds→Row k W' v ds:=by
 intro k v ds hr;obtain⟨a,cap,e,_⟩:=id hr;subst e;refine hr.grown hg (fun p ep hl=>?_);obtain⟨b,off,ea,cs,m,ht⟩:=hr.typ hl;rw[ea]at ep;cases ep;exact Jjr h ht (by cases k<;>(show _≠_;decide))
theorem Jq.rd{v:Value}{q:Rat}(hv:Jq W v q)(h:RdB W R s I E A)(hg:W.grownBy W' (some R)):Jq W' v q:=IsK.keep (r:=false) hv (Jrd h hg)
theorem RowK.rd{v:Value}{qs:List Rat}(hv:RowK false W v qs)(h:RdB W R s I E A)(hg:W.grownBy W' (some R)):RowK false W' v qs:=by
 obtain⟨a,cap,e,h1,h2,h3,h4⟩:=hv;refine⟨a,cap,e,h1,h2,h3,?_⟩;rcases h4 with h4|⟨b,ea,h5⟩
 · exact Or.inl h4
 · refine Or.inr ⟨b,ea,h5.keep (hg.block b h5.lt ?_) (Jrd h hg)⟩;obtain⟨cs,h6,_⟩:=h5;have:=Jjr h h6 (by show(49:TypeId)≠_;decide);intro e;cases e;exact this rfl
end
def TmB(w V:World)(R B:Nat)(s:ByteArray)(I E A:Int)(c:Rat):Prop:=
 RdB V R s I E A∧(∃a l ca sg b k d t,JH V B 49 (.slice a l ca) (.bool sg) (.slice b k d) (.bool t)∧Jq V (.agg #[.slice a l ca,.bool sg,.slice b k d,.bool t]) c)∧w.grownBy V (some R)∧w.heap.size≤B
section
variable {w V V':World} {R B:Nat} {s:ByteArray} {I E A I' E' A':Int} {c:Rat}
theorem TmB.below(h:TmB w V R B s I E A c)(hb:Below V.heap.size V V'):TmB w V' R B s I E A c:=by
 obtain⟨h1,⟨a,l,ca,sg,b,k,d,t,h2,h3⟩,h4,h5⟩:=h;exact⟨h1.below hb,⟨a,l,ca,sg,b,k,d,t,h2.below hb,h3.below hb⟩,Jf h4 (JU hb _),h5⟩
theorem TmB.rd(h:TmB w V R B s I E A c)(hr:RdB V' R s I' E' A')(hg:V.grownBy V' (some R)):TmB w V' R B s I' E' A' c:=by
 obtain⟨h1,⟨a,l,ca,sg,b,k,d,t,h2,h3⟩,h4,h5⟩:=h;have Qa:B≠R:=Jjr h1 h2 (by decide);exact⟨hr,⟨a,l,ca,sg,b,k,d,t,(hg.block B h2.lt (fun e=>Qa (Cb e))).trans h2,h3.rd h1 hg⟩,Jf h4 hg,h5⟩
theorem J1{w V:World}{r:Option Nat}{B:Nat}(h:w.grownBy V r)(hB:w.heap.size≤B)(o:Nat)(x:Value):w.grownBy (V.setCell ⟨B,o,none⟩ x) r:=by
 have h1:=JE V B o x;obtain⟨a1,a2,a3,a4,a5⟩:=h;obtain⟨b1,b2,b3,b4,b5⟩:=h1;exact⟨b1.trans a1,b2.trans a2,b3.trans a3,Aw a4 b4,fun i hi hne=>(b5 i (by omega) (by intro e;cases e;omega)).trans (a5 i hi hne)⟩
theorem TmB.put(h:TmB w V R B s I E A c){a:Option Addr}{l ca:Nat}{sg:Bool}{b:Option Addr}{k d:Nat}{t:Bool}{c':Rat}(hv:Jq V (.agg #[.slice a l ca,.bool sg,.slice b k d,.bool t]) c'):
 TmB w (put4 V B (.slice a l ca) (.bool sg) (.slice b k d) (.bool t)) R B s I E A c':=by
 obtain⟨h1,⟨a0,l0,ca0,sg0,b0,k0,d0,t0,h2,h3⟩,h4,h5⟩:=h;have Qa:R≠B:=fun e=>Jjr h1 h2 (by decide) e.symm;refine⟨?_,⟨a,l,ca,sg,b,k,d,t,h2.put _ _ _ _,IsK.keep (r:=false) hv (fun _ _ _ g=>Row.put4 g h2 rfl rfl rfl rfl _ _ _ _)⟩,J1 (J1 (J1 (J1 h4 h5 0 _) h5 1 _) h5 2 _) h5 3 _,h5⟩;have g0:=(Below.heap_setCell V ⟨B,0,none⟩ (.slice a l ca) R Qa).trans h1;have g1:=(Below.heap_setCell _ ⟨B,1,none⟩ (.bool sg) R Qa).trans g0;have g2:=(Below.heap_setCell _ ⟨B,2,none⟩ (.slice b k d) R Qa).trans g1;exact(Below.heap_setCell _ ⟨B,3,none⟩ (.bool t) R Qa).trans g2
end
end Go.Proofs.YtcahejkcdcjjgaaGreatDoor
namespace Go.Proofs.YtcahejkcdcjjgaaGreatDoor
open Go.RowKit Go.Shelf
attribute [local go_sem] Oper.semAt_some
theorem Sok.word{n:Nat}(h:n<1000000000000):Sok (n:Int):=Sok.of (k:=1) (by unfold Sm B64;omega) (by omega)
def Jdz(c:Rat):Prop:=∃x y:Nat,c=Rat.divInt (x:Int) (y:Int)∧x<1000000000000∧y≠0∧y<1000000000000
theorem Jdz.one:Jdz 1:=⟨1,1,by decide,by omega,by omega,by omega⟩
def Xw(l:List UInt8)(I:Nat)(E A:Int)(c:Rat)(I1:Nat)(E1 A1:Int):Prop:=
 E1=rdE (Jay l I) E∧A1=rdA (Jay l I) E A∧Jdz c∧I1≤l.length∧(E=0→∀c0 k,Jay l I=.ok c0 k→c=c0∧I1=k)
theorem Jre{l:List UInt8}{I:Nat}{E A:Int}(hI:I≤l.length)(h:(decide (E=0)&&JL l (skB l I) 120)=true):Xw l I E A 1 (skB l I) E A:=by
 rw[AD]at h;have e:Jay l I=.ok 1 (skB l I):=by unfold Jay;rw[if_pos h.2]
 refine⟨(X1 e E A).1.symm,(X1 e E A).2.symm,Jdz.one,Yj hI,fun _ c0 k hk=>?_⟩;rw[e]at hk;cases hk;exact⟨rfl,rfl⟩
theorem Jip{l:List UInt8}{I:Nat}{E:Int}(h:(decide (E=0)&&JL l (skB l I) 120)=false)(hE:E=0):Jay l I=J9 l I:=by
 rw[hE]at h;simp at h;unfold Jay;rw[h];simp
theorem Jhd(n:Nat):Rat.divInt (n:Int) 1=((n:Int):Rat):=by
 rw[←C2 ((n:Int):Rat)];simp
theorem Jrf{l:List UInt8}{I:Nat}{E A:Int}{p d n:Nat}(h:(decide (E=0)&&JL l (skB l I) 120)=false)(hp:skB l I=p)(hd:dgE l p=p+d)(hn:Yt l p d n)
(h2:(decide (rdE (JP l I) E=0)&&JL l (skB l (p+d)) 47)=false):Xw l I E A (Rat.divInt (n:Int) 1) (skB l (p+d)) (rdE (JP l I) E) (rdA (JP l I) E A):=by
 have hf:Jdz (Rat.divInt (n:Int) 1):=⟨n,1,rfl,hn.lt12,by omega,by omega⟩;have Qa:skB l (p+d)≤l.length:=Yj hn.1;by_cases hE:E=0
 · rw[Xw,Jip h hE];subst hE;cases hnS:JP l I with
   |bad e q=>
    have hc:J9 l I=.bad e q:=by unfold J9;rw[hnS]
    rw[hc];exact⟨rfl,rfl,hf,Qa,fun _ c0 k hk=>by cases hk⟩
   |ok a k=>
    obtain⟨ds,p'⟩:=a;obtain⟨rfl,rfl,rfl⟩:=hn.of_ok hp hd hnS;rw[hnS,(X1 rfl 0 0).1]at h2;simp at h2;have hc:J9 l I=.ok ((num ds:Int):Rat) (skB l (p'+d)):=by unfold J9;rw[hnS];simp[h2]
    rw[hc];refine⟨rfl,rfl,hf,Qa,fun _ c0 k hk=>?_⟩;cases hk;exact⟨Jhd _,rfl⟩
 · refine⟨?_,?_,hf,Qa,fun h0=>absurd h0 hE⟩
   · rw[(Jb3 _ hE A).1,(Jb3 _ hE A).1]
   · rw[(Jb3 _ hE A).2,(Jb3 _ hE A).2]
theorem Jrg{l:List UInt8}{I:Nat}{E A:Int}{p d n p2 d2 n2:Nat}(h:(decide (E=0)&&JL l (skB l I) 120)=false)(hp:skB l I=p)(hd:dgE l p=p+d)(hn:Yt l p d n)
(h2:(decide (rdE (JP l I) E=0)&&JL l (skB l (p+d)) 47)=true)(hp2:skB l (skB l (p+d)+1)=p2)(hd2:dgE l p2=p2+d2)(hn2:Yt l p2 d2 n2)(E2 A2:Int)(hE2:E2=rdE (JP l (skB l (p+d)+1)) (rdE (JP l I) E))(hA2:A2=rdA (JP l (skB l (p+d)+1)) (rdE (JP l I) E) (rdA (JP l I) E A)):
 (n2=0→Xw l I E A (Rat.divInt (n:Int) 1) (p2+d2) (if E2=0 then 4 else E2) (if E2=0 then(p2:Int)else A2))∧(n2≠0→Xw l I E A (Rat.divInt (n:Int) (n2:Int)) (p2+d2) E2 A2):=by
 rw[AD,decide_eq_true_eq]at h2;obtain⟨hE,a,k,hnS⟩:=Jf3 (Jbj l I) h2.1;obtain⟨ds,p'⟩:=a;obtain⟨rfl,rfl,rfl⟩:=hn.of_ok hp hd hnS;subst hE;have hf:Jdz (Rat.divInt (num ds:Int) 1):=⟨num ds,1,rfl,hn.lt12,by omega,by omega⟩;rw[h2.1]at hE2 hA2;rw[hnS,(X1 rfl 0 A).2]at hA2;unfold Xw;rw[Jip h rfl];cases hm:JP l (skB l (p'+d)+1)with
 |bad e q=>
  have hc:J9 l I=.bad e q:=by unfold J9;rw[hnS];simp[h2.2,hm]
  have he:=Jbj _ _ _ _ hm;rw[hm]at hE2 hA2;have e2:E2=(e:Int):=hE2;have a2:A2=(q:Int):=hA2;have e0:¬E2=0:=by omega
  rw[hc,if_neg e0,if_neg e0,e2,a2];refine⟨fun _=>⟨rfl,rfl,hf,hn2.1,fun _ c0 k hk=>by cases hk⟩,fun h0=>⟨rfl,rfl,⟨num ds,n2,rfl,hn.lt12,h0,hn2.lt12⟩,hn2.1,fun _ c0 k hk=>by cases hk⟩⟩
 |ok a k=>
  obtain⟨es,p''⟩:=a;obtain⟨rfl,rfl,rfl⟩:=hn2.of_ok hp2 hd2 hm;rw[hm,(X1 rfl 0 A).1]at hE2;rw[hm,(X1 rfl 0 A).2]at hA2;subst hE2 hA2;rw[if_pos rfl,if_pos rfl];refine⟨fun h0=>?_,fun h0=>?_⟩
  · have hc:J9 l I=.bad 4 p'':=by unfold J9;rw[hnS];simp[h2.2,hm,h0]
    rw[hc];exact⟨rfl,rfl,hf,hn2.1,fun _ c0 k hk=>by cases hk⟩
  · have hc:J9 l I=.ok (Rat.divInt (num ds) (num es)) (p''+d2):=by unfold J9;rw[hnS];simp[h2.2,hm,h0]
    rw[hc];refine⟨rfl,rfl,⟨num ds,num es,rfl,hn.lt12,h0,hn2.lt12⟩,hn2.1,fun _ c0 k hk=>?_⟩;cases hk;exact⟨rfl,rfl⟩
def Xd(l:List UInt8)(I:Nat)(E A:Int)(c:Rat)(n I':Nat)(E' A':Int):Prop:=
 E'=rdE (JR l I) E∧A'=rdA (JR l I) E A∧(E=0→∀c0 n0 k,JR l I=.ok (c0,n0) k→c=c0∧n=n0∧I'=k)
theorem Xw.zero{l:List UInt8}{I:Nat}{E A:Int}{c:Rat}{I1:Nat}{E1 A1:Int}(h:Xw l I E A c I1 E1 A1)(h0:E1=0):E=0∧A1=A∧Jay l I=.ok c I1:=by
 have h1:=h.1;rw[h0]at h1;obtain⟨hE,c0,k,hk⟩:=Jf3 (Jio l I) h1.symm;obtain⟨rfl,rfl⟩:=h.2.2.2.2 hE c0 k hk;exact⟨hE,h.2.1.trans (X1 hk E A).2,hk⟩
theorem Xw.set{l:List UInt8}{I:Nat}{E A:Int}{c:Rat}{I1:Nat}{E1 A1:Int}(h:Xw l I E A c I1 E1 A1)(h0:E1≠0)(n I':Nat):Xd l I E A c n I' E1 A1:=by
 by_cases hE:E=0
 · subst hE;cases hh:Jay l I with
   |ok c0 k=>
    have:=h.1;rw[hh,(X1 rfl 0 A).1]at this;exact absurd this h0
   |bad e p=>
    have ht:JR l I=.bad e p:=by rw[XT,hh]
    have h1:=h.1;have h2:=h.2.1;rw[hh]at h1 h2;exact⟨by rw[ht];exact h1,by rw[ht];exact h2,fun _ c0 n0 k hk=>by rw[ht]at hk;cases hk⟩
 · have h1:=h.1;have h2:=h.2.1;rw[(Jb3 _ hE A).1]at h1;rw[(Jb3 _ hE A).2]at h2;exact⟨by rw[(Jb3 _ hE A).1];exact h1,by rw[(Jb3 _ hE A).2];exact h2,fun h=>absurd h hE⟩
theorem Xd.of{l:List UInt8}{I:Nat}{A:Int}{c:Rat}{n I':Nat}(h:JR l I=.ok (c,n) I'):Xd l I 0 A c n I' 0 A:=by
 refine⟨by rw[(X1 h 0 A).1],by rw[(X1 h 0 A).2],fun _ c0 n0 k hk=>?_⟩;rw[h]at hk;cases hk;exact⟨rfl,rfl,rfl⟩
theorem Xd.bad{l:List UInt8}{I:Nat}{A:Int}{e p:Nat}(c:Rat)(n I':Nat)(h:JR l I=.bad e p):Xd l I 0 A c n I' e p:=by
 exact⟨by rw[h];rfl,by rw[h];rfl,fun _ c0 n0 k hk=>by rw[h]at hk;cases hk⟩
theorem Jrh{l:List UInt8}{I:Nat}{E A:Int}{c:Rat}{I1:Nat}{E1 A1:Int}(h:Xw l I E A c I1 E1 A1)(h3:(decide (E1=0)&&JL l (skB l I1) 120)=false):Xd l I E A c 0 (skB l I1) E1 A1:=by
 by_cases h0:E1=0
 · obtain⟨rfl,rfl,hh⟩:=h.zero h0;subst h0;simp at h3;refine Xd.of ?_;rw[XT,hh];simp[h3]
 · exact h.set h0 _ _
theorem Jri{l:List UInt8}{I:Nat}{E A:Int}{c:Rat}{I1:Nat}{E1 A1:Int}(h:Xw l I E A c I1 E1 A1)(h3:(decide (E1=0)&&JL l (skB l I1) 120)=true)(h4:(decide (E1=0)&&JL l (skB l (skB l I1+1)) 94)=false):Xd l I E A c 1 (skB l (skB l I1+1)) E1 A1:=by
 rw[AD,decide_eq_true_eq]at h3;obtain⟨h0,h3⟩:=h3;obtain⟨rfl,rfl,hh⟩:=h.zero h0;subst h0;simp at h4;refine Xd.of ?_;rw[XT,hh];simp[h3,XG,h4]
theorem Jrj{l:List UInt8}{I:Nat}{E A:Int}{c:Rat}{I1:Nat}{E1 A1:Int}(h:Xw l I E A c I1 E1 A1)(h3:(decide (E1=0)&&JL l (skB l I1) 120)=true)(h4:(decide (E1=0)&&JL l (skB l (skB l I1+1)) 94)=true){p d n:Nat}(hp:skB l (skB l (skB l I1+1)+1)=p)(hd:dgE l p=p+d)(hn:Yt l p d n)(E5 A5:Int)
(hE5:E5=rdE (JP l (skB l (skB l I1+1)+1)) E1)(hA5:A5=rdA (JP l (skB l (skB l I1+1)+1)) E1 A1):(8<n→Xd l I E A c 0 (p+d) (if E5=0 then 3 else E5) (if E5=0 then(p:Int)else A5))∧(¬8<n→Xd l I E A c n (p+d) E5 A5):=by
 rw[AD,decide_eq_true_eq]at h3 h4;obtain⟨h0,h3⟩:=h3;obtain⟨_,h4⟩:=h4;obtain⟨rfl,rfl,hh⟩:=h.zero h0;subst h0;cases hm:JP l (skB l (skB l I1+1)+1)with
 |bad e q=>
  rw[hm]at hE5 hA5;have he:=Jbj _ _ _ _ hm;have e5:E5=(e:Int):=hE5;have a5:A5=(q:Int):=hA5;have e0:¬E5=0:=by omega
  have ht:JR l I=.bad e q:=by rw[XT,hh];simp[h3,XG,h4,hm]
  rw[if_neg e0,if_neg e0,e5,a5];exact⟨fun _=>Xd.bad _ _ _ ht,fun _=>Xd.bad _ _ _ ht⟩
 |ok a k=>
  obtain⟨es,p''⟩:=a;obtain⟨rfl,rfl,rfl⟩:=hn.of_ok hp hd hm;rw[hm,(X1 rfl 0 0).1]at hE5;rw[hm,(X1 rfl 0 _).2]at hA5;subst hE5 hA5;rw[if_pos rfl,if_pos rfl];refine⟨fun h8=>Xd.bad _ _ _ ?_,fun h8=>Xd.of ?_⟩
  · rw[XT,hh];simp[h3,XG,h4,hm,h8]
  · rw[XT,hh];simp[h3,XG,h4,hm,h8]
theorem TmB.new{w w1:World}{R:Nat}{s:ByteArray}{I E A:Int}{c:Rat}(h:RdB w R s I E A)(hb:Below w.heap.size w w1){a:Option Addr}{l ca:Nat}{sg:Bool}{b:Option Addr}{k d:Nat}{t:Bool}(hv:Jq w1 (.agg #[.slice a l ca,.bool sg,.slice b k d,.bool t]) c):
 TmB w (w1.alloc (.cells #[.slice a l ca,.bool sg,.slice b k d,.bool t] 49)) R w1.heap.size s I E A c:=by
 have ha:Below w1.heap.size w1 (w1.alloc (.cells #[.slice a l ca,.bool sg,.slice b k d,.bool t] 49)):=(Below.refl _ w1).alloc (Aa _) _;exact⟨(h.below hb).below ha,⟨a,l,ca,sg,b,k,d,t,JH.new _ _ _ _ _ _,hv.below ha⟩,Jf (JU hb _) (JU ha _),hb.size⟩
theorem Jrk(R:Nat)(s:ByteArray)(I:Nat)(E A:Int)(w:World)(h:RdB w R s I E A)(hI:I≤s.size)(hs:s.size≤300):
 Calls Tryz.prog 46 #[.pointer (some ⟨R,0,none⟩)] w fun r w'=>∃(u:Value) (c:Rat) (n I':Nat),r=.returned u∧RowK false w' u (Jh (upR n [c]))∧n≤8∧Jdz c∧I'≤s.size∧RdB w' R s (I':Int) (rdE (JR (Jd s) I) E) (rdA (JR (Jd s) I) E A)∧(E=0→∀c0 n0 k,JR (Jd s) I=.ok (c0,n0) k→c=c0∧n=n0∧I'=k)∧w.grownBy w' (some R):=by
 have Ug:I≤(Jd s).length:=by rw[Jg];exact hI
 obtain⟨b1,hb1⟩:=ex ((decide (E=0)&&JL (Jd s) (skB (Jd s) I) 120));have Uc:=Ja hb1;obtain⟨I0,hI0⟩:=ex (skB (Jd s) I);have Qx:=Ja hI0;have Up:I0≤s.size:=by rw[←hI0,←Jg];exact Yj Ug
 have HW:=Ja (Jcq 1 (by omega) (by omega) w);have Un:=Ja (fun(V:World) (hh:RdB V R s I E A)=>Ys R s I E A 120 V hh hI hs);rw[hb1,hI0]at Un;have HH:=Ja h;have Wg:=Ja Ug;clear h hb1 hI0 Ug hI;go_enter Tryz.func46,Tryz.ntmps46
 go_upto_region 2 with(first
  |(go_at_call 62;refine HW.o.mono ?_;clear HW;rintro e w1 ⟨u1,rfl,hu1,hq1⟩;obtain⟨a91,l91,c91,s91,b91,k91,d91,t91,rfl⟩:=Jq.form hu1))
 have hT:=TmB.new HH.o hq1 hu1;obtain⟨W0,hW0⟩:=ex (w1.alloc (.cells #[.slice a91 l91 c91,.bool s91,.slice b91 k91 d91,.bool t91] 49));rw[hW0]at hT;rw[hW0];obtain⟨B,hB⟩:=ex (w1.heap.size);rw[hB]at hT;rw[hB];have HT:=Ja (show TmB w W0 R B s I E A 1 from hT);clear hT hu1 hq1 hW0 hB;go_upto_if 15 with(first
  |(go_at_call 47;refine(Un.o _ HT.o.1).mono ?_;clear Un;rintro e w2 ⟨rfl,hr2,hg2⟩;have Qq:=Ja (HT.o.rd hr2 hg2);clear hr2 hg2 HT))
 go_cut [4] (fun v w'=>v=.bool b1∧∃(c:Rat) (I1:Nat) (E1 A1:Int),Hid (TmB w w' R B s (I1:Int) E1 A1 c∧Xw (Jd s) I E A c I1 E1 A1))
 case first=>
  cases b1 with
  |true=>
   go_wp2_with fail
   go_meet
   case rel=>exact⟨rfl,1,I0,E,A,Ja ⟨Qq.o,by rw[←Qx.o];exact Jre Wg.o Uc.o⟩⟩
  |false=>
   obtain⟨E1,hE1⟩:=ex (rdE (JP (Jd s) I) E);obtain⟨A1,hA1⟩:=ex (rdA (JP (Jd s) I) E A);have HN:=Ja (fun(V:World) (hh:RdB V R s I0 E A)=>Jdy R s I0 E A I0 V hh Up hs (by rw[←Qx.o];exact Jak _ _));have Ut:JP (Jd s) I0=JP (Jd s) I:=by rw[←Qx.o];exact Jnu _ _
   rw[Ut,hE1,hA1]at HN;have Qz:=Ja hE1;have Us:=Ja hA1;clear hE1 hA1 Ut;go_upto_if 22 with(first
    |(go_at_call 91;refine(HN.o _ Qq.o.1).mono ?_;clear HN;rintro e w3 ⟨d1,n1,rfl,hd1,hn1,hr3,hg3⟩;have Ql:=Ja (Qq.o.rd hr3 hg3);clear hr3 hg3 Qq;have Uw:=Ja hd1;have Uv:=Ja hn1;have Ue:=hn1.lt12;have hid:I0+d1≤s.size:=(by rw[←Jg];exact hn1.1);clear hd1 hn1;obtain⟨b2,hb2⟩:∃b,b=(decide (E1=0)&&JL (Jd s) (skB (Jd s) (I0+d1)) 47):=⟨_,rfl⟩;have Ui:=Ja hb2;have Uk:=Ja (fun(V:World) (hh:RdB V R s ((I0+d1:Nat):Int) E1 A1)=>J0 R s (I0+d1) E1 A1 47 V hh hid hs b2 hb2);clear hb2;obtain⟨I2,hI2⟩:=ex (skB (Jd s) (I0+d1));rw[hI2]at Uk;have Qp:=Ja hI2;have hI2s:I2≤s.size:=(by rw[←hI2,←Jg];exact Yj (by rw[Jg];exact hid));clear hI2)
    |(go_at_call 45;refine(Uk.o _ Ql.o.1).mono ?_;clear Uk;rintro e w4 ⟨rfl,hr4,hg4⟩;have Qg:=Ja (Ql.o.rd hr4 hg4);clear hr4 hg4 Ql))
   have Qm:=Ja (fun(V:World)=>Jja (n1:Int) (by omega) (by omega) V);have Ul:=Ja (Sok.word Ue);cases b2 with
   |false=>
    have Qj:=Ja (fun(V:World)=>Jja 1 (by omega) (by omega) V);have Qv:=Ja Sok.one;have HY:=Ja (show(1:Int)≠0 by omega);go_wp2_with(first
     |(go_at_call 93;refine(Qm.o _).mono ?_;clear Qm;rintro e w6 ⟨u6v,rfl,hu6,hq6⟩;have Qr:=Ja (Qg.o.below hq6);clear hq6;have Qs:=Ja hu6;clear hu6)
     |(go_at_call 93;refine(Qj.o _).mono ?_;clear Qj;rintro e w7 ⟨u7v,rfl,hu7,hq7⟩;have Ub:=Ja (Qr.o.below hq7);have Qd:=Ja (Qs.o.below hq7);clear hq7;have Ua:=Ja hu7;clear hu7)
     |(go_at_call 92;refine(Jdf _ _ _ _ _ Qd.o Ua.o HY.o Ul.o Qv.o).mono ?_;rintro e w8 ⟨u8v,rfl,hu8,hq8⟩;have Qk:=Ub.o.below hq8;clear hq8;obtain⟨a98,l98,c98,s98,b98,k98,d98,t98,rfl⟩:=Jq.form hu8;have Qt:=Ja (Qk.put hu8);obtain⟨_,⟨x0,x1,x2,x3,x4,x5,x6,x7,bx,_⟩,_,_⟩:=Qk;have e0:=bx.c0;have e1:=bx.c1;have e2:=bx.c2;have e3:=bx.c3;have g0:=bx.f0;have g1:=bx.f1;have g2:=bx.f2;have g3:=bx.f3;clear bx hu8))
    go_meet
    case rel=>exact⟨rfl,_,_,_,_,Ja ⟨Qt.o,by have:=Jrf (A:=A) Uc.o Qx.o Uw.o Uv.o (by rw[Qz.o];exact Ui.o.symm);rw[Qp.o,Qz.o,Us.o]at this;exact this⟩⟩
   |true=>
    have Uj:I2+1≤s.size:=by
     have h5:=Ui.o.symm;rw[AD]at h5;have h6:=JZ h5.2;rw[Qp.o,Jg]at h6;omega
    obtain⟨p2,hp2⟩:=ex (skB (Jd s) (I2+1));have Qo:=Ja (fun(V:World) (hh:RdB V R s ((I2+1:Nat):Int) E1 A1)=>Jdy R s (I2+1) E1 A1 p2 V hh Uj hs hp2);have Wi:=Ja hp2;clear hp2;obtain⟨E2,hE2⟩:=ex (rdE (JP (Jd s) (I2+1)) E1);obtain⟨A2,hA2⟩:=ex (rdA (JP (Jd s) (I2+1)) E1 A1);rw[hE2,hA2]at Qo;have We:=Ja hE2;have Wb:=Ja hA2;clear hE2 hA2;go_upto_if 29 with(first
     |(go_at_call 91;refine(Qo.o _ Qg.o.1).mono ?_;clear Qo;rintro e w5 ⟨d2,n2,rfl,hd2,hn2,hr5,hg5⟩;have Qf:=Ja (Qg.o.rd hr5 hg5);clear hr5 hg5 Qg;have Wd:=Ja hd2;have Qo:=Ja hn2;have Uh:=hn2.lt12;clear hd2 hn2))
    have Qu:=Ja (Jrg (A:=A) Uc.o Qx.o Uw.o Uv.o (by rw[Qz.o];exact Ui.o.symm) (by rw[Qp.o];exact Wi.o) Wd.o Qo.o E2 A2 (by rw[Qp.o,Qz.o];exact We.o.symm) (by rw[Qp.o,Qz.o,Us.o];exact Wb.o.symm));by_cases hn20:n2=0
    · have Wc:((n2:Int)==0)=true:=by rw[hn20];rfl
      have Ur:=Ja hn20;clear hn20;have HF:=Ja (fun(V:World) (hh:RdB V R s ((p2+d2:Nat):Int) E2 A2)=>Jaj R s ((p2+d2:Nat):Int) E2 A2 4 (p2:Int) V hh);have Qj:=Ja (fun(V:World)=>Jja 1 (by omega) (by omega) V);have Qv:=Ja Sok.one;have HY:=Ja (show(1:Int)≠0 by omega);go_wp2_with(first
       |(go_at_call 48;refine(HF.o _ Qf.o.1).mono ?_;clear HF;rintro e w55 ⟨rfl,hr6,hg6⟩;have Qi:=Ja (Qf.o.rd hr6 hg6);clear hr6 hg6 Qf)
       |(go_at_call 93;refine(Qm.o _).mono ?_;clear Qm;rintro e w6 ⟨u6v,rfl,hu6,hq6⟩;have Qr:=Ja (Qi.o.below hq6);clear hq6;have Qs:=Ja hu6;clear hu6)
       |(go_at_call 93;refine(Qj.o _).mono ?_;clear Qj;rintro e w7 ⟨u7v,rfl,hu7,hq7⟩;have Ub:=Ja (Qr.o.below hq7);have Qd:=Ja (Qs.o.below hq7);clear hq7;have Ua:=Ja hu7;clear hu7)
       |(go_at_call 92;refine(Jdf _ _ _ _ _ Qd.o Ua.o HY.o Ul.o Qv.o).mono ?_;rintro e w8 ⟨u8v,rfl,hu8,hq8⟩;have Qk:=Ub.o.below hq8;clear hq8;obtain⟨a98,l98,c98,s98,b98,k98,d98,t98,rfl⟩:=Jq.form hu8;have Qt:=Ja (Qk.put hu8);obtain⟨_,⟨x0,x1,x2,x3,x4,x5,x6,x7,bx,_⟩,_,_⟩:=Qk;have e0:=bx.c0;have e1:=bx.c1;have e2:=bx.c2;have e3:=bx.c3;have g0:=bx.f0;have g1:=bx.f1;have g2:=bx.f2;have g3:=bx.f3;clear bx hu8))
      go_meet
      case rel=>exact⟨rfl,_,_,_,_,Ja ⟨Qt.o,Qu.o.1 Ur.o⟩⟩
    · have Wc:((n2:Int)==0)=false:=by rw[beq_eq_false_iff_ne];omega
      have Qj:=Ja (fun(V:World)=>Jja (n2:Int) (by omega) (by omega) V);have Qv:=Ja (Sok.word Uh);have HY:=Ja (show(n2:Int)≠0 by omega);go_wp2_with(first
       |(go_at_call 93;refine(Qm.o _).mono ?_;clear Qm;rintro e w6 ⟨u6v,rfl,hu6,hq6⟩;have Qr:=Ja (Qf.o.below hq6);clear hq6;have Qs:=Ja hu6;clear hu6)
       |(go_at_call 93;refine(Qj.o _).mono ?_;clear Qj;rintro e w7 ⟨u7v,rfl,hu7,hq7⟩;have Ub:=Ja (Qr.o.below hq7);have Qd:=Ja (Qs.o.below hq7);clear hq7;have Ua:=Ja hu7;clear hu7)
       |(go_at_call 92;refine(Jdf _ _ _ _ _ Qd.o Ua.o HY.o Ul.o Qv.o).mono ?_;rintro e w8 ⟨u8v,rfl,hu8,hq8⟩;have Qk:=Ub.o.below hq8;clear hq8;obtain⟨a98,l98,c98,s98,b98,k98,d98,t98,rfl⟩:=Jq.form hu8;have Qt:=Ja (Qk.put hu8);obtain⟨_,⟨x0,x1,x2,x3,x4,x5,x6,x7,bx,_⟩,_,_⟩:=Qk;have e0:=bx.c0;have e1:=bx.c1;have e2:=bx.c2;have e3:=bx.c3;have g0:=bx.f0;have g1:=bx.f1;have g2:=bx.f2;have g3:=bx.f3;clear bx hu8))
      go_meet
      case rel=>exact⟨rfl,_,_,_,_,Ja ⟨Qt.o,Qu.o.2 hn20⟩⟩
 case rest=>
  obtain⟨rfl,c,I1,E1,A1,HC⟩:=hcut;have Ux:I1≤s.size:=by have:=HC.o.2.2.2.2.1;rwa[Jg]at this
  obtain⟨b3,hb3⟩:∃b,b=(decide (E1=0)&&JL (Jd s) (skB (Jd s) I1) 120):=⟨_,rfl⟩;have Ud:=Ja hb3.symm;obtain⟨I3,hI3⟩:=ex (skB (Jd s) I1);have HX:=Ja (fun(V:World) (hh:RdB V R s (I1:Int) E1 A1)=>J0 R s I1 E1 A1 120 V hh Ux hs b3 hb3);rw[hI3]at HX;have Uo:I3≤s.size:=by rw[←hI3,←Jg];exact Yj (by rw[Jg];exact Ux)
  have Qh:=Ja hI3;clear hI3 hb3 Qq Uc;go_upto_if 40 with(first
   |(go_at_call 45;refine(HX.o _ HC.o.1.1).mono ?_;clear HX;rintro e w3 ⟨rfl,hr3,hg3⟩;have Ql:=Ja (HC.o.1.rd hr3 hg3);clear hr3 hg3))
  cases b3 with
  |false=>
   obtain⟨_,⟨y0,y1,y2,y3,y4,y5,y6,y7,bx,hy⟩,_,_⟩:=Ql.o;have e0:=bx.c0;have e1:=bx.c1;have e2:=bx.c2;have e3:=bx.c3;have Qc:=Ja (Jcr _ 0 c _ hy (by omega));clear bx hy;go_wp2_with(first
    |(go_at_call 74;refine Qc.o.mono ?_;clear Qc;rintro e w9 ⟨u9,rfl,hu9,hq9⟩;have Qb:=Ja (Ql.o.below hq9);clear hq9;have Qe:=Ja hu9;clear hu9;obtain⟨a7,l7,c7,rfl⟩:=Qe.o.form))
   go_ret;have Qa:=Jrh HC.o.2 Ud.o;refine⟨_,c,0,_,rfl,Qe.o,by omega,HC.o.2.2.2.1,by rw[Qh.o];exact Uo,?_,Qa.2.2,Qb.o.2.2.1⟩;rw[←Qa.1,←Qa.2.1];rw[Qh.o];exact Qb.o.1
  |true=>
   have Qw:I3+1≤s.size:=by
    have h5:=Ud.o;rw[AD]at h5;have h6:=JZ h5.2;rw[Qh.o,Jg]at h6;omega
   obtain⟨b4,hb4⟩:∃b,b=(decide (E1=0)&&JL (Jd s) (skB (Jd s) (I3+1)) 94):=⟨_,rfl⟩;have Uf:=Ja hb4.symm;obtain⟨I4,hI4⟩:=ex (skB (Jd s) (I3+1));have HX:=Ja (fun(V:World) (hh:RdB V R s ((I3+1:Nat):Int) E1 A1)=>J0 R s (I3+1) E1 A1 94 V hh Qw hs b4 hb4);rw[hI4]at HX;have Uq:I4≤s.size:=by rw[←hI4,←Jg];exact Yj (by rw[Jg];exact Qw)
   have Qn:=Ja hI4;clear hI4 hb4;go_upto_if 45 with(first
    |(go_at_call 45;refine(HX.o _ Ql.o.1).mono ?_;clear HX;rintro e w4 ⟨rfl,hr4,hg4⟩;have Qg:=Ja (Ql.o.rd hr4 hg4);clear hr4 hg4))
   cases b4 with
   |false=>
    obtain⟨_,⟨y0,y1,y2,y3,y4,y5,y6,y7,bx,hy⟩,_,_⟩:=Qg.o;have e0:=bx.c0;have e1:=bx.c1;have e2:=bx.c2;have e3:=bx.c3;have Qc:=Ja (Jcr _ 1 c _ hy (by omega));clear bx hy;go_wp2_with(first
     |(go_at_call 74;refine Qc.o.mono ?_;clear Qc;rintro e w9 ⟨u9,rfl,hu9,hq9⟩;have Qb:=Ja (Qg.o.below hq9);clear hq9;have Qe:=Ja hu9;clear hu9;obtain⟨a7,l7,c7,rfl⟩:=Qe.o.form))
    go_ret;have Qa:=Jri HC.o.2 Ud.o (by rw[Qh.o];exact Uf.o);refine⟨_,c,1,_,rfl,Qe.o,by omega,HC.o.2.2.2.1,by rw[Qh.o,Qn.o];exact Uq,?_,Qa.2.2,Qb.o.2.2.1⟩;rw[←Qa.1,←Qa.2.1];rw[Qh.o,Qn.o];exact Qb.o.1
   |true=>
    have Um:I4+1≤s.size:=by
     have h5:=Uf.o;rw[AD]at h5;have h6:=JZ h5.2;rw[Qn.o,Jg]at h6;omega
    obtain⟨p5,hp5⟩:=ex (skB (Jd s) (I4+1));have Qy:=Ja (fun(V:World) (hh:RdB V R s ((I4+1:Nat):Int) E1 A1)=>Jdy R s (I4+1) E1 A1 p5 V hh Um hs hp5);have Wh:=Ja hp5;clear hp5;obtain⟨E5,hE5⟩:=ex (rdE (JP (Jd s) (I4+1)) E1);obtain⟨A5,hA5⟩:=ex (rdA (JP (Jd s) (I4+1)) E1 A1);rw[hE5,hA5]at Qy;have Uz:=Ja hE5;have Wa:=Ja hA5;clear hE5 hA5;go_upto_if 54 with(first
     |(go_at_call 91;refine(Qy.o _ Qg.o.1).mono ?_;clear Qy;rintro e w5 ⟨d5,n5,rfl,hd5,hn5,hr5,hg5⟩;have Qf:=Ja (Qg.o.rd hr5 hg5);clear hr5 hg5 Qg;have Uy:=Ja hd5;have Qy:=Ja hn5;have hn52:=hn5.lt12;have Uu:p5+d5≤s.size:=(by rw[←Jg];exact hn5.1);clear hd5 hn5))
    have Qu:=Ja (Jrj HC.o.2 Ud.o (by rw[Qh.o];exact Uf.o) (by rw[Qh.o,Qn.o];exact Wh.o) Uy.o Qy.o E5 A5 (by rw[Qh.o,Qn.o];exact Uz.o.symm) (by rw[Qh.o,Qn.o];exact Wa.o.symm));by_cases h8:8<n5
    · have h8':(8:Int)<(n5:Int):=by omega
      have HF:=Ja (fun(V:World) (hh:RdB V R s ((p5+d5:Nat):Int) E5 A5)=>Jaj R s ((p5+d5:Nat):Int) E5 A5 3 (p5:Int) V hh);go_upto_region 21 with(first
       |(go_at_call 48;refine(HF.o _ Qf.o.1).mono ?_;clear HF;rintro e w55 ⟨rfl,hr6,hg6⟩;have Qi:=Ja (Qf.o.rd hr6 hg6);clear hr6 hg6 Qf))
      obtain⟨_,⟨y0,y1,y2,y3,y4,y5,y6,y7,bx,hy⟩,_,_⟩:=Qi.o;have e0:=bx.c0;have e1:=bx.c1;have e2:=bx.c2;have e3:=bx.c3;have Qc:=Ja (Jcr _ 0 c _ hy (by omega));clear bx hy;go_wp2_with(first
       |(go_at_call 74;refine Qc.o.mono ?_;clear Qc;rintro e w9 ⟨u9,rfl,hu9,hq9⟩;have Qb:=Ja (Qi.o.below hq9);clear hq9;have Qe:=Ja hu9;clear hu9;obtain⟨a7,l7,c7,rfl⟩:=Qe.o.form))
      go_ret;have Qa:=Qu.o.1 h8;refine⟨_,c,0,p5+d5,rfl,Qe.o,by omega,HC.o.2.2.2.1,Uu,?_,Qa.2.2,Qb.o.2.2.1⟩;rw[←Qa.1,←Qa.2.1];exact Qb.o.1
    · have h8':¬(8:Int)<(n5:Int):=by omega
      obtain⟨_,⟨y0,y1,y2,y3,y4,y5,y6,y7,bx,hy⟩,_,_⟩:=Qf.o;have e0:=bx.c0;have e1:=bx.c1;have e2:=bx.c2;have e3:=bx.c3;have Qc:=Ja (Jcr _ n5 c _ hy (by omega));clear bx hy;go_wp2_with(first
       |(go_at_call 74;refine Qc.o.mono ?_;clear Qc;rintro e w9 ⟨u9,rfl,hu9,hq9⟩;have Qb:=Ja (Qf.o.below hq9);clear hq9;have Qe:=Ja hu9;clear hu9;obtain⟨a7,l7,c7,rfl⟩:=Qe.o.form))
      go_ret;have Qa:=Qu.o.2 h8;refine⟨_,c,n5,p5+d5,rfl,Qe.o,by omega,HC.o.2.2.2.1,Uu,?_,Qa.2.2,Qb.o.2.2.1⟩;rw[←Qa.1,←Qa.2.1];exact Qb.o.1
