import Derived.Test.YtakpoihdghihmaaGreatDoorL48
set_option maxRecDepth 100000
set_option maxHeartbeats 16000000
namespace Go.Proofs.YtakpoihdghihmaaGreatDoor
namespace M3
open Go.RowKit Go.Shelf
attribute [local go_sem] Oper.semAt_some
end M3
theorem eE{p q:Rat}:0≤D5 p q↔q≤p:=by
 rw[Rat.le_iff];unfold D5 XR;split<;>(try split)<;>omega
namespace M3
open Go.RowKit Go.Shelf
attribute [local go_sem] Oper.semAt_some
theorem Lm(K X:Nat)(v vx:Value)(p:List Rat)(x:Rat)(w:World)(h:Je w v p)(hx:Jg w vx x)(hok:CtOk K X p)(hX:DV X x):
 Calls Tryz.prog 15 #[v,vx] w fun e w'=>e=.returned (.int .i64 (EC p x))∧Bl w w':=by
 obtain⟨pa,la,pc,rfl⟩:=h.form;obtain⟨s,a,l,c,t,b,k,d,rfl⟩:=Jg.form hx;have hA:Bl w ((w.alloc (.cells #[.slice pa la pc] 25)).alloc (.cells #[.bool s,.slice a l c,.bool t,.slice b k d] 37)):=(Ba w _).alloc (by rw[BA];omega) _;have n0:=(BI w 25 (.slice pa la pc)).alloc (.cells #[.bool s,.slice a l c,.bool t,.slice b k d] 37);have n1:=JF.new (w.alloc (.cells #[.slice pa la pc] 25)) 37 (.bool s) (.slice a l c) (.bool t) (.slice b k d);rw[BA]at n1;obtain⟨W0,hW0⟩:=ex ((w.alloc (.cells #[.slice pa la pc] 25)).alloc (.cells #[.bool s,.slice a l c,.bool t,.slice b k d] 37));rw[hW0]at hA n0 n1;obtain⟨Qc,Qe,Qa,HA⟩:=Dt hW0 n0 n1 hA;have e0:=n0.cell;obtain⟨x0,x1,x2,x3⟩:=n1.cq;have Qd:=Ja (fun(V:World) (hB:Bl W0 V)=>NJ _ x V ((hx.below hA).below hB));have Qb:=Ja (fun(V:World) (hB:Bl W0 V) (B:Nat) (s t:Bool) (a b:Option Addr) (l c k d:Nat) (h1:JF V B 37 (.bool s) (.slice a l c) (.bool t) (.slice b k d)) (h2:Jg V (.agg #[.bool s,.slice a l c,.bool t,.slice b k d]) x)=>show Calls Tryz.prog 46 #[.agg #[.slice pa la pc],.func (.func 47) #[] #[],.func (.func 112) #[] #[.pointer (some ⟨B,0,none⟩)]] V fun e w'=>e=.returned (.int .i64 (EC p x))∧Bl V w' by
  have h3:=(h.below hA).below hB;unfold EC;by_cases p0:p=[]
  · rw[BH p0];rw[p0]at h3;exact N9 _ _ h3 _ _
  · rw[BE p0];have h1:=Nz K _ p _ h3 (hok.sr p0) hok.sl (Ra hok p0 _) (N0 hok p0 V hX h1 h2);rw[Rb hok.ch.tp p0,N8]at h1;exact h1)
 obtain⟨n,hn⟩:=ex (EC p x);rw[hn]at Qb ⊢;clear h hx hok hX hA n0 n1 hW0 hn;go_enter Tryz.func15,Tryz.ntmps15
 go_upto_region 1 with fail
 rw[Qc.o];clear Qc;have hq:Bl W0 W0.drew:=(BG _ W0).drew;go_region_held3 (fun w'=>w'.cell? ⟨w.heap.size,0,none⟩=some (.slice pa la pc)∧w'.cell? ⟨w.heap.size+1,0,none⟩=some (.bool s)∧w'.cell? ⟨w.heap.size+1,1,none⟩=some (.slice a l c)∧w'.cell? ⟨w.heap.size+1,2,none⟩=some (.bool t)∧w'.cell? ⟨w.heap.size+1,3,none⟩=some (.slice b k d)) (first|(with_reducible exact⟨e0,x0,x1,x2,x3⟩)|(go_keep;done))
  (first
   |(go_at_call 51;refine(Qd.o _ hq).mono ?_;clear Qd;rintro e w5 ⟨B5,s5,t5,a5,b5,l5,c5,k5,d5,rfl,n5,r5,hb5⟩;have hq:=Bt hq hb5;clear e0 x0 x1 x2 x3;have e0:=(boxed_below Qe.o hq).cell;obtain⟨x0,x1,x2,x3⟩:=(Qa.o.below hq).cq)
   |(go_at_call 46;refine(Qb.o _ hq _ _ _ _ _ _ _ _ _ n5 r5).mono ?_;clear Qb n5 r5;rintro e w6 ⟨rfl,hb6⟩;have hq:=Bt hq hb6;clear e0 x0 x1 x2 x3;have e0:=(boxed_below Qe.o hq).cell;obtain⟨x0,x1,x2,x3⟩:=(Qa.o.below hq).cq))
 go_wp2_with fail
 go_ret;exact⟨rfl,Bt HA.o hq⟩
theorem eF(v:Value)(p:List Rat)(w:World)(h:Je w v p):
 Calls Tryz.prog 56 #[v] w fun e w'=>∃B a l c,e=.returned (.func (.func 117) #[] #[.pointer (some ⟨B,0,none⟩)])∧Boxed w' B 25 (.slice a l c)∧Je w' (.agg #[.slice a l c]) p∧Bl w w':=by
 obtain⟨pa,la,pc,rfl⟩:=h.form;have hA:Bl w (w.alloc (.cells #[.slice pa la pc] 25)):=Ba w _;have HP:=Ja (h.below hA);have HA:=Ja hA;clear h hA;go_enter Tryz.func56,Tryz.ntmps56
 go_wp2_with fail
 go_ret;exact⟨_,pa,la,pc,rfl,BI w _ _,HP.o,HA.o⟩
theorem eG(v:Value)(p:List Rat)(w:World)(h:Je w v p)(hs:Sqs p)(hl:p.length≤1000000000):
 Calls Tryz.prog 18 #[v] w fun e w'=>e=.returned (.int .i64 (DR p.reverse:Int))∧Bl w w':=by
 obtain⟨pa,la,pc,rfl⟩:=h.form;have hA:Bl w (w.alloc (.cells #[.slice pa la pc] 25)):=Ba w _;have Qb:=Ja (eF _ p _ (h.below hA));have Qa:=Ja (fun(V:World) (B Bth Bf:Nat) (a:Option Addr) (l c:Nat) (h1:Boxed V B 25 (.slice a l c)) (h2:Je V (.agg #[.slice a l c]) p) (h3:Boxed V Bth 96 (.func (.func 117) #[] #[.pointer (some ⟨B,0,none⟩)])) (h4:Boxed V Bf 61 (.func (.func 57) #[] #[]))=>show Calls Tryz.prog 54 #[.func (.func 116) #[] #[.pointer (some ⟨Bth,0,none⟩),.pointer (some ⟨Bf,0,none⟩)]] V fun e w'=>e=.returned (.int .i64 (DR p.reverse:Int))∧Bl V w' by
  have h5:=Pz V (p.reverse.map Dk) (ZI V p.reverse Dk Bth Bf (cn V p B a l c h1 h2 hl) (Br Tryz.func117 (by kernel_rfl) rfl) (Br Tryz.func57 (by kernel_rfl) rfl) h3 h4 (fun W v x _ he hx=>by
   have h6:Sq x:=by
    obtain⟨i,hi,rfl⟩:=FE.1 (List.mem_reverse.1 hx);have:=hs.at i;rw[cf]at this;simpa[List.getD,hi]using this
   have:=LK v x W he h6;simpa using this)) (Br Tryz.func116 (by kernel_rfl) rfl) (fun s hs=>by obtain⟨x,_,rfl⟩:=CU.1 hs;exact KR x) (by rw[C4,List.length_reverse];exact hl)
  rw[LG]at h5;exact h5)
 have HA:=Ja hA;obtain⟨n,hn⟩:=ex (DR p.reverse);rw[hn]at Qa ⊢;clear h hs hl hA hn;go_enter Tryz.func18,Tryz.ntmps18
 go_wp2_with(first
  |(go_at_call 56;refine Qb.o.mono ?_;clear Qb;rintro e w5 ⟨B5,a5,l5,c5,rfl,n5,r5,hb5⟩)
  |(go_at_call 55;refine(dD _ _ _ _ _).mono ?_;rintro e w6 ⟨Bth,Bf,rfl,hbt,hbf,hb6⟩;have n5:=boxed_below n5 hb6;have r5:=r5.below hb6)
  |(go_at_call 54;refine(Qa.o _ _ _ _ _ _ _ n5 r5 hbt hbf).mono ?_;clear Qa;rintro e w7 ⟨rfl,hb7⟩))
 go_ret;exact⟨rfl,((Bt HA.o hb5).trans (hb6.mono (An HA.o.size hb5.size))).trans (hb7.mono (An (An HA.o.size hb5.size) hb6.size))⟩
end M3
section
open Go.RowKit Go.Shelf
structure RtOk(J K X:Nat)(p:List Rat):Prop where
 rok:RwOk J K p
 fit:(DW p).length*(Df K (DW p) (Jd (DW p))+1+X+1)+1+X≤1000000000
namespace M3
attribute [local go_sem] Oper.semAt_some
end M3
end
namespace M3
open Go.RowKit Go.Shelf
attribute [local go_sem] Oper.semAt_some
theorem eI(K X:Nat)(v vx vy:Value)(p:List Rat)(x y:Rat)(w:World)(h:Je w v p)(hx:Jg w vx x)(hy:Jg w vy y)(hok:CtOk K X p)(hX:DV X x)(hY:DV X y):
 Calls Tryz.prog 20 #[v,vx,vy] w fun e w'=>e=.returned (.int .i64 (GF p x y))∧Bl w w':=by
 obtain⟨pa,la,pc,rfl⟩:=h.form;obtain⟨s,a,l,c,t,b,k,d,rfl⟩:=Jg.form hx;obtain⟨s',a',l',c',t',b',k',d',rfl⟩:=Jg.form hy;have Qm:Bl w ((w.alloc (.cells #[.slice pa la pc] 25)).alloc (.cells #[.bool s,.slice a l c,.bool t,.slice b k d] 37)):=(Ba w _).alloc (by rw[BA];omega) _;have Ql:Below ((w.alloc (.cells #[.slice pa la pc] 25)).alloc (.cells #[.bool s,.slice a l c,.bool t,.slice b k d] 37)).heap.size ((w.alloc (.cells #[.slice pa la pc] 25)).alloc (.cells #[.bool s,.slice a l c,.bool t,.slice b k d] 37)) (((w.alloc (.cells #[.slice pa la pc] 25)).alloc (.cells #[.bool s,.slice a l c,.bool t,.slice b k d] 37)).alloc (.cells #[.bool s',.slice a' l' c',.bool t',.slice b' k' d'] 37)):=Ba _ _;have n0:=((BI w 25 (.slice pa la pc)).alloc (.cells #[.bool s,.slice a l c,.bool t,.slice b k d] 37)).alloc (.cells #[.bool s',.slice a' l' c',.bool t',.slice b' k' d'] 37);have n1:=(JF.new (w.alloc (.cells #[.slice pa la pc] 25)) 37 (.bool s) (.slice a l c) (.bool t) (.slice b k d)).below Ql;have n2:=JF.new ((w.alloc (.cells #[.slice pa la pc] 25)).alloc (.cells #[.bool s,.slice a l c,.bool t,.slice b k d] 37)) 37 (.bool s') (.slice a' l' c') (.bool t') (.slice b' k' d');have hA:=Bt Qm Ql;simp only[BA]at n1 n2;obtain⟨W0,hW0⟩:=ex (((w.alloc (.cells #[.slice pa la pc] 25)).alloc (.cells #[.bool s,.slice a l c,.bool t,.slice b k d] 37)).alloc (.cells #[.bool s',.slice a' l' c',.bool t',.slice b' k' d'] 37));rw[hW0]at hA n0 n1 n2;obtain⟨Qf,Qd,Qa,Qb,HA⟩:=GT hW0 n0 n1 n2 hA;have e0:=n0.cell;obtain⟨x0,x1,x2,x3⟩:=n1.cq;obtain⟨y0,y1,y2,y3⟩:=n2.cq;have Qk:X≤1000000000:=by have:=hok.fit;omega
 obtain⟨HD,Qg,Qi,Qj⟩:=Dt (fun(V:World) (hB:Bl W0 V)=>J4 _ p V ((h.below hA).below hB)) (fun(V:World) (hB:Bl W0 V)=>Gk _ _ x y V ((hx.below hA).below hB) ((hy.below hA).below hB) (Sq.of hX Qk) (Sq.of hY Qk)) (fun(V:World) (hB:Bl W0 V)=>NJ _ x V ((hx.below hA).below hB)) (fun(V:World) (hB:Bl W0 V)=>NJ _ y V ((hy.below hA).below hB));have Qh:=Ja (fun(hlt:p≠[]→¬y≤x) (V:World) (hB:Bl W0 V) (B:Nat) (s t:Bool) (a b:Option Addr) (l c k d:Nat) (h1:JF V B 37 (.bool s) (.slice a l c) (.bool t) (.slice b k d)) (h2:Jg V (.agg #[.bool s,.slice a l c,.bool t,.slice b k d]) x) (B':Nat) (s' t':Bool) (a' b':Option Addr) (l' c' k' d':Nat) (h1':JF V B' 37 (.bool s') (.slice a' l' c') (.bool t') (.slice b' k' d')) (h2':Jg V (.agg #[.bool s',.slice a' l' c',.bool t',.slice b' k' d']) y)=>show Calls Tryz.prog 46 #[.agg #[.slice pa la pc],.func (.func 112) #[] #[.pointer (some ⟨B,0,none⟩)],.func (.func 112) #[] #[.pointer (some ⟨B',0,none⟩)]] V fun e w'=>e=.returned (.int .i64 (GF p x y))∧Bl V w' by
  have h3:=(h.below hA).below hB;unfold GF;by_cases p0:p=[]
  · rw[BH p0];rw[p0]at h3;exact N9 _ _ h3 _ _
  · rw[BE p0,BE (hlt p0)];have h1:=Nz K _ p _ h3 (hok.sr p0) hok.sl (N0 hok p0 V hX h1 h2) (N0 hok p0 V hY h1' h2');rw[N8,N8]at h1;exact h1)
 have HZ:=Ja (fun(p0:p≠[]) (hle:y≤x)=>show GF p x y=0 by unfold GF;rw[BE p0,BH hle]);obtain⟨N,hN⟩:=ex (GF p x y);rw[hN]at Qh HZ ⊢;obtain⟨r,hr⟩:=ex (D5 x y);rw[hr]at Qg;have Qe:=@eE x y;rw[hr]at Qe;clear h hx hy hok hX hY hA Qm Ql n0 n1 n2 hW0 hN hr Qk;by_cases p0:p=[]
 · have Qc:=Ja (Qh.o (fun h=>absurd p0 h));rw[p0,show(([]:List Rat).length:Int)-1=-1 from rfl]at HD;clear Qh HZ Qe p0 Qg;go_enter Tryz.func20,Tryz.ntmps20
   go_upto_region 1 with fail
   rw[Qf.o];clear Qf;have hq:=BG W0.heap.size W0;go_upto_region 3 with(go_at_call 30;refine(HD.o _ hq).mono ?_;clear HD;rintro e w4 ⟨rfl,hb4⟩;have hq:=Bt hq hb4;clear e0 x0 x1 x2 x3 y0 y1 y2 y3;have e0:=(boxed_below Qd.o hq).cell;obtain⟨x0,x1,x2,x3⟩:=(Qa.o.below hq).cq;obtain⟨y0,y1,y2,y3⟩:=(Qb.o.below hq).cq)
   have hq:=hq.drew;go_region_held3 (fun w'=>w'.cell? ⟨w.heap.size,0,none⟩=some (.slice pa la pc)∧w'.cell? ⟨w.heap.size+1,0,none⟩=some (.bool s)∧w'.cell? ⟨w.heap.size+1,1,none⟩=some (.slice a l c)∧w'.cell? ⟨w.heap.size+1,2,none⟩=some (.bool t)∧w'.cell? ⟨w.heap.size+1,3,none⟩=some (.slice b k d)∧w'.cell? ⟨w.heap.size+1+1,0,none⟩=some (.bool s')∧w'.cell? ⟨w.heap.size+1+1,1,none⟩=some (.slice a' l' c')∧w'.cell? ⟨w.heap.size+1+1,2,none⟩=some (.bool t')∧w'.cell? ⟨w.heap.size+1+1,3,none⟩=some (.slice b' k' d')) (first|(with_reducible exact⟨e0,x0,x1,x2,x3,y0,y1,y2,y3⟩)|(go_keep;done))
    (first
     |(go_at_call 51;refine(Qi.o _ hq).mono ?_;clear Qi;rintro e w5 ⟨B5,s5,t5,a5,b5,l5,c5,k5,d5,rfl,n5,r5,hb5⟩;have hq:=Bt hq hb5;clear e0 x0 x1 x2 x3 y0 y1 y2 y3;have e0:=(boxed_below Qd.o hq).cell;obtain⟨x0,x1,x2,x3⟩:=(Qa.o.below hq).cq;obtain⟨y0,y1,y2,y3⟩:=(Qb.o.below hq).cq)
     |(go_at_call 51;refine(Qj.o _ hq).mono ?_;clear Qj;rintro e w6 ⟨B6,s6,t6,a6,b6,l6,c6,k6,d6,rfl,n6,r6,hb6⟩;have n5:=n5.below hb6;have r5:=r5.below hb6;have hq:=Bt hq hb6;clear e0 x0 x1 x2 x3 y0 y1 y2 y3;have e0:=(boxed_below Qd.o hq).cell;obtain⟨x0,x1,x2,x3⟩:=(Qa.o.below hq).cq;obtain⟨y0,y1,y2,y3⟩:=(Qb.o.below hq).cq)
     |(go_at_call 46;refine(Qc.o _ hq _ _ _ _ _ _ _ _ _ n5 r5 _ _ _ _ _ _ _ _ _ n6 r6).mono ?_;clear Qc n5 r5 n6 r6;rintro e w7 ⟨rfl,hb7⟩;have hq:=Bt hq hb7;clear e0 x0 x1 x2 x3 y0 y1 y2 y3;have e0:=(boxed_below Qd.o hq).cell;obtain⟨x0,x1,x2,x3⟩:=(Qa.o.below hq).cq;obtain⟨y0,y1,y2,y3⟩:=(Qb.o.below hq).cq))
   go_wp2_with fail
   go_ret;exact⟨rfl,Bt HA.o hq⟩
 · obtain⟨m,hm⟩:=ex (p.length-1:Nat);have Qn:(p.length:Int)-1=(m:Int):=by have:=Af.2 p0;omega
   have hm0:(0:Int)≤(m:Int):=by omega
   rw[Qn]at HD;clear hm Qn;by_cases hle:y≤x
   · have h0:=HZ.o p0 hle;have Qo:0≤r:=Qe.2 hle;subst h0;clear Qh HZ Qe p0 hle Qi Qj;go_enter Tryz.func20,Tryz.ntmps20
     go_upto_region 1 with fail
     rw[Qf.o];clear Qf;have hq:=BG W0.heap.size W0;go_wp2_with(first
      |(go_at_call 30;refine(HD.o _ hq).mono ?_;clear HD;rintro e w4 ⟨rfl,hb4⟩;have hq:=Bt hq hb4;clear e0 x0 x1 x2 x3 y0 y1 y2 y3;have e0:=(boxed_below Qd.o hq).cell;obtain⟨x0,x1,x2,x3⟩:=(Qa.o.below hq).cq;obtain⟨y0,y1,y2,y3⟩:=(Qb.o.below hq).cq)
      |(go_at_call 27;refine(Qg.o _ hq).mono ?_;clear Qg;rintro e w5 ⟨rfl,hb5⟩;have hq:=Bt hq hb5;clear e0 x0 x1 x2 x3 y0 y1 y2 y3;have e0:=(boxed_below Qd.o hq).cell;obtain⟨x0,x1,x2,x3⟩:=(Qa.o.below hq).cq;obtain⟨y0,y1,y2,y3⟩:=(Qb.o.below hq).cq))
     go_ret;exact⟨rfl,Bt HA.o hq⟩
   · have Qo:r<0:=Int.not_le.1 fun h=>hle (Qe.1 h);have Qc:=Ja (Qh.o (fun _=>hle));clear Qh HZ Qe p0 hle;go_enter Tryz.func20,Tryz.ntmps20
     go_upto_region 1 with fail
     rw[Qf.o];clear Qf;have hq:=BG W0.heap.size W0;go_upto_region 3 with(first
      |(go_at_call 30;refine(HD.o _ hq).mono ?_;clear HD;rintro e w4 ⟨rfl,hb4⟩;have hq:=Bt hq hb4;clear e0 x0 x1 x2 x3 y0 y1 y2 y3;have e0:=(boxed_below Qd.o hq).cell;obtain⟨x0,x1,x2,x3⟩:=(Qa.o.below hq).cq;obtain⟨y0,y1,y2,y3⟩:=(Qb.o.below hq).cq)
      |(go_at_call 27;refine(Qg.o _ hq).mono ?_;clear Qg;rintro e w5 ⟨rfl,hb5⟩;have hq:=Bt hq hb5;clear e0 x0 x1 x2 x3 y0 y1 y2 y3;have e0:=(boxed_below Qd.o hq).cell;obtain⟨x0,x1,x2,x3⟩:=(Qa.o.below hq).cq;obtain⟨y0,y1,y2,y3⟩:=(Qb.o.below hq).cq))
     have hq:=hq.drew;go_region_held3 (fun w'=>w'.cell? ⟨w.heap.size,0,none⟩=some (.slice pa la pc)∧w'.cell? ⟨w.heap.size+1,0,none⟩=some (.bool s)∧w'.cell? ⟨w.heap.size+1,1,none⟩=some (.slice a l c)∧w'.cell? ⟨w.heap.size+1,2,none⟩=some (.bool t)∧w'.cell? ⟨w.heap.size+1,3,none⟩=some (.slice b k d)∧w'.cell? ⟨w.heap.size+1+1,0,none⟩=some (.bool s')∧w'.cell? ⟨w.heap.size+1+1,1,none⟩=some (.slice a' l' c')∧w'.cell? ⟨w.heap.size+1+1,2,none⟩=some (.bool t')∧w'.cell? ⟨w.heap.size+1+1,3,none⟩=some (.slice b' k' d')) (first|(with_reducible exact⟨e0,x0,x1,x2,x3,y0,y1,y2,y3⟩)|(go_keep;done))
      (first
       |(go_at_call 51;refine(Qi.o _ hq).mono ?_;clear Qi;rintro e w5 ⟨B5,s5,t5,a5,b5,l5,c5,k5,d5,rfl,n5,r5,hb5⟩;have hq:=Bt hq hb5;clear e0 x0 x1 x2 x3 y0 y1 y2 y3;have e0:=(boxed_below Qd.o hq).cell;obtain⟨x0,x1,x2,x3⟩:=(Qa.o.below hq).cq;obtain⟨y0,y1,y2,y3⟩:=(Qb.o.below hq).cq)
       |(go_at_call 51;refine(Qj.o _ hq).mono ?_;clear Qj;rintro e w6 ⟨B6,s6,t6,a6,b6,l6,c6,k6,d6,rfl,n6,r6,hb6⟩;have n5:=n5.below hb6;have r5:=r5.below hb6;have hq:=Bt hq hb6;clear e0 x0 x1 x2 x3 y0 y1 y2 y3;have e0:=(boxed_below Qd.o hq).cell;obtain⟨x0,x1,x2,x3⟩:=(Qa.o.below hq).cq;obtain⟨y0,y1,y2,y3⟩:=(Qb.o.below hq).cq)
       |(go_at_call 46;refine(Qc.o _ hq _ _ _ _ _ _ _ _ _ n5 r5 _ _ _ _ _ _ _ _ _ n6 r6).mono ?_;clear Qc n5 r5 n6 r6;rintro e w7 ⟨rfl,hb7⟩;have hq:=Bt hq hb7;clear e0 x0 x1 x2 x3 y0 y1 y2 y3;have e0:=(boxed_below Qd.o hq).cell;obtain⟨x0,x1,x2,x3⟩:=(Qa.o.below hq).cq;obtain⟨y0,y1,y2,y3⟩:=(Qb.o.below hq).cq))
     go_wp2_with fail
     go_ret;exact⟨rfl,Bt HA.o hq⟩
end M3
section
open Go.RowKit Go.Shelf
theorem Rq(p:List Rat)(zs:List Int)(e:p=zs.map (fun z:Int=>(z:Rat)))(h:zs.all (fun z=>decide (z.natAbs<100))=true):Cd 1 p:=by
 refine⟨1,by decide,Sm.one 1 (by omega),EN.cdl (fun i=>?_)⟩;rw[e];by_cases hi:i<zs.length
 · refine⟨zs[i],?_,?_⟩
   · have h1:=A5.1 h zs[i] (Fu hi);have h2:zs[i].natAbs<100:=Bo h1;unfold Sm O;omega
   · unfold cf;rw[Fm,Am hi];rfl
 · exact⟨0,Sm.zero 1,by rw[J8 (by simp;omega)];rfl⟩
def eP:List Rat:=[-2,0,1]
theorem eJ:YC [120,94,50,45,50]=(eP,0,0):=by decide +kernel
theorem Rr:Ei [49]=1∧(Xg [49]).isSome=true:=by decide +kernel
theorem Rs:Jd eP=[0,2]:=by decide +kernel
theorem eK:ET eP=2:=by decide +kernel
theorem eM:EC eP 1=1:=by decide +kernel
theorem eN:DR eP.reverse=1:=by decide +kernel
theorem Rt:Cd 1 eP:=Rq eP [-2,0,1] (by decide +kernel) (by decide)
theorem Ru:CtOk 1 1 eP:=by
 refine⟨?_,?_⟩
 · rw[Rs];exact⟨by decide +kernel,by decide +kernel,Rt,Rq _ [0,2] (by decide +kernel) (by decide),by decide,by decide⟩
 · rw[Rs];decide
theorem eO:DV 1 (1:Rat):=⟨Sm.one 1 (by omega),Sm.one 1 (by omega)⟩
namespace M3
attribute [local go_sem] Oper.semAt_some
theorem eQ(w:World):Calls Tryz.prog 22 #[] w fun r w'=>r=.returned (.bool true)∧Bl w w':=by
 have HC:=Ja (fun(V:World)=>show Calls Tryz.prog 23 #[.string ⟨#[120,94,50,45,50]⟩] V fun r w'=>∃u,r=.returned (.tuple #[u,.int .i64 0,.int .i64 0])∧Je w' u eP∧Bl V w' from
  (QQ ⟨#[120,94,50,45,50]⟩ V).mono (fun r w' h=>by
   obtain⟨u,e,p,h1,h2,h3⟩:=h;rw[Im,show Jj ⟨#[120,94,50,45,50]⟩=[120,94,50,45,50]from rfl,eJ]at h2;obtain⟨rfl,rfl,h4⟩:=h2;exact⟨u,h1,h4,h3⟩))
 have HO:=Ja (fun(V:World)=>show Calls Tryz.prog 24 #[.string ⟨#[49]⟩] V fun r w'=>∃u,r=.returned (.tuple #[u,.bool true])∧Jg w' u 1∧Bl V w' from
  (LP ⟨#[49]⟩ V).mono (fun r w' h=>by
   obtain⟨u,h1,h2,h3⟩:=h;rw[show Jj ⟨#[49]⟩=[49]from rfl]at h1 h2;rw[Rr.2]at h1;rw[Rr.1]at h2;exact⟨u,h1,h2,h3⟩))
 obtain⟨H1,H2,H3⟩:=Dg (fun(V:World) (x:Value) (hx:Je V x eP)=>Lj 1 1 x eP V hx Ru) (fun(V:World) (x y:Value) (hx:Je V x eP) (hy:Jg V y 1)=>Lm 1 1 x y eP 1 V hx hy Ru eO) (fun(V:World) (x:Value) (hx:Je V x eP)=>eG x eP V hx (Rt.sqs (by omega)) (by decide));rw[eK]at H1;rw[eM]at H2;rw[eN]at H3;go_enter Tryz.func22,Tryz.ntmps22
 go_upto_region 2 with(go_at_call 23;refine(HC.o _).mono ?_;clear HC;rintro e w1 ⟨u1,rfl,g1,hb1⟩;obtain⟨a1,l1,c1,rfl⟩:=g1.form)
 have Qb:Bl w1 (w1.alloc (.cells #[.slice a1 l1 c1] 25)):=Ba w1 _;have n1:=BI w1 25 (.slice a1 l1 c1);obtain⟨V1,hV1⟩:=ex (w1.alloc (.cells #[.slice a1 l1 c1] 25));have r1:=g1.below Qb;rw[hV1]at Qb n1 r1 ⊢;obtain⟨B1,hB1⟩:=ex (w1.heap.size);have Qd:Bl w V1:=Bt hb1 Qb;rw[hB1]at n1 ⊢;clear hV1 hB1 g1 Qb hb1;go_upto_region 3 with(go_at_call 24;refine(HO.o _).mono ?_;clear HO;rintro e w2 ⟨u2,rfl,g2,hb2⟩;obtain⟨s2,a2,l2,c2,t2,b2,k2,d2,rfl⟩:=Jg.form g2)
 have Qc:Bl w2 (w2.alloc (.cells #[.bool s2,.slice a2 l2 c2,.bool t2,.slice b2 k2 d2] 37)):=Ba w2 _;have n2:=JF.new w2 37 (.bool s2) (.slice a2 l2 c2) (.bool t2) (.slice b2 k2 d2);have r2:=g2.below Qc;have Qa:=Bt hb2 Qc
 obtain⟨V2,hV2⟩:=ex (w2.alloc (.cells #[.bool s2,.slice a2 l2 c2,.bool t2,.slice b2 k2 d2] 37));rw[hV2]at Qc n2 r2 Qa ⊢;obtain⟨B2,hB2⟩:=ex (w2.heap.size);rw[hB2]at n2 ⊢;replace n1:=boxed_below n1 Qa;replace r1:=r1.below Qa;have HQ:=Ja (Bt Qd Qa);clear hV2 hB2 g2 Qc hb2 Qa Qd;have hq:=BG V2.heap.size V2;have e0:=n1.cell;obtain⟨x0,x1,x2,x3⟩:=n2.cq;obtain⟨N1,N2,R1,R2⟩:=Dt n1 n2 r1 r2;clear n1 n2 r1 r2;go_wp2_with(first
  |(go_at_call 13;refine(H1.o _ _ (R1.o.below hq)).mono ?_;clear H1;rintro e w5 ⟨rfl,hb5⟩;have hq:=Bt hq hb5;clear e0 x0 x1 x2 x3;have e0:=(boxed_below N1.o hq).cell;obtain⟨x0,x1,x2,x3⟩:=(N2.o.below hq).cq)
  |(go_at_call 15;refine(H2.o _ _ _ (R1.o.below hq) (R2.o.below hq)).mono ?_;clear H2;rintro e w6 ⟨rfl,hb6⟩;have hq:=Bt hq hb6;clear e0 x0 x1 x2 x3;have e0:=(boxed_below N1.o hq).cell;obtain⟨x0,x1,x2,x3⟩:=(N2.o.below hq).cq)
  |(go_at_call 18;refine(H3.o _ _ (R1.o.below hq)).mono ?_;clear H3;rintro e w7 ⟨rfl,hb7⟩;have hq:=Bt hq hb7))
 go_ret;exact⟨rfl,Bt HQ.o hq⟩
end M3
end
section
open Go.RowKit Go.Shelf
attribute [local go_sem] Oper.semAt_some
end
theorem Rv{l:List UInt8}(h:l.all Dc=true):num l<10^l.length:=by
 have:=YI (Kl h);rwa[I8]at this
def Fr(x:Nat)(c:Rat):Prop:=∃(a b:Nat) (y z:Nat),c=Rat.divInt a b∧a≤10^y∧b≤10^z∧b≠0∧y+z≤x
theorem Fr.mono{x y:Nat}{c:Rat}(h:Fr x c)(hx:x≤y):Fr y c:=by
 obtain⟨a,b,u,v,h1,h2,h3,h4,h5⟩:=h;exact⟨a,b,u,v,h1,h2,h3,h4,by omega⟩
theorem Fr.one:Fr 0 1:=⟨1,1,0,0,by decide,by decide,by decide,by decide,by decide⟩
theorem eS{l:List UInt8}{i k:Nat}{c:Rat}(hi:i≤l.length)(h:YQ l i=.ok c k):Fr (k-i) c:=by
 unfold YQ at h;split at h
 · cases h
 · rename_i ds p k' h1;have h2:=GR hi h1;have h3:=GJ l k';have h9:=Rv h2.2.2.2.2.2.2.2.2;rw[h2.2.2.2.2.2.2.2.1]at h9;split at h
   · rename_i h5;have h5:=Yu h5;split at h
     · cases h
     · rename_i es p' m h6;have h7:=GR (by omega) h6;have h8:=Rv h7.2.2.2.2.2.2.2.2;rw[h7.2.2.2.2.2.2.2.1]at h8;split at h
       · cases h
       · rename_i h10;cases h;exact⟨num ds,num es,k'-p,k-p',rfl,by omega,by omega,h10,by omega⟩
   · cases h;exact⟨num ds,1,k'-p,0,(P9 _).symm,by omega,by decide,by decide,by omega⟩
theorem eT{l:List UInt8}{i k n:Nat}{c:Rat}(hi:i≤l.length)(h:Y5 l i=.ok (c,n) k):Fr (k-i) c:=by
 unfold Y5 at h;have h3:=GJ l i;have h4:=XY hi;split at h
 · split at h
   · cases h
   · rename_i c' k' h1;have h2:=MI h4 h1;have h0:=eS h4 h1;have h5:=GJ l k';split at h
     · rename_i h7;have h7:=Yu h7;split at h
       · cases h
       · rename_i n' m h8;have h9:=MJ (by omega) h8;cases h;exact h0.mono (by omega)
     · cases h;exact h0.mono (by omega)
 · split at h
   · split at h
     · cases h
     · cases h;exact Fr.one.mono (by omega)
   · cases h
def FU(i:Nat)(S:List Rat):Prop:=S.length=9∧∃D:Int,D≠0∧D.natAbs≤10^i∧∀j,∃z:Int,z.natAbs≤10^i∧cf S j=Rat.divInt z D
theorem FU.mono{i k:Nat}{S:List Rat}(h:FU i S)(hk:i≤k):FU k S:=by
 obtain⟨h1,D,h2,h3,h4⟩:=h;have hp:(10:Nat)^i≤10^k:=AJ (by omega) hk;exact⟨h1,D,h2,by omega,fun j=>by obtain⟨z,h5,h6⟩:=h4 j;exact⟨z,by omega,h6⟩⟩
theorem FU.start(i:Nat):FU i (List.replicate 9 0):=⟨rfl,1,by decide,by have:1≤10^i:=Fa (by omega);simpa using this,fun j=>⟨0,by simp,by rw[JZ,Rat.zero_divInt]⟩⟩
theorem FU.next{S:List Rat}{i x n:Nat}{c:Rat}(h:FU i S)(hc:Fr x c)(hn:n≤8)(b:Bool):FU (i+x+1) (S.set n (if b then cf S n-c else cf S n+c)):=by
 obtain⟨h1,D,h2,h3,h4⟩:=h;obtain⟨a,d,y,z,rfl,ha,hd,hd0,hx⟩:=hc;have Qa:(d:Int)≠0:=by omega
 have p1:(10:Nat)^i*10^z≤10^(i+x):=by rw[←CR];exact AJ (by omega) (by omega)
 have p2:(10:Nat)^y*10^i≤10^(i+x):=by rw[←CR];exact AJ (by omega) (by omega)
 have hw:∀w:Int,w.natAbs≤10^i→(w*(d:Int)).natAbs≤10^(i+x):=fun w hw=>by
  rw[CT,Cc];exact An (CP hw hd) p1
 have haD:((a:Int)*D).natAbs≤10^(i+x):=by
  rw[CT,Cc];exact An (CP ha h3) p2
 refine⟨by rw[Cz];exact h1,D*d,A7 h2 Qa,by have:=hw D h3;omega,fun j=>?_⟩;rw[XG _ _ _ _ (by rw[h1];omega)];by_cases hj:j=n
 · rw[BH hj];obtain⟨w,h5,h6⟩:=h4 n;have h7:=hw w h5;rw[h6];cases b with
   |true=>
    refine⟨w*d-a*D,by have:=Int.natAbs_sub_le (w*(d:Int)) ((a:Int)*D);omega,?_⟩;rw[BH rfl,Rat.sub_eq_add_neg,Rat.neg_divInt,FA _ _ h2 Qa];congr 1;rw[Int.neg_mul];rfl
   |false=>
    refine⟨w*d+a*D,by have:=Int.natAbs_add_le (w*(d:Int)) ((a:Int)*D);omega,?_⟩;rw[BE (by decide),FA _ _ h2 Qa]
 · rw[BE hj];obtain⟨w,h5,h6⟩:=h4 j;exact⟨w*d,by have:=hw w h5;omega,by rw[h6,Fp Qa]⟩
theorem Rw{l:List UInt8}:∀(f:Nat) (b:Bool) (I:Nat) (S S':List Rat) (k:Nat),I≤l.length→FU I S→Ea l f b I S=.ok S' k→FU (l.length+1) S':=by
 intro f;induction f with
 |zero=>intro b I S S' k _ _ h;cases h
 |succ f ih=>
  intro b I S S' k hI hS h;cases ht:Y5 l I with
  |error e p=>rw[NL ht]at h;cases h
  |ok a k5=>
   obtain⟨c,n⟩:=a;have h1:=MK hI ht;have h2:=hS.next (eT hI ht) h1.2.2 b;have h3:=GJ l k5;rw[NM ht]at h;split at h
   · rename_i h5;have:=Yu h5;exact ih _ _ _ _ _ (by omega) (h2.mono (by omega)) h
   · split at h
     · rename_i h5;have:=Yu h5;exact ih _ _ _ _ _ (by omega) (h2.mono (by omega)) h
     · split at h
       · cases h;exact h2.mono (by omega)
       · cases h
theorem eU{l:List UInt8}{S:List Rat}{k:Nat}(h:EW l=.ok S k):FU (l.length+1) S:=by
 unfold EW at h;have h4:=XY (l:=l) (i:=0) (by omega);split at h
 · rename_i h5;have:=Yu h5;exact Rw _ _ _ _ _ _ (by omega) (FU.start _) h
 · exact Rw _ _ _ _ _ _ h4 (FU.start _) h
theorem eV(a b c:Nat)(h:a*b<64*c):((2:Nat)^a)^b<O^c:=by
 rw[show O=2^64 from by decide,←Nat.pow_mul,←Nat.pow_mul];exact Nat.pow_lt_pow_right (by omega) h
theorem eX{n k:Nat}(h:n≤43*k)(hk:k≤7):(10:Nat)^n<O^16:=by
 have h1:((10:Nat)^43)^k≤(2^143)^k:=C5 (by decide) k;have h2:(10:Nat)^n≤10^(43*k):=AJ (by omega) h;rw[Nat.pow_mul]at h2;exact Cv (An h2 h1) (eV 143 k 16 (by omega))
theorem eY(l:List UInt8):∃D:Int,D≠0∧Sm 16 D∧Dz D 16 (YC l).1:=by
 have h0:∃D:Int,D≠0∧Sm 16 D∧Dz D 16 []:=⟨1,by decide,Sm.one _ (by omega),fun i=>by rw[YD];exact CD.zero _ _⟩;by_cases h:300<l.length
 · rw[show YC l=([],1,0)by unfold YC;rw[BH h]];exact h0
 · rw[LN h];cases ht:EW l with
   |error e p=>exact h0
   |ok S k=>
    rw[show(Ij (EStateM.Result.ok S k)).1=Jc S from rfl];obtain⟨_,D,h2,h3,h4⟩:=eU ht;have ht:=eX (n:=l.length+1) (k:=7) (by omega) (by omega);exact⟨D,h2,by unfold Sm;omega,fun i=>by
     obtain⟨z,h5,h6⟩:=h4 i;exact⟨z,by rw[J0];exact h6,by unfold Sm;omega⟩⟩
open Go.RowKit Go.Shelf
attribute [local go_sem] Oper.semAt_some
theorem Rx(l:List UInt8):Jc (YC l).1=(YC l).1:=by
 by_cases h:300<l.length
 · rw[show YC l=([],1,0)by unfold YC;rw[BH h]];rfl
 · rw[LN h];cases EW l with
   |error e p=>rfl
   |ok S k=>exact JX _
theorem Ry(s:ByteArray)(w:World):
 Calls Tryz.prog 8 #[.string s] w fun e w'=>∃u,e=.returned u∧Je w' u (YC (Jj s)).1∧Bl w w':=by
 have HD:=Ja (fun(V:World)=>QQ s V);have b0:=BI w 25 (.slice none 0 0);have Qb:Bl w (w.alloc (.cells #[.slice none 0 0] 25)):=Ba w _;obtain⟨V0,hV0⟩:=ex (w.alloc (.cells #[.slice none 0 0] 25));obtain⟨B0,hB0⟩:=ex (w.heap.size);rw[hV0]at b0 Qb;rw[hB0]at b0;obtain⟨H0,Qa,Qe,Qc⟩:=Dt b0 Qb hV0 hB0;clear b0 Qb hV0 hB0;go_enter Tryz.func8,Tryz.ntmps8
 go_upto_region 1 with fail
 rw[Qe.o,Qc.o];go_upto_region 2 with(go_at_call 23;refine(HD.o _).mono ?_;clear HD;rintro e w1 ⟨u,e1,p1,rfl,⟨rfl,rfl,hu⟩,hb⟩;obtain⟨a1,l1,c1,rfl⟩:=hu.form)
 have hA:Bl w1 (w1.alloc (.cells #[.slice a1 l1 c1] 25)):=Ba w1 _;have n1:=BI w1 25 (.slice a1 l1 c1);have n0:=(H0.o.bel hb).bel hA;have r1:=hu.row.below hA;have hB:=(Bt Qa.o hb).trans (hA.mono (Bt Qa.o hb).size);obtain⟨V1,hV1⟩:=ex (w1.alloc (.cells #[.slice a1 l1 c1] 25));obtain⟨B1,hB1⟩:=ex (w1.heap.size);rw[hV1,hB1]at n1;rw[hV1]at n0 r1 hB;rw[hV1,hB1];have x1:=n1.cell;have x0:=n0.cell;have f0:=n0.frozen;have HR:=Ja (EX n0 (.slice a1 l1 c1) r1);have Qd:=Ja (hB.setCell (p:=⟨B0,0,none⟩) (by rw[Qc.o];exact Aa _) (.slice a1 l1 c1));clear hA n1 n0 r1 hB hV1 hB1 hu hb;go_wp2_with fail
 exact BB (v:=.agg #[.slice a1 l1 c1]) (by simp[results,Tryz.results8,go_sem,x0]) rfl ⟨_,rfl,⟨_,rfl,HR.o⟩,Qd.o⟩

