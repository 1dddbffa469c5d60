import Derived.Test.YtakpoihdghihmaaGreatDoorL43
set_option maxRecDepth 100000
set_option maxHeartbeats 16000000
namespace Go.Proofs.YtakpoihdghihmaaGreatDoor
namespace M3
open Go.RowKit Go.Shelf
attribute [local go_sem] Oper.semAt_some
theorem bj(va vb:Value)(ps qs:List Rat)(w:World)(ha:Je w va ps)(hb:Je w vb qs)(hps:Sqs ps)(hqs:Sqs qs)(hq0:qs≠[])(hpw:∀i,i≤ps.length+1-qs.length→Sq (Yl (cf qs (qs.length-1))^i))(hsr:∀i,Sq (cf ps i*EH ps qs)):
 Calls Tryz.prog 182 #[va,vb] w fun e w'=>∃u,e=.returned u∧Je w' u (YJ ps qs)∧Bl w w':=by
 obtain⟨m,hm⟩:=ex (qs.length-1:Nat);have Uc:0<qs.length:=Af.2 hq0;have Qy:ps.length≤1099511627776:=by
  obtain⟨pa,la,pc,rfl⟩:=ha.form;have:=ha.row.forms;omega
 have Qt:qs.length≤1099511627776:=by
  obtain⟨qa,lb,qc,rfl⟩:=hb.form;have:=hb.row.forms;omega
 obtain⟨L,hL⟩:=ex (Yl (cf qs m):Rat);obtain⟨N,hN⟩:=ex (ps.length+1-qs.length:Nat);obtain⟨e1,he1⟩:=ex ((ps.length:Int)-1:Int);have Qp:(qs.length:Int)-1=(m:Int):=by omega
 obtain⟨e3,he3⟩:=ex (e1-(m:Int):Int);obtain⟨e4,he4⟩:=ex (e3+1:Int);have hw3:IntKind.i64.wrap e3=e3:=by rw[Bi];omega
 have hw4:IntKind.i64.wrap e4=e4:=by rw[Bi];omega
 obtain⟨Qb,Qo,Ub,Qw,Qc,HT,Qu,Qs⟩:=GK (show(∀i:Nat,(i:Int)<e4↔i<N)∧N≤1099511627777 from⟨fun i=>by omega,by omega⟩) Qp he1 hL (show ∀i,i≤N→Sq (L^i)from fun i hi=>by rw[←hL,←hm];exact hpw i (by omega)) (show DU (L^N) ps=YJ ps qs by unfold YJ EH;rw[hm,hL,hN]) (show ∀i,Sq (cf ps i*L^N)from fun i=>by have:=hsr i;unfold EH at this;rwa[hm,hL,hN]at this) hps;have Qz:=Ja hqs;clear hpw hsr hps hqs hq0 hN hL hm Uc Qy Qt he1 Qp;have Ql:Tryz.prog.follows .mixedOrders=true:=by kernel_rfl
 obtain⟨pa,la,pc,rfl⟩:=ha.form;obtain⟨qa,lb,qc,rfl⟩:=hb.form;have M0:=(((Mem.nil w).push (.cell 25 (.slice pa la pc)) (cs:=#[.slice pa la pc]) ⟨rfl,rfl⟩).push (.cell 25 (.slice qa lb qc)) (cs:=#[.slice qa lb qc]) ⟨rfl,rfl⟩).push (.cell 25 (.slice none 0 0)) (cs:=#[.slice none 0 0]) ⟨rfl,rfl⟩;simp only[BA]at M0;obtain⟨W0,hW0⟩:=ex (((w.alloc (.cells #[.slice pa la pc] 25)).alloc (.cells #[.slice qa lb qc] 25)).alloc (.cells #[.slice none 0 0] 25));obtain⟨Qj,HP,HQ⟩:=Dg hW0 (fun(V:World) (hB:Bl w V)=>ha.below hB) (fun(V:World) (hB:Bl w V)=>hb.below hB);have M1:Hid (Mem w W0 [some (w.heap.size,.cell 25 (.slice pa la pc)),some (w.heap.size+1,.cell 25 (.slice qa lb qc)),some (w.heap.size+1+1,.cell 25 (.slice none 0 0))]):=Ja (by rw[←hW0];exact M0);clear M0 hW0 ha hb;go_enter Tryz.func182,Tryz.ntmps182
 go_upto_region 1 with fail
 rw[Qj.o];clear Qj;refine Jm Ql [[],[],[1],[0,2,2],[3,3],[],[5,4,4,0,1,2,3,4,5]] (by kernel_rfl) (by decide)
  (fun D act V=>∃(tn tp ta tb tc tm:Value) (x5:Option (Nat × Dat)),act={ tmps:=#[.agg #[.slice pa la pc],.agg #[.slice qa lb qc],.pointer (some ⟨w.heap.size,0,none⟩),.pointer (some ⟨w.heap.size+1,0,none⟩),.pointer (some ⟨w.heap.size+1+1,0,none⟩),tm,undef,undef,tn,tp,ta,tb,tc,undef,undef,undef,undef,undef,undef,undef,undef,undef,undef,undef,undef,undef,undef,undef,undef,undef,undef,undef,undef,undef],defers:=[] }∧Hid ((D 0=true→tn=.agg #[.slice qa lb qc])∧(D 1=true→tp=.agg #[.slice qa lb qc])∧(D 2=true→ta=.int .i64 (m:Int))∧(D 3=true→Has V tb (.rat (cf qs m)))∧(D 4=true→Has V tc (.rat (L)))∧((D 5=false→x5=none)∧(D 5=true→D 6=false→∃B:Nat,tm=.pointer (some ⟨B,0,none⟩)∧x5=some (B,.rat 0))∧(D 6=true→∃B:Nat,tm=.pointer (some ⟨B,0,none⟩)∧x5=some (B,.rat (L)))))∧Hid (Mem w V [some (w.heap.size,.cell 25 (.slice pa la pc)),some (w.heap.size+1,.cell 25 (.slice qa lb qc)),some (w.heap.size+1+1,.cell 25 (.slice none 0 0)),x5]))
  ⟨_,_,_,_,_,_,none,rfl,Ja ⟨by simp,by simp,by simp,by simp,by simp,by simp⟩,Ja ((M1.o).none).drew⟩ ?step1 ?fin1
 case step1=>
  rintro D act V i ds hcl hi hds hDi ⟨tn,tp,ta,tb,tc,tm,x5,rfl,GG,MM⟩;have Qv:i<7:=(Ae.1 hi).1;obtain rfl|rfl|rfl|rfl|rfl|rfl|rfl:=Gw i (by omega)
  all_goals
   simp only[Ai,Ag,Ak]at hi;subst hi
  · have e0:=(MM.o.cell (i:=1) rfl).1.cell;clear hds;refine Va ?_;exact⟨_,_,_,_,_,_,_,rfl,(Di GG),Ja (MM.o)⟩
  · have e0:=(MM.o.cell (i:=1) rfl).1.cell;clear hds;refine Va ?_;exact⟨_,_,_,_,_,_,_,rfl,(Dm GG),Ja (MM.o)⟩
  · obtain rfl:=(GG.o.2.1 (hds 1 (by simp)));have HC:=Ja (J4 _ qs V (HQ.o V MM.o.2.2));rw[Qo.o]at HC;clear hds;refine Jb rfl rfl fun K hK=>?_;go_simp;go_wp2_with(go_at_call 30;refine HC.o.mono ?_;rintro e w5 ⟨rfl,hb5⟩)
    obtain⟨G0,_,_,G3,G4,G5⟩:=GG.o;exact⟨_,_,_,_,_,_,_,rfl,Ja ⟨G0,fun _=>rfl,fun _=>rfl,fun h=>(G3 h).below hb5,fun h=>(G4 h).below hb5,G5⟩,Ja (MM.o.below hb5)⟩
  · obtain rfl:=(GG.o.1 (hds 0 (by simp)));obtain rfl:=(GG.o.2.2.1 (hds 2 (by simp)));have HC:=Ja (Gm _ qs (m:Int) V (HQ.o V MM.o.2.2));rw[Iq]at HC;clear hds;refine Jb rfl rfl fun K hK=>?_;go_simp;go_wp2_with(go_at_call 74;refine HC.o.mono ?_;rintro e w5 ⟨v5,rfl,hv5,hb5⟩)
    exact⟨_,_,_,_,_,_,_,rfl,Ja ⟨fun _=>rfl,GG.o.2.1,fun _=>rfl,fun _=>hv5,fun h=>(GG.o.2.2.2.2.1 h).below hb5,GG.o.2.2.2.2.2⟩,Ja (MM.o.below hb5)⟩
  · have h0:=(GG.o.2.2.2.1 (hds 3 (by simp)));have HC:=Ja (bf _ (cf qs m) V h0 (Qz.o.at m));rw[Qw.o]at HC;clear hds h0;refine Jb rfl rfl fun K hK=>?_;go_simp;go_wp2_with(go_at_call 206;refine HC.o.mono ?_;rintro e w5 ⟨v5,rfl,hv5,hb5⟩)
    obtain⟨G0,G1,G2,G3,_,G5⟩:=GG.o;exact⟨_,_,_,_,_,_,_,rfl,Ja ⟨G0,G1,G2,fun h=>(G3 h).below hb5,fun _=>hv5,G5⟩,Ja (MM.o.below hb5)⟩
  · have hf:D 6=false:=DP hcl hDi;obtain rfl:=Du GG hDi;clear hds;refine Va ?_;obtain⟨G0,G1,G2,G3,G4,_⟩:=GG.o;exact⟨_,_,_,_,_,_,_,rfl,Ja ⟨G0,G1,G2,fun h=>(G3 h).alloc _,fun h=>(G4 h).alloc _,⟨fun h=>by simp at h,fun _ _=>⟨_,rfl,rfl⟩,fun h=>by simp[hf]at h⟩⟩,Ja (MM.o.fill (i:=3) rfl (.rat 0) (Xn _))⟩
  · obtain⟨B,rfl,rfl⟩:=EJ GG (hds 5 (by simp)) hDi;have Qd:=hds 5 (by simp);have hv:=(GG.o.2.2.2.2.1 (hds 4 (by simp)));obtain⟨s1,a1,l1,c1,t1,b1,k1,d1,rfl⟩:=Jg.form (show Jg V _ _ from hv);obtain⟨s,a,l,c,t,b,k,d,n,r,i,j⟩:=MM.o.rat (i:=3) rfl;have e0:=n.c0;have f0:=n.f0;have e1:=n.c1;have f1:=n.f1;have e2:=n.c2;have f2:=n.f2;have e3:=n.c3;have f3:=n.f3;clear hds;refine Va ?_;obtain⟨G0,G1,G2,G3,G4,_⟩:=GG.o;exact⟨_,_,_,_,_,_,_,rfl,Ja ⟨G0,G1,G2,fun h=>(G3 h).put4 n rfl rfl rfl rfl _ _ _ _,fun h=>(G4 h).put4 n rfl rfl rfl rfl _ _ _ _,⟨fun h=>by simp[Qd]at h,fun _ h=>by simp at h,fun _=>⟨B,rfl,rfl⟩⟩⟩,Ja (MM.o.putRat (i:=3) rfl hv)⟩
 rintro D act V2 hDD ⟨tn,tp,ta,tb,tc,tm,x5,rfl,GG,MM⟩;obtain⟨B3,rfl,rfl⟩:=GG.o.2.2.2.2.2.2.2 (hDD 6 (by decide));obtain rfl:=GG.o.1 (hDD 0 (by decide));obtain rfl:=GG.o.2.1 (hDD 1 (by decide));obtain rfl:=GG.o.2.2.1 (hDD 2 (by decide));clear GG hDD M1;have M2:Hid (Mem w V2 [some (w.heap.size,.cell 25 (.slice pa la pc)),some (w.heap.size+1,.cell 25 (.slice qa lb qc)),some (w.heap.size+1+1,.cell 25 (.slice none 0 0)),some (B3,.rat (L))]):=MM;clear MM;have HA:=Ja (fun(V:World)=>Ho 1 (by omega) (by omega) V);have HB:=HA;have HC:=Ja (fun(V:World) (x y:Value) (hx:Jk V x 1) (hy:Jk V y 1)=>KM x y 1 1 V hx hy Sok.one Sok.one);rw[show decide ((1:Int)≠0)=true from rfl,show Rat.divInt 1 1=L^0 by rw[Rat.pow_zero];rfl]at HC;go_upto_region 3 with(first
  |(go_at_call 29;refine(HA.o _).mono ?_;clear HA;rintro e w3 ⟨u3,rfl,Qa,hb3⟩)
  |(go_at_call 29;refine(HB.o _).mono ?_;clear HB;rintro e w4 ⟨u4,rfl,hu4,hb4⟩;have Qa:=Qa.below hb4)
  |(go_at_call 28;refine(HC.o _ _ _ Qa hu4).mono ?_;clear HC;rintro e w5 ⟨u5,rfl,hu5,hb5⟩;obtain⟨s9,a9,l9,c9,t9,b9,k9,d9,rfl⟩:=Jg.form hu5))
 obtain⟨V4,hV⟩:=ex (w5.alloc (.cells #[.bool s9,.slice a9 l9 c9,.bool t9,.slice b9 k9 d9] 37));obtain⟨B4,hBk⟩:=ex (w5.heap.size);have MM:Mem w (w5.alloc (.cells #[.bool s9,.slice a9 l9 c9,.bool t9,.slice b9 k9 d9] 37)) [some (w.heap.size,.cell 25 (.slice pa la pc)),some (w.heap.size+1,.cell 25 (.slice qa lb qc)),some (w.heap.size+1+1,.cell 25 (.slice none 0 0)),some (B3,.rat (L)),some (w5.heap.size,.rat (L^0))]:=Mem.push (((M2.o.below hb3).below hb4).below hb5) (.rat (L^0)) hu5;rw[hV,hBk]at MM;rw[hV];rw[hBk];have M3:Hid (Mem w V4 [some (w.heap.size,.cell 25 (.slice pa la pc)),some (w.heap.size+1,.cell 25 (.slice qa lb qc)),some (w.heap.size+1+1,.cell 25 (.slice none 0 0)),some (B3,.rat (L)),some (B4,.rat (L^0))]):=Ja (MM);clear M2;clear MM hV hBk;clear Qa hu4 hu5 hb3 hb4 hb5;refine Jm Ql [[],[0],[],[2,1],[1,3],[4],[]] (by kernel_rfl) (by decide)
  (fun D act V=>∃(td te tg ti tj tk tl:Value),act={ tmps:=#[.agg #[.slice pa la pc],.agg #[.slice qa lb qc],.pointer (some ⟨w.heap.size,0,none⟩),.pointer (some ⟨w.heap.size+1,0,none⟩),.pointer (some ⟨w.heap.size+1+1,0,none⟩),.pointer (some ⟨B3,0,none⟩),.pointer (some ⟨B4,0,none⟩),.bool true,.agg #[.slice qa lb qc],.agg #[.slice qa lb qc],.int .i64 ↑m,tb,tc,.tuple #[.agg #[.bool s9,.slice a9 l9 c9,.bool t9,.slice b9 k9 d9],.bool true],u3,u4,.tuple #[.agg #[.bool s9,.slice a9 l9 c9,.bool t9,.slice b9 k9 d9],.bool true],.agg #[.bool s9,.slice a9 l9 c9,.bool t9,.slice b9 k9 d9],.bool true,td,te,tg,ti,tj,tk,tl,undef,undef,undef,undef,undef,undef,undef,undef],defers:=[] }∧Hid ((D 0=true→td=.agg #[.slice pa la pc])∧(D 1=true→te=.int .i64 e1)∧(D 2=true→tg=.agg #[.slice qa lb qc])∧(D 3=true→ti=.int .i64 (m:Int))∧(D 4=true→tj=.int .i64 e3)∧(D 5=true→tk=.int .i64 e4)∧(D 6=true→tl=.int .i64 0))∧Hid (Mem w V [some (w.heap.size,.cell 25 (.slice pa la pc)),some (w.heap.size+1,.cell 25 (.slice qa lb qc)),some (w.heap.size+1+1,.cell 25 (.slice none 0 0)),some (B3,.rat (L)),some (B4,.rat (L^0))]))
  ⟨_,_,_,_,_,_,_,rfl,Ja ⟨by simp,by simp,by simp,by simp,by simp,by simp,by simp⟩,Ja (M3.o).drew⟩ ?step5 ?fin5
 case step5=>
  rintro D act V i ds hcl hi hds hDi ⟨td,te,tg,ti,tj,tk,tl,rfl,GG,MM⟩;have Qv:i<7:=(Ae.1 hi).1;obtain rfl|rfl|rfl|rfl|rfl|rfl|rfl:=Gw i (by omega)
  all_goals
   simp only[Ai,Ag,Ak]at hi;subst hi
  · have e0:=(MM.o.cell (i:=0) rfl).1.cell;clear hds;refine Va ?_;exact⟨_,_,_,_,_,_,_,rfl,(Di GG),Ja (MM.o)⟩
  · obtain rfl:=(GG.o.1 (hds 0 (by simp)));have HC:=Ja (J4 _ ps V (HP.o V MM.o.2.2));rw[Ub.o]at HC;clear hds;refine Jb rfl rfl fun K hK=>?_;go_simp;go_wp2_with(go_at_call 30;refine HC.o.mono ?_;rintro e w5 ⟨rfl,hb5⟩)
    exact⟨_,_,_,_,_,_,_,rfl,(Dm (Di GG)),Ja (MM.o.below hb5)⟩
  · have e0:=(MM.o.cell (i:=1) rfl).1.cell;clear hds;refine Va ?_;exact⟨_,_,_,_,_,_,_,rfl,(De GG),Ja (MM.o)⟩
  · obtain rfl:=(GG.o.2.2.1 (hds 2 (by simp)));have HC:=Ja (J4 _ qs V (HQ.o V MM.o.2.2));rw[Qo.o]at HC;clear hds;refine Jb rfl rfl fun K hK=>?_;go_simp;go_wp2_with(go_at_call 30;refine HC.o.mono ?_;rintro e w5 ⟨rfl,hb5⟩)
    exact⟨_,_,_,_,_,_,_,rfl,(Dj (De GG)),Ja (MM.o.below hb5)⟩
  · obtain rfl:=(GG.o.2.1 (hds 1 (by simp)));obtain rfl:=(GG.o.2.2.2.1 (hds 3 (by simp)));clear hds;refine Va ?_;exact⟨_,_,_,_,_,_,_,rfl,(Dy (Dj (Dm GG))),Ja (MM.o)⟩
  · obtain rfl:=(GG.o.2.2.2.2.1 (hds 4 (by simp)));clear hds;refine Va ?_;exact⟨_,_,_,_,_,_,_,rfl,(D4 (Dy GG)),Ja (MM.o)⟩
  · clear hds;refine Va ?_;exact⟨_,_,_,_,_,_,_,rfl,(Kv GG),Ja (MM.o)⟩
 rintro D act V6 hDD ⟨td,te,tg,ti,tj,tk,tl,rfl,GG,MM⟩;obtain rfl:=GG.o.1 (hDD 0 (by decide));obtain rfl:=GG.o.2.1 (hDD 1 (by decide));obtain rfl:=GG.o.2.2.1 (hDD 2 (by decide));obtain rfl:=GG.o.2.2.2.1 (hDD 3 (by decide));obtain rfl:=GG.o.2.2.2.2.1 (hDD 4 (by decide));obtain rfl:=Du GG (hDD 5 (by decide));obtain rfl:=GG.o.2.2.2.2.2.2 (hDD 6 (by decide));clear GG hDD M3;have M4:Hid (Mem w V6 [some (w.heap.size,.cell 25 (.slice pa la pc)),some (w.heap.size+1,.cell 25 (.slice qa lb qc)),some (w.heap.size+1+1,.cell 25 (.slice none 0 0)),some (B3,.rat (L)),some (B4,.rat (L^0))]):=MM;clear MM;go_wp2;go_loopw [25] (fun iv wr=>∃i:Nat,i≤N∧iv=.int .i64 (i:Int)∧Hid (Mem w wr [some (w.heap.size,.cell 25 (.slice pa la pc)),some (w.heap.size+1,.cell 25 (.slice qa lb qc)),some (w.heap.size+1+1,.cell 25 (.slice none 0 0)),some (B3,.rat (L)),some (B4,.rat (L^i))])) (fun iv _=>N-(intOf iv).toNat)
 case atStart=>exact⟨0,AH _,rfl,M4⟩
 case round=>
  clear M4;obtain⟨i,hi,rfl,M5⟩:=hrel;by_cases hlt:i<N
  · have Qf:(i:Int)<e4:=(Qb.o.1 i).2 hlt;have hNle:N≤1099511627777:=Qb.o.2;obtain⟨s7,a7,l7,c7,t7,b7,k7,d7,n7,r7,i7,j7⟩:=M5.o.rat (i:=3) rfl;obtain⟨e7a,e7b,e7c,e7d⟩:=n7.cq;obtain⟨s8,a8,l8,c8,t8,b8,k8,d8,n8,r8,i8,j8⟩:=M5.o.rat (i:=4) rfl;obtain⟨Qk,Qn,Qg,Qq⟩:=n8.cq;obtain⟨Qh,Qr,Qi,Qm⟩:=n8.fq;have H1:=Ja (Ia _ _ (L^i) L wr r8 r7 (Qc.o i (by omega)) (by have:=Qc.o 1 (by omega);rwa[Rat.pow_one]at this));rw[←Rat.pow_succ]at H1;go_upto_region 6 with(go_at_call 91;refine H1.o.mono ?_;clear H1;rintro e w6 ⟨u6,rfl,hu6,hq⟩;obtain⟨s8,a8,l8,c8,t8,b8,k8,d8,rfl⟩:=Jg.form hu6;clear Qk Qn Qg Qq;obtain⟨Qk,Qn,Qg,Qq⟩:=(n8.below hq).cq;clear Qh Qr Qi Qm;obtain⟨Qh,Qr,Qi,Qm⟩:=(n8.below hq).fq)
    obtain⟨V9,hV⟩:=ex ((((w6.setCell ⟨B4,0,none⟩ (.bool s8)).setCell ⟨B4,1,none⟩ (.slice a8 l8 c8)).setCell ⟨B4,2,none⟩ (.bool t8)).setCell ⟨B4,3,none⟩ (.slice b8 k8 d8));have MM:Mem w ((((w6.setCell ⟨B4,0,none⟩ (.bool s8)).setCell ⟨B4,1,none⟩ (.slice a8 l8 c8)).setCell ⟨B4,2,none⟩ (.bool t8)).setCell ⟨B4,3,none⟩ (.slice b8 k8 d8)) [some (w.heap.size,.cell 25 (.slice pa la pc)),some (w.heap.size+1,.cell 25 (.slice qa lb qc)),some (w.heap.size+1+1,.cell 25 (.slice none 0 0)),some (B3,.rat (L)),some (B4,.rat (L^(i+1)))]:=Mem.putRat (M5.o.below hq) (i:=4) rfl hu6;rw[hV]at MM;rw[hV];have M6:Hid (Mem w V9 [some (w.heap.size,.cell 25 (.slice pa la pc)),some (w.heap.size+1,.cell 25 (.slice qa lb qc)),some (w.heap.size+1+1,.cell 25 (.slice none 0 0)),some (B3,.rat (L)),some (B4,.rat (L^(i+1)))]):=Ja (MM);clear M5;clear MM hV;go_wp2_with fail
    go_roundw
    case rel=>exact⟨i+1,by omega,by go_num,M6⟩
    case measure=>simp[intOf];omega
  · have Qf:¬(i:Int)<e4:=fun h=>hlt ((Qb.o.1 i).1 h);obtain rfl:i=N:=by omega
    obtain⟨s10,a10,l10,c10,t10,b10,k10,d10,n10,r10,i10,j10⟩:=M5.o.rat (i:=4) rfl;obtain⟨e10a,e10b,e10c,e10d⟩:=n10.cq;have c0:=(M5.o.cell (i:=0) rfl).1.cell;have n1:=(M5.o.cell (i:=2) rfl).1;have Qe:=Ja M5.o.2.2;have H2:=Ja (RL (.agg #[.slice pa la pc]) _ ps (L^i) wr (HP.o wr Qe.o) r10 Qs.o (Qc.o i (Aa _)) Qu.o);rw[HT.o]at H2;go_wp2_with(go_at_call 181;refine H2.o.mono ?_;clear H2;rintro e w5 ⟨u5,rfl,hu5,hb5⟩;obtain⟨a7,l7,c7,rfl⟩:=hu5.form;have n5:=boxed_below n1 hb5;have x0:=n5.cell;have x1:=n5.frozen;have Ua:=Ja (Le n5 (x:=.slice a7 l7 c7) hu5);have Qx:=Ja ((Bt Qe.o hb5).setCell (p:=⟨w.heap.size+1+1,0,none⟩) (by show w.heap.size≤w.heap.size+1+1;omega) (.slice a7 l7 c7));clear hu5 hb5 n5)
    exact BB (v:=.agg #[.slice a7 l7 c7]) (by simp[results,Tryz.results182,go_sem,x0]) rfl ⟨_,rfl,Ua.o,Qx.o⟩
theorem bk{A:Nat}{ps qs:List Rat}(wp:EN A ps)(wq:EN A qs)(tq:Jc qs=qs)(q0:qs≠[])(hA:1≤A)(hb:4*((ps.length+2)*(A+1))≤1000000000):
 Sqs ps∧Sqs qs∧(∀i,i≤ps.length+1-qs.length→Sq (Yl (cf qs (qs.length-1))^i))∧(∀i,Sq (cf ps i*EH ps qs))∧Sqs (YJ ps qs)∧(∀i,DV A (cf qs i))∧
 ∃l:Int,Dvn 1 1 l ((ps.length+2)*A+1) A (YJ ps qs) qs:=by
 have b1:(ps.length+2)*(A+1)=(ps.length+2)*A+(ps.length+2):=by rw[AG,Fl]
 have hql:0<qs.length:=Af.2 q0;obtain⟨l,hl1,hl2⟩:=wq (qs.length-1);have Qf:l≠0:=fun e=>by
  have:=Jq tq q0;rw[hl2,e]at this;exact this rfl
 have Qb:Yl (cf qs (qs.length-1))=((l.natAbs:Int):Rat):=by
  rw[hl2];unfold Yl;have h1:((l:Rat)<0)↔l<0:=by
   rw[show(0:Rat)=((0:Int):Rat)from rfl];exact Rat.intCast_lt_intCast
  split
  · rename_i h;rw[h1]at h;rw[←Rat.intCast_neg];congr 1;omega
  · rename_i h;rw[h1]at h;congr 1;omega
 have Qd:∀i:Nat,∃z:Int,Sm (i*A+1) z∧Yl (cf qs (qs.length-1))^i=(z:Rat):=fun i=>by
  refine⟨(l.natAbs:Int)^i,?_,?_⟩
  · refine Sm.powZ ?_ i;unfold Sm at hl1 ⊢;rwa[Cc]
  · rw[Qb,Rat.intCast_pow]
 have Qe:∀(k:Nat) (z:Int),Sm k z→k≤1000000000→1≤k→Sq (z:Rat):=fun k z hz hk h1=>Sq.of ((Ng (D:=1) (by decide) hz (by rw[show((1:Int):Rat)=1 from rfl,Rat.mul_one])).smq (by decide) (Sm.one k h1)) hk;have hN:ps.length+1-qs.length≤ps.length:=by omega
 have Qc:∀i:Nat,i≤ps.length→i*A≤(ps.length+2)*A:=fun i hi=>Aj _ (by omega);have Qa:EN ((ps.length+2)*A+1) (YJ ps qs):=fun i=>by
  obtain⟨z,h1,h2⟩:=wp i;obtain⟨y,h3,h4⟩:=Qd (ps.length+1-qs.length);refine⟨z*y,(h1.mul h3).mono ?_,?_⟩
  · have h5:(ps.length+1-qs.length+1)*A≤(ps.length+2)*A:=Aj _ (by omega);rw[AD,CC]at h5;omega
  · unfold YJ EH;rw[XP,h2,h4,CF]
 have hA9:A≤(ps.length+2)*A:=by
  have:1*A≤(ps.length+2)*A:=Aj _ (by omega)
  omega
 refine⟨Sqs.of fun i=>Sq.of (wp.smq hA i) (by omega),Sqs.of fun i=>Sq.of (wq.smq hA i) (by omega),fun i hi=>?_,fun i=>?_,Sqs.of fun i=>Sq.of (Qa.smq (by omega) i) (by omega),wq.smq hA,l,?_⟩
 · obtain⟨z,h1,h2⟩:=Qd i;rw[h2];exact Qe _ z h1 (by have:=Qc i (by omega);omega) (by omega)
 · obtain⟨z,h1,h2⟩:=Qa i;have h3:cf ps i*EH ps qs=(z:Rat):=by rw[←h2];unfold YJ;rw[XP]
   rw[h3];exact Qe _ z h1 (by omega) (by omega)
 · refine⟨by decide,Sm.one _ (by omega),Qa.cdl,by decide,Sm.one _ hA,wq.cdl,Qf,hl1,?_⟩;rw[hl2,CO,show((1:Int):Rat)=1 from rfl];grind
theorem bl{ps qs:List Rat}(tp:Jc ps=ps)(tq:Jc qs=qs)(q0:qs≠[]):(YJ ps qs).length=ps.length:=Yg (Nh tq q0) tp
theorem bm(A:Nat)(va vb:Value)(ps qs:List Rat)(w:World)(ha:Je w va ps)(hb:Je w vb qs)(wp:EN A ps)(wq:EN A qs)(tp:Jc ps=ps)(tq:Jc qs=qs)(q0:qs≠[])(hA:1≤A)(hbd:4*((ps.length+2)*(A+1))≤1000000000)(hr:Ln A (JE ps qs)):
 Calls Tryz.prog 138 #[va,vb] w fun e w'=>∃u,e=.returned u∧Je w' u (YN ps qs)∧Bl w w':=by
 obtain⟨s1,s2,s3,s4,s5,s6,l,hdv⟩:=bk wp wq tq q0 hA hbd;have b1:(ps.length+2)*(A+1)=(ps.length+2)*A+(ps.length+2):=by rw[AG,Fl]
 obtain⟨m,hm⟩:=ex ((YJ ps qs).length-(qs.length-1));have Qk:m≤ps.length:=by rw[bl tp tq q0]at hm;omega
 have b2:m*(A+1)≤ps.length*(A+1):=Aj _ Qk;have b3:(ps.length+2)*(A+1)=ps.length*(A+1)+2*(A+1):=AD _ _ _;have Qp:=Ja (fun(V:World) (x y:Value) (hx:Je V x (YJ ps qs)) (hy:Je V y qs)=>RJ A x y (YJ ps qs) qs V hx hy s5 s6 (JP _ _) tq q0 (by
  rw[hm];exact hdv.sizes (by omega)))
 have Qe:=(hdv.rem hm).1;have Qc:=hdv.den m;have Ql:=Ja (fun(V:World) (x:Value) (hx:Je V x (JE (YJ ps qs) qs))=>Nk (1*l^m) ((ps.length+2)*A+1+m*(A+1)+1) x (JE (YJ ps qs) qs) V hx (Xh _ _) Qc.1 Qc.2 (fun i=>(Qe i).mono (by omega)) (by omega));have Qd:=RH tq q0 hr;have Qh:Sqs (JL (JE (YJ ps qs) qs)):=Sqs.of fun i=>Sq.of (Qd.1.smq hA i) (by omega);have Qj:Sqs (Ym [] (JL (JE (YJ ps qs) qs))):=Sqs.of fun i=>Sq.of (Qd.2.smq hA i) (by omega);have Qf:=Ja (fun(V:World) (y:Value) (hy:Je V y (JL (JE (YJ ps qs) qs)))=>WE _ y [] (JL (JE (YJ ps qs) qs)) V (RK V) hy (Sqs.of fun i=>by rw[YD];exact Ec) Qh Qj);have Qm:=Ja (fun(V:World) (x y:Value) (hx:Je V x ps) (hy:Je V y qs)=>bj x y ps qs V hx hy s1 s2 q0 s3 s4);clear s1 s2 s3 s4 s5 s6 hdv b1 hm Qk b2 b3 Qe Qc Qd Qh Qj wp wq tp tq q0 hA hbd hr;have Qo:Tryz.prog.follows .mixedOrders=true:=by kernel_rfl
 obtain⟨pa,la,pc,rfl⟩:=ha.form;obtain⟨qa,lb,qc,rfl⟩:=hb.form;have M0:=(((Mem.nil w).push (.cell 25 (.slice pa la pc)) (cs:=#[.slice pa la pc]) ⟨rfl,rfl⟩).push (.cell 25 (.slice qa lb qc)) (cs:=#[.slice qa lb qc]) ⟨rfl,rfl⟩).push (.cell 25 (.slice none 0 0)) (cs:=#[.slice none 0 0]) ⟨rfl,rfl⟩;simp only[BA]at M0;obtain⟨W0,hW0⟩:=ex (((w.alloc (.cells #[.slice pa la pc] 25)).alloc (.cells #[.slice qa lb qc] 25)).alloc (.cells #[.slice none 0 0] 25));obtain⟨Qg,HP,HQ⟩:=Dg hW0 (fun(V:World) (hB:Bl w V)=>ha.below hB) (fun(V:World) (hB:Bl w V)=>hb.below hB);have M1:Hid (Mem w W0 [some (w.heap.size,.cell 25 (.slice pa la pc)),some (w.heap.size+1,.cell 25 (.slice qa lb qc)),some (w.heap.size+1+1,.cell 25 (.slice none 0 0))]):=Ja (by rw[←hW0];exact M0);clear M0 hW0 ha hb;go_enter Tryz.func138,Tryz.ntmps138
 go_upto_region 1 with fail
 rw[Qg.o];clear Qg;refine Jm Qo [[],[],[0,1],[],[2,3,2],[4],[5],[5],[5],[],[],[9,6,4,0,1,2,3,4,5,6,9,10],[10,7,11,0,1,2,3,4,5,6,7,9,10,11],[8,12,0,1,2,3,4,5,6,7,8,9,10,11,12]] (by kernel_rfl) (by decide)
  (fun D act V=>∃(tn ta tb tc td tm te tg ti tj tk tl:Value) (x9 x10:Option (Nat × Dat)),act={ tmps:=#[.agg #[.slice pa la pc],.agg #[.slice qa lb qc],.pointer (some ⟨w.heap.size,0,none⟩),.pointer (some ⟨w.heap.size+1,0,none⟩),.pointer (some ⟨w.heap.size+1+1,0,none⟩),tj,tk,tl,tm,tn,ta,tb,tc,td,te,tg,ti,undef,undef,undef,undef],defers:=[] }∧Hid ((D 0=true→tn=.agg #[.slice pa la pc])∧(D 1=true→ta=.agg #[.slice qa lb qc])∧(D 2=true→Has V tb (.poly (YJ ps qs)))∧(D 3=true→tc=.agg #[.slice qa lb qc])∧(D 4=true→Tup2 V td (.poly (Jv (YJ ps qs) qs)) (.poly (JE (YJ ps qs) qs)))∧(D 5=true→Tup2 V tm (.poly (Jv (YJ ps qs) qs)) (.poly (JE (YJ ps qs) qs)))∧(D 6=true→Has V te (.poly (Jv (YJ ps qs) qs)))∧(D 7=true→Has V tg (.poly (JE (YJ ps qs) qs)))∧(D 8=true→ti=.bool true)∧((D 9=false→x9=none)∧(D 9=true→D 11=false→∃B:Nat,tj=.pointer (some ⟨B,0,none⟩)∧x9=some (B,.poly []))∧(D 11=true→∃B:Nat,tj=.pointer (some ⟨B,0,none⟩)∧x9=some (B,.poly (Jv (YJ ps qs) qs))))∧((D 10=false→x10=none)∧(D 10=true→D 12=false→∃B:Nat,tk=.pointer (some ⟨B,0,none⟩)∧x10=some (B,.poly []))∧(D 12=true→∃B:Nat,tk=.pointer (some ⟨B,0,none⟩)∧x10=some (B,.poly (JE (YJ ps qs) qs))))∧(D 13=true→tl=.bool true))∧Hid (Mem w V [some (w.heap.size,.cell 25 (.slice pa la pc)),some (w.heap.size+1,.cell 25 (.slice qa lb qc)),some (w.heap.size+1+1,.cell 25 (.slice none 0 0)),x9,x10]))
  ⟨_,_,_,_,_,_,_,_,_,_,_,_,none,none,rfl,Ja ⟨by simp,by simp,by simp,by simp,by simp,by simp,by simp,by simp,by simp,by simp,by simp,by simp⟩,Ja (((M1.o).none).none).drew⟩ ?step1 ?fin1
 case step1=>
  rintro D act V i ds hcl hi hds hDi ⟨tn,ta,tb,tc,td,tm,te,tg,ti,tj,tk,tl,x9,x10,rfl,GG,MM⟩;have hi6:i<14:=(Ae.1 hi).1;obtain rfl|rfl|rfl|rfl|rfl|rfl|rfl|rfl|rfl|rfl|rfl|rfl|rfl|rfl:=FK i (by omega)
  all_goals
   simp only[Ai,Ag,Ak]at hi;subst hi
  · have e0:=(MM.o.cell (i:=0) rfl).1.cell;clear hds;refine Va ?_;exact⟨_,_,_,_,_,_,_,_,_,_,_,_,_,_,rfl,(Di GG),Ja (MM.o)⟩
  · have e0:=(MM.o.cell (i:=1) rfl).1.cell;clear hds;refine Va ?_;exact⟨_,_,_,_,_,_,_,_,_,_,_,_,_,_,rfl,(Dm GG),Ja (MM.o)⟩
  · obtain rfl:=(GG.o.1 (hds 0 (by simp)));obtain rfl:=(GG.o.2.1 (hds 1 (by simp)));have HC:=Ja (Qm.o V _ _ (HP.o V MM.o.2.2) (HQ.o V MM.o.2.2));clear hds;refine Jb rfl rfl fun K hK=>?_;go_simp;go_wp2_with(go_at_call 182;refine HC.o.mono ?_;rintro e w5 ⟨v5,rfl,hv5,Qa⟩)
    obtain⟨_,_,_,G3,G4,G5,G6,G7,G8⟩:=GG.o;exact⟨_,_,_,_,_,_,_,_,_,_,_,_,_,_,rfl,Ja ⟨fun _=>rfl,fun _=>rfl,fun _=>hv5,G3,fun h=>(G4 h).below Qa,fun h=>(G5 h).below Qa,fun h=>(G6 h).below Qa,fun h=>(G7 h).below Qa,G8⟩,Ja (MM.o.below Qa)⟩
  · have e0:=(MM.o.cell (i:=1) rfl).1.cell;clear hds;refine Va ?_;exact⟨_,_,_,_,_,_,_,_,_,_,_,_,_,_,rfl,(Dj GG),Ja (MM.o)⟩
  · have h0:=(GG.o.2.2.1 (hds 2 (by simp)));obtain rfl:=(GG.o.2.2.2.1 (hds 3 (by simp)));have HC:=Ja (Qp.o V _ _ h0 (HQ.o V MM.o.2.2));clear hds h0;refine Jb rfl rfl fun K hK=>?_;go_simp;go_wp2_with(go_at_call 139;refine HC.o.mono ?_;rintro e w5 ⟨v5,v6,rfl,hv5,hv6,Qa⟩)
    obtain⟨G0,G1,G2,_,_,G5,G6,G7,G8⟩:=GG.o;exact⟨_,_,_,_,_,_,_,_,_,_,_,_,_,_,rfl,Ja ⟨G0,G1,fun h=>(G2 h).below Qa,fun _=>rfl,fun _=>⟨v5,v6,rfl,hv5,hv6⟩,fun h=>(G5 h).below Qa,fun h=>(G6 h).below Qa,fun h=>(G7 h).below Qa,G8⟩,Ja (MM.o.below Qa)⟩
  · have h0:=(GG.o.2.2.2.2.1 (hds 4 (by simp)));clear hds;refine Va ?_;exact⟨_,_,_,_,_,_,_,_,_,_,_,_,_,_,rfl,(D4 GG fun _=>h0),Ja (MM.o)⟩
  · obtain⟨y1,y2,rfl,h1,h2⟩:=((Du GG) (hds 5 (by simp)));clear hds;refine Va ?_;exact⟨_,_,_,_,_,_,_,_,_,_,_,_,_,_,rfl,(ED GG fun _=>h1),Ja (MM.o)⟩
  · obtain⟨y1,y2,rfl,h1,h2⟩:=((Du GG) (hds 5 (by simp)));clear hds;refine Va ?_;exact⟨_,_,_,_,_,_,_,_,_,_,_,_,_,_,rfl,(EQ GG fun _=>h2),Ja (MM.o)⟩
  · obtain⟨y1,y2,rfl,h1,h2⟩:=((Du GG) (hds 5 (by simp)));clear hds;refine Va ?_;exact⟨_,_,_,_,_,_,_,_,_,_,_,_,_,_,rfl,(EK GG),Ja (MM.o)⟩
  · have hf:D 11=false:=DP hcl hDi;obtain rfl:=GG.o.2.2.2.2.2.2.2.2.2.1.1 hDi;clear hds;refine Va ?_;obtain⟨G0,G1,G2,G3,G4,G5,G6,G7,G8,_,G10⟩:=GG.o;exact⟨_,_,_,_,_,_,_,_,_,_,_,_,_,_,rfl,Ja ⟨G0,G1,fun h=>(G2 h).alloc _,G3,fun h=>(G4 h).alloc _,fun h=>(G5 h).alloc _,fun h=>(G6 h).alloc _,fun h=>(G7 h).alloc _,G8,⟨fun h=>by simp at h,fun _ _=>⟨_,rfl,rfl⟩,fun h=>by simp[hf]at h⟩,G10⟩,Ja (MM.o.fill (i:=3) rfl (.poly []) (Ld _))⟩
  · have hf:D 12=false:=DP hcl hDi;obtain rfl:=GG.o.2.2.2.2.2.2.2.2.2.2.1.1 hDi;clear hds;refine Va ?_;obtain⟨G0,G1,G2,G3,G4,G5,G6,G7,G8,G9,_,G11⟩:=GG.o;exact⟨_,_,_,_,_,_,_,_,_,_,_,_,_,_,rfl,Ja ⟨G0,G1,fun h=>(G2 h).alloc _,G3,fun h=>(G4 h).alloc _,fun h=>(G5 h).alloc _,fun h=>(G6 h).alloc _,fun h=>(G7 h).alloc _,G8,G9,⟨fun h=>by simp at h,fun _ _=>⟨_,rfl,rfl⟩,fun h=>by simp[hf]at h⟩,G11⟩,Ja (MM.o.fill (i:=4) rfl (.poly []) (Ld _))⟩
  · obtain⟨B,rfl,rfl⟩:=GG.o.2.2.2.2.2.2.2.2.2.1.2.1 (hds 9 (by simp)) hDi;have Qb:=hds 9 (by simp);have hv:=((EJ GG) (hds 6 (by simp)));obtain⟨a1,l1,c1,rfl⟩:=Je.form (show Je V _ _ from hv);obtain⟨a,l,c,n,r⟩:=MM.o.poly2 (i:=3) rfl;have e0:=n.cell;have f0:=n.frozen;clear hds;refine Va ?_;obtain⟨G0,G1,G2,G3,G4,G5,G6,G7,G8,_,G10⟩:=GG.o;exact⟨_,_,_,_,_,_,_,_,_,_,_,_,_,_,rfl,Ja ⟨G0,G1,fun h=>(G2 h).set1 n rfl _,G3,fun h=>(G4 h).set1 n rfl _,fun h=>(G5 h).set1 n rfl _,fun h=>(G6 h).set1 n rfl _,fun h=>(G7 h).set1 n rfl _,G8,⟨fun h=>by simp[Qb]at h,fun _ h=>by simp at h,fun _=>⟨B,rfl,rfl⟩⟩,G10⟩,Ja (MM.o.putPoly (i:=3) rfl hv)⟩
  · obtain⟨B,rfl,rfl⟩:=GG.o.2.2.2.2.2.2.2.2.2.2.1.2.1 (hds 10 (by simp)) hDi;have Qb:=hds 10 (by simp);have hv:=((Ev GG) (hds 7 (by simp)));obtain⟨a1,l1,c1,rfl⟩:=Je.form (show Je V _ _ from hv);obtain⟨a,l,c,n,r⟩:=MM.o.poly2 (i:=4) rfl;have e0:=n.cell;have f0:=n.frozen;clear hds;refine Va ?_;obtain⟨G0,G1,G2,G3,G4,G5,G6,G7,G8,G9,_,G11⟩:=GG.o;exact⟨_,_,_,_,_,_,_,_,_,_,_,_,_,_,rfl,Ja ⟨G0,G1,fun h=>(G2 h).set1 n rfl _,G3,fun h=>(G4 h).set1 n rfl _,fun h=>(G5 h).set1 n rfl _,fun h=>(G6 h).set1 n rfl _,fun h=>(G7 h).set1 n rfl _,G8,G9,⟨fun h=>by simp[Qb]at h,fun _ h=>by simp at h,fun _=>⟨B,rfl,rfl⟩⟩,G11⟩,Ja (MM.o.putPoly (i:=4) rfl hv)⟩
  · obtain rfl:=((Ee GG) (hds 8 (by simp)));clear hds;refine Va ?_;exact⟨_,_,_,_,_,_,_,_,_,_,_,_,_,_,rfl,(Hi (EK GG)),Ja (MM.o)⟩
 rintro D act V2 hDD ⟨tn,ta,tb,tc,td,tm,te,tg,ti,tj,tk,tl,x9,x10,rfl,GG,MM⟩;obtain⟨B3,rfl,rfl⟩:=GG.o.2.2.2.2.2.2.2.2.2.1.2.2 (hDD 11 (by decide));obtain⟨B4,rfl,rfl⟩:=GG.o.2.2.2.2.2.2.2.2.2.2.1.2.2 (hDD 12 (by decide));obtain rfl:=GG.o.1 (hDD 0 (by decide));obtain rfl:=GG.o.2.1 (hDD 1 (by decide));obtain rfl:=GG.o.2.2.2.1 (hDD 3 (by decide));obtain rfl:=Ee GG (hDD 8 (by decide));obtain rfl:=GG.o.2.2.2.2.2.2.2.2.2.2.2 (hDD 13 (by decide));clear GG hDD M1;have M2:Hid (Mem w V2 [some (w.heap.size,.cell 25 (.slice pa la pc)),some (w.heap.size+1,.cell 25 (.slice qa lb qc)),some (w.heap.size+1+1,.cell 25 (.slice none 0 0)),some (B3,.poly (Jv (YJ ps qs) qs)),some (B4,.poly (JE (YJ ps qs) qs))]):=MM;clear MM;obtain⟨a5,l5,c5,n5,r5⟩:=M2.o.poly2 (i:=4) rfl;have e5a:=n5.cell;have n1:=(M2.o.cell (i:=2) rfl).1;have Qi:=Ja M2.o.2.2;have H1:=Ja (Ql.o V2 _ r5);clear Ql;go_wp2_with(first
  |(go_at_call 137;refine H1.o.mono ?_;clear H1;rintro e w4 ⟨u4,rfl,hu4,hb4⟩)
  |(go_at_call 90;refine(Qf.o _ _ hu4).mono ?_;clear Qf;rintro e w5 ⟨u5,rfl,hu5,_,hb6⟩;have Qa:=Bt hb4 hb6;obtain⟨a7,l7,c7,rfl⟩:=hu5.form;have n5:=boxed_below n1 Qa;have x0:=n5.cell;have x1:=n5.frozen;have Qq:=Ja (Le n5 (x:=.slice a7 l7 c7) hu5);have Qn:=Ja ((Bt Qi.o Qa).setCell (p:=⟨w.heap.size+1+1,0,none⟩) (by show w.heap.size≤w.heap.size+1+1;omega) (.slice a7 l7 c7));clear hu5 Qa n5))
 exact BB (v:=.agg #[.slice a7 l7 c7]) (by simp[results,Tryz.results138,go_sem,x0]) rfl ⟨_,rfl,Qq.o,Qn.o⟩
end M3
section
def EO:Nat→List Rat→List Rat→List (List Rat)
 |0,a,_=>[a]
 |n+1,a,b=>if b=[]then [a]else a::EO n b (YN a b)
theorem bn:∀(n m:Nat) (a b:List Rat),Jc b=b→b.length≤n→b.length≤m→EO n a b=EO m a b:=by
 intro n;induction n with
 |zero=>
  intro m a b _ h _;have hb:b=[]:=LW (by omega);subst hb;cases m with
  |zero=>rfl
  |succ m=>simp[EO]
 |succ n ih=>
  intro m a b tb h h2;by_cases h0:b=[]
  · subst h0;cases m with
    |zero=>simp[EO]
    |succ m=>simp[EO]
  · have hl:0<b.length:=Af.2 h0;cases m with
    |zero=>omega
    |succ m=>
     have h3:=Xi (a:=a) tb h0;simp only[EO,BE h0];rw[ih m b (YN a b) (Gv _ _) (by omega) (by omega)]
def EY(a b:List Rat):List (List Rat):=EO b.length a b
theorem Is(a:List Rat):EY a []=[a]:=rfl
theorem XD{a b:List Rat}(tb:Jc b=b)(h0:b≠[]):EY a b=a::EY b (YN a b):=by
 have h3:=Xi (a:=a) tb h0;have hl:0<b.length:=Af.2 h0;unfold EY;obtain⟨n,hn⟩:∃n,b.length=n+1:=⟨b.length-1,by omega⟩;rw[hn,EO,BE h0];congr 1;exact bn _ _ _ _ (Gv _ _) (by omega) (Aa _)
def X6(p q:List Rat):List (List Rat):=EY (JL p) (JL q)
open Go.RowKit Go.Shelf
theorem Je.setB{V:World}{v:Value}{ps:List Rat}(h:Je V v ps){B:Nat}{a:Option Addr}{l c:Nat}(b:Boxed V B 25 (.slice a l c)){u:Value}:Je (V.setCell ⟨B,0,none⟩ u) v ps:=M3.Le b h
end
namespace M3
open Go.RowKit Go.Shelf
attribute [local go_sem] Oper.semAt_some
def Dh(V:World)(B:Nat)(a:Option Addr)(l c:Nat):Prop:=Boxed V B 25 (.slice a l c)
section
variable {V V':World} {B B':Nat} {a a':Option Addr} {l c l' c':Nat}
theorem Dh.cell(h:Dh V B a l c):V.cell? ⟨B,0,none⟩=some (.slice a l c):=Boxed.cell h
theorem Dh.frozen(h:Dh V B a l c):V.frozen? ⟨B,0,none⟩=false:=Boxed.frozen h
theorem Dh.below(h:Dh V B a l c)(hb:Bl V V'):Dh V' B a l c:=boxed_below h hb
theorem Dh.far(h:Dh V B a l c)(hne:B≠B'){u:Value}:Dh (V.setCell ⟨B',0,none⟩ u) B a l c:=Bx.far (cs:=#[.slice a l c]) h (p:=⟨B',0,none⟩) hne u
theorem Dh.put(h:Dh V B a l c):Dh (V.setCell ⟨B,0,none⟩ (.slice a' l' c')) B a' l' c':=(show Boxed V B 25 (.slice a l c)from h).set _
end
def GB(G:List (List Rat)→World→Prop):Prop:=∀H W W',G H W→Bl W W'→G H W'
def Ka(B4 B5:Nat)(G:List (List Rat)→World→Prop):Prop:=∀H W B a l c u,B=B4∨B=B5→Dh W B a l c→G H W→G H (W.setCell ⟨B,0,none⟩ u)
def GD(B4 B5:Nat)(G:List (List Rat)→World→Prop)(H:List (List Rat))(V:World)(v4 v5:Value)(p q:List Rat):Prop:=(GB G∧Ka B4 B5 G)∧G H V∧Je V v4 p∧Je V v5 q
section
variable {B4 B5:Nat} {G:List (List Rat)→World→Prop} {H:List (List Rat)} {V V':World} {v4 v5:Value} {p q:List Rat}
theorem GD.below(h:GD B4 B5 G H V v4 v5 p q)(hb:Bl V V'):GD B4 B5 G H V' v4 v5 p q:=⟨h.1,h.1.1 _ _ _ h.2.1 hb,h.2.2.1.below hb,h.2.2.2.below hb⟩
theorem GD.put(h:GD B4 B5 G H V v4 v5 p q){B:Nat}(hB:B=B4∨B=B5){a:Option Addr}{l c:Nat}(b:Dh V B a l c){u:Value}:GD B4 B5 G H (V.setCell ⟨B,0,none⟩ u) v4 v5 p q:=⟨h.1,h.1.2 _ _ _ _ _ _ _ hB b h.2.1,h.2.2.1.setB b,h.2.2.2.setB b⟩
end
def Lf(V:World)(B:Nat)(r:List Rat):Prop:=∃a l c,Dh V B a l c∧Je V (.agg #[.slice a l c]) r
theorem Lf.below{V V':World}{B:Nat}{r:List Rat}(h:Lf V B r)(hb:Bl V V'):Lf V' B r:=by
 obtain⟨a,l,c,h1,h2⟩:=h;exact⟨a,l,c,h1.below hb,h2.below hb⟩
def Kb(V:World)(B:Nat):Nat:=match V.cell? ⟨B,0,none⟩with|some (.slice _ l _)=>l|_=>0
theorem Dh.len{V:World}{B:Nat}{a:Option Addr}{l c:Nat}(h:Dh V B a l c):Kb V B=l:=by
 unfold Kb;rw[h.cell]
theorem RM{V:World}{a:Option Addr}{l c:Nat}{ps:List Rat}(h:Je V (.agg #[.slice a l c]) ps):l=ps.length:=h.row.forms.1
theorem chnL_head(a b:List Rat):∃t,EY a b=a::t:=by
 unfold EY;cases b.length with
 |zero=>exact⟨_,rfl⟩
 |succ n=>
  rw[EO];split
  · exact⟨_,rfl⟩
  · exact⟨_,rfl⟩
def bt(B4 B5 n l:Nat)(C:List (List Rat))(G:List (List Rat)→World→Prop):Prop:=∀H W a4 l4 c4 a5 l5 c5 p q,H++[p] <+: C→B4<W.heap.size→B5<W.heap.size→G H W→Dh W B4 a4 l4 c4→Dh W B5 a5 l5 c5→Je W (.agg #[.slice a4 l4 c4]) p→Je W (.agg #[.slice a5 l5 c5]) q→
 YieldAt Fence.wide (n-1) Tryz.prog l #[.agg #[.slice a4 l4 c4]] W fun e W'=>e=.returned (.bool true)∧G (H++[p]) W'∧Dh W' B4 a4 l4 c4∧Dh W' B5 a5 l5 c5∧Je W' (.agg #[.slice a4 l4 c4]) p∧Je W' (.agg #[.slice a5 l5 c5]) q
structure ChOk(K:Nat)(p q:List Rat):Prop where
 tp:Jc p=p
 tq:Jc q=q
 cp:∃D:Int,D≠0∧Sm K D∧Dz D K p
 cq:∃D:Int,D≠0∧Sm K D∧Dz D K q
 le:4*((max p.length q.length+2)*(Df K p q+1))≤1000000000
 ln:max p.length q.length≤1000
theorem ChOk.lp{K:Nat}{p q:List Rat}(h:ChOk K p q):Ln K p:=by obtain⟨D,h1,_,h2⟩:=h.cp;exact h2.ln h1
theorem ChOk.lq{K:Nat}{p q:List Rat}(h:ChOk K p q):Ln K q:=by obtain⟨D,h1,_,h2⟩:=h.cq;exact h2.ln h1
theorem ChOk.bd{K:Nat}{p q:List Rat}(h:ChOk K p q):Df K p q≤1000000000∧K≤1000000000∧p.length+q.length≤1000000000∧1≤Df K p q:=by
 have h1:=h.le;have h2:=Nj K p q;have h3:1*(Df K p q+1)≤(max p.length q.length+2)*(Df K p q+1):=Aj _ (by omega);have h4:(max p.length q.length+2)*1≤(max p.length q.length+2)*(Df K p q+1):=Ar _ (by omega);omega
theorem bu(K n:Nat)(hn:1≤n)(Bp Bq:Nat)(pa qa:Option Addr)(pl pc ql qc:Nat)(p q:List Rat)(hok:ChOk K p q)(l:Nat)(Gf:Nat→Nat→List (List Rat)→World→Prop)(w:World)(hbp:Dh w Bp pa pl pc)(hbq:Dh w Bq qa ql qc)(ip:Je w (.agg #[.slice pa pl pc]) p)(iq:Je w (.agg #[.slice qa ql qc]) q)
(hGb:∀B4 B5,GB (Gf B4 B5))(hGs:∀B4 B5,w.heap.size≤B4→w.heap.size≤B5→Ka B4 B5 (Gf B4 B5))(hY:∀B4 B5,w.heap.size≤B4→w.heap.size≤B5→bt B4 B5 n l (X6 p q) (Gf B4 B5))(h0:∀B4 B5 V,w.heap.size≤B4→w.heap.size≤B5→Bl w V→Gf B4 B5 [] V):
 CallsIn Fence.wide n Tryz.prog 136 (#[.func (.yield l) #[] #[]]++#[.pointer (some ⟨Bp,0,none⟩),.pointer (some ⟨Bq,0,none⟩)]) w fun e W'=>(∃v,e=.returned v)∧∃B4 B5 H a,(w.heap.size≤B4∧w.heap.size≤B5)∧Gf B4 B5 (H++[a]) W'∧X6 p q=H++[a]∧Chn p q (Df K p q) a []:=by
 have Qq:Tryz.prog.follows .mixedOrders=true:=by kernel_rfl
 have Qy:=Ja (fun(V:World) (hB:Bl w V)=>(hbp.below hB).cell);have Qp:=Ja (fun(V:World) (hB:Bl w V)=>(hbq.below hB).cell);have Qw:=Ja (fun(V:World) (hB:Bl w V)=>show Calls Tryz.prog 137 #[.agg #[.slice pa pl pc]] V fun e w'=>∃u,e=.returned u∧Je w' u (JL p)∧Bl V w' by
  obtain⟨D,h1,h2,h3⟩:=hok.cp;exact Nk D K _ p V (ip.below hB) hok.tp h1 h2 h3 hok.bd.2.1)
 have Qo:=Ja (fun(V:World) (hB:Bl w V)=>show Calls Tryz.prog 137 #[.agg #[.slice qa ql qc]] V fun e w'=>∃u,e=.returned u∧Je w' u (JL q)∧Bl V w' by
  obtain⟨D,h1,h2,h3⟩:=hok.cq;exact Nk D K _ q V (iq.below hB) hok.tq h1 h2 h3 hok.bd.2.1)
 obtain⟨Qx,Qz,Ua⟩:=Dg h0 (Chn.start hok.tp hok.tq hok.lp hok.lq hok.bd.2.2.1) (fun(a b:List Rat) (h:Chn p q (Df K p q) a b) (hb:b≠[])=>Chn.next hok.tp hok.tq hok.lp hok.lq hok.bd.2.2.1 h hb);have Uj:=Ja (fun(V:World) (x y:Value) (a b:List Rat) (hx:Je V x a) (hy:Je V y b) (h:Chn p q (Df K p q) a b) (hb:b≠[])=>bm (Df K p q) x y a b V hx hy h.wa h.wb h.ta h.tb hb hok.bd.2.2.2 (by
  have h1:=h.la;have h2:(a.length+2)*(Df K p q+1)≤(max p.length q.length+2)*(Df K p q+1):=Aj _ (by omega);have h3:=hok.le;omega) (h.nx hb))
 have Qu:=Ja (show ∀B4 B5,w.heap.size≤B4→w.heap.size≤B5→GB (Gf B4 B5)∧Ka B4 B5 (Gf B4 B5)from fun B4 B5 h4 h5=>⟨hGb B4 B5,hGs B4 B5 h4 h5⟩);have Qr:=Ja hY;have M1:Hid (Mem w w []):=Ja (Mem.nil w);clear hok hbp hbq ip iq hGb hGs hY h0;refine Bz Tryz.func136 rfl trivial ?_ rfl;simp only[Tryz.ntmps136,Ap,Ad,Au,Nat.reduceAdd,Nat.reduceSub,As,At,AC,Aw,Ao,AA];gi_wp2_with fail
 refine JM Qq [[],[0],[],[2,1],[],[],[4,1,3,0,1,4,5],[5,3,6,0,1,2,3,4,5,6]] (by kernel_rfl) (by decide)
  (fun D act V=>∃(tk tl tm tn ti tj:Value) (x4 x5:Option (Nat × Dat)),act={ tmps:=#[.func (Fn.yield l) #[] #[],.pointer (some ⟨Bp,0,none⟩),.pointer (some ⟨Bq,0,none⟩),undef,ti,tj,tk,tl,tm,tn,undef,undef,undef,undef,undef,undef,undef,undef,undef,undef,undef,undef],defers:=[] }∧Hid ((D 0=true→tk=.agg #[.slice pa pl pc])∧(D 1=true→Has V tl (.poly (JL p)))∧(D 2=true→tm=.agg #[.slice qa ql qc])∧(D 3=true→Has V tn (.poly (JL q)))∧((D 4=false→x4=none)∧(D 4=true→D 6=false→∃B:Nat,ti=.pointer (some ⟨B,0,none⟩)∧x4=some (B,.poly []))∧(D 6=true→∃B:Nat,ti=.pointer (some ⟨B,0,none⟩)∧x4=some (B,.poly (JL p))))∧((D 5=false→x5=none)∧(D 5=true→D 7=false→∃B:Nat,tj=.pointer (some ⟨B,0,none⟩)∧x5=some (B,.poly []))∧(D 7=true→∃B:Nat,tj=.pointer (some ⟨B,0,none⟩)∧x5=some (B,.poly (JL q)))))∧Hid (Mem w V [x4,x5]))
  ⟨_,_,_,_,_,_,none,none,rfl,Ja ⟨by simp,by simp,by simp,by simp,by simp,by simp⟩,Ja (((M1.o).none).none).drew⟩ ?step1 ?fin1
 case step1=>
  rintro D act V i ds hcl hi hds hDi ⟨tk,tl,tm,tn,ti,tj,x4,x5,rfl,GG,MM⟩;have Ug:i<8:=(Ae.1 hi).1;obtain rfl|rfl|rfl|rfl|rfl|rfl|rfl|rfl:=Lr i (by omega)
  all_goals
   simp only[Ai,Ag,Ak]at hi;subst hi
  · have e0:=Qy.o V MM.o.2.2;clear hds;refine Vb ?_;exact⟨_,_,_,_,_,_,_,_,rfl,(Di GG),Ja (MM.o)⟩
  · obtain rfl:=(GG.o.1 (hds 0 (by simp)));have HC:=Ja (fun(n9:Nat)=>(BJ (n:=n9)).2 (Qw.o V MM.o.2.2));clear hds;refine BO rfl fun K hK=>?_;go_simp;gi_wp2_with(refine⟨trivial,?_⟩;gi_at_call 137;refine(HC.o _).mono ?_;rintro e w5 ⟨v5,rfl,hv5,hb5⟩)
    obtain⟨_,_,G2,G3,G4⟩:=GG.o;exact⟨_,_,_,_,_,_,_,_,rfl,Ja ⟨fun _=>rfl,fun _=>hv5,G2,fun h=>(G3 h).below hb5,G4⟩,Ja (MM.o.below hb5)⟩
  · have e0:=Qp.o V MM.o.2.2;clear hds;refine Vb ?_;exact⟨_,_,_,_,_,_,_,_,rfl,(De GG),Ja (MM.o)⟩
  · obtain rfl:=(GG.o.2.2.1 (hds 2 (by simp)));have HC:=Ja (fun(n9:Nat)=>(BJ (n:=n9)).2 (Qo.o V MM.o.2.2));clear hds;refine BO rfl fun K hK=>?_;go_simp;gi_wp2_with(refine⟨trivial,?_⟩;gi_at_call 137;refine(HC.o _).mono ?_;rintro e w5 ⟨v5,rfl,hv5,hb5⟩)
    obtain⟨G0,G1,_,_,G4⟩:=GG.o;exact⟨_,_,_,_,_,_,_,_,rfl,Ja ⟨G0,fun h=>(G1 h).below hb5,fun _=>rfl,fun _=>hv5,G4⟩,Ja (MM.o.below hb5)⟩
  · have hf:D 6=false:=DP hcl hDi;obtain rfl:=GG.o.2.2.2.2.1.1 hDi;clear hds;refine Vb ?_;obtain⟨G0,G1,G2,G3,_,G5⟩:=GG.o;exact⟨_,_,_,_,_,_,_,_,rfl,Ja ⟨G0,fun h=>(G1 h).alloc _,G2,fun h=>(G3 h).alloc _,⟨fun h=>by simp at h,fun _ _=>⟨_,rfl,rfl⟩,fun h=>by simp[hf]at h⟩,G5⟩,Ja (MM.o.fill (i:=0) rfl (.poly []) (Ld _))⟩
  · have hf:D 7=false:=DP hcl hDi;obtain rfl:=Du GG hDi;clear hds;refine Vb ?_;obtain⟨G0,G1,G2,G3,G4,_⟩:=GG.o;exact⟨_,_,_,_,_,_,_,_,rfl,Ja ⟨G0,fun h=>(G1 h).alloc _,G2,fun h=>(G3 h).alloc _,G4,⟨fun h=>by simp at h,fun _ _=>⟨_,rfl,rfl⟩,fun h=>by simp[hf]at h⟩⟩,Ja (MM.o.fill (i:=1) rfl (.poly []) (Ld _))⟩
  · obtain⟨B,rfl,rfl⟩:=GG.o.2.2.2.2.1.2.1 (hds 4 (by simp)) hDi;have Qe:=hds 4 (by simp);have hv:=(GG.o.2.1 (hds 1 (by simp)));obtain⟨a1,l1,c1,rfl⟩:=Je.form (show Je V _ _ from hv);obtain⟨a,l,c,n,r⟩:=MM.o.poly2 (i:=0) rfl;have e0:=n.cell;have f0:=n.frozen;clear hds;refine Vb ?_;obtain⟨G0,G1,G2,G3,_,G5⟩:=GG.o;exact⟨_,_,_,_,_,_,_,_,rfl,Ja ⟨G0,fun h=>(G1 h).set1 n rfl _,G2,fun h=>(G3 h).set1 n rfl _,⟨fun h=>by simp[Qe]at h,fun _ h=>by simp at h,fun _=>⟨B,rfl,rfl⟩⟩,G5⟩,Ja (MM.o.putPoly (i:=0) rfl hv)⟩
  · obtain⟨B,rfl,rfl⟩:=EJ GG (hds 5 (by simp)) hDi;have Qe:=hds 5 (by simp);have hv:=(GG.o.2.2.2.1 (hds 3 (by simp)));obtain⟨a1,l1,c1,rfl⟩:=Je.form (show Je V _ _ from hv);obtain⟨a,l,c,n,r⟩:=MM.o.poly2 (i:=1) rfl;have e0:=n.cell;have f0:=n.frozen;clear hds;refine Vb ?_;obtain⟨G0,G1,G2,G3,G4,_⟩:=GG.o;exact⟨_,_,_,_,_,_,_,_,rfl,Ja ⟨G0,fun h=>(G1 h).set1 n rfl _,G2,fun h=>(G3 h).set1 n rfl _,G4,⟨fun h=>by simp[Qe]at h,fun _ h=>by simp at h,fun _=>⟨B,rfl,rfl⟩⟩⟩,Ja (MM.o.putPoly (i:=1) rfl hv)⟩
 rintro D act V2 hDD ⟨tk,tl,tm,tn,ti,tj,x4,x5,rfl,GG,MM⟩;obtain⟨B3,rfl,rfl⟩:=GG.o.2.2.2.2.1.2.2 (hDD 6 (by decide));obtain⟨B4,rfl,rfl⟩:=GG.o.2.2.2.2.2.2.2 (hDD 7 (by decide));obtain rfl:=GG.o.1 (hDD 0 (by decide));obtain rfl:=GG.o.2.2.1 (hDD 2 (by decide));clear GG hDD M1;have M2:Hid (Mem w V2 [some (B3,.poly (JL p)),some (B4,.poly (JL q))]):=MM;clear MM;obtain⟨a5,l5,c5,n5,r5⟩:=M2.o.poly2 (i:=0) rfl;obtain⟨a6,l6,c6,n6,r6⟩:=M2.o.poly2 (i:=1) rfl;have Qc:=Ja (show B3≠B4∧w.heap.size≤B3∧w.heap.size≤B4 from⟨M2.o.ne 0 1 rfl rfl (by decide),M2.o.ge 0 rfl,M2.o.ge 1 rfl⟩);obtain⟨Ql,Qi,Qm,Qv⟩:=Dt (Qx.o B3 B4 V2 Qc.o.2.1 Qc.o.2.2 M2.o.2.2) (Qu.o B3 B4 Qc.o.2.1 Qc.o.2.2) (Qr.o B3 B4 Qc.o.2.1 Qc.o.2.2) (show ∀H a W,Gf B3 B4 (H++[a]) W→X6 p q=H++[a]→Chn p q (Df K p q) a []→∃B4 B5 H a,(w.heap.size≤B4∧w.heap.size≤B5)∧Gf B4 B5 (H++[a]) W∧X6 p q=H++[a]∧Chn p q (Df K p q) a []from fun H a W h1 h2 h3=>⟨B3,B4,H,a,⟨Qc.o.2.1,Qc.o.2.2⟩,h1,h2,h3⟩);clear Qx Qu Qr;obtain⟨G,hG⟩:=ex (Gf B3 B4);rw[hG]at Ql Qi Qm Qv;clear hG;have Qn:Hid (GD B3 B4 G [] V2 (.agg #[.slice a5 l5 c5]) (.agg #[.slice a6 l6 c6]) (JL p) (JL q)):=Ja ⟨Qi.o,Ql.o,r5,r6⟩;have N4:Hid (Dh V2 B3 a5 l5 c5):=Ja n5;have N5:Hid (Dh V2 B4 a6 l6 c6):=Ja n6;clear n5 n6 r5 r6 M2 Qw Qo Ql Qy Qp;gi_wp2;gi_loopw [] (fun wr=>∃(H:List (List Rat)) (a b:List Rat) (x4 x5:Option Addr) (l4 c4 l5 c5:Nat),Hid (GD B3 B4 G H wr (.agg #[.slice x4 l4 c4]) (.agg #[.slice x5 l5 c5]) a b)∧Hid (Dh wr B3 x4 l4 c4)∧Hid (Dh wr B4 x5 l5 c5)∧Hid (Chn p q (Df K p q) a b)∧Hid (X6 p q=H++EY a b)) (fun wr=>Kb wr B4)
 case atStart=>exact⟨[],_,_,_,_,_,_,_,_,Qn,N4,N5,Qz,Ja rfl⟩
 case round=>
  clear Qn N4 N5 Qz;obtain⟨H,a,b,x4,x5,l4,c4,l5,c5,HG,H4,H5,HC,HH⟩:=hrel;obtain⟨fn,tmps,assign,body,hy,hRd⟩:=Qm.o H wr x4 l4 c4 x5 l5 c5 a b (by obtain⟨t,ht⟩:=chnL_head a b;exact⟨t,by rw[HH.o,ht];simp⟩) (Bx.lt (cs:=#[.slice x4 l4 c4]) H4.o) (Bx.lt (cs:=#[.slice x5 l5 c5]) H5.o) HG.o.2.1 H4.o H5.o HG.o.2.2.1 HG.o.2.2.2;have e4:=H4.o.cell;gi_wp2;refine hRd.mono ?_;rintro e W3 ⟨rfl,hG3,h43,h53,ia3,ib3⟩;have Qt:Hid (GD B3 B4 G (H++[a]) W3 (.agg #[.slice x4 l4 c4]) (.agg #[.slice x5 l5 c5]) a b):=Ja ⟨Qi.o,hG3,ia3,ib3⟩;obtain⟨Up,Um,Qh⟩:=Dg (RM ib3) (H5.o.len) (J4 _ b W3 ib3);have e5:=h53.cell;have Ul:=Ja h43;have Uo:=Ja h53;clear hy hRd e4 hG3 h43 h53 ia3 ib3 HG H4 H5;by_cases hb0:b=[]
  · have HE:=Ja (show X6 p q=H++[a]by rw[HH.o,hb0];rfl);have Ui:=Ja (show Chn p q (Df K p q) a []by have:=HC.o;rwa[hb0]at this);rw[hb0,show((([]:List Rat).length:Int)-1)=-1 from rfl]at Qh;gi_wp2_with(refine⟨trivial,?_⟩;gi_at_call 30;refine((BJ (n:=_)).2 Qh.o).mono ?_;clear Qh;rintro e w4 ⟨rfl,hb4⟩)
    go_end0;exact⟨⟨_,rfl⟩,Qv.o H a _ (Qt.o.below hb4).2.1 HE.o Ui.o⟩
  · obtain⟨m,hm⟩:=ex (b.length-1:Nat);have Qs:(b.length:Int)-1=(m:Int):=by have:=Af.2 hb0;omega
    rw[Qs]at Qh;obtain⟨Uh,Uk,Ub,Qj⟩:=Dt (Ua.o a b HC.o hb0) (Xi (a:=a) HC.o.tb hb0) (show X6 p q=(H++[a])++EY b (YN a b)by rw[HH.o,XD HC.o.tb hb0,CS];rfl) (fun(V:World) (x y:Value) (hx:Je V x a) (hy:Je V y b)=>Uj.o V x y a b hx hy HC.o hb0);have hm0:¬(m:Int)<0:=by omega
    clear hm Qs hb0;gi_wp2_with(refine⟨trivial,?_⟩;gi_at_call 30;refine((BJ (n:=_)).2 Qh.o).mono ?_;clear Qh;rintro e w4 ⟨rfl,hb4⟩)
    have Ud:=(Qt.o.below hb4).below ((BG _ w4).drew);have Un:=(Ul.o.below hb4).below ((BG _ w4).drew);have Ue:=(Uo.o.below hb4).below ((BG _ w4).drew);refine JM Qq [[],[],[],[1,2],[0,3,0,1],[3,4,0,1,2,3,4]] (by kernel_rfl) (by decide)
     (fun D act V=>∃(tc td te tg:Value),act={ tmps:=#[.func (Fn.yield l) #[] #[],.pointer (some ⟨Bp,0,none⟩),.pointer (some ⟨Bq,0,none⟩),undef,.pointer (some ⟨B3,0,none⟩),.pointer (some ⟨B4,0,none⟩),.agg #[.slice pa pl pc],tl,.agg #[.slice qa ql qc],tn,.func (Fn.yield l) #[] #[],.agg #[.slice x4 l4 c4],.bool true,.bool true,.agg #[.slice x5 l5 c5],.int .i64 ↑m,.bool true,.bool true,tc,td,te,tg],defers:=[] }∧Hid ((D 0=true→tc=.agg #[.slice x5 l5 c5])∧(D 1=true→td=.agg #[.slice x4 l4 c4])∧(D 2=true→te=.agg #[.slice x5 l5 c5])∧(D 3=true→D 5=false→Je V tg (YN a b)))∧Hid (GD B3 B4 G (H++[a]) V (.agg #[.slice x4 l4 c4]) (.agg #[.slice x5 l5 c5]) a b)∧Hid ((D 4=false→Dh V B3 x4 l4 c4)∧(D 4=true→Dh V B3 x5 l5 c5))∧Hid ((D 5=false→Dh V B4 x5 l5 c5)∧(D 5=true→Lf V B4 (YN a b))))
     ⟨_,_,_,_,rfl,Ja ⟨by simp,by simp,by simp,by simp⟩,Ja Ud,Ja ⟨fun _=>Un,by simp⟩,Ja ⟨fun _=>Ue,by simp⟩⟩ ?step7 ?fin7
    case step7=>
     rintro D act V i ds hcl hi hds hDi ⟨tc,td,te,tg,rfl,GG,SS0,SS1,SS2⟩;have Ug:i<6:=(Ae.1 hi).1;obtain rfl|rfl|rfl|rfl|rfl|rfl:=Iw i (by omega)
     all_goals
      simp only[Ai,Ag,Ak]at hi;subst hi
     · have Qf:=SS0.o;have Qb:=SS1.o.1 (DP hcl hDi);have Qa:=SS2.o.1 (DP hcl hDi);have e0:=Qa.cell;clear hds;refine Vb ?_;exact⟨_,_,_,_,rfl,Ja ⟨fun _=>rfl,GG.o.2.1,GG.o.2.2.1,GG.o.2.2.2⟩,Ja (SS0.o),SS1,Ja ⟨SS2.o.1,SS2.o.2⟩⟩
     · have Qf:=SS0.o;have Qb:=SS1.o.1 (DP hcl hDi);have Qa:=SS2.o.1 (DP hcl hDi);have e0:=Qb.cell;clear hds;refine Vb ?_;exact⟨_,_,_,_,rfl,Ja ⟨GG.o.1,fun _=>rfl,GG.o.2.2.1,GG.o.2.2.2⟩,Ja (SS0.o),SS1,Ja ⟨SS2.o.1,SS2.o.2⟩⟩
     · have Qf:=SS0.o;have Qg:D 4=false:=DP hcl (DP (a:=3) hcl hDi);have Qb:=SS1.o.1 Qg;have Qa:=SS2.o.1 (DP hcl hDi);have e0:=Qa.cell;clear hds;refine Vb ?_;exact⟨_,_,_,_,rfl,Ja ⟨GG.o.1,GG.o.2.1,fun _=>rfl,GG.o.2.2.2⟩,Ja (SS0.o),SS1,Ja ⟨SS2.o.1,SS2.o.2⟩⟩
     · have Qf:=SS0.o;have Qb:=SS1.o.1 (DP hcl hDi);have Qa:=SS2.o.1 (DP hcl hDi);obtain rfl:=GG.o.2.1 (hds 1 (by simp));obtain rfl:=GG.o.2.2.1 (hds 2 (by simp));clear hds;have HC:=Ja (fun(n9:Nat)=>(BJ (n:=n9)).2 (Qj.o V _ _ Qf.2.2.1 Qf.2.2.2));refine BO rfl fun K hK=>?_;go_simp;gi_wp2_with(refine⟨trivial,?_⟩;gi_at_call 138;refine(HC.o _).mono ?_;rintro e w5 ⟨v5,rfl,hv5,hb5⟩)
       exact⟨_,_,_,_,rfl,Ja ⟨GG.o.1,fun _=>rfl,fun _=>rfl,fun _ _=>hv5⟩,Ja (SS0.o.below hb5),Ja ⟨fun h=>(SS1.o.1 h).below hb5,fun h=>(SS1.o.2 h).below hb5⟩,Ja ⟨fun h=>(SS2.o.1 h).below hb5,fun h=>(SS2.o.2 h).below hb5⟩⟩
     · have Qf:=SS0.o;have Qb:=SS1.o.1 hDi;have Qd:D 5=false:=DP hcl hDi;have Qa:=SS2.o.1 Qd;obtain rfl:=GG.o.1 (hds 0 (by simp));have e0:=Qb.cell;have f0:=Qb.frozen;clear hds;refine Vb ?_;exact⟨_,_,_,_,rfl,Ja ⟨fun _=>rfl,GG.o.2.1,GG.o.2.2.1,fun h h2=>(GG.o.2.2.2 h h2).setB Qb⟩,Ja (SS0.o.put (Or.inl rfl) Qb),Ja ⟨fun h=>by simp at h,fun _=>Qb.put⟩,Ja ⟨fun h=>(SS2.o.1 h).far (fun e=>Qc.o.1 e.symm),fun h=>by simp[Qd]at h⟩⟩
     · have Qf:=SS0.o;have Qa:=SS2.o.1 hDi;have h0:=GG.o.2.2.2 (hds 3 (by simp)) hDi;have Qk:=hds 4 (by simp);have e0:=Qa.cell;have f0:=Qa.frozen;obtain⟨x7,l7,c7,rfl⟩:=Je.form h0;clear hds;refine Vb ?_;exact⟨_,_,_,_,rfl,Ja ⟨GG.o.1,GG.o.2.1,GG.o.2.2.1,fun _ h=>by simp at h⟩,Ja (SS0.o.put (Or.inr rfl) Qa),Ja ⟨fun h=>by simp[Qk]at h,fun h=>(SS1.o.2 h).far Qc.o.1⟩,Ja ⟨fun h=>by simp at h,fun _=>⟨x7,l7,c7,Qa.put,h0.setB Qa⟩⟩⟩
    case fin7=>
     rintro D act V hDD ⟨tc,td,te,tg,rfl,GG,SS0,SS1,SS2⟩;obtain⟨x7,l7,c7,n7,i7⟩:=SS2.o.2 (hDD 5 (by decide));have n6:=SS1.o.2 (hDD 4 (by decide));have Uf:Hid (GD B3 B4 G (H++[a]) V (.agg #[.slice x5 l5 c5]) (.agg #[.slice x7 l7 c7]) b (YN a b)):=Ja ⟨Qi.o,SS0.o.2.1,SS0.o.2.2.2,i7⟩;obtain⟨Uc,N6,N7⟩:=Dg (show Kb V B4<Kb wr B4 by rw[n7.len,Um.o,RM i7,Up.o];exact Uk.o) n6 n7;clear GG SS0 SS1 SS2 hDD n6 n7 i7;gi_wp2;go_roundw
     case rel=>exact⟨H++[a],b,YN a b,_,_,_,_,_,_,Uf,N6,N7,Uh,Ub⟩
     case measure=>exact Uc.o
end M3
namespace M3
open Go.RowKit Go.Shelf
attribute [local go_sem] Oper.semAt_some
theorem bz(n:Nat)(pa qa:Option Addr)(pl pc ql qc:Nat)(w:World):
 CallsIn Fence.wide n Tryz.prog 87 #[.agg #[.slice pa pl pc],.agg #[.slice qa ql qc]] w fun e w'=>e=.returned (.func (.func 136) #[] #[.pointer (some ⟨w.heap.size,0,none⟩),.pointer (some ⟨w.heap.size+1,0,none⟩)])∧w'=(w.alloc (.cells #[.slice pa pl pc] 25)).alloc (.cells #[.slice qa ql qc] 25):=by
 refine Bz Tryz.func87 rfl trivial ?_ rfl;simp only[Tryz.ntmps87,Ap,Ad,Au,Nat.reduceAdd,Nat.reduceSub,As,At,AC,Aw,Ao,AA];gi_wp2;go_ret;exact⟨rfl,rfl⟩
def RO(B B4 B5:Nat)(I:List (List Rat)→World→Prop)(H:List (List Rat))(W:World):Exit→Act→World→Prop
 |.normal,_,W'=>I H W'∧W.heap.size≤W'.heap.size∧(∀(k:Nat) (o:Obj),B≤k→o.isCells=false∨k=B4∨k=B5→W.heap[k]?=some o→W'.heap[k]?=some o)∧∀v ps,Je W v ps→Je W' v ps
 |_,_,_=>False
theorem Nl{W W':World}{row:Option Nat}(hg:W.grownBy W' row)(hr:∀r,row=some r→∃o:Obj,W.heap[r]?=some o∧o.isCells=false){v:Value}{ps:List Rat}(h:Je W v ps):Je W' v ps:=by
 obtain⟨u,e,h⟩:=h;exact⟨u,e,Xq hg hr h⟩
theorem Lg{W:World}{l:Nat}{o o':Obj}(hl:W.heap[l]?=some o)(ho:o.isCells=false){v:Value}{ps:List Rat}(h:Je W v ps):Je (W.putObj l o') v ps:=
 Nl (Bg W l o') (fun r e=>by cases e;exact⟨o,hl,ho⟩) h
theorem cA{g:Operand}{ps:Array Tmp}{assign body:Code}{Q:Exit→Act→World→Prop}{a:Act}{w:World}{n:Nat}
(h1:2≤n){K Bp Bq:Nat}{pa qa:Option Addr}{pl pc ql qc:Nat}{p q:List Rat}(hok:ChOk K p q)(hbp:Dh w Bp pa pl pc)(hbq:Dh w Bq qa ql qc)(ip:Je w (.agg #[.slice pa pl pc]) p)(iq:Je w (.agg #[.slice qa ql qc]) q)
(hg:a.eval g=.func (.func 136) #[] #[.pointer (some ⟨Bp,0,none⟩),.pointer (some ⟨Bq,0,none⟩)])(eg:∀args w,(callFunc 136 args).run Tryz.prog w=.ok (.enter 136 args) w)(hps:ps.size=1)
(I:Nat→Nat→List (List Rat)→World→Prop)(hI:∀B4 B5,OwnFrom w.heap.size (I B4 B5))(hIb:∀B4 B5,GB (I B4 B5))(hIs:∀B4 B5,w.heap.size≤B4→w.heap.size≤B5→Ka B4 B5 (I B4 B5))(h0:∀B4 B5 V,w.heap.size+2≤B4→w.heap.size+2≤B5→Bl w V→I B4 B5 [] V)(a₁:Value→Nat→Act)
(hassign:∀(l:Nat) (x:Option Addr) (xl xc:Nat) (W:World) (K:Act→World→Prop),K (a₁ (.slice x xl xc) W.heap.size) (W.alloc (.cells #[.slice x xl xc] 25))→
  assign.wpIn (Fence.wide.inRound l) (n-1-1) Tryz.prog (Exit.then K (fun _ _ _=>False)) { tmps:=(ps.zip #[.agg #[.slice x xl xc]]).foldl (fun t (p,v)=>t.setIfInBounds p v) a.tmps,defers:=[] } W)
(hbody:∀(l b B4 B5:Nat) (x:Option Addr) (xl xc:Nat) (r:List Rat) (H:List (List Rat)) (W:World),I B4 B5 H W→H++[r] <+: X6 p q→w.heap.size+1<b→B4<b→B5<b→Dh W b x xl xc→Je W (.agg #[.slice x xl xc]) r→
  body.wpIn (Fence.wide.inRound l) (n-1-1) Tryz.prog (RO w.heap.size B4 B5 (I B4 B5) (H++[r]) W) (a₁ (.slice x xl xc) b) W)
(hdone:∀(D B4 B5:Nat) (W:World) (H:List (List Rat)) (r:List Rat),w.heap.size≤D→I B4 B5 (H++[r]) W→X6 p q=H++[r]→Chn p q (Df K p q) r []→W.heap[D]?=some (.deferred (some []))→Q .normal { a with defers:={ target:=.collected D,args:=#[] }::a.defers } W):
 (Code.rangeFunc g ps assign body).wpIn Fence.wide n Tryz.prog Q a w:=by
 refine wpIn_rangeFunc fun fn hfn=>?_;rw[show Fence.wide.round=none from rfl];obtain⟨rc,hrc⟩:∃rc:LoopState→Option Code→Loop,rc=fun st pe=>{ state:=st,pending:=pe,fn,tmps:=a.tmps,params:=ps,assign,body,defers:=w.heap.size }:=⟨_,rfl⟩;obtain⟨V,hV⟩:=ex ((w.alloc (.deferred (some []))).alloc (.loop (rc .ready none)));have vL:V.heap[w.heap.size+1]?=some (.loop (rc .ready none)):=by
  rw[←hV];have:=BF (w.alloc (.deferred (some []))) (.loop (rc .ready none));rwa[BA]at this
 have vD:V.heap[w.heap.size]?=some (.deferred (some [])):=by
  rw[←hV];exact(Bu _ _ _ (by simp)).trans (BF w _)
 have Qb:Bl w V:=by rw[←hV];exact(Ba w _).alloc (by rw[BA];omega) _
 have hVs:V.heap.size=w.heap.size+2:=by rw[←hV];simp
 refine⟨w.heap.size+1,[{ target:=.collected w.heap.size,args:=#[] }],V,{ target:=.fn (.func 136) #[.pointer (some ⟨Bp,0,none⟩),.pointer (some ⟨Bq,0,none⟩)],args:=#[.func (.yield (w.heap.size+1)) #[] #[]] },V,136,
  #[.func (.yield (w.heap.size+1)) #[] #[]]++#[.pointer (some ⟨Bp,0,none⟩),.pointer (some ⟨Bq,0,none⟩)],V,?_,?_,?_,?_,fun _=>by omega,?_⟩
 · rw[←hV,hrc];exact run_enterLoop_outer _ _ _ _ _
 · simp only[resolve,hg];simp[go_sem]
 · intro f' hf';simp[Target.leads]at hf';subst hf';exact trivial
 · simp[invoke,go_sem,eg]
 refine(bu K (n-1) (by omega) Bp Bq pa qa pl pc ql qc p q hok (w.heap.size+1)
  (fun B4 B5 H W=>I B4 B5 H W∧W.heap[w.heap.size+1]?=some (.loop (rc .ready none))∧W.heap[w.heap.size]?=some (.deferred (some [])))
  V (hbp.below Qb) (hbq.below Qb) (ip.below Qb) (iq.below Qb) ?_ ?_ ?_ (fun B4 B5 U h4 h5 hU=>⟨h0 B4 B5 U (by omega) (by omega) (Qb.trans (hU.mono (by omega))),(hU.block _ (Ab.1 vL).1).trans vL,(hU.block _ (Ab.1 vD).1).trans vD⟩)).mono ?_
 · rintro B4 B5 H W W' ⟨hi,hl,hk⟩ hb;exact⟨hIb _ _ _ _ _ hi hb,(hb.block _ (Ab.1 hl).1).trans hl,(hb.block _ (Ab.1 hk).1).trans hk⟩
 · rintro B4 B5 h4 h5 H W B x xl xc u hB hb ⟨hi,hl,hk⟩;exact⟨hIs B4 B5 (by omega) (by omega) _ _ _ _ _ _ _ hB hb hi,(BC W ⟨B,0,none⟩ u _ (by show w.heap.size+1≠B;omega)).trans hl,(BC W ⟨B,0,none⟩ u _ (by show w.heap.size≠B;omega)).trans hk⟩
 · rintro B4 B5 hB4 hB5 H W a4 l4 c4 a5 l5 c5 p4 q5 hpre hs4 hs5 ⟨hi,hl,hk⟩ h4 h5 i4 i5;have Qf:w.heap.size+1<W.heap.size:=(Ab.1 hl).1;have hy:=run_yield (P:=Tryz.prog) (args:=#[.agg #[.slice a4 l4 c4]]) hl (by rw[hrc];exact hps.symm);rw[hrc]at hy;obtain⟨W1,hW1⟩:=ex (W.alloc (.cells #[.slice a4 l4 c4] 25));have hA:Bl W W1:=by rw[←hW1];exact Ba W _
   have Qd:W1.heap[w.heap.size+1]?=some (.loop (rc .ready none)):=(hA.block _ Qf).trans hl;have Ql:W1.heap[w.heap.size]?=some (.deferred (some [])):=(hA.block _ (by omega)).trans hk;have Qj:I B4 B5 H W1:=hIb _ _ _ _ _ hi hA;have Qh:Dh W1 W.heap.size a4 l4 c4:=by rw[←hW1];exact BI W 25 (.slice a4 l4 c4)
   refine⟨fn,_,assign,body,hy,roundIn_of_wpIn hfn (hassign _ _ _ _ W _ ?_)⟩;rw[hW1];refine⟨_,run_beginRound Qd (by rw[hrc]),?_⟩;obtain⟨bx,hbx⟩:=ex (W.heap.size);have Qu:=h4.below hA;have Qr:=h5.below hA;have Qv:=i4.below hA;have Qn:=i5.below hA;rw[hbx]at Qh Qf hs4 hs5 ⊢;have Qg:w.heap.size+1<W1.heap.size:=(Ab.1 Qd).1;obtain⟨W2,hW2⟩:=ex (W1.putObj (w.heap.size+1) (.loop { rc .ready none with state:=.busy }));rw[hW2];have Qo:W2.heap[w.heap.size+1]?=some (.loop { rc .ready none with state:=.busy }):=by rw[←hW2];exact Bn Qg
   have Qe:∀k,k≠w.heap.size+1→W2.heap[k]?=W1.heap[k]?:=fun k hk=>by rw[←hW2];exact BQ (by omega)
   have Qt:Dh W2 bx a4 l4 c4:=(Qe bx (by omega)).trans Qh;have Qk:W2.heap[w.heap.size]?=some (.deferred (some [])):=(Qe _ (by omega)).trans Ql;have Qp:I B4 B5 H W2:=by rw[←hW2];exact(hI B4 B5).putObj _ Qj (by omega) Qd rfl
   have Qq:Dh W2 B4 a4 l4 c4:=(Qe B4 (by omega)).trans Qu;have Qw:Dh W2 B5 a5 l5 c5:=(Qe B5 (by omega)).trans Qr;have Qi:Je W2 (.agg #[.slice a4 l4 c4]) p4:=by rw[←hW2];exact Lg Qd rfl Qv
   have Qs:Je W2 (.agg #[.slice a5 l5 c5]) q5:=by rw[←hW2];exact Lg Qd rfl Qn
   refine wpIn_mono (hbody _ bx B4 B5 a4 l4 c4 p4 H W2 Qp hpre Qf hs4 hs5 Qt Qi) fun e a3 W3 hp=>?_;cases e with
   |normal=>
    obtain⟨hi3,hs3,hb3,hp3⟩:=hp;have Qc:=hb3 _ _ (by omega) (Or.inl rfl) Qo;have hr:=run_endRound (P:=Tryz.prog) none Qc;have Qa:∀k,k≠w.heap.size+1→(W3.putObj (w.heap.size+1) (.loop (rc .ready none))).heap[k]?=W3.heap[k]?:=fun k hk=>BQ (by omega);have Qm:(Instr.endRound (w.heap.size+1) none).run Tryz.prog W3=.ok (.bool true) (W3.putObj (w.heap.size+1) (.loop (rc .ready none))):=by
     rw[hrc]at hr ⊢;exact hr
    exact⟨_,_,Qm,rfl,⟨(hI B4 B5).putObj _ hi3 (by omega) Qc rfl,Bn (Ab.1 Qc).1,(Qa _ (by omega)).trans (hb3 _ _ (Aa _) (Or.inl rfl) Qk)⟩,
     (Qa _ (by omega)).trans (hb3 _ _ (by omega) (Or.inr (Or.inl rfl)) Qq),(Qa _ (by omega)).trans (hb3 _ _ (by omega) (Or.inr (Or.inr rfl)) Qw),Lg Qc rfl (hp3 _ _ Qi),Lg Qc rfl (hp3 _ _ Qs)⟩
   |ret=>exact hp.elim
   |exit id=>exact hp.elim
   |goto t=>exact hp.elim
   |panic ch=>exact hp.elim
   |outgrown=>exact hp.elim
 · rintro e W2 ⟨⟨v,rfl⟩,B4,B5,H,r,⟨h4,h5⟩,⟨hi,hl,hk⟩,hc,hn⟩;exact⟨none,_,by have:=run_endLoop (P:=Tryz.prog) hl (by rw[hrc];simp);rw[hrc]at this;exact this,hdone _ B4 B5 _ H r (Aa _) ((hI B4 B5).putObj _ hi (by omega) hl rfl) hc hn ((BQ (by omega)).trans hk)⟩
