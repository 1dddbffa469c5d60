import Derived.Test.YtakpoihdghihmaaGreatDoorL41
set_option maxRecDepth 100000
set_option maxHeartbeats 16000000
namespace Go.Proofs.YtakpoihdghihmaaGreatDoor
namespace M3
open Go.RowKit Go.Shelf
attribute [local go_sem] Oper.semAt_some
def KT(w V:World)(B5 B6 BX:Nat)(rs ql:Value)(R:List Rat):Prop:=
 Boxed V (w.heap.size+1+1) 25 (.slice none 0 0)∧Boxed V (w.heap.size+1+1+1) 25 (.slice none 0 0)∧Boxed V B5 23 rs∧Boxed V B6 23 ql∧Boxed V BX 23 ql∧RowK true V rs R∧Bl w V
theorem boxed_own{V V':World}{row:Option Nat}(hg:V.grownBy V' row)(hr:∀r,row=some r→∃o:Obj,V.heap[r]?=some o∧o.isCells=false){B:Nat}{t:TypeId}{v:Value}(h:Boxed V B t v):Boxed V' B t v:=Yd hg hr (show Bx V B t #[v]from h)
theorem KT.own{w V V':World}{B5 B6 BX:Nat}{rs ql:Value}{R:List Rat}{row:Option Nat}(h:KT w V B5 B6 BX rs ql R)(hg:V.grownBy V' row)(hr:∀x,row=some x→w.heap.size≤x∧∃o:Obj,V.heap[x]?=some o∧o.isCells=false):KT w V' B5 B6 BX rs ql R:=by
 have Qa:∀r,row=some r→∃o:Obj,V.heap[r]?=some o∧o.isCells=false:=fun r e=>(hr r e).2;exact⟨boxed_own hg Qa h.1,boxed_own hg Qa h.2.1,boxed_own hg Qa h.2.2.1,boxed_own hg Qa h.2.2.2.1,boxed_own hg Qa h.2.2.2.2.1,Xq hg Qa h.2.2.2.2.2.1,h.2.2.2.2.2.2.grown hg h.2.2.2.2.2.2.size (fun k e=>(hr k e).1)⟩
theorem row_zero(V:World)(a:Option Addr):RowK true V (.slice a 0 0) []:=⟨a,0,rfl,Aa _,by omega,by simp,Or.inl rfl⟩
theorem aj(va:Value)(ps:List Rat)(vb:Value)(w:World)(ha:Je w va ps)(hb:Je w vb []):
 Calls Tryz.prog 139 #[va,vb] w fun e w'=>e=.returned (.tuple #[.agg #[.slice none 0 0],.agg #[.slice none 0 0],.bool false])∧Bl w w':=by
 obtain⟨pa,la,pc,rfl⟩:=ha.form;obtain⟨qa,lb,qc,rfl⟩:=hb.form;have M0:Mem w _ _:=((((Mem.nil w).push (.cell 25 (.slice pa la pc)) (cs:=#[.slice pa la pc]) ⟨rfl,rfl⟩).push (.cell 25 (.slice qa lb qc)) (cs:=#[.slice qa lb qc]) ⟨rfl,rfl⟩).push (.cell 25 (.slice none 0 0)) (cs:=#[.slice none 0 0]) ⟨rfl,rfl⟩).push (.cell 25 (.slice none 0 0)) (cs:=#[.slice none 0 0]) ⟨rfl,rfl⟩;simp only[BA]at M0;obtain⟨V0,hV0⟩:=ex ((((w.alloc (.cells #[.slice pa la pc] 25)).alloc (.cells #[.slice qa lb qc] 25)).alloc (.cells #[.slice none 0 0] 25)).alloc (.cells #[.slice none 0 0] 25));have M1:Mem w V0 [some (w.heap.size,.cell 25 (.slice pa la pc)),some (w.heap.size+1,.cell 25 (.slice qa lb qc)),some (w.heap.size+1+1,.cell 25 (.slice none 0 0)),some (w.heap.size+1+1+1,.cell 25 (.slice none 0 0))]:=by rw[←hV0];exact M0
 obtain⟨Qb,Qc,Qe⟩:=Dg (show Calls Tryz.prog 30 #[.agg #[.slice qa lb qc]] V0 fun e w'=>e=.returned (.int .i64 (-1))∧Bl V0 w' from J4 (.agg #[.slice qa lb qc]) [] V0 (hb.below M1.2.2)) M1 hV0;clear ha hb M0 M1 hV0;go_enter Tryz.func139,Tryz.ntmps139
 go_upto_region 1 with fail
 rw[Qe.o];have c1:=(Qc.o.cell (i:=1) rfl).1.cell;go_wp2_with(go_at_call 30;refine Qb.o.mono ?_;clear Qb;rintro e w1 ⟨rfl,hb1⟩;have Qd:Bl w1 (w1.alloc (.cells #[.int .i64 (-1)] 3)):=Ba w1 _;have Qa:=(Qc.o.below hb1).below Qd;have e2:=(Qa.cell (i:=2) rfl).1.cell;have f2:=(Qa.cell (i:=2) rfl).1.frozen;have e3:=(Qa.cell (i:=3) rfl).1.cell;have f3:=(Qa.cell (i:=3) rfl).1.frozen;have HB:=Ja Qa.2.2;clear Qd Qa hb1)
 refine BB (v:=.tuple #[.agg #[.slice none 0 0],.agg #[.slice none 0 0],.bool false]) (by simp[results,Tryz.results139,go_sem,e2,e3]) rfl ⟨rfl,?_⟩;exact((HB.o.setCell (p:=⟨w.heap.size+1+1,0,none⟩) (by show w.heap.size≤w.heap.size+1+1;omega) _).setCell (p:=⟨w.heap.size+1+1+1,0,none⟩) (by show w.heap.size≤w.heap.size+1+1+1;omega) _)
theorem ak(pa qa:Option Addr)(la pc lb qc n:Nat)(ps qs:List Rat)(w:World)(ha:RowK true w (.slice pa la pc) ps)(hb:RowK true w (.slice qa lb qc) qs)(hs:Sqs ps)(htp:Jc ps=ps)(hn:lb=n+1)(hm:la≤n):
 Calls Tryz.prog 139 #[.agg #[.slice pa la pc],.agg #[.slice qa lb qc]] w fun e w'=>∃u v,e=.returned (.tuple #[u,v,.bool true])∧Je w' u []∧Je w' v ps∧Bl w w':=by
 have Qz:Tryz.prog.follows .mixedOrders=true:=by kernel_rfl
 obtain⟨hla,hca,hcma,hlma,_⟩:=ha.forms;obtain⟨hlb,hcb,hcmb,hlmb,_⟩:=hb.forms;have M0:Mem w _ _:=((((Mem.nil w).push (.cell 25 (.slice pa la pc)) (cs:=#[.slice pa la pc]) ⟨rfl,rfl⟩).push (.cell 25 (.slice qa lb qc)) (cs:=#[.slice qa lb qc]) ⟨rfl,rfl⟩).push (.cell 25 (.slice none 0 0)) (cs:=#[.slice none 0 0]) ⟨rfl,rfl⟩).push (.cell 25 (.slice none 0 0)) (cs:=#[.slice none 0 0]) ⟨rfl,rfl⟩;simp only[BA]at M0;obtain⟨V0,hV0⟩:=ex ((((w.alloc (.cells #[.slice pa la pc] 25)).alloc (.cells #[.slice qa lb qc] 25)).alloc (.cells #[.slice none 0 0] 25)).alloc (.cells #[.slice none 0 0] 25));have M1:Mem w V0 [some (w.heap.size,.cell 25 (.slice pa la pc)),some (w.heap.size+1,.cell 25 (.slice qa lb qc)),some (w.heap.size+1+1,.cell 25 (.slice none 0 0)),some (w.heap.size+1+1+1,.cell 25 (.slice none 0 0))]:=by rw[←hV0];exact M0
 have Qw:=Ja M1;have Qv:=Ja (show Calls Tryz.prog 30 #[.agg #[.slice qa lb qc]] V0 fun e w'=>e=.returned (.int .i64 (n:Int))∧Bl V0 w' by
  have h:=J4 (.agg #[.slice qa lb qc]) qs V0 ⟨_,rfl,hb.below M1.2.2⟩;rwa[show((qs.length:Int)-1)=(n:Int)by omega]at h)
 have Qs:=Ja (fun(V:World) (h:Bl w V)=>Pp (.slice pa la pc) ps V (ha.below h));have hmk:∀W:World,(Instr.makeSlice 23 (.int .i64 0) (.int .i64 0)).run Tryz.prog W=.ok (.slice (some ⟨W.heap.size,0,none⟩) 0 0) (W.alloc (.cells (Ya 0) 37)):=fun W=>X4 0 (by omega) W;obtain⟨x,hx⟩:=ex ((la:Int)-(n:Int):Int);have hwm:IntKind.i64.wrap x=x:=by rw[Bi];omega
 have hmax:max (0:Int) x=0:=by omega
 obtain⟨Ua,Uf,Ud,Qu⟩:=Dt hs htp hla hV0;clear ha hb hla hlb hca hcma hcb hcmb hs htp hn hm M0 M1 hV0;refine(BJ (n:=3)).1 ?_;refine BU Tryz.func139 rfl trivial ?_ rfl;simp only[Tryz.ntmps139,Ap,Ad,Au,Nat.reduceAdd,Nat.reduceSub,As,At,AC,Aw,Ao,AA];gi_wp2_with fail
 rw[Qu.o];refine⟨trivial,?_⟩;refine((BJ (n:=_)).2 Qv.o).mono ?_;rintro e w1 ⟨rfl,hb1⟩;have Qm:Bl w1 (w1.alloc (.cells #[.int .i64 (n:Int)] 3)):=Ba w1 _;have Qi:=(Qw.o.below hb1).below Qm;have h4:=BI w1 3 (.int .i64 (n:Int));have c0:=(Qi.cell (i:=0) rfl).1.cell;obtain⟨Qe,Qk,H4⟩:=Dg (Qs.o _ Qi.2.2) Qi h4;clear Qm Qi h4 hb1 Qv Qu Qw Qs;gi_wp2_with fail
 obtain⟨V1,hV1⟩:=ex (w1.alloc (.cells #[.int .i64 (n:Int)] 3));obtain⟨B4,hB4⟩:=ex (w1.heap.size);rw[hV1]at Qe Qk H4 c0;rw[hB4]at H4;rw[hV1,hB4];clear hV1 hB4;refine⟨trivial,?_⟩;refine((BJ (n:=_)).2 Qe.o).mono ?_;rintro e w2 ⟨u2,rfl,hu2,_,hb2,_⟩;obtain⟨ra,rc,e9,_⟩:=id hu2;rw[←Ud.o]at e9;subst e9;have Qn:=Qk.o.below hb2;have h4:Boxed w2 B4 3 (.int .i64 (n:Int)):=(hb2.block B4 H4.o.lt).trans H4.o;have Ql:Bl w2 (w2.alloc (.cells #[.slice ra la rc] 23)):=Ba w2 _;have Qo:=Qn.push (.cell 23 (.slice ra la rc)) (cs:=#[.slice ra la rc]) ⟨rfl,rfl⟩;have h5:Boxed (w2.alloc (.cells #[.slice ra la rc] 23)) B4 3 (.int .i64 (n:Int)):=(Ql.block B4 h4.lt).trans h4;have c4:=h5.cell;have Qp:=Ja Qo;have Qt:=Ja (hu2.below Ql);clear hu2 hb2 Qn h4 Ql Qo h5 Qk H4 Qe c0;gi_wp2_with fail
 refine⟨trivial,?_⟩;refine(LB Fence.wide _ trivial rfl _ _ _ _).mono ?_;rintro e w3 ⟨rfl,rfl⟩;have Qd:=((Qp.o.push (.rats (List.replicate 0 0)) (LR _ 0)).push (.cell 23 (.slice (some ⟨w2.heap.size+1,0,none⟩) 0 0)) (cs:=#[.slice (some ⟨w2.heap.size+1,0,none⟩) 0 0]) ⟨rfl,rfl⟩).push (.cell 23 (.slice (some ⟨w2.heap.size+1,0,none⟩) 0 0)) (cs:=#[.slice (some ⟨w2.heap.size+1,0,none⟩) 0 0]) ⟨rfl,rfl⟩;simp only[BA]at Qd;have Qq:Below (w2.alloc (.cells #[.slice ra la rc] 23)).heap.size (w2.alloc (.cells #[.slice ra la rc] 23)) ((((w2.alloc (.cells #[.slice ra la rc] 23)).alloc (.cells (Ya 0) 37)).alloc (.cells #[.slice (some ⟨w2.heap.size+1,0,none⟩) 0 0] 23)).alloc (.cells #[.slice (some ⟨w2.heap.size+1,0,none⟩) 0 0] 23)):=
  ((Ba _ _).alloc (by simp only[BA];omega) _).alloc (by simp only[BA];omega) _
 have hF:KT w ((((w2.alloc (.cells #[.slice ra la rc] 23)).alloc (.cells (Ya 0) 37)).alloc (.cells #[.slice (some ⟨w2.heap.size+1,0,none⟩) 0 0] 23)).alloc (.cells #[.slice (some ⟨w2.heap.size+1,0,none⟩) 0 0] 23)) w2.heap.size (w2.heap.size+1+1) (w2.heap.size+1+1+1) (.slice ra la rc) (.slice (some ⟨w2.heap.size+1,0,none⟩) 0 0) ps:=
  ⟨(Qd.cell (i:=2) rfl).1,(Qd.cell (i:=3) rfl).1,(Qd.cell (i:=4) rfl).1,(Qd.cell (i:=6) rfl).1,(Qd.cell (i:=7) rfl).1,Qt.o.below Qq,Qd.2.2⟩
 obtain⟨W3,hW3⟩:=ex ((((w2.alloc (.cells #[.slice ra la rc] 23)).alloc (.cells (Ya 0) 37)).alloc (.cells #[.slice (some ⟨w2.heap.size+1,0,none⟩) 0 0] 23)).alloc (.cells #[.slice (some ⟨w2.heap.size+1,0,none⟩) 0 0] 23));rw[hW3]at hF;rw[hW3];simp only[BA];obtain⟨B5,hB5⟩:=ex (w2.heap.size);rw[hB5]at hF;rw[hB5];have HF:=Ja hF;clear Qd Qq hF hW3 hB5 Qp Qt c4;gi_wp2_with fail
 have Qr:=Ja (show w.heap.size≤W3.heap.size from HF.o.2.2.2.2.2.2.size);refine Xb rfl (by omega) (gf:=170) (lb:=#[.pointer (some ⟨B5+1+1+1,0,none⟩)]) rfl trivial (Br Tryz.func170 (by kernel_rfl) rfl)
  (LA Fence.wide _ trivial rfl (by omega) (B5+1+1+1) (some ⟨B5+1,0,none⟩) 0 0 (fun _=>.bool false) (fun _=>.slice none 0 0) (fun _=>.bool false) (fun _=>.slice none 0 0) (by omega)) (fun _=>rfl)
  (fun _ W=>KT w W B5 (B5+1+1) (B5+1+1+1) (.slice ra la rc) (.slice (some ⟨B5+1,0,none⟩) 0 0) ps) (fun _ _ _=>False)
  (fun k W W' row h hg hr=>h.own hg (fun r e=>⟨An Qr.o (hr r e).1,(hr r e).2⟩))
  (fun c s W W' row h=>h.elim) HF.o ?rd
  (fun k=>{ tmps:=#[.agg #[.slice pa la pc],.agg #[.slice qa lb qc],.pointer (some ⟨w.heap.size,0,none⟩),.pointer (some ⟨w.heap.size+1,0,none⟩),.pointer (some ⟨w.heap.size+1+1,0,none⟩),.pointer (some ⟨w.heap.size+1+1+1,0,none⟩),.bool false,.pointer (some ⟨B4,0,none⟩),.pointer (some ⟨B5,0,none⟩),.pointer (some ⟨B5+1+1,0,none⟩),.int .i64 (((0:Nat):Int)-1-k),undef,undef,undef,undef,.agg #[.slice qa lb qc],.int .i64 ↑n,.int .i64 ↑n,.bool (decide ((n:Int)<0)),undef,undef,.pointer (some ⟨w.heap.size,0,none⟩),.slice pa la pc,.slice ra la rc,.slice ra la rc,.int .i64 ↑la,.int .i64 ↑n,.int .i64 x,.int .i64 0,.slice (some ⟨B5+1,0,none⟩) 0 0,.slice (some ⟨B5+1,0,none⟩) 0 0,.func (.func 170) #[] #[.pointer (some ⟨B5+1+1+1,0,none⟩)],.int .i64 (((0:Nat):Int)-1-k),.agg #[.bool false,.slice none 0 0,.bool false,.slice none 0 0],undef,undef,undef,undef,undef,undef,undef,undef,undef,undef,undef,undef,undef,undef,undef,undef,undef,undef,undef,undef,undef,undef,undef,undef,undef,undef,undef,undef,undef,undef,undef,undef,undef,undef,undef,undef,undef,undef,undef,undef,undef,undef,undef,undef,undef,undef,undef],defers:=[] }) ?assign ?body ?done ?stop
 case stop=>intro D c k W _ _ h;exact h.elim
 case rd=>
  intro k W h;exact⟨h.2.2.2.2.1.cell,fun hk=>by omega⟩
 case assign=>
  intro l k W K hK;unfold Ib;gi_wp2;exact hK
 case body=>intro l k W hS hk;omega
 case done=>
  intro DC W hD hS hK;have Qx:GZ w W.drew DC B5 (B5+1+1) (.slice ra la rc) (.slice (some ⟨B5+1,0,none⟩) 0 0) ps []:=
   GZ.below ⟨hS.1,hS.2.1,hS.2.2.1,hS.2.2.2.1,hS.2.2.2.2.2.1,row_zero _ _,hS.2.2.2.2.2.2,hK⟩ ((BG _ W).drew)
  have Ub:LT false w W.drew DC undef:=fun e=>by cases e
  have Qy:=Ja (show w.heap.size≤DC by have:=Qr.o;omega);have Uc:=Ja (show Sqs []from Sqs.of fun i=>Sq.of (k:=1) (by rw[YD];exact DV.zero 1 (by omega)) (by omega));clear hS hK HF;gi_wp2_with fail
  refine JM Qz [[],[0],[],[2,1],[1,3,0,1],[3,4,0,1,2,3,4],[5,0,1,2,3,4,5]] (by kernel_rfl) (by decide)
   (fun D act V=>∃(tb tc td te ta:Value),act={ tmps:=#[.agg #[.slice pa la pc],.agg #[.slice qa lb qc],.pointer (some ⟨w.heap.size,0,none⟩),.pointer (some ⟨w.heap.size+1,0,none⟩),.pointer (some ⟨w.heap.size+1+1,0,none⟩),.pointer (some ⟨w.heap.size+1+1+1,0,none⟩),ta,.pointer (some ⟨B4,0,none⟩),.pointer (some ⟨B5,0,none⟩),.pointer (some ⟨B5+1+1,0,none⟩),undef,undef,undef,undef,undef,.agg #[.slice qa lb qc],.int .i64 ↑n,.int .i64 ↑n,.bool (decide ((n:Int)<0)),undef,undef,.pointer (some ⟨w.heap.size,0,none⟩),.slice pa la pc,.slice ra la rc,.slice ra la rc,.int .i64 ↑la,.int .i64 ↑n,.int .i64 x,.int .i64 0,.slice (some ⟨B5+1,0,none⟩) 0 0,.slice (some ⟨B5+1,0,none⟩) 0 0,.func (.func 170) #[] #[.pointer (some ⟨B5+1+1+1,0,none⟩)],undef,undef,undef,undef,undef,undef,undef,undef,undef,undef,undef,undef,undef,undef,undef,undef,undef,undef,undef,undef,undef,undef,undef,undef,undef,undef,undef,undef,undef,undef,undef,undef,undef,undef,undef,undef,undef,undef,undef,undef,undef,undef,undef,undef,undef,tb,tc,td,te],defers:={ target:=.collected DC,args:=#[] }::[] }∧Hid ((D 0=true→tb=.slice (some ⟨B5+1,0,none⟩) 0 0)∧(D 1=true→D 5=false→Je V tc (Jc []))∧(D 2=true→td=.slice ra la rc)∧(D 3=true→D 5=false→Je V te (Jc ps))∧(D 6=true→ta=.bool true))∧Hid ((D 4=false→GZ w V DC B5 (B5+1+1) (.slice ra la rc) (.slice (some ⟨B5+1,0,none⟩) 0 0) ps [])∧(D 4=true→IA V))∧Hid ((D 5=false→LT (D 4) w V DC tc)∧(D 5=true→QR w V DC tc te (Jc []) (Jc ps))))
   ⟨_,_,_,_,_,rfl,Ja (by simp),Ja ⟨fun _=>Qx,by simp⟩,Ja ⟨fun _=>Ub,by simp⟩⟩ ?step1 ?fin1
  case step1=>
   rintro D act V i ds hcl hi hds hDi ⟨tb,tc,td,te,ta,rfl,GG,SS0,SS1⟩;have hi6:i<7:=(Ae.1 hi).1;obtain rfl|rfl|rfl|rfl|rfl|rfl|rfl:=Gw i (by omega)
   all_goals
    simp only[Ai,Ag,Ak]at hi;subst hi
   · have Qb:=SS0.o.1 (DP hcl hDi);have Qf:=SS1.o.1 (DP hcl hDi);have e6:=Qb.2.2.2.1.cell;clear hds;refine DY ?_;exact⟨(Di GG),SS0,SS1⟩
   · have Qc:D 4=false:=DP hcl hDi;have Qb:=SS0.o.1 Qc;have Qa:D 5=false:=DP hcl hDi;have Qf:=SS1.o.1 Qa;obtain rfl:=GG.o.1 (hds 0 (by simp));clear hds;have HC:=Ja (fun(n9:Nat)=>(BJ (n:=n9)).2 (Xu _ [] V Qb.2.2.2.2.2.1 Uc.o));refine BO rfl fun K hK=>?_;go_simp;gi_wp2_with(refine⟨trivial,?_⟩;gi_at_call 39;refine(HC.o _).mono ?_;rintro e w5 ⟨v5,rfl,hv5,_,hb5⟩)
     exact⟨_,_,_,_,_,rfl,Ja ⟨fun _=>rfl,fun _ _=>hv5,GG.o.2.2.1,fun h h2=>(GG.o.2.2.2.1 h h2).below hb5,GG.o.2.2.2.2⟩,Ja ⟨fun h=>(SS0.o.1 h).below hb5,fun h=>(SS0.o.2 h).below hb5⟩,Ja ⟨fun _=>(fun e=>by simp[Qc]at e),fun h=>by simp[Qa]at h⟩⟩
   · have Qc:D 4=false:=DP hcl (DP (a:=3) hcl hDi);have Qb:=SS0.o.1 Qc;have Qf:=SS1.o.1 (DP hcl hDi);have e5:=Qb.2.2.1.cell;clear hds;refine DY ?_;exact⟨Ja ⟨GG.o.1,GG.o.2.1,fun _=>rfl,GG.o.2.2.2.1,GG.o.2.2.2.2⟩,SS0,SS1⟩
   · have Qc:D 4=false:=DP hcl hDi;have Qb:=SS0.o.1 Qc;have Qa:D 5=false:=DP hcl hDi;have Qf:=SS1.o.1 Qa;obtain rfl:=GG.o.2.2.1 (hds 2 (by simp));clear hds;have HC:=Ja (fun(n9:Nat)=>(BJ (n:=n9)).2 (Xu _ ps V Qb.2.2.2.2.1 Ua.o));refine BO rfl fun K hK=>?_;go_simp;gi_wp2_with(refine⟨trivial,?_⟩;gi_at_call 39;refine(HC.o _).mono ?_;rintro e w5 ⟨v5,rfl,hv5,_,hb5⟩)
     exact⟨_,_,_,_,_,rfl,Ja ⟨GG.o.1,fun h h2=>(GG.o.2.1 h h2).below hb5,fun _=>rfl,fun _ _=>hv5,GG.o.2.2.2.2⟩,Ja ⟨fun h=>(SS0.o.1 h).below hb5,fun h=>(SS0.o.2 h).below hb5⟩,Ja ⟨fun _=>(fun e=>by simp[Qc]at e),fun h=>by simp[Qa]at h⟩⟩
   · have Qb:=SS0.o.1 hDi;have Qa:D 5=false:=DP hcl hDi;have Qf:=SS1.o.1 Qa;have h0:=GG.o.2.1 (hds 1 (by simp)) Qa;obtain⟨a9,l9,c9,rfl⟩:=Je.form h0;have Qg:=Qb.1;have e0:=Qg.cell;have f0:=Qg.frozen;have Qj:w.heap.size+1+1+1≠w.heap.size+1+1:=by omega
     clear hds;refine DY ?_;obtain⟨G0,G1,G2,G3,G4⟩:=GG.o;exact⟨Ja ⟨G0,fun h h2=>(G1 h h2).setP Qg _,G2,fun h h2=>(G3 h h2).setP Qg _,G4⟩,Ja ⟨fun h=>by simp at h,fun _=>trivial⟩,Ja ⟨fun _=>(fun _=>⟨_,rfl,Qg.set _,(BC V ⟨w.heap.size+1+1,0,none⟩ _ _ Qj).trans Qb.2.1,Qb.2.2.2.2.2.2.1.setCell (p:=⟨w.heap.size+1+1,0,none⟩) (by show w.heap.size≤w.heap.size+1+1;omega) _,(BK V ⟨w.heap.size+1+1,0,none⟩ _).same DC _ Qb.2.2.2.2.2.2.2 rfl⟩),fun h=>by simp[Qa]at h⟩⟩
   · have Qf:=SS1.o.1 hDi;have h0:=GG.o.2.1 (hds 1 (by simp)) hDi;have h1:=GG.o.2.2.2.1 (hds 3 (by simp)) hDi;have Ue:=hds 4 (by simp);obtain⟨v2,rfl,hb2,hb3,hbw,hbd⟩:=Qf (hds 4 (by simp));obtain⟨a9,l9,c9,rfl⟩:=Je.form h1;have e0:=hb3.cell;have f0:=hb3.frozen;have Qj:w.heap.size+1+1≠w.heap.size+1+1+1:=by omega
     clear hds;refine DY ?_;exact⟨Ja ⟨GG.o.1,fun _ h=>by simp at h,GG.o.2.2.1,fun _ h=>by simp at h,GG.o.2.2.2.2⟩,Ja ⟨fun h=>by simp[Ue]at h,fun _=>trivial⟩,Ja ⟨fun h=>by simp at h,fun _=>⟨_,_,rfl,rfl,(BC V ⟨w.heap.size+1+1+1,0,none⟩ _ _ Qj).trans hb2,hb3.set _,h0.setP hb3 _,h1.setP hb3 _,hbw.setCell (p:=⟨w.heap.size+1+1+1,0,none⟩) (by show w.heap.size≤w.heap.size+1+1+1;omega) _,(BK V ⟨w.heap.size+1+1+1,0,none⟩ _).same DC _ hbd rfl⟩⟩⟩
   · clear hds;refine DY ?_;exact⟨Ja ⟨GG.o.1,GG.o.2.1,GG.o.2.2.1,GG.o.2.2.2.1,fun _=>rfl⟩,SS0,SS1⟩
  case fin1=>
   rintro E act V hDD ⟨tb,tc,td,te,ta,rfl,GG,SS0,SS1⟩;obtain⟨v,v',rfl,rfl,g2,g3,hi2,hi3,hbw,hbd⟩:=SS1.o.2 (hDD 5 (by decide));obtain rfl:=GG.o.2.2.2.2 (hDD 6 (by decide));clear GG SS0 SS1 hDD;gi_wp2;refine⟨by simp,.inl ⟨_,_,rfl,Bb hbd,?_⟩⟩;have hg:=Bg V DC (.deferred none);have Qh:∀r,some DC=some r→∃o:Obj,V.heap[r]?=some o∧o.isCells=false:=fun r e=>by cases e;exact⟨_,hbd,rfl⟩
   have q2:Boxed _ (w.heap.size+1+1) 25 v:=Yd hg Qh (show Bx V (w.heap.size+1+1) 25 #[v]from g2);have q3:Boxed _ (w.heap.size+1+1+1) 25 v':=Yd hg Qh (show Bx V (w.heap.size+1+1+1) 25 #[v']from g3);have x2:=q2.cell;have x3:=q3.cell;refine⟨.tuple #[.agg #[v],.agg #[v'],.bool true],by simp[results,Tryz.results139,go_sem,x2,x3],_,_,rfl,?_,?_,?_⟩
   · obtain⟨u,e,h⟩:=hi2;exact⟨u,e,Xq hg Qh h⟩
   · rw[Uf.o]at hi3;obtain⟨u,e,h⟩:=hi3;exact⟨u,e,Xq hg Qh h⟩
   · exact hbw.trans (DH (w:=w) (Aa _) _ DC _ _ Qy.o hbd rfl rfl)
theorem am(A:Nat)(va vb:Value)(ps qs:List Rat)(w:World)(ha:Je w va ps)(hb:Je w vb qs)(hs:Sqs ps)(hq:∀i,DV A (cf qs i))(htp:Jc ps=ps)(htq:Jc qs=qs)
(hL:qs≠[]→∀k,k≤ps.length-(qs.length-1)→∃z,z+(2*A+1)≤1000000000∧(k<ps.length-(qs.length-1)→2*z+2*(2*A+1)≤1000000000)∧(∀i,DV z (cf (Jz ps qs (qs.length-1) (ps.length-(qs.length-1)) k).2 i))∧∀i,DV (z+A) (cf (Jz ps qs (qs.length-1) (ps.length-(qs.length-1)) k).1 i)):
 Calls Tryz.prog 139 #[va,vb] w fun e w'=>∃u v,e=.returned (.tuple #[u,v,.bool (decide (qs≠[]))])∧Je w' u (if qs=[]then []else Jv ps qs)∧Je w' v (if qs=[]then []else JE ps qs)∧Bl w w':=by
 by_cases h0:qs=[]
 · subst h0;refine(aj va ps vb w ha hb).mono ?_;rintro e w' ⟨rfl,h⟩;exact⟨_,_,rfl,⟨_,rfl,RowK.nil _ _⟩,⟨_,rfl,RowK.nil _ _⟩,h⟩
 · have hd:decide (qs≠[])=true:=BL h0;rw[hd];simp only[BE h0];have hql:0<qs.length:=Af.2 h0;obtain⟨pa,la,pc,rfl⟩:=ha.form;obtain⟨qa,lb,qc,rfl⟩:=hb.form;have h1:=ha.row;have h2:=hb.row;obtain⟨hla,_⟩:=h1.forms;obtain⟨hlb,_⟩:=h2.forms;by_cases hm:la≤lb-1
   · have e0:ps.length-(qs.length-1)=0:=by omega
     have e1:Jv ps qs=[]:=by unfold Jv;rw[e0];rfl
     have e2:JE ps qs=ps:=by unfold JE;rw[e0];exact htp
     rw[e1,e2];exact ak pa qa la pc lb qc (lb-1) ps qs w h1 h2 hs htp (by omega) hm
   · exact ai A pa qa la pc lb qc (lb-1) (la-(lb-1)) ps qs w h1 h2 hq htq h0 (fun k hk=>by rw[show lb-1=qs.length-1 by omega,show la-(qs.length-1)=ps.length-(qs.length-1)by omega];exact hL h0 k (by omega)) (by omega) (by omega) (by omega)
def Io(ps:List Rat)(n i:Nat)(S:List Rat):Prop:=S.length=n∧∀j,cf S j=if j<i then GY ps j else 0
theorem Io.next{ps:List Rat}{n i:Nat}{S:List Rat}(h:Io ps n i S)(hi:i<n):Io ps n (i+1) (S.set i (GY ps i)):=by
 refine⟨by rw[Cz];exact h.1,fun j=>?_⟩;rw[XG _ _ _ _ (by rw[h.1];exact hi),h.2 j];by_cases e:j=i
 · rw[BH e,BH (by omega),e]
 · rw[BE e];by_cases e2:j<i
   · rw[BH e2,BH (by omega)]
   · rw[BE e2,BE (by omega)]
theorem Io.done{ps:List Rat}{n:Nat}{S:List Rat}(h:Io ps n n S)(hn:n=ps.length-1):Jc S=Jd ps:=Gc fun j=>by
 rw[h.2 j,I3];split
 · rfl
 · rw[J8 (p:=ps) (by omega),Cy]
theorem an(v:Value)(ps:List Rat)(w:World)(h:Je w v ps)(hps:Sqs ps)(hsl:∀i,Sq (GY ps i)):
 Calls Tryz.prog 38 #[v] w fun e w'=>∃u,e=.returned u∧Je w' u (Jd ps)∧Bl w w':=by
 have Qr:Tryz.prog.follows .mixedOrders=true:=by kernel_rfl
 obtain⟨pa,la,pc,rfl⟩:=h.form;have ha:=h.row;obtain⟨hla,hca,hcma,hlma,s,t,aa,bb,ll,cc,kk,dd,hcp⟩:=ha.forms;have M0:Mem w _ _:=((Mem.nil w).push (.cell 25 (.slice pa la pc)) (cs:=#[.slice pa la pc]) ⟨rfl,rfl⟩).push (.cell 25 (.slice none 0 0)) (cs:=#[.slice none 0 0]) ⟨rfl,rfl⟩;simp only[BA]at M0;obtain⟨V0,hV0⟩:=ex ((w.alloc (.cells #[.slice pa la pc] 25)).alloc (.cells #[.slice none 0 0] 25));have M1:Mem w V0 [some (w.heap.size,.cell 25 (.slice pa la pc)),some (w.heap.size+1,.cell 25 (.slice none 0 0))]:=by rw[←hV0];exact M0
 have Qj:=Ja M1;obtain⟨d,hd⟩:=ex ((ps.length:Int)-1:Int);have Qi:=Ja (J4 (.agg #[.slice pa la pc]) ps V0 (h.below M1.2.2));rw[hd]at Qi;obtain⟨n,hn⟩:=ex (ps.length-1:Nat);have Qf:max (0:Int) d=(n:Int):=by omega
 have Qt:∀W:World,(Instr.makeSlice 23 (.int .i64 (n:Int)) (.int .i64 (n:Int))).run Tryz.prog W=.ok (.slice (some ⟨W.heap.size,0,none⟩) n n) (W.alloc (.cells (Ya n) 37)):=fun W=>X4 n (by omega) W;obtain⟨HP,Qn,Qp,HN⟩:=Dt hcp hps hsl (show n=ps.length-1∧la=ps.length from⟨hn.symm,hla⟩);have Qe:n≤1099511627776:=by omega
 have Ql:=Ja hV0;clear h ha hcp hps hsl hla hca hcma hn hd M0 M1 hV0;go_enter Tryz.func38,Tryz.ntmps38
 go_upto_region 1 with fail
 rw[Ql.o];have c0:=(Qj.o.cell (i:=0) rfl).1.cell;go_upto_region 2 with(go_at_call 30;refine Qi.o.mono ?_;clear Qi;rintro e w1 ⟨rfl,hb1⟩)
 have Qg:Mem w (w1.alloc (.cells (Ya n) 37)) [some (w.heap.size,.cell 25 (.slice pa la pc)),some (w.heap.size+1,.cell 25 (.slice none 0 0)),some (w1.heap.size,.rats (List.replicate n 0))]:=(Qj.o.below hb1).push (.rats (List.replicate n 0)) (LR _ n);obtain⟨V1,hV1⟩:=ex (w1.alloc (.cells (Ya n) 37));obtain⟨gS,hgS⟩:=ex (w1.heap.size);rw[hV1,hgS]at Qg;rw[hV1,hgS];have Qk:=Ja Qg;clear Qg hV1 hgS hb1 c0 Qj Ql Qt Qf;go_wp2;go_loopw [11] (fun iv wr=>∃(i:Nat) (S:List Rat),i≤n∧iv=.int .i64 (i:Int)∧Hid (Io ps n i S)∧Hid (Mem w wr [some (w.heap.size,.cell 25 (.slice pa la pc)),some (w.heap.size+1,.cell 25 (.slice none 0 0)),some (gS,.rats S)])) (fun iv _=>n-(intOf iv).toNat)
 case atStart=>exact⟨0,_,AH _,rfl,Ja ⟨Az,fun j=>by rw[JZ,BE (by omega)]⟩,Qk⟩
 case round=>
  obtain⟨i,S,hi,rfl,HS,HM⟩:=hrel;clear Qk;by_cases hlt:i<n
  · have hlt2:(i:Int)<(n:Int):=by omega
    obtain⟨K,hK⟩:=ex (i+1:Nat);have hK1:(i:Int)+1=(K:Int):=by omega
    have hKw:IntKind.i64.wrap (K:Int)=(K:Int):=by rw[Bi];omega
    have hKl:(K:Int)<(la:Int):=by have:=HN.o;omega
    obtain⟨hip,bp,rfl,hbp,p0,p1,p2,p3⟩:=HP.o K (by have:=HN.o;omega);have Qu:=Ja (show ∀V,Bl w V→(V.cell? ⟨bp,K*4,none⟩=some (.bool (s K))∧V.cell? ⟨bp,K*4+1,none⟩=some (.slice (aa K) (ll K) (cc K))∧V.cell? ⟨bp,K*4+2,none⟩=some (.bool (t K))∧V.cell? ⟨bp,K*4+3,none⟩=some (.slice (bb K) (kk K) (dd K)))∧Jg V (.agg #[.bool (s K),.slice (aa K) (ll K) (cc K),.bool (t K),.slice (bb K) (kk K) (dd K)]) (cf ps K)from fun V hB=>by
     exact⟨⟨(hB.cell (p:=⟨bp,_,none⟩) hbp).trans p0,(hB.cell (p:=⟨bp,_,none⟩) hbp).trans p1,(hB.cell (p:=⟨bp,_,none⟩) hbp).trans p2,(hB.cell (p:=⟨bp,_,none⟩) hbp).trans p3⟩,hip.below hB⟩)
    have Qd:=Ja (show K≤1099511627776∧K=i+1 by omega);have Qs:=Ja (show cf ps K*((K:Int):Rat)=GY ps i by rw[Qd.o.2];rfl);have Qm:=Ja (show i<S.length by rw[HS.o.1];exact hlt);clear hip hbp p0 p1 p2 p3 hK;go_wp2_with fail
    have Qo:=HM.o.drew;refine Jm Qr [[],[],[],[2],[],[4],[3,5],[6],[],[8],[9],[7,10,10],[0,1,0,1,2,3,4,5,6,7,8,9,10,11],[12,11,11,0,1,2,3,4,5,6,7,8,9,10,11]] (by kernel_rfl) (by decide)
     (fun D act V=>∃(ta tb tc td te tg ti tj tk tl tm tn tp:Value),act={ tmps:=#[.agg #[.slice (some ⟨bp,0,none⟩) la pc],.pointer (some ⟨w.heap.size,0,none⟩),.pointer (some ⟨w.heap.size+1,0,none⟩),.slice (some ⟨gS,0,none⟩) n n,.int .i64 ↑i,.agg #[.slice (some ⟨bp,0,none⟩) la pc],.int .i64 d,.int .i64 ↑n,.slice (some ⟨gS,0,none⟩) n n,.slice (some ⟨gS,0,none⟩) n n,.int .i64 ↑n,.int .i64 ↑i,.bool true,.int .i64 ↑i,ta,tb,tc,td,te,tg,ti,tj,tk,tl,tm,tn,tp,u27,undef,undef],defers:=[] }∧Hid ((D 0=true→ta=.slice (some ⟨gS,0,none⟩) n n)∧(D 1=true→tb=.int .i64 (i:Int))∧(D 2=true→tc=.pointer (some ⟨w.heap.size,0,none⟩))∧(D 3=true→td=.slice (some ⟨bp,0,none⟩) la pc)∧(D 4=true→te=.int .i64 (i:Int))∧(D 5=true→tg=.int .i64 (K:Int))∧(D 6=true→ti=.pointer (some ⟨bp,K*4,none⟩))∧(D 7=true→D 13=false→Jg V tj (cf ps K))∧(D 8=true→tk=.int .i64 (i:Int))∧(D 9=true→tl=.int .i64 (K:Int))∧(D 10=true→D 13=false→Jg V tm ((K:Int):Rat))∧(D 11=true→D 13=false→Jg V tn (GY ps i))∧(D 12=true→tp=.pointer (some ⟨gS,i*4,none⟩)))∧Hid ((D 13=false→Mem w V [some (w.heap.size,.cell 25 (.slice (some ⟨bp,0,none⟩) la pc)),some (w.heap.size+1,.cell 25 (.slice none 0 0)),some (gS,.rats (S))])∧(D 13=true→Mem w V [some (w.heap.size,.cell 25 (.slice (some ⟨bp,0,none⟩) la pc)),some (w.heap.size+1,.cell 25 (.slice none 0 0)),some (gS,.rats (S.set i (GY ps i)))])))
     (E8 ⟨_,_,_,_,_,rfl,Ja (by simp),Ja ⟨fun _=>Qo,by simp⟩⟩) ?step1 ?fin1
    case step1=>
     rintro D act V i ds hcl hi hds hDi ⟨ta,tb,tc,td,te,tg,ti,tj,tk,tl,tm,tn,tp,rfl,GG,SS0⟩;have hi6:i<14:=(Ae.1 hi).1;obtain rfl|rfl|rfl|rfl|rfl|rfl|rfl|rfl|rfl|rfl|rfl|rfl|rfl|rfl:=FK i (by omega)
     all_goals
      simp only[Ai,Ag,Ak]at hi;subst hi
     · clear hds;refine DZ ?_;exact⟨(Di GG),SS0⟩
     · clear hds;refine DZ ?_;exact⟨(Dm GG),SS0⟩
     · clear hds;refine DZ ?_;exact⟨(De GG),SS0⟩
     · have Qb:=SS0.o.1 (DP hcl hDi);obtain rfl:=GG.o.2.2.1 (hds 2 (by simp));have e0:=(Qb.cell (i:=0) rfl).1.cell;clear hds;refine DZ ?_;exact⟨(Dj (De GG)),SS0⟩
     · clear hds;refine DZ ?_;exact⟨(Dy GG),SS0⟩
     · obtain rfl:=GG.o.2.2.2.2.1 (hds 4 (by simp));clear hds;refine DZ ?_;exact⟨(D4 (Dy GG)),SS0⟩
     · obtain rfl:=GG.o.2.2.2.1 (hds 3 (by simp));obtain rfl:=Du GG (hds 5 (by simp));clear hds;refine DZ ?_;exact⟨(ED (D4 (Dj GG))),SS0⟩
     · have Qb:=SS0.o.1 (DP hcl hDi);obtain rfl:=EJ GG (hds 6 (by simp));obtain⟨⟨e0,e1,e2,e3⟩,hr⟩:=Qu.o V Qb.2.2;clear hds;refine DZ ?_;exact⟨(EQ (ED GG) fun _ _=>hr),SS0⟩
     · clear hds;refine DZ ?_;exact⟨(EK GG),SS0⟩
     · obtain rfl:=Ee GG (hds 8 (by simp));clear hds;refine DZ ?_;exact⟨(El (EK GG)),SS0⟩
     · obtain rfl:=F6 GG (hds 9 (by simp));clear hds;have HC:=Ja (ND (K:Int) (by omega) (by have:=Qd.o;omega) V);refine Jb rfl rfl fun K hK=>?_;go_simp;go_wp2_with(go_at_call 79;refine HC.o.mono ?_;rintro e w5 ⟨v5,rfl,hv5,hb5⟩)
       obtain⟨G0,G1,G2,G3,G4,G5,G6,G7,G8,_,_,G11,G12⟩:=GG.o;exact E8 ⟨_,_,_,_,_,rfl,Ja ⟨G0,G1,G2,G3,G4,G5,G6,fun h h2=>(G7 h h2).below hb5,G8,fun _=>rfl,fun _ _=>hv5,fun h h2=>(G11 h h2).below hb5,G12⟩,Ja ⟨fun h=>(SS0.o.1 h).below hb5,fun h=>(SS0.o.2 h).below hb5⟩⟩
     · have Qa:D 13=false:=DP hcl hDi;have h0:=Ev GG (hds 7 (by simp)) Qa;have h1:=EG GG (hds 10 (by simp)) Qa;clear hds;have HC:=Ja (Ia _ _ (cf ps K) ((K:Int):Rat) V h0 h1 (Qn.o.at K) (Z1 Qd.o.1));rw[Qs.o]at HC;clear h0 h1;refine Jb rfl rfl fun K hK=>?_;go_simp;go_wp2_with(go_at_call 91;refine HC.o.mono ?_;rintro e w5 ⟨v5,rfl,hv5,hb5⟩)
       obtain⟨G0,G1,G2,G3,G4,G5,G6,G7,G8,G9,G10,_,G12⟩:=GG.o;exact E8 ⟨_,_,_,_,_,rfl,Ja ⟨G0,G1,G2,G3,G4,G5,G6,fun h h2=>(G7 h h2).below hb5,G8,G9,fun h h2=>(G10 h h2).below hb5,fun _ _=>hv5,G12⟩,Ja ⟨fun h=>(SS0.o.1 h).below hb5,fun h=>(SS0.o.2 h).below hb5⟩⟩
     · obtain rfl:=GG.o.1 (hds 0 (by simp));obtain rfl:=GG.o.2.1 (hds 1 (by simp));clear hds;refine DZ ?_;exact⟨(GS (Dm (Di GG))),SS0⟩
     · have Qb:=SS0.o.1 hDi;have h0:=Em GG (hds 11 (by simp)) hDi;obtain rfl:=GG.o.2.2.2.2.2.2.2.2.2.2.2.2 (hds 12 (by simp));have hE:=Qb.rats (i:=2) rfl;obtain⟨xa,xb,xc,xd,e0,e1,e2,e3,_⟩:=hE.at Qm.o;have f0:=hE.frozen (i*4);have f1:=hE.frozen (i*4+1);have f2:=hE.frozen (i*4+2);have f3:=hE.frozen (i*4+3);obtain⟨s9,a9,l9,c9,t9,b9,k9,d9,rfl⟩:=Jg.form h0;clear hds;refine DZ ?_;exact⟨(GS (D7 (Dp (EQ GG (fun _ h=>by simp at h)) (fun _ h=>by simp at h)) (fun _ h=>by simp at h))),Ja ⟨fun h=>by simp at h,fun _=>Qb.putRats (i:=2) rfl Qm.o h0⟩⟩
    case fin1=>
     rintro D act V hDD ⟨ta,tb,tc,td,te,tg,ti,tj,tk,tl,tm,tn,tp,rfl,GG,SS0⟩;have HO:=Ja (SS0.o.2 (hDD 13 (by decide)));clear GG SS0 hDD;go_wp2_with fail
     go_roundw
     case rel=>exact⟨i+1,_,by omega,by go_num,Ja (HS.o.next hlt),HO⟩
     case measure=>simp[intOf];omega
  · obtain rfl:i=n:=by omega
    have hE:=HM.o.rats (i:=2) rfl;have Qc:=hE.row (n:=i) (cap:=i) (by rw[HS.o.1];exact Aa _) (Aa _) (by omega) Qe;rw[Ac (by rw[HS.o.1];exact Aa _)]at Qc;have Qh:=Ja (Xu _ S wr Qc (Sqs.of fun j=>by
     rw[HS.o.2 j];split
     · exact Qp.o j
     · exact Ec))
    rw[HS.o.done HN.o.1]at Qh;clear hE Qc;go_wp2_with(go_at_call 39;refine Qh.o.mono ?_;clear Qh;rintro e w5 ⟨u5,rfl,hu5,_,hb5⟩;obtain⟨a7,l7,c7,rfl⟩:=hu5.form;have n5:=boxed_below (HM.o.cell (i:=1) rfl).1 hb5;have x0:=n5.cell;have x1:=n5.frozen;have Qv:=Ja (EX n5 (.slice a7 l7 c7) hu5.row);have Qq:=Ja ((Bt HM.o.2.2 hb5).setCell (p:=⟨w.heap.size+1,0,none⟩) (by show w.heap.size≤w.heap.size+1;omega) (.slice a7 l7 c7));clear hu5 hb5 n5)
    exact BB (v:=.agg #[.slice a7 l7 c7]) (by simp[results,Tryz.results38,go_sem,x0]) rfl ⟨_,rfl,⟨_,rfl,Qv.o⟩,Qq.o⟩
end M3
section
open Go.RowKit Go.Shelf
def CD(D:Int)(K:Nat)(c:Rat):Prop:=∃n:Int,c=Rat.divInt n D∧Sm K n
section
variable {D E:Int} {K M:Nat} {c d:Rat}
theorem CD.mono(h:CD D K c)(hk:K≤M):CD D M c:=by
 obtain⟨n,e,h⟩:=h;exact⟨n,e,h.mono hk⟩
theorem CD.smq(h:CD D K c)(hD:D≠0)(hs:Sm K D):DV K c:=by
 obtain⟨n,rfl,h⟩:=h;exact DV.divInt hD h hs
theorem CD.zero(D:Int)(K:Nat):CD D K 0:=⟨0,by rw[Rat.zero_divInt],Sm.zero K⟩
theorem CD.add(h:CD D K c)(h2:CD D M d)(hD:D≠0):CD D (max K M+1) (c+d):=by
 obtain⟨n,rfl,h⟩:=h;obtain⟨m,rfl,h2⟩:=h2;refine⟨n+m,?_,?_⟩
 · rw[FA _ _ hD hD,←Int.add_mul,Fp hD]
 · exact(h.mono (Nat.le_max_left ..)).add (h2.mono (Nat.le_max_right ..))
theorem CD.mul(h:CD D K c)(h2:CD E M d):CD (D*E) (K+M) (c*d):=by
 obtain⟨n,rfl,h⟩:=h;obtain⟨m,rfl,h2⟩:=h2;exact⟨n*m,by rw[Fg],h.mul h2⟩
theorem CD.wide(h:CD D K c)(hE:Sm M E)(h0:E≠0):CD (D*E) (K+M) c:=by
 obtain⟨n,rfl,h⟩:=h;exact⟨n*E,by rw[Fp h0],h.mul hE⟩
theorem CD.of(h:DV K c):CD (c.den:Int) K c:=⟨c.num,(CI c).symm,h.1⟩
end
def Dz(D:Int)(K:Nat)(ps:List Rat):Prop:=∀i,CD D K (cf ps i)
theorem Dz.some{A:Nat}:∀ {ps:List Rat},(∀i,DV A (cf ps i))→∃D:Int,D≠0∧Sm (ps.length*A+1) D∧Dz D (ps.length*A+1) ps:=by
 intro ps;induction ps with
 |nil=>intro _;exact⟨1,by decide,Sm.one _ (by omega),fun i=>by rw[YD];exact CD.zero _ _⟩
 |cons c t ih=>
  intro h;obtain⟨D,h1,h2,h3⟩:=ih (fun i=>by have:=h (i+1);rwa[JI]at this);have hc:=h 0;rw[Yf]at hc;have hd:(c.den:Int)≠0:=by have:=c.den_nz;omega
  have e:(c::t).length*A+1=t.length*A+1+A:=by rw[Ad,AD];omega
  rw[e];refine⟨D*c.den,A7 h1 hd,h2.mul hc.2,fun i=>?_⟩;cases i with
  |zero=>
   rw[Yf];have:=(CD.of hc).wide h2 h1;rw[Fo]at this;exact this.mono (by omega)
  |succ i=>rw[JI];exact(h3 i).wide hc.2 hd
theorem QS{D:Int}{K:Nat}{ps qs:List Rat}(hD:D≠0)(h:∀i j,CD D K (cf ps i*cf qs j))(n:Nat):∀(i k:Nat),CD D (K+min i ps.length) (cf (XT ps qs n i) k):=by
 intro i;induction i with
 |zero=>intro k;rw[XT,JZ];exact CD.zero _ _
 |succ i ih=>
  intro k;rw[XT];rcases LQ (XT ps qs n i) i (cf ps i) qs qs.length k with e|e
  · rw[e];exact(ih k).mono (by omega)
  · rw[e];by_cases hi:i<ps.length
    · exact((ih k).add (h i (k-i)) hD).mono (by omega)
    · rw[J8 (p:=ps) (by omega),Cy,Rat.add_zero];exact(ih k).mono (by omega)
theorem QT{D:Int}{K:Nat}{ps qs:List Rat}(hD:D≠0)(hs:Sm 1000000000 D)(h:∀i j,CD D K (cf ps i*cf qs j))(hk:K+ps.length+1≤1000000000):M3.Gn ps qs:=by
 have hq:∀c,CD D (K+ps.length+1) c→Sq c:=fun c hc=>Sq.of ((hc.mono hk).smq hD hs) (Aa _);refine⟨fun i j=>hq _ ((h i j).mono (by omega)),fun n i j k=>?_⟩;have h1:=QS hD h n i k;rcases LQ (XT ps qs n i) i (cf ps i) qs j k with e|e
 · rw[e];exact hq _ (h1.mono (by omega))
 · rw[e];exact hq _ ((h1.add (h i (k-i)) hD).mono (by omega))
theorem NZ{D:Int}{K:Nat}{ps qs:List Rat}(hD:D≠0)(h:∀i j,CD D K (cf ps i*cf qs j)):Dz D (K+ps.length) (Jn ps qs):=fun k=>by
 unfold Jn;rw[J0,IJ];have h1:=QS hD h (ps.length+qs.length) ps.length k;rwa[OQ _ _ _ _ _ (Or.inr (by omega)),Nat.min_self]at h1
theorem Na(a:Rat)(j:Nat):cf (Yj a) j=a∨cf (Yj a) j=1∨cf (Yj a) j=0:=by
 rcases j with _|_|j
 · exact Or.inl rfl
 · exact Or.inr (Or.inl rfl)
 · exact Or.inr (Or.inr (J8 (by simp[Yj])))
theorem QU{A:Nat}{a:Rat}(h:DV A a)(j:Nat):CD (a.den:Int) A (cf (Yj a) j):=by
 have hd:(a.den:Int)≠0:=by have:=a.den_nz;omega
 rcases Na a j with e|e|e
 · rw[e];exact CD.of h
 · rw[e];exact⟨a.den,by rw[Rat.divInt_self' hd],h.2⟩
 · rw[e];exact CD.zero _ _
theorem ap(p q:List Rat):(Jn p q).length≤p.length+q.length:=XO (J3 _ _) fun i hi=>by unfold Jn;rw[J0,IJ,Z2 p q hi]
theorem Nb(a:Rat)(l:List Rat):(JG a l).length≤2*l.length:=by
 induction l with
 |nil=>simp[JG]
 |cons c t ih=>
  rw[JG];have h1:=L2 (Jn (JG a t) (Yj a)) (Jc [c]);have h2:=ap (JG a t) (Yj a);have h3:=YB [c];have h4:(Yj a).length=2:=rfl;have h5:([c]:List Rat).length=1:=rfl;rw[Ad];omega
theorem Sm.powZ{A:Nat}{v:Int}(h:Sm A v):∀n,Sm (n*A+1) (v^n):=by
 intro n;induction n with
 |zero=>rw[Int.pow_zero];exact Sm.one _ (by omega)
 |succ n ih=>rw[Int.pow_succ,AD,show n*A+1*A+1=n*A+1+A by omega];exact ih.mul h
theorem QV{D:Int}{K A L:Nat}{a:Rat}(hD:D≠0)(ha:DV A a):∀l:List Rat,l.length≤L→Dz D K l→Dz (D*(a.den:Int)^l.length) (K+l.length*(A+2*L+3)) (JG a l):=by
 have hd:(a.den:Int)≠0:=by have:=a.den_nz;omega
 intro l;induction l with
 |nil=>intro _ _ i;rw[JG,YD];exact CD.zero _ _
 |cons c t ih=>
  intro hl h;rw[Ad]at hl;have ih:=ih (by omega) (fun i=>by have:=h (i+1);rwa[JI]at this);have hc:=h 0;rw[Yf]at hc;have hlen:=Nb a t;have hv:(a.den:Int)^t.length≠0:=Fj hd;have h1:∀i j,CD (D*(a.den:Int)^t.length*a.den) (K+t.length*(A+2*L+3)+A) (cf (JG a t) i*cf (Yj a) j):=fun i j=>(ih i).mul (QU ha j);have h2:=NZ (A7 (A7 hD hv) hd) h1;have e:D*(a.den:Int)^t.length*a.den=D*(a.den:Int)^(c::t).length:=by rw[Ad,Int.pow_succ,Fs]
  rw[e]at h2;have hE:D*(a.den:Int)^(c::t).length≠0:=A7 hD (Fj hd);have h3:CD (D*(a.den:Int)^(c::t).length) (K+((c::t).length*A+1)) c:=hc.wide (ha.2.powZ _) (Fj hd);intro i;rw[JG,I4,J0];have h4:CD (D*(a.den:Int)^(c::t).length) (K+((c::t).length*A+1)) (cf [c] i):=by
   rcases i with _|i
   · exact h3
   · rw[J8 (by simp)];exact CD.zero _ _
  refine((h2 i).add h4 hE).mono ?_;rw[Ad,AD,AD,AG t.length,AG t.length];omega
def LV(a:Rat)(ps:List Rat):Prop:=∀k,Sqs (JG a (ps.drop k))∧M3.Gn (JG a (ps.drop k)) (Yj a)∧Sqs (Jn (JG a (ps.drop k)) (Yj a))
theorem aq{D:Int}{K A L:Nat}{a:Rat}{ps:List Rat}(hD:D≠0)(hsD:Sm K D)(hp:Dz D K ps)(ha:DV A a)(hl:ps.length≤L)(hb:K+(L+1)*(A+2*L+3)+2*L+2≤1000000000):LV a ps:=fun k=>by
 have hd:(a.den:Int)≠0:=by have:=a.den_nz;omega
 obtain⟨l,hll⟩:=ex (ps.drop k);have Qa:l.length≤L:=by rw[←hll,AK];omega
 have Qe:Dz D K l:=fun i=>by
  have e:cf l i=cf ps (k+i):=by rw[←hll];simp[cf]
  rw[e];exact hp _
 rw[hll];have h1:=QV hD ha l Qa Qe;have hv:(a.den:Int)^l.length≠0:=Fj hd;have hE:D*(a.den:Int)^l.length≠0:=A7 hD hv;have hm:l.length*(A+2*L+3)≤L*(A+2*L+3):=Aj _ Qa;have hm2:l.length*A≤L*A:=Aj _ Qa;have hm3:L*A≤L*(A+2*L+3):=Ar _ (by omega);rw[AD]at hb;have Qd:Sm (K+(l.length*A+1)) (D*(a.den:Int)^l.length):=hsD.mul (ha.2.powZ _);have Qb:Sm 1000000000 (D*(a.den:Int)^l.length*a.den):=(Qd.mul ha.2).mono (by omega);have Qc:D*(a.den:Int)^l.length*a.den≠0:=A7 hE hd;have h2:∀i j,CD (D*(a.den:Int)^l.length*a.den) (K+l.length*(A+2*L+3)+A) (cf (JG a l) i*cf (Yj a) j):=fun i j=>(h1 i).mul (QU ha j);have hlm:=Nb a l;refine⟨Sqs.of fun i=>Sq.of (((h1 i).mono (by omega:_≤1000000000)).smq hE (Qd.mono (by omega))) (Aa _),QT Qc Qb h2 (by omega),Sqs.of fun i=>?_⟩;exact Sq.of (((NZ Qc h2 i).mono (by omega:_≤1000000000)).smq Qc Qb) (Aa _)
end
section
open Go.RowKit Go.Shelf
theorem aw{D:Int}{K:Nat}{c:Rat}(h:CD D K c):CD D K (-c):=by
 obtain⟨n,rfl,h⟩:=h;exact⟨-n,by rw[←Rat.neg_divInt],by unfold Sm at h ⊢;rwa[Int.natAbs_neg]⟩
theorem QW{D E l:Int}{K A:Nat}{ps qs:List Rat}{n m:Nat}(hD:D≠0)(hp:Dz D K ps)(hE:E≠0)(hsE:Sm A E)(hq:Dz E A qs)(hl0:l≠0)(hl:Sm A l)(hlead:cf qs n=Rat.divInt l E)(h0:cf qs n≠0):
 ∀k,Dz (D*l^k) (K+k*(A+1)) (Jz ps qs n m k).2∧Dz (D*l^k) (K+k*(A+1)) (Jz ps qs n m k).1:=by
 intro k;induction k with
 |zero=>
  rw[Int.pow_zero,Int.mul_one];exact⟨fun i=>(hp i).mono (by omega),fun i=>by rw[Jz,JZ];exact CD.zero _ _⟩
 |succ k ih=>
  obtain⟨h1,h2⟩:=ih;have Qd:D*l^k≠0:=A7 hD (Fj hl0);have e:D*l^(k+1)=D*l^k*l:=by rw[Int.pow_succ,Fs]
  rw[e];have Qc:D*l^k*l≠0:=A7 Qd hl0;obtain⟨R,hR⟩:=ex ((Jz ps qs n m k).2);obtain⟨Q,hQ⟩:=ex ((Jz ps qs n m k).1);rw[hR]at h1;rw[hQ]at h2;obtain⟨r,er,hr⟩:=h1 (m-(k+1)+n);obtain⟨c,hc⟩:=ex (cf R (m-(k+1)+n)/cf qs n);have ec:c=Rat.divInt (r*E) (D*l^k*l):=by
   rw[←hc];have e2:cf R (m-(k+1)+n)=Rat.divInt (r*E) (D*l^k*l)*cf qs n:=by
    rw[hlead,Fg,er,show r*E*l=r*(E*l)from Fs _ _ _,show D*l^k*l*E=D*l^k*(E*l)by rw[Fs (D*l^k),Fo l E],Fp (A7 hE hl0)]
   rw[e2,Rat.mul_div_cancel h0]
  have Qa:CD (D*l^k*l) (K+(k+1)*(A+1)) c:=⟨r*E,ec,(hr.mul hsE).mono (by rw[AD];omega)⟩;have Qb:∀j,CD (D*l^k*l) (K+k*(A+1)+A) (c*cf qs j):=fun j=>by
   obtain⟨x,ex,hx⟩:=hq j;refine⟨r*x,?_,hr.mul hx⟩;rw[ec,ex,Fg,show r*E*x=r*x*E by rw[Fs,Fo E x,Fs],Fp hE]
  rw[Jz,hR,hQ];simp only[hc];refine⟨fun i=>?_,fun i=>?_⟩
  · rcases LQ R (m-(k+1)) (-c) qs qs.length i with e3|e3
    · rw[e3];exact((h1 i).wide hl hl0).mono (by rw[AD];omega)
    · rw[e3,Rat.neg_mul];exact(((h1 i).wide hl hl0).add (aw (Qb _)) Qc).mono (by rw[AD];omega)
  · rcases M3.af Q (m-(k+1)) c i with e3|e3
    · rw[e3];exact Qa
    · rw[e3];exact((h2 i).wide hl hl0).mono (by rw[AD];omega)
end
theorem ax:∀(n:Nat) (f:Nat→Nat),(∀i,i≤n→f i<n)→∃i j,i<j∧j≤n∧f i=f j:=by
 intro n;induction n with
 |zero=>intro f h;exact absurd (h 0 (Aa _)) (by omega)
 |succ n ih=>
  intro f h;by_cases hx:∃i,i≤n∧f i=f (n+1)
  · obtain⟨i,h1,h2⟩:=hx;exact⟨i,n+1,by omega,Aa _,h2⟩
  · have hx':∀i,i≤n→f i≠f (n+1):=fun i hi e=>hx ⟨i,hi,e⟩;obtain⟨i,j,h1,h2,h3⟩:=ih (fun i=>if f i=n then f (n+1)else f i) (fun i hi=>by
     have h4:=h i (by omega);have h5:=h (n+1) (Aa _);have h6:=hx' i hi;split<;>omega)
    refine⟨i,j,h1,by omega,?_⟩;have h4:=hx' i (by omega);have h5:=hx' j h2;split at h3<;>split at h3<;>omega
def enc(b:Nat):Nat→(Nat→Nat)→Nat
 |0,_=>0
 |M+1,d=>enc b M d+d M*b^M
theorem Nc{b:Nat}{M:Nat}{d:Nat→Nat}(h:∀k,k<M→d k<b):enc b M d<b^M:=by
 induction M with
 |zero=>simp[enc]
 |succ M ih=>
  have h1:=ih (fun k hk=>h k (by omega));have h2:=h M (by omega);have h3:(d M+1)*b^M≤b*b^M:=Aj _ h2;rw[enc,A2,Av (b^M) b];rw[AD,CC]at h3;omega
theorem ay{b:Nat}{M:Nat}{d d':Nat→Nat}(h:∀k,k<M→d k<b)(h':∀k,k<M→d' k<b)(e:enc b M d=enc b M d'):∀k,k<M→d k=d' k:=by
 induction M with
 |zero=>intro k hk;omega
 |succ M ih=>
  have l1:=Nc (fun k hk=>h k (by omega):∀k,k<M→d k<b);have l2:=Nc (fun k hk=>h' k (by omega):∀k,k<M→d' k<b);have hp:0<b^M:=by omega
  rw[enc,enc]at e;have e1:d M=d' M:=by
   have f1:(enc b M d+d M*b^M)/b^M=d M:=by rw[Nat.add_mul_div_right _ _ hp,Cg l1];omega
   have f2:(enc b M d'+d' M*b^M)/b^M=d' M:=by rw[Nat.add_mul_div_right _ _ hp,Cg l2];omega
   rw[←f1,←f2,e]
  intro k hk;by_cases hk2:k=M
  · rw[hk2];exact e1
  · exact ih (fun k hk=>h k (by omega)) (fun k hk=>h' k (by omega)) (by rw[e1]at e;omega) k (by omega)
def EM(b x j:Nat):Nat:=x/b^j%b
theorem az{b:Nat}(hb:0<b)(x j:Nat):EM b x j<b:=Ci _ hb
theorem QZ(b x:Nat):∀N,enc b N (EM b x)=x%b^N:=by
 intro N;induction N with
 |zero=>simp[enc,Nat.mod_one]
 |succ N ih=>rw[enc,ih,Nat.mod_pow_succ,Av (EM b x N)];rfl
def Y1:Nat→(Nat→Int)→Int
 |0,_=>0
 |n+1,f=>Y1 n f+f n
theorem Q3{n:Nat}{f g:Nat→Int}(h:∀k,k<n→f k=g k):Y1 n f=Y1 n g:=by
 induction n with
 |zero=>rfl
 |succ n ih=>rw[Y1,Y1,ih (fun k hk=>h k (by omega)),h n (by omega)]
theorem bA(n:Nat)(f g:Nat→Int):Y1 n (fun k=>f k-g k)=Y1 n f-Y1 n g:=by
 induction n with
 |zero=>rfl
 |succ n ih=>rw[Y1,Y1,Y1,ih];omega
theorem Nd{n:Nat}{f:Nat→Int}{C:Nat}(h:∀k,k<n→(f k).natAbs≤C):(Y1 n f).natAbs≤n*C:=by
 induction n with
 |zero=>simp[Y1]
 |succ n ih=>
  have h1:=ih (fun k hk=>h k (by omega));have h2:=h n (by omega);rw[Y1,AD,CC];have:=Int.natAbs_add_le (Y1 n f) (f n);omega
theorem bB(N A:Nat)(c:Nat→Nat→Int)(hc:∀k j,(c k j).natAbs≤A):
 ∃z:Nat→Int,(∃j,j<N+1∧z j≠0)∧(∀j,(z j).natAbs≤(2*(N+1)*A+1)^N)∧∀k,k<N→Y1 (N+1) (fun j=>c k j*z j)=0:=by
 obtain⟨B,hB⟩:=ex ((2*(N+1)*A+1)^N);have Qb:1≤B:=by rw[←hB];exact Fa (by omega)
 obtain⟨C,hC⟩:=ex ((N+1)*(A*B));have Qa:∀x j,EM (B+1) x j≤B:=fun x j=>by have:=az (b:=B+1) (by omega) x j;omega
 have hL:∀x k,(Y1 (N+1) (fun j=>c k j*(EM (B+1) x j:Int))).natAbs≤C:=fun x k=>by
  rw[←hC];refine Nd fun j _=>?_;rw[CT,Cc];exact CP (hc k j) (Qa x j)
 obtain⟨g,hg⟩:∃g:Nat→Nat→Nat,∀x k,(g x k:Int)=Y1 (N+1) (fun j=>c k j*(EM (B+1) x j:Int))+C∧g x k<2*C+1:=
  ⟨fun x k=>(Y1 (N+1) (fun j=>c k j*(EM (B+1) x j:Int))+C).toNat,fun x k=>by have:=hL x k;dsimp only;omega⟩
 have hcount:(2*C+1)^N<(B+1)^(N+1):=by
  have h1:2*C+1≤(2*(N+1)*A+1)*B:=by
   have e1:2*C=2*(N+1)*A*B:=by rw[←hC];simp only[AF]
   rw[e1,AD,CC];exact Nat.add_le_add_left Qb _
  have h2:(2*C+1)^N≤B^(N+1):=by
   refine An (C5 h1 N) ?_;rw[Nat.mul_pow,hB,A2,Av];exact Aa _
  exact Cv h2 (Nat.pow_lt_pow_left (by omega) (by omega))
 obtain⟨x,y,h1,h2,h3⟩:=ax ((2*C+1)^N) (fun x=>enc (2*C+1) N (g x)) (fun x _=>Nc fun k _=>(hg x k).2);have h4:=ay (fun k _=>(hg x k).2) (fun k _=>(hg y k).2) h3;refine⟨fun j=>(EM (B+1) x j:Int)-(EM (B+1) y j:Int),?_,fun j=>?_,fun k hk=>?_⟩
 · by_cases hz:∃j,j<N+1∧(EM (B+1) x j:Int)-(EM (B+1) y j:Int)≠0
   · exact hz
   · exfalso
     have h5:∀j,j<N+1→EM (B+1) x j=EM (B+1) y j:=fun j hj=>by
      by_cases e:EM (B+1) x j=EM (B+1) y j
      · exact e
      · exact absurd ⟨j,hj,by omega⟩ hz
     have h6:∀M,M≤N+1→enc (B+1) M (EM (B+1) x)=enc (B+1) M (EM (B+1) y):=fun M=>by
      induction M with
      |zero=>intro _;rfl
      |succ M ih=>intro hM;rw[enc,enc,ih (by omega),h5 M (by omega)]
     have h7:=h6 (N+1) (Aa _);rw[QZ,QZ,Cq (by omega),Cq (by omega)]at h7;omega
 · have:=Qa x j;have:=Qa y j;dsimp only;omega
 · have h8:=h4 k hk;have h9:=(hg x k).1;have h10:=(hg y k).1;rw[show(fun j=>c k j*((EM (B+1) x j:Int)-(EM (B+1) y j:Int)))=(fun j=>c k j*(EM (B+1) x j:Int)-c k j*(EM (B+1) y j:Int))from funext fun j=>Int.mul_sub _ _ _,bA];omega
theorem bC(p q:List Rat):(Ym p q).length≤max p.length q.length:=XO (XA _ _) fun i hi=>by rw[L1,J8 (by omega),J8 (by omega),Rat.sub_self]
def DU(c:Rat)(p:List Rat):List Rat:=Jc (YS c p)
theorem JP(c:Rat)(p:List Rat):Jc (DU c p)=DU c p:=JX _
theorem XP(c:Rat)(p:List Rat)(i:Nat):cf (DU c p) i=cf p i*c:=by unfold DU;rw[J0,II]
theorem JH(c:Rat)(p:List Rat)(x:Rat):ev (DU c p) x=ev p x*c:=by unfold DU;rw[Xt,Xz]
theorem Gu{a b:Rat}(ha:a≠0)(hb:b≠0):a*b≠0:=fun h=>by
 rcases Ch.1 h with h|h
 · exact ha h
 · exact hb h
theorem bD{p:List Rat}{n:Nat}(h:cf p n≠0):n<p.length:=by
 by_cases h1:n<p.length
 · exact h1
 · exact absurd (J8 (by omega)) h
theorem Yg{c:Rat}(hc:c≠0){p:List Rat}(hp:Jc p=p):(DU c p).length=p.length:=by
 refine Nat.le_antisymm (XO (JP _ _) fun i hi=>by rw[XP,J8 hi,Cy]) ?_;by_cases h0:p=[]
 · rw[h0];exact AH _
 · have h1:=Jq hp h0;have h2:0<p.length:=Af.2 h0;have h3:=bD (p:=DU c p) (n:=p.length-1) (by rw[XP];exact Gu h1 hc);omega
theorem KU(c d:Rat)(p:List Rat):DU c (DU d p)=DU (d*c) p:=XH (JP _ _) (JP _ _) fun x=>by rw[JH,JH,JH];grind
theorem IB{p:List Rat}(hp:Jc p=p):DU 1 p=p:=XH (JP _ _) hp fun x=>by rw[JH];grind
theorem bE(c:Rat):DU c []=[]:=rfl
theorem KV{c:Rat}(hc:c≠0){p:List Rat}(hp:Jc p=p)(h0:p≠[]):DU c p≠[]:=fun h=>by
 have:=Yg hc hp;rw[h]at this;exact h0 (AE.1 this.symm)
theorem JD{p q:List Rat}(hp:Jc p=p)(hq:Jc q=q)(hp0:p≠[])(hq0:q≠[]):(Jn p q).length=p.length+q.length-1:=XV hp hq hp0 hq0
theorem LW{p:List Rat}(h:p.length=0):p=[]:=AE.1 h
theorem LX{p q u v:List Rat}(hq:Jc q=q)(hq0:q≠[])(hu:Jc u=u)(hv:Jc v=v)(lv:v.length<q.length)(h:∀x,ev p x=ev q x*ev u x+ev v x):u=Jv p q∧v=JE p q:=by
 obtain⟨h1,h2,h3,h4⟩:=YL p q hq hq0;exact SJ hq hq0 hu h3 hv h4 lv h2 (fun x=>by rw[←h x,h1 x])
theorem LY{c d:Rat}(hd:d≠0)(p q:List Rat)(hq:Jc q=q)(hq0:q≠[]):Jv (DU c p) (DU d q)=DU (c/d) (Jv p q)∧JE (DU c p) (DU d q)=DU c (JE p q):=by
 obtain⟨h1,h2,h3,h4⟩:=YL p q hq hq0;have h:=LX (p:=DU c p) (JP d q) (KV hd hq hq0) (JP (c/d) (Jv p q)) (JP c (JE p q)) (by
  rw[Yg hd hq];exact Cv (XO (JP _ _) fun i hi=>by rw[XP,J8 hi,Cy]) h2) (fun x=>by
  rw[JH,JH,JH,JH,h1 x]
  have:d*(c/d)=c:=by rw[CH];exact Aq hd
  grind)
 exact⟨h.1.symm,h.2.symm⟩
def Q4:Nat→List Rat→List Rat→List Rat→List Rat→Prop
 |0,p,q,a,b=>p=a∧q=b
 |n+1,p,q,a,b=>∃c:Rat,q≠[]∧c≠0∧Q4 n q (DU c (JE p q)) a b
def Eu(p q a b:List Rat):Prop:=∃n,Q4 n p q a b
theorem Eu.base(p q:List Rat):Eu p q p q:=⟨0,rfl,rfl⟩
theorem Eu.step(p q:List Rat)(c:Rat)(a b:List Rat)(h:q≠[])(k:c≠0):Eu q (DU c (JE p q)) a b→Eu p q a b:=fun⟨n,e⟩=>⟨n+1,c,h,k,e⟩
theorem Eu.ind{motive:∀p q a b:List Rat,Eu p q a b→Prop}(base:∀p q,motive p q p q (.base p q))
(step:∀p q c a b (h:q≠[]) (k:c≠0) (e:Eu q (DU c (JE p q)) a b),motive q (DU c (JE p q)) a b e→motive p q a b (.step p q c a b h k e))
{p q a b:List Rat}(t:Eu p q a b):motive p q a b t:=by
 obtain⟨n,e⟩:=t;induction n generalizing p q with
 |zero=>obtain⟨rfl,rfl⟩:=e;exact base _ _
 |succ n ih=>obtain⟨c,h,k,e⟩:=e;exact step p q c a b h k ⟨n,e⟩ (ih e)
theorem Eu.tail{p q a b:List Rat}(h:Eu p q a b){c:Rat}(hb:b≠[])(hc:c≠0):Eu p q b (DU c (JE a b)):=by
 induction h using Eu.ind with
 |base p q=>exact .step p q c _ _ hb hc (.base _ _)
 |step p q d a b hq hd _ ih=>exact .step p q d _ _ hq hd (ih hb)
theorem Xh(p q:List Rat):Jc (JE p q)=JE p q:=JX _
theorem YY(p q:List Rat):Jc (Jv p q)=Jv p q:=JX _
theorem Eu.len{p q a b:List Rat}(h:Eu p q a b):Jc q=q→b.length≤q.length:=by
 induction h using Eu.ind with
 |base p q=>exact fun _=>Aa _
 |step p q d a b hq hd _ ih=>
  intro h2;have h3:=ih (JP _ _);rw[Yg hd (Xh _ _)]at h3;have:=(YL p q h2 hq).2.1;omega
theorem bF{p q a b:List Rat}(h:Eu p q a b):Jc p=p→Jc q=q→b≠[]→∀u v T:List Rat,Jc u=u→Jc v=v→Jc T=T→u.length+b.length≤q.length+1→v.length+b.length≤p.length+1→(u≠[]∨v≠[])→T.length<b.length→
 (∀x,ev T x=ev u x*ev p x+ev v x*ev q x)→∃c:Rat,c≠0∧T=DU c (JE a b):=by
 induction h using Eu.ind with
 |base p q=>
  intro hp hq hq0 u v T hu hv hT lu lv h0 lT hev;have Qi:u.length≤1:=by omega
  obtain⟨h1,h2,h3,h4⟩:=YL p q hq hq0;match u,Qi,h0 with
  |[],_,h0=>
   have Qb:v≠[]:=by
    rcases h0 with h0|h0
    · exact absurd rfl h0
    · exact h0
   have e:T=Jn v q:=XH hT (J3 _ _) fun x=>by rw[Jh,hev x];simp[ev];grind
   have h5:=JD hv hq Qb hq0;have h6:0<v.length:=Af.2 Qb;rw[e]at lT;omega
  |[c],_,_=>
   have hc:c≠0:=fun e=>by
    have:=Jq hu (by simp);simp[Yf]at this;exact this e
   refine⟨c,hc,?_⟩;have Qd:∀x,ev (DU c p) x=ev q x*ev (DU (-1) v) x+ev T x:=fun x=>by
    rw[JH,JH,hev x];simp[ev];grind
   have h7:=(LX hq hq0 (JP _ _) hT lT Qd).2;have h8:=(LY (c:=c) (d:=1) (by decide) p q hq hq0).2;rw[IB hq]at h8;rw[h7,h8]
 |step p q d a b hq0 hd hE ih=>
  intro hp hq hb u v T hu hv hT lu lv h0 lT hev;obtain⟨h1,h2,h3,h4⟩:=YL p q hq hq0;obtain⟨r,hr⟩:=ex (DU d (JE p q));rw[hr]at hE ih;have Qc:Jc r=r:=by rw[←hr];exact JP _ _
  have Qj:b.length≤r.length:=hE.len Qc;have Qh:r≠[]:=fun e=>by
   rw[e,Au]at Qj;omega
  have Qe:d*(1/d)=1:=by rw[CH];exact Aq hd
  have Qa:(1/d)≠0:=fun e=>by rw[e,Rat.mul_zero]at Qe;exact absurd Qe (by decide)
  have Qg:∀x,ev p x=ev q x*ev (Jv p q) x+ev r x*(1/d):=fun x=>by rw[h1 x,←hr,JH];grind
  have Qf:∀x,ev T x=ev (Y8 (Jn u (Jv p q)) v) x*ev q x+ev (DU (1/d) u) x*ev r x:=fun x=>by
   rw[hev x,Qg x,Ys,Jh,JH];grind
  have lv':(DU (1/d) u).length+b.length≤q.length+1:=by rw[Yg Qa hu];exact lu
  refine ih hq Qc hb (Y8 (Jn u (Jv p q)) v) (DU (1/d) u) T (Xk _ _) (JP _ _) hT ?_ lv' ?_ lT Qf
  · by_cases hn:Y8 (Jn u (Jv p q)) v=[]
    · rw[hn];simp;omega
    · have l1:=JD (Xk _ _) hq hn hq0;have e:Jn (Y8 (Jn u (Jv p q)) v) q=Ym T (Jn (DU (1/d) u) r):=XH (J3 _ _) (XA _ _) fun x=>by rw[Jh,Y3,Jh,Qf x];grind
      have l2:=bC T (Jn (DU (1/d) u) r);rw[←e,l1]at l2;by_cases hu0:u=[]
      · have e0:Jn (DU (1/d) u) r=[]:=by rw[hu0];rfl
        rw[e0]at l2;simp at l2;omega
      · have l4:=JD (JP _ _) Qc (KV Qa hu hu0) Qh;rw[Yg Qa hu]at l4;omega
  · by_cases hu0:u=[]
    · left
      have Qb:v≠[]:=by
       rcases h0 with h0|h0
       · exact absurd hu0 h0
       · exact h0
      have e:Y8 (Jn u (Jv p q)) v=v:=XH (Xk _ _) hv fun x=>by rw[Ys,Jh,hu0];simp[ev];grind
      rw[e];exact Qb
    · right;exact KV Qa hu hu0
def Ln(K:Nat)(r:List Rat):Prop:=∃c:Rat,c≠0∧∀i,∃z:Int,Sm K z∧cf r i*c=(z:Rat)
theorem bG(s t:Nat)(f:Nat→Int):Y1 (s+t) f=Y1 s f+Y1 t (fun j=>f (s+j)):=by
 induction t with
 |zero=>simp[Y1]
 |succ t ih=>rw[←Fq,Y1,Y1,ih];omega
theorem Q5{n:Nat}{f:Nat→Rat}{g:Nat→Int}(h:∀k,k<n→f k=(g k:Rat)):Dn n f=((Y1 n g:Int):Rat):=by
 induction n with
 |zero=>rfl
 |succ n ih=>rw[Dn,Y1,ih (fun k hk=>h k (by omega)),h n (by omega),Rat.intCast_add]
theorem Q6(p q:List Rat){n:Nat}(h:p.length≤n)(k:Nat):cf (Jn p q) k=Dn n (fun i=>if i≤k then cf p i*cf q (k-i)else 0):=by
 unfold Jn;rw[J0,IJ,←SF p q h];rfl
theorem Ln.sc{K:Nat}{r:List Rat}(h:Ln K r){d:Rat}(hd:d≠0):Ln K (DU d r):=by
 obtain⟨c,hc,hz⟩:=h;have e:d*(1/d)=1:=by rw[CH];exact Aq hd
 refine⟨(1/d)*c,Gu (fun e0=>by rw[e0,Rat.mul_zero]at e;exact absurd e (by decide)) hc,fun i=>?_⟩;obtain⟨z,h1,h2⟩:=hz i;exact⟨z,h1,by rw[XP,←h2];grind⟩
theorem Ln.mono{K L:Nat}{r:List Rat}(h:Ln K r)(hk:K≤L):Ln L r:=by
 obtain⟨c,hc,hz⟩:=h;exact⟨c,hc,fun i=>by obtain⟨z,h1,h2⟩:=hz i;exact⟨z,h1.mono hk,h2⟩⟩
theorem bH{K N A B:Nat}(hA:A=O^K)(hN:N+1≤1000000000)(hB:B=(2*(N+1)*A+1)^N):(N+1)*(A*B)<O^((K+1)*(N+1)):=by
 have Qa:1≤A:=by rw[hA];exact Fa KF
 have h1:2*(N+1)*A+1≤O^(K+1):=by
  have h2:(2*(N+1)+1)*A≤O*A:=Aj _ (by unfold O;omega);rw[A2,←hA,Av A];rw[AD,CC]at h2;exact An (Nat.add_le_add_left Qa _) h2
 have h3:(2*(N+1)*A+1)^(N+1)≤O^((K+1)*(N+1)):=by rw[Nat.pow_mul];exact C5 h1 _
 refine AP ?_ h3;have Qb:1≤B:=by rw[hB];exact Fa (by omega)
 rw[A2,←hB,←AF,Av B];refine(Nat.mul_lt_mul_right Qb).2 ?_
 have:(N+1)*A≤2*(N+1)*A:=Aj _ (by omega)
 omega
theorem Q7{K:Nat}{p q a b:List Rat}(hp:Jc p=p)(hq:Jc q=q)(h1:Ln K p)(h2:Ln K q)(hl:p.length+q.length≤1000000000)(hle:q.length≤p.length)(h:Eu p q a b)(hb:b≠[]):Ln ((K+1)*(p.length+q.length)) (JE a b):=by
 obtain⟨cp,hcp,hap⟩:=h1;obtain⟨cq,hcq,haq⟩:=h2;obtain⟨α,hα⟩:=Classical.axiomOfChoice hap;obtain⟨β,hβ⟩:=Classical.axiomOfChoice haq;have hbl:=h.len hq;have hb0:0<b.length:=Af.2 hb;have Qf:q≠[]:=fun e=>by
  have e1:q.length=0:=by rw[e];rfl
  omega
 have Qk:p≠[]:=fun e=>by
  have e1:p.length=0:=by rw[e];rfl
  omega
 obtain⟨s,hs⟩:=ex (q.length+1-b.length);obtain⟨t,ht⟩:=ex (p.length+1-b.length);obtain⟨N,hN⟩:=ex (s+t-1);obtain⟨A,hA⟩:=ex (O^K);have hαA:∀i,(α i).natAbs≤A:=fun i=>by have:=(hα i).1;unfold Sm at this;omega
 have hβA:∀i,(β i).natAbs≤A:=fun i=>by have:=(hβ i).1;unfold Sm at this;omega
 have Qe:s+t=N+1:=by omega
 obtain⟨z,⟨j0,hj0,hz0⟩,hzB,hzE⟩:=bB N A (fun k j=>if j<s then(if j≤b.length-1+k then α (b.length-1+k-j)else 0)else(if j-s≤b.length-1+k then β (b.length-1+k-(j-s))else 0)) (fun k j=>by
  split
  · split
    · exact hαA _
    · simp
  · split
    · exact hβA _
    · simp)
 obtain⟨B,hB⟩:=ex ((2*(N+1)*A+1)^N);rw[hB]at hzB;obtain⟨u,hu⟩:=ex (Jc ((List.range s).map fun j=>(z j:Rat)*cp));obtain⟨v,hv⟩:=ex (Jc ((List.range t).map fun j=>(z (s+j):Rat)*cq));have Qc:Jc u=u:=by rw[←hu];exact JX _
 have Qa:Jc v=v:=by rw[←hv];exact JX _
 have Qb:∀j,cf u j=if j<s then(z j:Rat)*cp else 0:=fun j=>by rw[←hu,J0,Lt]
 have Qd:∀j,cf v j=if j<t then(z (s+j):Rat)*cq else 0:=fun j=>by rw[←hv,J0,Lt]
 have Qg:u.length≤s:=XO Qc fun i hi=>by rw[Qb,BE (by omega)]
 have Ql:v.length≤t:=XO Qa fun i hi=>by rw[Qd,BE (by omega)]
 obtain⟨Z,hZ⟩:∃Z:Nat→Int,∀i,Z i=Y1 s (fun j=>if j≤i then z j*α (i-j)else 0)+Y1 t (fun j=>if j≤i then z (s+j)*β (i-j)else 0):=⟨_,fun _=>rfl⟩;have hT:∀i,cf (Y8 (Jn u p) (Jn v q)) i=(Z i:Rat):=fun i=>by
  rw[I4,Q6 u p Qg,Q6 v q Ql,hZ,Rat.intCast_add];congr 1
  · refine Q5 fun j hj=>?_;split
    · rw[Qb,BH hj,CF,←(hα (i-j)).2];grind
    · rfl
  · refine Q5 fun j hj=>?_;split
    · rw[Qd,BH hj,CF,←(hβ (i-j)).2];grind
    · rfl
 have Qj:∀i,(Z i).natAbs≤(N+1)*(A*B):=fun i=>by
  have e1:(Y1 s (fun j=>if j≤i then z j*α (i-j)else 0)).natAbs≤s*(A*B):=Nd fun j _=>by
   split
   · rw[CT,Av];exact CP (hαA _) (hzB _)
   · simp
  have e2:(Y1 t (fun j=>if j≤i then z (s+j)*β (i-j)else 0)).natAbs≤t*(A*B):=Nd fun j _=>by
   split
   · rw[CT,Av];exact CP (hβA _) (hzB _)
   · simp
  have e3:=Int.natAbs_add_le (Y1 s (fun j=>if j≤i then z j*α (i-j)else 0)) (Y1 t (fun j=>if j≤i then z (s+j)*β (i-j)else 0));rw[←hZ i]at e3;rw[←Qe,AD];omega
 have Qm:(Y8 (Jn u p) (Jn v q)).length<b.length:=by
  have:(Y8 (Jn u p) (Jn v q)).length≤b.length-1:=XO (Xk _ _) fun i hi=>by
   by_cases hi2:i<b.length-1+N
   · rw[hT];have e:=hzE (i-(b.length-1)) (by omega);rw[←Qe,bG]at e;have e1:Y1 s (fun j=>if j≤i then z j*α (i-j)else 0)=Y1 s (fun j=>(if j<s then(if j≤b.length-1+(i-(b.length-1))then α (b.length-1+(i-(b.length-1))-j)else 0)else(if j-s≤b.length-1+(i-(b.length-1))then β (b.length-1+(i-(b.length-1))-(j-s))else 0))*z j):=Q3 fun j hj=>by
      rw[BH hj,show b.length-1+(i-(b.length-1))=i from by omega];split
      · exact Fo _ _
      · simp
     have e2:Y1 t (fun j=>if j≤i then z (s+j)*β (i-j)else 0)=Y1 t (fun j=>(if s+j<s then(if s+j≤b.length-1+(i-(b.length-1))then α (b.length-1+(i-(b.length-1))-(s+j))else 0)else(if s+j-s≤b.length-1+(i-(b.length-1))then β (b.length-1+(i-(b.length-1))-(s+j-s))else 0))*z (s+j)):=Q3 fun j hj=>by
      rw[BE (show ¬s+j<s by omega),show b.length-1+(i-(b.length-1))=i from by omega,show s+j-s=j from by omega];split
      · exact Fo _ _
      · simp
     rw[hZ,e1,e2,e];rfl
   · refine J8 ?_;have l1:=L2 (Jn u p) (Jn v q);by_cases hu0:u=[]
     · have e0:Jn u p=[]:=by rw[hu0];rfl
       by_cases hv0:v=[]
       · have e1:Jn v q=[]:=by rw[hv0];rfl
         rw[e0,e1];exact AH _
       · have l3:=JD Qa hq hv0 Qf;rw[e0,Au]at l1;rw[e0];omega
     · have l2:=JD Qc hp hu0 Qk;by_cases hv0:v=[]
       · have e1:Jn v q=[]:=by rw[hv0];rfl
         rw[e1,Au]at l1;rw[e1];omega
       · have l3:=JD Qa hq hv0 Qf;omega
  omega
 have Qh:u≠[]∨v≠[]:=by
  by_cases hjs:j0<s
  · left
    intro e;have:=Qb j0;rw[e,YD,BH hjs]at this;exact Gu (by exact_mod_cast hz0) hcp this.symm
  · right
    intro e;have:=Qd (j0-s);rw[e,YD,BH (by omega),show s+(j0-s)=j0 from by omega]at this;exact Gu (by exact_mod_cast hz0) hcq this.symm
 obtain⟨c,hc,hTc⟩:=bF h hp hq hb u v _ Qc Qa (Xk _ _) (by omega) (by omega) Qh Qm (fun x=>by rw[Ys,Jh,Jh]);refine⟨c,hc,fun i=>⟨Z i,?_,by rw[←XP,←hTc,hT]⟩⟩;have Qi:=bH hA.symm (by omega) hB.symm;have h5:(K+1)*(N+1)≤(K+1)*(p.length+q.length):=Ar _ (by omega);unfold Sm;exact Cv (Qj i) (AP Qi (AJ KF h5))
theorem bI{p q:List Rat}(hp:Jc p=p)(hq:Jc q=q)(h:p.length<q.length):JE p q=p:=
 ((LX (p:=p) hq (fun e=>by rw[e]at h;simp at h) (u:=[]) (v:=p) rfl hp h (fun x=>by simp[ev];grind)).2).symm
theorem bJ{K:Nat}{p q a b:List Rat}(hp:Jc p=p)(hq:Jc q=q)(h1:Ln K p)(h2:Ln K q)(hl:p.length+q.length≤1000000000)(h:Eu p q a b)(hb:b≠[]):Ln ((K+1)*(p.length+q.length)) (JE a b):=by
 by_cases hle:q.length≤p.length
 · exact Q7 hp hq h1 h2 hl hle h hb
 · have hs:=bI hp hq (by omega);match h with
   |⟨0,e1,e2⟩=>subst e1;subst e2;rw[hs];exact h1.mono (by
    have:(K+1)*1≤(K+1)*(p.length+q.length):=Ar _ (by omega)
    omega)
   |⟨n+1,c,hq0,hc,hE⟩=>
    have hE:Eu q (DU c (JE p q)) a b:=⟨n,hE⟩;rw[hs]at hE;have Qa:=Yg hc hp;have h3:=Q7 hq (JP c p) h2 (h1.sc hc) (by omega) (by omega) hE hb;rwa[Qa,Fv q.length]at h3
theorem KW{c:Rat}(hc:c≠0):1/c≠0:=fun e=>by
 have h:(1/c)*c=1:=Aq hc;rw[e,Cy]at h;exact absurd h (by decide)
def JS(p:List Rat):List Rat:=DU (1/cf p (p.length-1)) p
theorem Ip(p:List Rat):Jc (JS p)=JS p:=JP _ _
theorem KX{c:Rat}(hc:c≠0){p:List Rat}(hp:Jc p=p):JS (DU c p)=JS p:=by
 by_cases h0:p=[]
 · subst h0;rfl
 · unfold JS;rw[Yg hc hp,XP,KU];have hl:=Jq hp h0;congr 1;obtain⟨l,e⟩:=ex (cf p (p.length-1));rw[e]at hl ⊢;have h1:(1/(l*c))*(l*c)=1:=Aq (Gu hl hc);grind
theorem LZ{p:List Rat}(hp:Jc p=p)(h0:p≠[]):JS p≠[]:=KV (KW (Jq hp h0)) hp h0
theorem bK{p:List Rat}(hp:Jc p=p):(JS p).length=p.length:=by
 by_cases h0:p=[]
 · subst h0;rfl
 · exact Yg (KW (Jq hp h0)) hp
theorem Q8{p:List Rat}(hp:Jc p=p)(h0:p≠[]):cf (JS p) ((JS p).length-1)=1:=by
 rw[bK hp];unfold JS;rw[XP,CH];exact Aq (Jq hp h0)
theorem KY{p:List Rat}(hp:Jc p=p):JS (JS p)=JS p:=by
 by_cases h0:p=[]
 · subst h0;rfl
 · exact KX (KW (Jq hp h0)) hp
def EA:Nat→List Rat→List Rat→List Rat
 |0,p,_=>JS p
 |n+1,p,q=>if q=[]then JS p else EA n q (JE p q)
def JK(p q:List Rat):List Rat:=EA q.length p q
theorem bL:∀(n m:Nat) (p q:List Rat),Jc q=q→q.length≤n→q.length≤m→EA n p q=EA m p q:=by
 intro n;induction n with
 |zero=>
  intro m p q _ h _;have hq:q=[]:=LW (by omega);subst hq;cases m with
  |zero=>rfl
  |succ m=>simp[EA]
 |succ n ih=>
  intro m p q hq h h2;by_cases h0:q=[]
  · subst h0;cases m with
    |zero=>simp[EA]
    |succ m=>simp[EA]
  · have hl:0<q.length:=Af.2 h0;cases m with
    |zero=>omega
    |succ m=>
     have h3:=(YL p q hq h0).2.1;simp only[EA,BE h0];exact ih m q (JE p q) (Xh _ _) (by omega) (by omega)
theorem bM{p q:List Rat}(hq:Jc q=q)(h0:q≠[]):JK p q=JK q (JE p q):=by
 have h3:=(YL p q hq h0).2.1;have hl:0<q.length:=Af.2 h0;unfold JK;obtain⟨n,hn⟩:∃n,q.length=n+1:=⟨q.length-1,by omega⟩;rw[hn,EA,BE h0];exact bL _ _ _ _ (Xh _ _) (by omega) (Aa _)
theorem bN:∀(n:Nat) (c d:Rat) (p q:List Rat),c≠0→d≠0→Jc p=p→Jc q=q→EA n (DU c p) (DU d q)=EA n p q:=by
 intro n;induction n with
 |zero=>intro c d p q hc _ hp _;exact KX hc hp
 |succ n ih=>
  intro c d p q hc hd hp hq;by_cases h0:q=[]
  · subst h0;simp only[EA,bE,BH];exact KX hc hp
  · simp only[EA,BE h0,BE (KV hd hq h0)];rw[(LY hd p q hq h0).2];exact ih d c q (JE p q) hd hc hq (Xh _ _)
theorem Q9{c d:Rat}{p q:List Rat}(hc:c≠0)(hd:d≠0)(hp:Jc p=p)(hq:Jc q=q):JK (DU c p) (DU d q)=JK p q:=by
 unfold JK;rw[Yg hd hq];exact bN _ _ _ _ _ hc hd hp hq
theorem Eu.gcd{p q a b:List Rat}(h:Eu p q a b):Jc p=p→Jc q=q→JK p q=JK a b:=by
 induction h using Eu.ind with
 |base p q=>exact fun _ _=>rfl
 |step p q c a b hq0 hc _ ih=>
  intro hp hq;rw[←ih hq (JP _ _),bM hq hq0];have h1:=Q9 (c:=1) (by decide) hc hq (Xh p q);rw[IB hq]at h1;exact h1.symm
theorem bO:∀(n:Nat) (p q:List Rat),Jc (EA n p q)=EA n p q:=by
 intro n;induction n with
 |zero=>intro p q;exact Ip _
 |succ n ih=>
  intro p q;rw[EA];split
  · exact Ip _
  · exact ih _ _
theorem YE(p q:List Rat):Jc (JK p q)=JK p q:=bO _ _ _
theorem La(c:Rat):c*(c.den:Rat)=(c.num:Rat):=by
 have h0:((c.den:Int):Rat)≠0:=by exact_mod_cast c.den_nz
 have h1:=CI c;rw[CO]at h1;have h2:(c.num:Rat)/((c.den:Int):Rat)*((c.den:Int):Rat)=c.num:=Aq h0;rw[h1,Cm]at h2;exact h2
theorem Nf{a b c:Int}(h:a∣b*c)(hg:Nat.gcd a.natAbs c.natAbs=1):a∣b:=by
 have h1:=Int.natAbs_dvd_natAbs.2 h;rw[CT]at h1;exact Int.natAbs_dvd_natAbs.1 (Nat.Coprime.dvd_of_dvd_mul_right hg h1)
theorem bP{c:Rat}{D n:Int}(h:c*(D:Rat)=(n:Rat)):(c.den:Int)∣D∧c.num*D=n*c.den:=by
 have h1:c*(c.den:Rat)=(c.num:Rat):=La c;have h2:((c.num*D:Int):Rat)=((n*(c.den:Int):Int):Rat):=by
  rw[CF,CF,←h1,←h];show c*(c.den:Rat)*(D:Rat)=c*(D:Rat)*((c.den:Int):Rat);rw[Cm];grind
 have h3:c.num*D=n*c.den:=Rat.intCast_inj.1 h2;refine⟨?_,h3⟩;have h4:(c.den:Int)∣D*c.num:=⟨n,by rw[Fo D,h3,Fo]⟩;refine Nf h4 ?_;show Nat.gcd (c.den:Int).natAbs c.num.natAbs=1;rw[Cc,C6];exact c.reduced
theorem bQ{p:List Rat}{L G:Int}(hL1:∀i,((cf p i).den:Int)∣L)(hL2:∀u:Int,(∀i,((cf p i).den:Int)∣u)→L∣u)(hG1:∀i,G∣(cf p i).num)(hG2:∀v:Int,(∀i,v∣(cf p i).num)→v∣G)(hG0:G≠0){K:Nat}(h:Ln K p):
 ∀i,∃z:Int,Sm K z∧cf p i*((L:Rat)/(G:Rat))=(z:Rat):=by
 obtain⟨c,hc,hz⟩:=h;have Qg:c.num≠0:=fun e=>hc (FG.1 e);have Qe:(c.den:Int)≠0:=by have:=c.den_nz;omega
 have Qa:∀i,∃z:Int,Sm K z∧(cf p i).num*c.num=z*((cf p i).den*c.den):=fun i=>by
  obtain⟨z,h1,h2⟩:=hz i;refine⟨z,h1,?_⟩;have e1:c*(c.den:Rat)=(c.num:Rat):=La c;have e2:cf p i*((cf p i).den:Rat)=((cf p i).num:Rat):=La _;have e3:(((cf p i).num*c.num:Int):Rat)=((z*(((cf p i).den:Int)*(c.den:Int)):Int):Rat):=by
   rw[CF,CF,CF,Cm,Cm,←e1,←e2,←h2];grind
  exact Rat.intCast_inj.1 e3
 have hu:L∣c.num:=hL2 _ fun i=>by
  obtain⟨z,_,e⟩:=Qa i;have h4:((cf p i).den:Int)∣(cf p i).num*c.num:=⟨z*c.den,by rw[e,Int.mul_left_comm]⟩;rw[Fo]at h4;refine Nf h4 ?_;show Nat.gcd ((cf p i).den:Int).natAbs (cf p i).num.natAbs=1;rw[Cc,C6];exact(cf p i).reduced
 have hv:(c.den:Int)∣G:=hG2 _ fun i=>by
  obtain⟨z,_,e⟩:=Qa i;have h4:(c.den:Int)∣(cf p i).num*c.num:=⟨z*(cf p i).den,by rw[e,←Fs,Fo]⟩;refine Nf h4 ?_;show Nat.gcd (c.den:Int).natAbs c.num.natAbs=1;rw[Cc,C6];exact c.reduced
 obtain⟨u,hu⟩:=hu;obtain⟨v,hv⟩:=hv;have Qh:u≠0:=fun e=>Qg (by rw[hu,e,Int.mul_zero]);have Qc:v≠0:=fun e=>hG0 (by rw[hv,e,Int.mul_zero]);intro i;obtain⟨e,he⟩:=hL1 i;obtain⟨m,hm⟩:=hG1 i;obtain⟨z,h1,h2⟩:=Qa i;have hd:((cf p i).den:Int)≠0:=by have:=(cf p i).den_nz;omega
 have Qf:z=m*e*(u*v):=by
  have h3:z*(((cf p i).den:Int)*c.den)=m*e*(u*v)*(((cf p i).den:Int)*c.den):=by
   rw[←h2,hm,hu,hv,he];generalize ((cf p i).den:Int)=d;generalize (c.den:Int)=f;grind
  exact Int.eq_of_mul_eq_mul_right (A7 hd Qe) h3
 refine⟨m*e,h1.le ?_,?_⟩
 · rw[Qf,CT (m*e)]
   have:0<(u*v).natAbs:=Int.natAbs_pos.2 (A7 Qh Qc)
   exact CB _ this
 · have Qb:(G:Rat)≠0:=by exact_mod_cast hG0
   have e2:cf p i*((cf p i).den:Rat)=((cf p i).num:Rat):=La _;rw[hm,CF]at e2;have Qd:(L:Rat)=((cf p i).den:Rat)*(e:Rat):=by rw[he,CF,Cm]
   have h5:(L:Rat)/(G:Rat)*(G:Rat)=L:=Aq Qb;have h6:(cf p i*((L:Rat)/(G:Rat))-((m*e:Int):Rat))*(G:Rat)=0:=by
    rw[CF];generalize (L:Rat)/(G:Rat)=f at h5 ⊢;rw[Qd]at h5;generalize ((cf p i).den:Rat)=d at e2 h5;grind
   rcases Ch.1 h6 with h7|h7
   · grind
   · exact absurd h7 Qb
def Y7(p:List Rat):Nat→Nat
 |0=>1
 |n+1=>Nat.lcm (Y7 p n) (cf p n).den
def YP(p:List Rat):Nat→Nat
 |0=>0
 |n+1=>Nat.gcd (YP p n) (cf p n).num.natAbs
theorem RA(p:List Rat):∀n,0<Y7 p n:=by
 intro n;induction n with
 |zero=>exact Nat.one_pos
 |succ n ih=>exact Nat.lcm_pos ih (cf p n).den_pos
theorem bS(p:List Rat):∀n i,i<n→(cf p i).den∣Y7 p n:=by
 intro n;induction n with
 |zero=>intro i h;omega
 |succ n ih=>
  intro i h;rw[Y7];by_cases e:i=n
  · subst e;exact Nat.dvd_lcm_right _ _
  · exact Nat.dvd_trans (ih i (by omega)) (Nat.dvd_lcm_left _ _)
theorem RB(p:List Rat)(u:Nat)(h:∀i,(cf p i).den∣u):∀n,Y7 p n∣u:=by
 intro n;induction n with
 |zero=>exact Nat.one_dvd _
 |succ n ih=>exact Nat.lcm_dvd ih (h n)
theorem RC(p:List Rat):∀n i,i<n→YP p n∣(cf p i).num.natAbs:=by
 intro n;induction n with
 |zero=>intro i h;omega
 |succ n ih=>
  intro i h;rw[YP];by_cases e:i=n
  · subst e;exact CZ _ _
  · exact Nat.dvd_trans (FF _ _) (ih i (by omega))
theorem bT(p:List Rat)(v:Nat)(h:∀i,v∣(cf p i).num.natAbs):∀n,v∣YP p n:=by
 intro n;induction n with
 |zero=>exact Nat.dvd_zero _
 |succ n ih=>exact Nat.dvd_gcd ih (h n)
theorem RD{D:Int}{K:Nat}{c:Rat}(hD:D≠0)(h:CD D K c):∃n:Int,Sm K n∧c*(D:Rat)=(n:Rat):=by
 obtain⟨n,rfl,h⟩:=h;refine⟨n,h,?_⟩;have Qa:(D:Rat)≠0:=by exact_mod_cast hD
 rw[CO];exact Aq Qa
theorem Ng{D:Int}{K:Nat}{c:Rat}{n:Int}(hD:D≠0)(hn:Sm K n)(h:c*(D:Rat)=(n:Rat)):CD D K c:=by
 refine⟨n,?_,hn⟩;have Qa:(D:Rat)≠0:=by exact_mod_cast hD
 rw[CO,←h];exact(Rat.mul_div_cancel Qa).symm
theorem RE{D:Int}{K:Nat}{p:List Rat}(hD:D≠0)(hs:Sm K D)(h:Dz D K p)(n:Nat):Sm K (Y7 p n:Int):=by
 refine hs.le ?_;rw[Cc];refine Nat.le_of_dvd (Int.natAbs_pos.2 hD) (RB p _ (fun i=>?_) n);obtain⟨z,_,e⟩:=RD hD (h i);have:=(bP e).1;exact Int.ofNat_dvd_left.1 this
theorem RF{K:Nat}{p:List Rat}(h:∀i,Sm K (cf p i).num):∀n,Sm K (YP p n:Int):=by
 intro n;induction n with
 |zero=>exact Sm.zero K
 |succ n ih=>exact Sm.gcd ih (h n)
theorem Dz.ln{D:Int}{K:Nat}{p:List Rat}(hD:D≠0)(h:Dz D K p):Ln K p:=
 ⟨(D:Rat),by exact_mod_cast hD,fun i=>RD hD (h i)⟩
theorem Lb{p:List Rat}(hp:Jc p=p)(h0:p≠[]):YP p p.length≠0:=fun e=>by
 have hl:0<p.length:=Af.2 h0;have h1:=RC p p.length (p.length-1) (by omega);rw[e]at h1;have h2:(cf p (p.length-1)).num.natAbs=0:=Nat.zero_dvd.1 h1;exact Jq hp h0 (FG.1 (Int.natAbs_eq_zero.1 h2))
def JL(p:List Rat):List Rat:=DU ((Y7 p p.length:Rat)/(YP p p.length:Rat)) p
theorem bU{p:List Rat}(hp:Jc p=p)(h0:p≠[]):0<(Y7 p p.length:Rat)/(YP p p.length:Rat):=by
 have h1:(0:Rat)<(Y7 p p.length:Rat):=by exact_mod_cast RA p _
 have h2:(0:Rat)<(YP p p.length:Rat):=by exact_mod_cast Nat.pos_of_ne_zero (Lb hp h0)
 rw[Rat.div_def];exact Rat.mul_pos h1 (Rat.inv_pos.2 h2)
theorem RG{p:List Rat}(hp:Jc p=p)(h0:p≠[]){K:Nat}(h:Ln K p):∀i,∃z:Int,Sm K z∧cf (JL p) i=(z:Rat):=by
 have hz:∀i,p.length≤i→cf p i=0:=fun i hi=>J8 hi;have h1:=bQ (p:=p) (L:=(Y7 p p.length:Int)) (G:=(YP p p.length:Int)) (fun i=>by
  by_cases hi:i<p.length
  · exact Int.natCast_dvd_natCast.2 (bS p _ i hi)
  · rw[hz i (by omega)];exact Int.one_dvd _) (fun u hu=>by
  refine Int.ofNat_dvd_left.2 (RB p _ (fun i=>Int.ofNat_dvd_left.1 (hu i)) _)) (fun i=>by
  by_cases hi:i<p.length
  · exact Int.ofNat_dvd_left.2 (RC p _ i hi)
  · rw[hz i (by omega)];exact Int.dvd_zero _) (fun v hv=>by
  have:v.natAbs∣YP p p.length:=bT p _ (fun i=>Int.natAbs_dvd_natAbs.2 (hv i)) _
  exact Int.natAbs_dvd.1 (Int.natCast_dvd_natCast.2 this)) (by have:=Lb hp h0;omega) h
 intro i;obtain⟨z,h2,h3⟩:=h1 i;refine⟨z,h2,?_⟩;unfold JL;rw[XP];rw[Cm,Cm]at h3;exact h3

