import Derived.Test.YtakpoihdghihmaaGreatDoorL40
set_option maxRecDepth 100000
set_option maxHeartbeats 16000000
namespace Go.Proofs.YtakpoihdghihmaaGreatDoor.M3
open Go.RowKit Go.Shelf
attribute [local go_sem] Oper.semAt_some
def ZQ(V:World)(g r:Nat):Prop:=∀j,j<r→V.cell? ⟨g,j*4,none⟩=some (.bool false)∧V.cell? ⟨g,j*4+1,none⟩=some (.slice none 0 0)∧V.cell? ⟨g,j*4+2,none⟩=some (.bool false)∧V.cell? ⟨g,j*4+3,none⟩=some (.slice none 0 0)
theorem ZQ.of{V V':World}{g r:Nat}(h:ZQ V g r)(e:V'.heap[g]?=V.heap[g]?):ZQ V' g r:=fun j hj=>by
 obtain⟨h0,h1,h2,h3⟩:=h j hj;exact⟨(BW (w:=V) (a:=⟨g,_,none⟩) e).trans h0,(BW (w:=V) (a:=⟨g,_,none⟩) e).trans h1,(BW (w:=V) (a:=⟨g,_,none⟩) e).trans h2,(BW (w:=V) (a:=⟨g,_,none⟩) e).trans h3⟩
def FR(w V:World)(bs:List (Option (Nat × Dat)))(B4:Nat)(n:Int)(gQ r:Nat):Prop:=Mem w V bs∧Boxed V B4 3 (.int .i64 n)∧ZQ V gQ r∧gQ<V.heap.size
theorem FR.below{w V V':World}{bs:List (Option (Nat × Dat))}{B4:Nat}{n:Int}{gQ r:Nat}(h:FR w V bs B4 n gQ r)(hb:Bl V V'):FR w V' bs B4 n gQ r:=
 ⟨h.1.below hb,(hb.block B4 h.2.1.lt).trans h.2.1,h.2.2.1.of (hb.block gQ h.2.2.2),AP h.2.2.2 hb.size⟩
theorem FR.own{w V V':World}{bs:List (Option (Nat × Dat))}{B4:Nat}{n:Int}{gQ r:Nat}{row:Option Nat}(h:FR w V bs B4 n gQ r)(hQ:∃cs t m,V.heap[gQ]?=some (.cells cs t m))(hg:V.grownBy V' row)(hr:∀x,row=some x→w.heap.size≤x∧∃o:Obj,V.heap[x]?=some o∧o.isCells=false):FR w V' bs B4 n gQ r:=by
 have Qa:∀r,row=some r→∃o:Obj,V.heap[r]?=some o∧o.isCells=false:=fun r e=>(hr r e).2;refine⟨h.1.own hg hr,Yd hg Qa (show Bx V B4 3 #[.int .i64 n]from h.2.1),h.2.2.1.of ?_,AP h.2.2.2 hg.size⟩;obtain⟨cs,t,m,e⟩:=hQ;refine hg.block gQ h.2.2.2 (fun e2=>?_);obtain⟨o,ho,hno⟩:=Qa gQ e2.symm;rw[e]at ho;cases ho;cases hno
theorem LR(V:World)(m:Nat):Has V (.agg (Ya m)) (.rats (List.replicate m 0)):=by
 refine⟨Ya m,rfl,fun j hj=>?_⟩;rw[Az]at hj;obtain⟨h0,h1,h2,h3⟩:=LC hj;exact⟨_,_,_,_,h0,h1,h2,h3,by rw[JZ];exact Xn _⟩
def E9(w:World)(pa qa:Option Addr)(la pc lb qc m gR rc B5 gQ B6 BX:Nat)(R Q:List Rat):List (Option (Nat × Dat)):=
 [some (w.heap.size,.cell 25 (.slice pa la pc)),some (w.heap.size+1,.cell 25 (.slice qa lb qc)),some (w.heap.size+1+1,.cell 25 (.slice Option.none 0 0)),some (w.heap.size+1+1+1,.cell 25 (.slice Option.none 0 0)),
  some (gR,.rats R),some (B5,.cell 23 (.slice (some ⟨gR,0,Option.none⟩) la rc)),some (gQ,.rats Q),some (B6,.cell 23 (.slice (some ⟨gQ,0,Option.none⟩) m m)),some (BX,.cell 23 (.slice (some ⟨gQ,0,Option.none⟩) m m))]
theorem af(p:List Rat)(i:Nat)(c:Rat)(j:Nat):cf (p.set i c) j=c∨cf (p.set i c) j=cf p j:=by
 by_cases h:i<p.length
 · rw[XG _ _ _ _ h];split
   · exact Or.inl rfl
   · exact Or.inr rfl
 · rw[CW (by omega)];exact Or.inr rfl
theorem FR.upd{w V V':World}{bs bs':List (Option (Nat × Dat))}{B4:Nat}{n:Int}{gQ r X:Nat}(h:FR w V bs B4 n gQ r)(hm:Mem w V' bs')(hf:∀B,B≠X→V'.heap[B]?=V.heap[B]?)(h4:B4≠X)(hQ:gQ≠X):FR w V' bs' B4 n gQ r:=by
 have e:=hf gQ hQ;refine⟨hm,(hf B4 h4).trans h.2.1,h.2.2.1.of e,?_⟩;refine Nat.lt_of_not_le fun hle=>?_;have e2:=Array.getElem?_eq_none_iff.2 hle;rw[e]at e2;exact absurd (Array.getElem?_eq_none_iff.1 e2) (by have:=h.2.2.2;omega)
def Fqq(w W V:World)(bs:List (Option (Nat × Dat)))(B4:Nat)(n:Int)(gQ r:Nat):Prop:=FR w V bs B4 n gQ r∧KeepsOthers W V
theorem Fqq.below{w W V V':World}{bs:List (Option (Nat × Dat))}{B4:Nat}{n:Int}{gQ r:Nat}(h:Fqq w W V bs B4 n gQ r)(hb:Bl V V'):Fqq w W V' bs B4 n gQ r:=⟨h.1.below hb,h.2.trans (Xe hb)⟩
theorem NY{V:World}{B4 X:Nat}{v:Value}{cs:Array Value}{m:Nat × Nat}(h:Boxed V B4 3 v)(hx:V.heap[X]?=some (.cells cs 37 m)):B4≠X:=fun e=>by
 subst e;have:=hx.symm.trans h;simp only[Ak,DG]at this;exact absurd this.2.1 (by decide)
theorem ah(V:World)(C:Nat)(x y z u:Value)(B:Nat)(h:B≠C):(put4 V C x y z u).heap[B]?=V.heap[B]?:=
 (BC _ ⟨C,3,none⟩ u B h).trans ((BC _ ⟨C,2,none⟩ z B h).trans ((BC _ ⟨C,1,none⟩ y B h).trans (BC V ⟨C,0,none⟩ x B h)))
def F2(d:Bool)(w W V:World)(bs:List (Option (Nat × Dat)))(B4:Nat)(n:Int)(gQ r:Nat)(t:Value):Prop:=
 (d=false→Fqq w W V bs B4 n gQ r)∧(d=true→∃Bc,t=.pointer (some ⟨Bc,0,none⟩)∧Fqq w W V (bs++[some (Bc,.rat 0)]) B4 n gQ r)
def LS(w W V:World)(bs:List (Option (Nat × Dat)))(B4:Nat)(n:Int)(gQ r:Nat)(t:Value)(c:Rat):Prop:=∃Bc,t=.pointer (some ⟨Bc,0,none⟩)∧Fqq w W V (bs++[some (Bc,.rat c)]) B4 n gQ r
theorem LS.below{w W V V':World}{bs:List (Option (Nat × Dat))}{B4:Nat}{n:Int}{gQ r:Nat}{t:Value}{c:Rat}(h:LS w W V bs B4 n gQ r t c)(hb:Bl V V'):LS w W V' bs B4 n gQ r t c:=by
 obtain⟨Bc,e,h⟩:=h;exact⟨Bc,e,h.below hb⟩
theorem F2.below{d:Bool}{w W V V':World}{bs:List (Option (Nat × Dat))}{B4:Nat}{n:Int}{gQ r:Nat}{t:Value}(h:F2 d w W V bs B4 n gQ r t)(hb:Bl V V'):F2 d w W V' bs B4 n gQ r t:=
 ⟨fun e=>(h.1 e).below hb,fun e=>by obtain⟨Bc,e2,h2⟩:=h.2 e;exact⟨Bc,e2,h2.below hb⟩⟩
theorem F2.base{d:Bool}{w W V:World}{bs:List (Option (Nat × Dat))}{B4:Nat}{n:Int}{gQ r:Nat}{t:Value}(h:F2 d w W V bs B4 n gQ r t):Fqq w W V bs B4 n gQ r:=by
 cases d with
 |false=>exact h.1 rfl
 |true=>
  obtain⟨Bc,_,⟨h1,h2⟩,h3⟩:=h.2 rfl;have:=h1.take bs.length;rw[List.take_left' rfl]at this;exact⟨⟨this,h2⟩,h3⟩
theorem F2.alloc{w W V:World}{bs:List (Option (Nat × Dat))}{B4:Nat}{n:Int}{gQ r:Nat}{t:Value}(h:F2 false w W V bs B4 n gQ r t):F2 true w W (V.alloc (.cells #[.bool false,.slice none 0 0,.bool false,.slice none 0 0] 37)) bs B4 n gQ r (.pointer (some ⟨V.heap.size,0,none⟩)):=by
 have h0:=h.1 rfl;have h1:=h0.below (Ba V (.cells #[.bool false,.slice none 0 0,.bool false,.slice none 0 0] 37));exact⟨(fun e=>by cases e),fun _=>⟨_,rfl,⟨h0.1.1.push (.rat 0) (Xn _),h1.1.2⟩,h1.2⟩⟩
def IA(_:World):Prop:=True
theorem IA.below{V V':World}(_:IA V)(_:Bl V V'):IA V':=trivial
def Gt(d:Bool)(V:World)(t:Value)(c:Rat):Prop:=∃u,t=.tuple #[u,.bool true]∧(d=false→Jg V u c)
theorem Gt.below{d:Bool}{V V':World}{t:Value}{c:Rat}(h:Gt d V t c)(hb:Bl V V'):Gt d V' t c:=by
 obtain⟨u,e,h⟩:=h;exact⟨u,e,fun e=>(h e).below hb⟩
theorem Gt.drop{d:Bool}{V:World}{t:Value}{c:Rat}(h:Gt d V t c)(V':World):Gt true V' t c:=by
 obtain⟨u,e,_⟩:=h;exact⟨u,e,fun e=>by cases e⟩
theorem JU{V:World}{g o o':Nat}{x:Value}(h:o≠o'):(V.setCell ⟨g,o',none⟩ x).cell? ⟨g,o,none⟩=V.cell? ⟨g,o,none⟩:=World.cell?_setCell_other _ _ _ _ (by intro e;cases e;exact h rfl)
theorem ZQ.put{V:World}{g i:Nat}(h:ZQ V g (i+1))(x y z u:Value):ZQ (putAt V g (i*4) x y z u) g i:=fun j hj=>by
 obtain⟨h0,h1,h2,h3⟩:=h j (by omega);unfold putAt;refine⟨?_,?_,?_,?_⟩
 · rw[JU (by omega),JU (by omega),JU (by omega),JU (by omega)];exact h0
 · rw[JU (by omega),JU (by omega),JU (by omega),JU (by omega)];exact h1
 · rw[JU (by omega),JU (by omega),JU (by omega),JU (by omega)];exact h2
 · rw[JU (by omega),JU (by omega),JU (by omega),JU (by omega)];exact h3
theorem _root_.Go.Proofs.YtakpoihdghihmaaGreatDoor.Je.setP{V:World}{v:Value}{ps:List Rat}(h:Je V v ps){B:Nat}{a:Option Addr}{l c:Nat}(b:Boxed V B 25 (.slice a l c))(x:Value):Je (V.setCell ⟨B,0,none⟩ x) v ps:=by
 obtain⟨u,e,h1⟩:=h;exact⟨u,e,EX b x h1⟩
theorem boxed_below{V V':World}{B:Nat}{t:TypeId}{v:Value}(h:Boxed V B t v)(hb:Bl V V'):Boxed V' B t v:=(hb.block B h.lt).trans h
def GZ(w V:World)(D B5 B6:Nat)(rs ql:Value)(R Q:List Rat):Prop:=
 Boxed V (w.heap.size+1+1) 25 (.slice none 0 0)∧Boxed V (w.heap.size+1+1+1) 25 (.slice none 0 0)∧Boxed V B5 23 rs∧Boxed V B6 23 ql∧RowK true V rs R∧RowK true V ql Q∧Bl w V∧V.heap[D]?=some (.deferred (some []))
theorem GZ.below{w V V':World}{D B5 B6:Nat}{rs ql:Value}{R Q:List Rat}(h:GZ w V D B5 B6 rs ql R Q)(hb:Bl V V'):GZ w V' D B5 B6 rs ql R Q:=
 ⟨boxed_below h.1 hb,boxed_below h.2.1 hb,boxed_below h.2.2.1 hb,boxed_below h.2.2.2.1 hb,h.2.2.2.2.1.below hb,h.2.2.2.2.2.1.below hb,Bt h.2.2.2.2.2.2.1 hb,(hb.block D (Ab.1 h.2.2.2.2.2.2.2).1).trans h.2.2.2.2.2.2.2⟩
def LT(d:Bool)(w V:World)(D:Nat)(t:Value):Prop:=d=true→∃v,t=.agg #[v]∧Boxed V (w.heap.size+1+1) 25 v∧Boxed V (w.heap.size+1+1+1) 25 (.slice none 0 0)∧Bl w V∧V.heap[D]?=some (.deferred (some []))
def QR(w V:World)(D:Nat)(t t':Value)(P P':List Rat):Prop:=∃v v',t=.agg #[v]∧t'=.agg #[v']∧Boxed V (w.heap.size+1+1) 25 v∧Boxed V (w.heap.size+1+1+1) 25 v'∧Je V t P∧Je V t' P'∧Bl w V∧V.heap[D]?=some (.deferred (some []))
def LU(V:World)(t:Value)(c:Rat):Prop:=∃u,t=.tuple #[u,.bool true]∧Jg V u c
theorem LU.below{V V':World}{t:Value}{c:Rat}(h:LU V t c)(hb:Bl V V'):LU V' t c:=by
 obtain⟨u,e,h⟩:=h;exact⟨u,e,h.below hb⟩
theorem ai(A:Nat)(pa qa:Option Addr)(la pc lb qc n m:Nat)(ps qs:List Rat)(w:World)(ha:RowK true w (.slice pa la pc) ps)(hb:RowK true w (.slice qa lb qc) qs)(hq:∀i,DV A (cf qs i))(htq:Jc qs=qs)(hq0:qs≠[])(hL:∀k,k≤m→∃z,z+(2*A+1)≤1000000000∧(k<m→2*z+2*(2*A+1)≤1000000000)∧(∀i,DV z (cf (Jz ps qs n m k).2 i))∧∀i,DV (z+A) (cf (Jz ps qs n m k).1 i))(hn:lb=n+1)(hm:la=m+n)(hm0:0<m):
 Calls Tryz.prog 139 #[.agg #[.slice pa la pc],.agg #[.slice qa lb qc]] w fun e w'=>∃u v,e=.returned (.tuple #[u,v,.bool true])∧Je w' u (Jv ps qs)∧Je w' v (JE ps qs)∧Bl w w':=by
 have Uc:Tryz.prog.follows .mixedOrders=true:=by kernel_rfl
 obtain⟨hla,hca,hcma,hlma,s,t,aa,bb,ll,cc,kk,dd,hcp⟩:=ha.forms;obtain⟨Qp,hcb,hcmb,hlmb,s',t',aa',bb',ll',cc',kk',dd',hcq⟩:=hb.forms;have M0:Mem w _ _:=((((Mem.nil w).push (.cell 25 (.slice pa la pc)) (cs:=#[.slice pa la pc]) ⟨rfl,rfl⟩).push (.cell 25 (.slice qa lb qc)) (cs:=#[.slice qa lb qc]) ⟨rfl,rfl⟩).push (.cell 25 (.slice none 0 0)) (cs:=#[.slice none 0 0]) ⟨rfl,rfl⟩).push (.cell 25 (.slice none 0 0)) (cs:=#[.slice none 0 0]) ⟨rfl,rfl⟩;simp only[BA]at M0;obtain⟨V0,hV0⟩:=ex ((((w.alloc (.cells #[.slice pa la pc] 25)).alloc (.cells #[.slice qa lb qc] 25)).alloc (.cells #[.slice none 0 0] 25)).alloc (.cells #[.slice none 0 0] 25));have M1:Mem w V0 [some (w.heap.size,.cell 25 (.slice pa la pc)),some (w.heap.size+1,.cell 25 (.slice qa lb qc)),some (w.heap.size+1+1,.cell 25 (.slice none 0 0)),some (w.heap.size+1+1+1,.cell 25 (.slice none 0 0))]:=by rw[←hV0];exact M0
 have Ui:=Ja M1;have Um:=Ja (show Calls Tryz.prog 30 #[.agg #[.slice qa lb qc]] V0 fun e w'=>e=.returned (.int .i64 (n:Int))∧Bl V0 w' by
  have h:=J4 (.agg #[.slice qa lb qc]) qs V0 ⟨_,rfl,hb.below M1.2.2⟩;rwa[show((qs.length:Int)-1)=(n:Int)by omega]at h)
 have Wg:=Ja (fun(V:World) (h:Bl w V)=>Pp (.slice pa la pc) ps V (ha.below h));have hmk:∀W:World,(Instr.makeSlice 23 (.int .i64 (m:Int)) (.int .i64 (m:Int))).run Tryz.prog W=.ok (.slice (some ⟨W.heap.size,0,none⟩) m m) (W.alloc (.cells (Ya m) 37)):=fun W=>X4 m (by omega) W;have hsub:(la:Int)-(n:Int)=(m:Int):=by omega
 have hwm:IntKind.i64.wrap (m:Int)=(m:Int):=by rw[Bi];omega
 have hmax:max (0:Int) (m:Int)=(m:Int):=by omega
 have hnn:¬(n:Int)<0:=by omega
 obtain⟨HQ,Qg,Qj,HN,Qu,Uk,Uw,HL⟩:=GK hcq hla Qp (show lb=n+1∧la=m+n∧0<m from⟨hn,hm,hm0⟩) hq htq hq0 hL;have Ux:=Ja hV0;have Ql:m≤1099511627776:=by omega
 clear ha hb hcp hcq hla Qp hca hcma hcb hcmb hq htq hq0 hL hn hm hm0 M0 M1 hV0;have c1:=(Ui.o.cell (i:=1) rfl).1.cell;refine(BJ (n:=3)).1 ?_;refine BU Tryz.func139 rfl trivial ?_ rfl;simp only[Tryz.ntmps139,Ap,Ad,Au,Nat.reduceAdd,Nat.reduceSub,As,At,AC,Aw,Ao,AA];gi_wp2_with fail
 rw[Ux.o];refine⟨trivial,?_⟩;refine((BJ (n:=_)).2 Um.o).mono ?_;rintro e w1 ⟨rfl,hb1⟩;have Ut:Bl w1 (w1.alloc (.cells #[.int .i64 (n:Int)] 3)):=Ba w1 _;have Qx:=(Ui.o.below hb1).below Ut;have h4:=BI w1 3 (.int .i64 (n:Int));have c0:=(Qx.cell (i:=0) rfl).1.cell;obtain⟨Qh,Ue,H4⟩:=Dg (Wg.o _ Qx.2.2) Qx h4;clear Ut Qx h4 hb1 Um c1 Ux Ui Wg;gi_wp2_with fail
 obtain⟨V1,hV1⟩:=ex (w1.alloc (.cells #[.int .i64 (n:Int)] 3));obtain⟨B4,hB4⟩:=ex (w1.heap.size);rw[hV1]at Qh Ue H4 c0;rw[hB4]at H4;rw[hV1,hB4];clear hV1 hB4;refine⟨trivial,?_⟩;refine((BJ (n:=_)).2 Qh.o).mono ?_;rintro e w2 ⟨u2,rfl,hu2,_,hb2,hor⟩;have hex:∃gR rc,u2=.slice (some ⟨gR,0,none⟩) la rc∧V1.heap.size≤gR∧Dl true w2 gR ps∧la≤rc∧rc≤9223372036854775807:=by
  obtain⟨_,cap7,e7,h7,h8,_⟩:=id hu2;rcases hor with rfl|⟨g',cap,e1,e2,e3⟩
  · exfalso
    obtain⟨_,_,e,_⟩:=hu2;injection e with _ e _
    have:=Qg.o;have:=HN.o;omega
  · rw[e1]at e7;have e8:cap=cap7:=by injection e7
    exact⟨g',cap,by rw[e1,Qg.o],e2,e3,by rw[Qg.o,e8];exact h7,by rw[e8];exact h8⟩
 obtain⟨gR,rc,rfl,hgR,hER,hrc1,hrc2⟩:=hex;have Ur:=Ja (show la≤rc∧rc≤9223372036854775807 from⟨hrc1,hrc2⟩);clear hrc1 hrc2;have Uo:=Ue.o.adopt hb2 hgR hER;have h4:Boxed w2 B4 3 (.int .i64 (n:Int)):=(hb2.block B4 H4.o.lt).trans H4.o;have Ul:Bl w2 (w2.alloc (.cells #[.slice (some ⟨gR,0,none⟩) la rc] 23)):=Ba w2 _;have Uj:=Uo.push (.cell 23 (.slice (some ⟨gR,0,none⟩) la rc)) (cs:=#[.slice (some ⟨gR,0,none⟩) la rc]) ⟨rfl,rfl⟩;have h5:Boxed (w2.alloc (.cells #[.slice (some ⟨gR,0,none⟩) la rc] 23)) B4 3 (.int .i64 (n:Int)):=(Ul.block B4 h4.lt).trans h4;have c4:=h5.cell;have Uu:=Ja Uj;have H5:=Ja h5;clear hor hu2 hb2 hgR hER Uo h4 Ul Uj h5 Ue H4 Qh c0;gi_wp2_with fail
 refine⟨trivial,?_⟩;refine(LB Fence.wide _ trivial rfl _ _ _ _).mono ?_;rintro e w3 ⟨rfl,rfl⟩;have Qr:Mem w ((((w2.alloc (.cells #[.slice (some ⟨gR,0,none⟩) la rc] 23)).alloc (.cells (Ya m) 37)).alloc (.cells #[.slice (some ⟨w2.heap.size+1,0,none⟩) m m] 23)).alloc (.cells #[.slice (some ⟨w2.heap.size+1,0,none⟩) m m] 23)) (E9 w pa qa la pc lb qc m gR rc w2.heap.size (w2.heap.size+1) (w2.heap.size+1+1) (w2.heap.size+1+1+1) ps (List.replicate m 0)):=by
  have h:=((Uu.o.push (.rats (List.replicate m 0)) (LR _ m)).push (.cell 23 (.slice (some ⟨w2.heap.size+1,0,none⟩) m m)) (cs:=#[.slice (some ⟨w2.heap.size+1,0,none⟩) m m]) ⟨rfl,rfl⟩).push (.cell 23 (.slice (some ⟨w2.heap.size+1,0,none⟩) m m)) (cs:=#[.slice (some ⟨w2.heap.size+1,0,none⟩) m m]) ⟨rfl,rfl⟩;simp only[BA]at h;exact h
 have Wa:Below (w2.alloc (.cells #[.slice (some ⟨gR,0,none⟩) la rc] 23)).heap.size (w2.alloc (.cells #[.slice (some ⟨gR,0,none⟩) la rc] 23)) ((((w2.alloc (.cells #[.slice (some ⟨gR,0,none⟩) la rc] 23)).alloc (.cells (Ya m) 37)).alloc (.cells #[.slice (some ⟨w2.heap.size+1,0,none⟩) m m] 23)).alloc (.cells #[.slice (some ⟨w2.heap.size+1,0,none⟩) m m] 23)):=
  ((Ba _ _).alloc (by simp only[BA];omega) _).alloc (by simp only[BA];omega) _
 have h6:Boxed _ B4 3 (.int .i64 (n:Int)):=(Wa.block B4 H5.o.lt).trans H5.o;have hz:((((w2.alloc (.cells #[.slice (some ⟨gR,0,none⟩) la rc] 23)).alloc (.cells (Ya m) 37)).alloc (.cells #[.slice (some ⟨w2.heap.size+1,0,none⟩) m m] 23)).alloc (.cells #[.slice (some ⟨w2.heap.size+1,0,none⟩) m m] 23)).heap[w2.heap.size+1]?=some (.cells (Ya m) 37 (0,0)):=by
  have e:=BF (w2.alloc (.cells #[.slice (some ⟨gR,0,none⟩) la rc] 23)) (.cells (Ya m) 37);rw[BA]at e;exact(Bu _ _ _ (by simp only[BA];omega)).trans ((Bu _ _ _ (by simp only[BA];omega)).trans e)
 have Qi:((((w2.alloc (.cells #[.slice (some ⟨gR,0,none⟩) la rc] 23)).alloc (.cells (Ya m) 37)).alloc (.cells #[.slice (some ⟨w2.heap.size+1,0,none⟩) m m] 23)).alloc (.cells #[.slice (some ⟨w2.heap.size+1,0,none⟩) m m] 23)).heap.size=w2.heap.size+1+1+1+1:=by simp only[BA]
 obtain⟨W3,hW3⟩:=ex ((((w2.alloc (.cells #[.slice (some ⟨gR,0,none⟩) la rc] 23)).alloc (.cells (Ya m) 37)).alloc (.cells #[.slice (some ⟨w2.heap.size+1,0,none⟩) m m] 23)).alloc (.cells #[.slice (some ⟨w2.heap.size+1,0,none⟩) m m] 23));rw[hW3]at Qr h6 hz Qi;rw[hW3];simp only[BA];obtain⟨B5,hB5⟩:=ex (w2.heap.size);rw[hB5]at Qr hz Qi;rw[hB5];have Qq:=Ja (show FR w W3 (E9 w pa qa la pc lb qc m gR rc B5 (B5+1) (B5+1+1) (B5+1+1+1) ps (List.replicate m 0)) B4 (n:Int) (B5+1) m from
  ⟨Qr,h6,fun j hj=>by
   obtain⟨h0,h1,h2,h3⟩:=LC hj;exact⟨cell_of hz h0,cell_of hz h1,cell_of hz h2,cell_of hz h3⟩,by rw[Qi];omega⟩)
 clear Qr Wa h6 hz Qi hW3 hB5 Uu H5 c4;gi_wp2_with fail
 have Wc:=Ja (show w.heap.size≤W3.heap.size from Qq.o.1.2.2.size);refine Xb rfl (by omega) (gf:=170) (lb:=#[.pointer (some ⟨B5+1+1+1,0,none⟩)]) rfl trivial (Br Tryz.func170 (by kernel_rfl) rfl)
  (LA Fence.wide _ trivial rfl (by omega) (B5+1+1+1) (some ⟨B5+1,0,none⟩) m m (fun _=>.bool false) (fun _=>.slice none 0 0) (fun _=>.bool false) (fun _=>.slice none 0 0) Ql) (fun _=>rfl)
  (fun k W=>FR w W (E9 w pa qa la pc lb qc m gR rc B5 (B5+1) (B5+1+1) (B5+1+1+1) (Jz ps qs n m k).2 (Jz ps qs n m k).1) B4 (n:Int) (B5+1) (m-k)) (fun _ _ _=>False)
  (fun k W W' row h hg hr=>h.own (by obtain⟨cs,h1,_⟩:=h.1.rats (i:=6) rfl;exact⟨cs,_,_,h1⟩) hg (fun r e=>⟨An Wc.o (hr r e).1,(hr r e).2⟩))
  (fun c s W W' row h=>h.elim) Qq.o ?rd
  (fun k=>{ tmps:=#[.agg #[.slice pa la pc],.agg #[.slice qa lb qc],.pointer (some ⟨w.heap.size,0,none⟩),.pointer (some ⟨w.heap.size+1,0,none⟩),.pointer (some ⟨w.heap.size+1+1,0,none⟩),.pointer (some ⟨w.heap.size+1+1+1,0,none⟩),.bool false,.pointer (some ⟨B4,0,none⟩),.pointer (some ⟨B5,0,none⟩),.pointer (some ⟨B5+1+1,0,none⟩),.int .i64 ((m:Int)-1-k),undef,undef,undef,undef,.agg #[.slice qa lb qc],.int .i64 ↑n,.int .i64 ↑n,.bool (decide ((n:Int)<0)),undef,undef,.pointer (some ⟨w.heap.size,0,none⟩),.slice pa la pc,.slice (some ⟨gR,0,none⟩) la rc,.slice (some ⟨gR,0,none⟩) la rc,.int .i64 ↑la,.int .i64 ↑n,.int .i64 ↑m,.int .i64 ↑m,.slice (some ⟨B5+1,0,none⟩) m m,.slice (some ⟨B5+1,0,none⟩) m m,.func (.func 170) #[] #[.pointer (some ⟨B5+1+1+1,0,none⟩)],.int .i64 ((m:Int)-1-k),.agg #[.bool false,.slice none 0 0,.bool false,.slice none 0 0],undef,undef,undef,undef,undef,undef,undef,undef,undef,undef,undef,undef,undef,undef,undef,undef,undef,undef,undef,undef,undef,undef,undef,undef,undef,undef,undef,undef,undef,undef,undef,undef,undef,undef,undef,undef,undef,undef,undef,undef,undef,undef,undef,undef,undef,undef,undef],defers:=[] }) ?assign ?body ?done ?stop
 case stop=>intro D c k W _ _ h;exact h.elim
 case rd=>
  intro k W h;refine⟨(h.1.cell (i:=8) rfl).1.cell,fun hk=>?_⟩;obtain⟨h0,h1,h2,h3⟩:=h.2.2.1 (m-1-k) (by omega);exact⟨B5+1,rfl,h0,h1,h2,h3⟩
 case assign=>
  intro l k W K hK;unfold Ib;gi_wp2;exact hK
 case body=>
  intro l k W hS hk Qi;obtain⟨hiq,bq,rfl,hbq,q0,q1,q2,q3⟩:=HQ.o n (by have:=HN.o;omega);have Uz:=Ja (show ∀j,j<lb→∀V,Bl w V→(V.cell? ⟨bq,j*4,none⟩=some (.bool (s' j))∧V.cell? ⟨bq,j*4+1,none⟩=some (.slice (aa' j) (ll' j) (cc' j))∧V.cell? ⟨bq,j*4+2,none⟩=some (.bool (t' j))∧V.cell? ⟨bq,j*4+3,none⟩=some (.slice (bb' j) (kk' j) (dd' j)))∧Jg V (.agg #[.bool (s' j),.slice (aa' j) (ll' j) (cc' j),.bool (t' j),.slice (bb' j) (kk' j) (dd' j)]) (cf qs j)from fun j hj V hB=>by
   obtain⟨hi,b,e,hb,c0,c1,c2,c3⟩:=HQ.o j hj;cases e;exact⟨⟨(hB.cell (p:=⟨bq,_,none⟩) hb).trans c0,(hB.cell (p:=⟨bq,_,none⟩) hb).trans c1,(hB.cell (p:=⟨bq,_,none⟩) hb).trans c2,(hB.cell (p:=⟨bq,_,none⟩) hb).trans c3⟩,hi.below hB⟩)
  clear hiq hbq q0 q1 q2 q3;have Qc:cf qs n≠0:=by
   have:=Jq Uk.o Uw.o;rwa[show qs.length-1=n by have:=HN.o;have:=Qj.o;omega]at this
  obtain⟨z,hz0,hz1,hz2,hz3⟩:=HL.o k (by omega);have Ug:z+(2*A+1)+(z+(2*A+1))≤1000000000:=by have:=hz1 (by omega);omega
  clear hz0;obtain⟨i,hi⟩:=ex (m-(k+1):Nat);obtain⟨R,hR⟩:=ex ((Jz ps qs n m k).2);obtain⟨Q,hQ⟩:=ex ((Jz ps qs n m k).1);have Wj:R.length=la:=by rw[←hR,(YK ps qs n m k).2];exact Qg.o.symm
  have Wq:Q.length=m:=by rw[←hQ];exact(YK ps qs n m k).1
  rw[hR,hQ]at hS;rw[hR]at hz2;obtain⟨t0,ht0⟩:=ex (i+n:Nat);obtain⟨c,hc⟩:=ex (cf R t0/cf qs n);have Uy:Jz ps qs n m (k+1)=(Q.set i c,YG R i (-c) qs qs.length):=by rw[Jz];simp only[hR,hQ,hi,ht0,hc]
  have Qe:DV (z+A) c:=by rw[←hc];exact(hz2 t0).div2 (Qu.o n) Qc
  obtain⟨Wt,Qo,Ub⟩:=Dg (show Sq c from Sq.of Qe (by omega)) (show ∀j,Sq (cf qs j)from fun j=>Sq.of (Qu.o j) (by omega)) (show ∀j,Sq (c*cf qs j)from fun j=>Sq.of (Qe.mul2 (Qu.o j)) (by omega));have Wk:=Ja (show ∀j t,Sq (cf (YG R i (-c) qs j) t)from fun j t=>by
   rcases LQ R i (-c) qs j t with e|e
   · rw[e];exact Sq.of (hz2 t) (by omega)
   · rw[e];exact Sq.of ((hz2 t).add2 (Qe.neg.mul2 (Qu.o _))) (by omega))
  obtain⟨Uf,Wh,Ws,Uh,Qf⟩:=GT (show Sq (cf R t0)from Sq.of (hz2 t0) (by omega)) hc Qc Uy (show R.length=la∧Q.length=m∧t0<la∧i<m∧m-k=i+1∧m-(k+1)=i by have:=HN.o;omega);have We:(m:Int)-1-(k:Int)=(i:Int):=by omega
  have hadd:(i:Int)+(n:Int)=(t0:Int):=by omega
  have hwt:IntKind.i64.wrap (t0:Int)=(t0:Int):=by rw[Bi];have:=HN.o;omega
  have htl:(t0:Int)<(la:Int):=by have:=Qf.o;omega
  have hnl:(n:Int)<(lb:Int):=by have:=HN.o;omega
  have him:(i:Int)<(m:Int):=by have:=Qf.o;omega
  rw[We];have Qm:F2 false w W W.drew (E9 w pa (some ⟨bq,0,none⟩) la pc lb qc m gR rc B5 (B5+1) (B5+1+1) (B5+1+1+1) R Q) B4 (n:Int) (B5+1) (m-k) undef:=⟨fun _=>⟨hS.below ((BG _ W).drew),Xe ((BG _ W).drew)⟩,fun e=>by cases e⟩;clear hS hi hR hQ Wj Wq ht0 hc Qe hz1 hz2 hz3 Ug Qc Uy We Qi Qq;gi_wp2_with fail
  refine JM Uc [[],[],[],[1,2],[0,3],[4],[],[6],[],[7,8],[9],[5,10],[11],[12],[12],[],[15,13,11,0,1,2,3,4,5,6,7,8,9,10,11,12,13,15],[14,16,0,1,2,3,4,5,6,7,8,9,10,11,12,13,14,15,16]] (by kernel_rfl) (by decide)
   (fun D act V=>∃(td te tg ti tj tk tl tm tn tp tq tr tc ts tt ta tb:Value),act={ tmps:=#[.agg #[.slice pa la pc],.agg #[.slice (some ⟨bq,0,none⟩) lb qc],.pointer (some ⟨w.heap.size,0,none⟩),.pointer (some ⟨w.heap.size+1,0,none⟩),.pointer (some ⟨w.heap.size+1+1,0,none⟩),.pointer (some ⟨w.heap.size+1+1+1,0,none⟩),.bool false,.pointer (some ⟨B4,0,none⟩),.pointer (some ⟨B5,0,none⟩),.pointer (some ⟨B5+1+1,0,none⟩),.int .i64 ↑i,ta,tb,undef,undef,.agg #[.slice (some ⟨bq,0,none⟩) lb qc],.int .i64 ↑n,.int .i64 ↑n,.bool (decide (↑n<0)),undef,undef,.pointer (some ⟨w.heap.size,0,none⟩),.slice pa la pc,.slice (some ⟨gR,0,none⟩) la rc,.slice (some ⟨gR,0,none⟩) la rc,.int .i64 ↑la,.int .i64 ↑n,.int .i64 ↑m,.int .i64 ↑m,.slice (some ⟨B5+1,0,none⟩) m m,.slice (some ⟨B5+1,0,none⟩) m m,.func (.func 170) #[] #[.pointer (some ⟨B5+1+1+1,0,none⟩)],.int .i64 ↑i,.agg #[.bool false,.slice none 0 0,.bool false,.slice none 0 0],tc,td,te,tg,ti,tj,tk,tl,tm,tn,tp,tq,tr,ts,tt,undef,undef,undef,undef,undef,undef,undef,undef,undef,undef,undef,undef,undef,undef,undef,undef,undef,undef,undef,undef,undef,undef,undef,undef,undef,undef,undef,undef,undef,undef,undef,undef],defers:=[] }∧Hid ((D 0=true→td=.slice (some ⟨gR,0,none⟩) la rc)∧(D 1=true→te=.int .i64 (i:Int))∧(D 2=true→tg=.int .i64 (n:Int))∧(D 3=true→ti=.int .i64 (t0:Int))∧(D 4=true→tj=.pointer (some ⟨gR,t0*4,none⟩))∧(D 5=true→D 16=false→Jg V tk (cf R t0))∧(D 6=true→tl=.pointer (some ⟨w.heap.size+1,0,none⟩))∧(D 7=true→tm=.slice (some ⟨bq,0,none⟩) lb qc)∧(D 8=true→tn=.int .i64 (n:Int))∧(D 9=true→tp=.pointer (some ⟨bq,n*4,none⟩))∧(D 10=true→D 16=false→Jg V tq (cf qs n))∧(D 11=true→D 16=false→LU V tr c)∧(D 12=true→Gt (D 16) V tc c)∧(D 13=true→D 16=false→Jg V ts c)∧(D 14=true→tt=.bool true)∧(D 15=true→IA V)∧(D 17=true→tb=.bool true))∧Hid ((D 16=false→F2 (D 15) w W V (E9 w pa (some ⟨bq,0,none⟩) la pc lb qc m gR rc B5 (B5+1) (B5+1+1) (B5+1+1+1) R Q) B4 (n:Int) (B5+1) (m-k) ta)∧(D 16=true→LS w W V (E9 w pa (some ⟨bq,0,none⟩) la pc lb qc m gR rc B5 (B5+1) (B5+1+1) (B5+1+1+1) R Q) B4 (n:Int) (B5+1) (m-k) ta c)))
   (EP ⟨_,rfl,Ja (by simp),Ja ⟨fun _=>Qm,by simp⟩⟩) ?step1 ?fin1
  case step1=>
   rintro D act V i ds hcl hi hds hDi ⟨td,te,tg,ti,tj,tk,tl,tm,tn,tp,tq,tr,tc,ts,tt,ta,tb,rfl,GG,SS0⟩;have Up:i<18:=(Ae.1 hi).1;obtain rfl|rfl|rfl|rfl|rfl|rfl|rfl|rfl|rfl|rfl|rfl|rfl|rfl|rfl|rfl|rfl|rfl|rfl:=Iz i (by omega)
   all_goals
    simp only[Ai,Ag,Ak]at hi;subst hi
   · have Qb:=SS0.o.1 (DP hcl hDi);have hB:=Qb.base;have e5:=(hB.1.1.cell (i:=5) rfl).1.cell;clear hds;refine DY ?_;exact⟨(Di GG),SS0⟩
   · clear hds;refine DY ?_;exact⟨(Dm GG),SS0⟩
   · have Qb:=SS0.o.1 (DP hcl hDi);have hB:=Qb.base;have e4:=hB.1.2.1.cell;clear hds;refine DY ?_;exact⟨(De GG),SS0⟩
   · obtain rfl:=GG.o.2.1 (hds 1 (by simp));obtain rfl:=GG.o.2.2.1 (hds 2 (by simp));clear hds;refine DY ?_;exact⟨(Dj (De (Dm GG))),SS0⟩
   · obtain rfl:=GG.o.1 (hds 0 (by simp));obtain rfl:=GG.o.2.2.2.1 (hds 3 (by simp));clear hds;refine DY ?_;exact⟨(Dy (Dj (Di GG))),SS0⟩
   · have Qb:=SS0.o.1 (DP hcl hDi);obtain rfl:=GG.o.2.2.2.2.1 (hds 4 (by simp));have hB:=Qb.base;obtain⟨xa,xb,xc,xd,e0,e1,e2,e3,hr⟩:=(hB.1.1.rats (i:=4) rfl).at (j:=t0) (by have:=Qf.o;omega);clear hds;refine DY ?_;exact⟨(D4 (Dy GG) fun _ _=>hr),SS0⟩
   · clear hds;refine DY ?_;exact⟨(ED GG),SS0⟩
   · have Qb:=SS0.o.1 (DP hcl hDi);obtain rfl:=EJ GG (hds 6 (by simp));have hB:=Qb.base;have e1:=(hB.1.1.cell (i:=1) rfl).1.cell;clear hds;refine DY ?_;exact⟨(EQ (ED GG)),SS0⟩
   · have Qb:=SS0.o.1 (DP hcl hDi);have hB:=Qb.base;have e4:=hB.1.2.1.cell;clear hds;refine DY ?_;exact⟨(EK GG),SS0⟩
   · obtain rfl:=Ev GG (hds 7 (by simp));obtain rfl:=Ee GG (hds 8 (by simp));clear hds;refine DY ?_;exact⟨(El (EK (EQ GG))),SS0⟩
   · have Qb:=SS0.o.1 (DP hcl hDi);obtain rfl:=F6 GG (hds 9 (by simp));have hB:=Qb.base;obtain⟨⟨e0,e1,e2,e3⟩,hr⟩:=Uz.o n (by omega) V hB.1.1.2.2;clear hds;refine DY ?_;exact⟨(Dp (El GG) fun _ _=>hr),SS0⟩
   · have Qa:D 16=false:=DP hcl hDi;have h0:=Du GG (hds 5 (by simp)) Qa;have h1:=EG GG (hds 10 (by simp)) Qa;clear hds;have HC:=Ja (fun(n9:Nat)=>Bj l ((BJ (n:=n9)).2 (Pk _ _ (cf R t0) (cf qs n) V h0 h1 Uf.o (Qo.o n))));clear h0 h1;refine BO rfl fun K hK=>?_;go_simp;gi_wp2_with(refine⟨trivial,?_⟩;gi_at_call 75;refine(HC.o _).mono ?_;rintro e w5 ⟨v5,rfl,hv5,hb5⟩)
     obtain⟨G0,G1,G2,G3,G4,G5,G6,G7,G8,G9,G10,_,G12,G13,G14,G15,G16⟩:=GG.o;exact EP ⟨_,rfl,Ja ⟨G0,G1,G2,G3,G4,fun h h2=>(G5 h h2).below hb5,G6,G7,G8,G9,fun h h2=>(G10 h h2).below hb5,fun _ _=>⟨v5,by simp[Ws.o],by rw[←Wh.o];exact hv5⟩,fun h=>(G12 h).below hb5,fun h h2=>(G13 h h2).below hb5,G14,fun h=>(G15 h).below hb5,G16⟩,Ja ⟨fun h=>(SS0.o.1 h).below hb5,fun h=>(SS0.o.2 h).below hb5⟩⟩
   · have Qa:D 16=false:=DP hcl hDi;have h0:=Em GG (hds 11 (by simp)) Qa;clear hds;refine DY ?_;exact⟨(EE GG fun _=>(show Gt (D 16) V _ c from by obtain⟨u,e,h⟩:=h0;exact⟨u,e,fun _=>h⟩)),SS0⟩
   · have Qa:D 16=false:=DP hcl hDi;have h0:=Eo GG (hds 12 (by simp));obtain⟨u0,rfl,g0⟩:=h0;clear hds;refine DY ?_;exact⟨(EF GG fun _ _=>g0 Qa),SS0⟩
   · have h0:=Eo GG (hds 12 (by simp));obtain⟨u0,rfl,g0⟩:=h0;clear hds;refine DY ?_;exact⟨(Eb GG),SS0⟩
   · have Qa:D 16=false:=DP hcl hDi;have Qb:=SS0.o.1 Qa;clear hds;refine DY ?_;obtain⟨G0,G1,G2,G3,G4,G5,G6,G7,G8,G9,G10,G11,G12,G13,G14,_,G16⟩:=GG.o;exact⟨Ja ⟨G0,G1,G2,G3,G4,fun h h2=>(G5 h h2).below (Ba V _),G6,G7,G8,G9,fun h h2=>(G10 h h2).below (Ba V _),fun h h2=>(G11 h h2).below (Ba V _),fun h=>(G12 h).below (Ba V _),fun h h2=>(G13 h h2).below (Ba V _),G14,fun _=>trivial,G16⟩,Ja ⟨fun _=>(show F2 true w W _ (E9 w pa (some ⟨bq,0,none⟩) la pc lb qc m gR rc B5 (B5+1) (B5+1+1) (B5+1+1+1) R Q) B4 (n:Int) (B5+1) (m-k) _ from F2.alloc (by rw[hDi]at Qb;exact Qb)),fun h=>by simp[Qa]at h⟩⟩
   · have Qb:=SS0.o.1 hDi;have h0:=F7 GG (hds 13 (by simp)) hDi;obtain⟨Bc,rfl,hM⟩:=Qb.2 (hds 15 (by simp));obtain⟨s9,a9,l9,c9,t9,b9,k9,d9,rfl⟩:=Jg.form h0;obtain⟨s8,a8,l8,c8,t8,b8,k8,d8,n8,r8,i8,j8⟩:=hM.1.1.rat (i:=9) rfl;obtain⟨e0,e1,e2,e3⟩:=n8.cq;obtain⟨f0,f1,f2,f3⟩:=n8.fq;clear hds;refine DY ?_;obtain⟨G0,G1,G2,G3,G4,_,G6,G7,G8,G9,_,_,G12,_,G14,_,G16⟩:=GG.o;exact⟨Ja ⟨G0,G1,G2,G3,G4,fun _ h=>by simp at h,G6,G7,G8,G9,fun _ h=>by simp at h,fun _ h=>by simp at h,fun h=>(G12 h).drop _,fun _ h=>by simp at h,G14,fun _=>trivial,G16⟩,Ja ⟨fun h=>by simp at h,fun _=>⟨Bc,rfl,hM.1.upd (hM.1.1.putRat (i:=9) rfl h0) (ah _ _ _ _ _ _) (NY hM.1.2.1 n8) (hM.1.1.ne 6 9 rfl rfl (by decide)),hM.2.trans (Mz _ _ _ _ _ _)⟩⟩⟩
   · obtain rfl:=GU GG (hds 14 (by simp));clear hds;refine DY ?_;exact⟨(Hk (Eb GG)),SS0⟩
  case fin1=>
   rintro D act V hDD ⟨td,te,tg,ti,tj,tk,tl,tm,tn,tp,tq,tr,tc,ts,tt,ta,tb,rfl,GG,SS0⟩;obtain⟨Bc,rfl,hM⟩:=SS0.o.2 (hDD 16 (by decide));obtain rfl:=GG.o.2.2.2.2.2.2.2.2.2.2.2.2.2.2.2.2 (hDD 17 (by decide));have HM:=Ja hM;clear GG SS0 hDD hM;obtain⟨s8,a8,l8,c8,t8,b8,k8,d8,n8,r8,i8,j8⟩:=HM.o.1.1.rat (i:=9) rfl;obtain⟨e0,e1,e2,e3⟩:=n8.cq;have e6:=(HM.o.1.1.cell (i:=7) rfl).1.cell;have hE:=HM.o.1.1.rats (i:=6) rfl;obtain⟨z0,z1,z2,z3⟩:=HM.o.1.2.2.1 i (by have:=Qf.o;omega);have f0:=hE.frozen (i*4);have f1:=hE.frozen (i*4+1);have f2:=hE.frozen (i*4+2);have f3:=hE.frozen (i*4+3);have Qw:=Ja (show Fqq w W (putAt V (B5+1) (i*4) (.bool s8) (.slice a8 l8 c8) (.bool t8) (.slice b8 k8 d8)) (E9 w pa (some ⟨bq,0,none⟩) la pc lb qc m gR rc B5 (B5+1) (B5+1+1) (B5+1+1+1) R (Q.set i c)++[some (Bc,.rat c)]) B4 (n:Int) (B5+1) i from by
    have hp:=HM.o.1.1.putRats (i:=6) rfl (j:=i) (by have:=Qf.o;omega) r8;obtain⟨cs,Qe,_⟩:=hE;refine⟨⟨hp,(KL (NY HM.o.1.2.1 Qe) _ _ _ _).trans HM.o.1.2.1,ZQ.put (by have h:=HM.o.1.2.2.1;rwa[Qf.o.2.2.2.2.1]at h) _ _ _ _,?_⟩,HM.o.2.trans (Po _ _ _ _ _ _ _)⟩;exact(Ab.1 (Pb Qe _ _ _ _)).1)
   have c9:=(Qw.o.1.1.cell (i:=1) rfl).1.cell;unfold putAt at c9;clear n8 i8 j8 hE r8 HM;gi_wp2_with fail
   obtain⟨W9,hW9⟩:=ex (putAt V (B5+1) (i*4) (.bool s8) (.slice a8 l8 c8) (.bool t8) (.slice b8 k8 d8));rw[hW9]at Qw;unfold putAt at hW9;rw[hW9];clear hW9 c9 e0 e1 e2 e3 e6 z0 z1 z2 z3 f0 f1 f2 f3;gi_loopw [56] (fun jv wr=>∃j:Nat,j≤lb∧jv=.int .i64 (j:Int)∧Hid (Fqq w W wr (E9 w pa (some ⟨bq,0,none⟩) la pc lb qc m gR rc B5 (B5+1) (B5+1+1) (B5+1+1+1) (YG R i (-c) qs j) (Q.set i c)++[some (Bc,.rat c)]) B4 (n:Int) (B5+1) i)) (fun jv _=>lb-(intOf jv).toNat)
   case atStart=>exact⟨0,AH _,rfl,Qw⟩
   case round=>
    obtain⟨j,hj,rfl,HJ⟩:=hrel;clear Qw;by_cases hjl:j<lb
    · have hjl2:(j:Int)<(lb:Int):=by omega
      obtain⟨⟨e0,e1,e2,e3⟩,hrd⟩:=Uz.o j hjl wr HJ.o.1.1.2.2;have Uq:=Ja hrd;obtain⟨t1,ht1⟩:=ex (i+j:Nat);have hadd1:(i:Int)+(j:Int)=(t1:Int):=by omega
      have Qt:=Ja (show t1<la∧t1=i+j by have:=Qf.o;have:=HN.o;omega);have hwt1:IntKind.i64.wrap (t1:Int)=(t1:Int):=by rw[Bi];have:=Qt.o;omega
      have htl1:(t1:Int)<(la:Int):=by have:=Qt.o;omega
      clear hrd ht1;gi_wp2_with fail
      have Qs:Fqq w W (wr.alloc (.cells #[.bool (s' j),.slice (aa' j) (ll' j) (cc' j),.bool (t' j),.slice (bb' j) (kk' j) (dd' j)] 37)) (E9 w pa (some ⟨bq,0,none⟩) la pc lb qc m gR rc B5 (B5+1) (B5+1+1) (B5+1+1+1) (YG R i (-c) qs j) (Q.set i c)++[some (Bc,.rat c)]++[some (wr.heap.size,.rat (cf qs j))]) B4 (n:Int) (B5+1) i:=by
       have h1:=HJ.o.below (Ba wr (.cells #[.bool (s' j),.slice (aa' j) (ll' j) (cc' j),.bool (t' j),.slice (bb' j) (kk' j) (dd' j)] 37));exact⟨⟨HJ.o.1.1.push (.rat (cf qs j)) Uq.o,h1.1.2⟩,h1.2⟩
      obtain⟨Wd,hWd⟩:=ex (wr.alloc (.cells #[.bool (s' j),.slice (aa' j) (ll' j) (cc' j),.bool (t' j),.slice (bb' j) (kk' j) (dd' j)] 37));obtain⟨Bd,hBd⟩:=ex (wr.heap.size);rw[hWd,hBd]at Qs;rw[hWd,hBd];obtain⟨X,hX⟩:=ex (YG R i (-c) qs j);rw[hX]at Qs;have Qz:=Ja (show t1<X.length by rw[←hX,Yr];have:=Qf.o;have:=Qt.o;omega);have Wm:=Ja (show Sq (cf X t1)by rw[←hX];exact Wk.o j t1);have Wp:=Ja (show X.set t1 (cf X t1-c*cf qs j)=YG R i (-c) qs (j+1)by
       rw[YG,hX,←Qt.o.2,show cf X t1-c*cf qs j=cf X t1+-c*cf qs j by grind])
      have Qm:=Qs.below ((BG _ Wd).drew);clear hWd hBd hX Qs e0 e1 e2 e3 Uq HJ;refine JM Uc [[],[],[],[1,2],[],[],[],[5,6],[4,7],[8],[],[],[10,11],[9,12,12],[0,3,0,1,2,3,4,5,6,7,8,9,10,11,12,13],[14,13,13,0,1,2,3,4,5,6,7,8,9,10,11,12,13]] (by kernel_rfl) (by decide)
       (fun D act V=>∃(tu tv tw tx ty tz tA tB tC tE tF tG tH tI tJ:Value),act={ tmps:=#[.agg #[.slice pa la pc],.agg #[.slice (some ⟨bq,0,none⟩) lb qc],.pointer (some ⟨w.heap.size,0,none⟩),.pointer (some ⟨w.heap.size+1,0,none⟩),.pointer (some ⟨w.heap.size+1+1,0,none⟩),.pointer (some ⟨w.heap.size+1+1+1,0,none⟩),.bool false,.pointer (some ⟨B4,0,none⟩),.pointer (some ⟨B5,0,none⟩),.pointer (some ⟨B5+1+1,0,none⟩),.int .i64 ↑i,.pointer (some ⟨Bc,0,none⟩),.bool true,.int .i64 ↑j,.pointer (some ⟨Bd,0,none⟩),.agg #[.slice (some ⟨bq,0,none⟩) lb qc],.int .i64 ↑n,.int .i64 ↑n,.bool (decide (n<0)),undef,undef,.pointer (some ⟨w.heap.size,0,none⟩),.slice pa la pc,.slice (some ⟨gR,0,none⟩) la rc,.slice (some ⟨gR,0,none⟩) la rc,.int .i64 ↑la,.int .i64 ↑n,.int .i64 ↑m,.int .i64 ↑m,.slice (some ⟨B5+1,0,none⟩) m m,.slice (some ⟨B5+1,0,none⟩) m m,.func (.func 170) #[] #[.pointer (some ⟨B5+1+1+1,0,none⟩)],.int .i64 ↑i,.agg #[.bool false,.slice none 0 0,.bool false,.slice none 0 0],tc,td,te,tg,ti,tj,tk,tl,tm,tn,tp,tq,tr,ts,tt,.slice (some ⟨B5+1,0,none⟩) m m,.int .i64 ↑i,.agg #[.bool s8,.slice a8 l8 c8,.bool t8,.slice b8 k8 d8],.pointer (some { block:=B5+1,off:=i*4 }),.pointer (some ⟨w.heap.size+1,0,none⟩),.slice (some ⟨bq,0,none⟩) lb qc,.int .i64 ↑lb,.int .i64 ↑j,.bool true,.int .i64 ↑j,.pointer (some { block:=bq,off:=j*4 }),.agg #[.bool (s' j),.slice (aa' j) (ll' j) (cc' j),.bool (t' j),.slice (bb' j) (kk' j) (dd' j)],tu,tv,tw,tx,ty,tz,tA,tB,tC,tE,tF,tG,tH,tI,tJ,u76,undef,undef,undef,undef],defers:=[] }∧Hid ((D 0=true→tu=.slice (some ⟨gR,0,none⟩) la rc)∧(D 1=true→tv=.int .i64 (i:Int))∧(D 2=true→tw=.int .i64 (j:Int))∧(D 3=true→tx=.int .i64 (t1:Int))∧(D 4=true→ty=.slice (some ⟨gR,0,none⟩) la rc)∧(D 5=true→tz=.int .i64 (i:Int))∧(D 6=true→tA=.int .i64 (j:Int))∧(D 7=true→tB=.int .i64 (t1:Int))∧(D 8=true→tC=.pointer (some ⟨gR,t1*4,none⟩))∧(D 9=true→D 15=false→Jg V tE (cf X t1))∧(D 10=true→D 15=false→Jg V tF c)∧(D 11=true→D 15=false→Jg V tG (cf qs j))∧(D 12=true→D 15=false→Jg V tH (c*cf qs j))∧(D 13=true→D 15=false→Jg V tI (cf X t1-c*cf qs j))∧(D 14=true→tJ=.pointer (some ⟨gR,t1*4,none⟩)))∧Hid ((D 15=false→Fqq w W V (E9 w pa (some ⟨bq,0,none⟩) la pc lb qc m gR rc B5 (B5+1) (B5+1+1) (B5+1+1+1) (X) (Q.set i c)++[some (Bc,.rat c)]++[some (Bd,.rat (cf qs j))]) B4 (n:Int) (B5+1) i)∧(D 15=true→Fqq w W V (E9 w pa (some ⟨bq,0,none⟩) la pc lb qc m gR rc B5 (B5+1) (B5+1+1) (B5+1+1+1) (X.set t1 (cf X t1-c*cf qs j)) (Q.set i c)++[some (Bc,.rat c)]++[some (Bd,.rat (cf qs j))]) B4 (n:Int) (B5+1) i)))
       (E8 ⟨_,_,_,_,_,_,_,rfl,Ja (by simp),Ja ⟨fun _=>Qm,by simp⟩⟩) ?step2 ?fin2
      case step2=>
       rintro D act V i ds hcl hi hds hDi ⟨tu,tv,tw,tx,ty,tz,tA,tB,tC,tE,tF,tG,tH,tI,tJ,rfl,GG,SS0⟩;have Up:i<16:=(Ae.1 hi).1;obtain rfl|rfl|rfl|rfl|rfl|rfl|rfl|rfl|rfl|rfl|rfl|rfl|rfl|rfl|rfl|rfl:=Gz i (by omega)
       all_goals
        simp only[Ai,Ag,Ak]at hi;subst hi
       · have Qb:=SS0.o.1 (DP hcl hDi);have e5:=(Qb.1.1.cell (i:=5) rfl).1.cell;clear hds;refine DY ?_;exact⟨(Di GG),SS0⟩
       · clear hds;refine DY ?_;exact⟨(Dm GG),SS0⟩
       · clear hds;refine DY ?_;exact⟨(De GG),SS0⟩
       · obtain rfl:=GG.o.2.1 (hds 1 (by simp));obtain rfl:=GG.o.2.2.1 (hds 2 (by simp));clear hds;refine DY ?_;exact⟨(Dj (De (Dm GG))),SS0⟩
       · have Qb:=SS0.o.1 (DP hcl hDi);have e5:=(Qb.1.1.cell (i:=5) rfl).1.cell;clear hds;refine DY ?_;exact⟨(Dy GG),SS0⟩
       · clear hds;refine DY ?_;exact⟨(D4 GG),SS0⟩
       · clear hds;refine DY ?_;exact⟨(ED GG),SS0⟩
       · obtain rfl:=Du GG (hds 5 (by simp));obtain rfl:=EJ GG (hds 6 (by simp));clear hds;refine DY ?_;exact⟨(EQ (ED (D4 GG))),SS0⟩
       · obtain rfl:=GG.o.2.2.2.2.1 (hds 4 (by simp));obtain rfl:=Ev GG (hds 7 (by simp));clear hds;refine DY ?_;exact⟨(EK (EQ (Dy GG))),SS0⟩
       · have Qb:=SS0.o.1 (DP hcl hDi);obtain rfl:=Ee GG (hds 8 (by simp));obtain⟨xa,xb,xc,xd,e0,e1,e2,e3,hr⟩:=(Qb.1.1.rats (i:=4) rfl).at Qz.o;clear hds;refine DY ?_;exact⟨(El (EK GG) fun _ _=>hr),SS0⟩
       · have Qb:=SS0.o.1 (DP hcl hDi);obtain⟨s5,a5,l5,c5,t5,b5,k5,d5,n5,r5,i5,j5⟩:=Qb.1.1.rat (i:=9) rfl;obtain⟨e0,e1,e2,e3⟩:=n5.cq;clear hds;refine DY ?_;exact⟨(Dp GG fun _ _=>r5),SS0⟩
       · have Qb:=SS0.o.1 (DP hcl hDi);obtain⟨s5,a5,l5,c5,t5,b5,k5,d5,n5,r5,i5,j5⟩:=Qb.1.1.rat (i:=10) rfl;obtain⟨e0,e1,e2,e3⟩:=n5.cq;clear hds;refine DY ?_;exact⟨(D7 GG fun _ _=>r5),SS0⟩
       · have Qa:D 15=false:=DP hcl hDi;have h0:=EG GG (hds 10 (by simp)) Qa;have h1:=Em GG (hds 11 (by simp)) Qa;clear hds;have HC:=Ja (fun(n9:Nat)=>Bj l ((BJ (n:=n9)).2 (Ia _ _ c (cf qs j) V h0 h1 Wt.o (Qo.o j))));clear h0 h1;refine BO rfl fun K hK=>?_;go_simp;gi_wp2_with(refine⟨trivial,?_⟩;gi_at_call 91;refine(HC.o _).mono ?_;rintro e w5 ⟨v5,rfl,hv5,hb5⟩)
         obtain⟨G0,G1,G2,G3,G4,G5,G6,G7,G8,G9,G10,G11,_,G13,G14⟩:=GG.o;exact E8 ⟨_,_,_,_,_,_,_,rfl,Ja ⟨G0,G1,G2,G3,G4,G5,G6,G7,G8,fun h h2=>(G9 h h2).below hb5,fun h h2=>(G10 h h2).below hb5,fun h h2=>(G11 h h2).below hb5,fun _ _=>hv5,fun h h2=>(G13 h h2).below hb5,G14⟩,Ja ⟨fun h=>(SS0.o.1 h).below hb5,fun h=>(SS0.o.2 h).below hb5⟩⟩
       · have Qa:D 15=false:=DP hcl hDi;have h0:=F6 GG (hds 9 (by simp)) Qa;have h1:=Eo GG (hds 12 (by simp)) Qa;clear hds;have HC:=Ja (fun(n9:Nat)=>Bj l ((BJ (n:=n9)).2 (Hv _ _ (cf X t1) (c*cf qs j) V h0 h1 Wm.o (Ub.o j))));clear h0 h1;refine BO rfl fun K hK=>?_;go_simp;gi_wp2_with(refine⟨trivial,?_⟩;gi_at_call 26;refine(HC.o _).mono ?_;rintro e w5 ⟨v5,rfl,hv5,hb5⟩)
         obtain⟨G0,G1,G2,G3,G4,G5,G6,G7,G8,G9,G10,G11,G12,_,G14⟩:=GG.o;exact E8 ⟨_,_,_,_,_,_,_,rfl,Ja ⟨G0,G1,G2,G3,G4,G5,G6,G7,G8,fun h h2=>(G9 h h2).below hb5,fun h h2=>(G10 h h2).below hb5,fun h h2=>(G11 h h2).below hb5,fun h h2=>(G12 h h2).below hb5,fun _ _=>hv5,G14⟩,Ja ⟨fun h=>(SS0.o.1 h).below hb5,fun h=>(SS0.o.2 h).below hb5⟩⟩
       · obtain rfl:=GG.o.1 (hds 0 (by simp));obtain rfl:=GG.o.2.2.2.1 (hds 3 (by simp));clear hds;refine DY ?_;exact⟨(F5 (Dj (Di GG))),SS0⟩
       · have Qb:=SS0.o.1 hDi;have h0:=F7 GG (hds 13 (by simp)) hDi;obtain rfl:=GG.o.2.2.2.2.2.2.2.2.2.2.2.2.2.2 (hds 14 (by simp));have hE:=Qb.1.1.rats (i:=4) rfl;obtain⟨xa,xb,xc,xd,e0,e1,e2,e3,_⟩:=hE.at Qz.o;have f0:=hE.frozen (t1*4);have f1:=hE.frozen (t1*4+1);have f2:=hE.frozen (t1*4+2);have f3:=hE.frozen (t1*4+3);obtain⟨s9,a9,l9,c9,t9,b9,k9,d9,rfl⟩:=Jg.form h0;have Qe:∃cs,V.heap[gR]?=some (.cells cs 37 (0,0)):=by obtain⟨cs,h1,_⟩:=hE;exact⟨cs,h1⟩
         clear hds;refine DY ?_;exact⟨(F5 (EF (EE (D7 (Dp (El GG (fun _ h=>by simp at h)) (fun _ h=>by simp at h)) (fun _ h=>by simp at h)) (fun _ h=>by simp at h)) (fun _ h=>by simp at h))),Ja ⟨fun h=>by simp at h,fun _=>⟨Qb.1.upd (Qb.1.1.putRats (i:=4) rfl Qz.o h0) (fun B hB=>KL hB _ _ _ _) (by obtain⟨cs,h1⟩:=Qe;exact NY Qb.1.2.1 h1) (fun e=>Qb.1.1.ne 4 6 rfl rfl (by decide) e.symm),Qb.2.trans (Po _ _ _ _ _ _ _)⟩⟩⟩
      case fin2=>
       rintro D act V hDD ⟨tu,tv,tw,tx,ty,tz,tA,tB,tC,tE,tF,tG,tH,tI,tJ,rfl,GG,SS0⟩;have h3:=SS0.o.2 (hDD 15 (by decide));rw[Wp.o]at h3;have HO:=Ja (show Fqq w W V (E9 w pa (some ⟨bq,0,none⟩) la pc lb qc m gR rc B5 (B5+1) (B5+1+1) (B5+1+1+1) (YG R i (-c) qs (j+1)) (Q.set i c)++[some (Bc,.rat c)]) B4 (n:Int) (B5+1) i from⟨⟨h3.1.1.take 10,h3.1.2⟩,h3.2⟩);clear GG SS0 hDD h3;gi_wp2_with fail
       go_roundw
       case rel=>exact⟨j+1,by omega,by go_num,HO⟩
       case measure=>simp[intOf];omega
    · obtain rfl:j=lb:=by omega
      gi_wp2_with fail
      refine⟨HJ.o.2.from _,?_⟩;have h3:=HJ.o.1.1.take 9;rw[Qj.o]at h3;show FR w wr (E9 w pa _ la pc _ qc m gR rc B5 (B5+1) (B5+1+1) (B5+1+1+1) (Jz ps qs n m (k+1)).2 (Jz ps qs n m (k+1)).1) B4 (n:Int) (B5+1) (m-(k+1));rw[Uh.o,Qf.o.2.2.2.2.2];refine⟨?_,HJ.o.1.2⟩;have Qp:=Qj.o;rw[←Qp];rw[←Qp]at h3;exact h3
 case done=>
  intro DC W hD hS hK;have Un:=(YK ps qs n m m).2;have Uv:=(YK ps qs n m m).1;have Qc:cf qs n≠0:=by
   have:=Jq Uk.o Uw.o;rwa[show qs.length-1=n by have:=HN.o;have:=Qj.o;omega]at this
  obtain⟨z,Ug,hz1,hz2,hz3⟩:=HL.o m (Aa _);have Ud:Jv ps qs=Jc (Jz ps qs n m m).1:=by unfold Jv;rw[show qs.length-1=n by have:=HN.o;have:=Qj.o;omega,show ps.length-n=m by have:=HN.o;have:=Qg.o;omega]
  have Ua:JE ps qs=Jc (Jz ps qs n m m).2:=by unfold JE;rw[show qs.length-1=n by have:=HN.o;have:=Qj.o;omega,show ps.length-n=m by have:=HN.o;have:=Qg.o;omega]
  obtain⟨R,hR⟩:=ex ((Jz ps qs n m m).2);obtain⟨Q,hQ⟩:=ex ((Jz ps qs n m m).1);rw[hR]at Un hz2 Ua;rw[hQ]at Uv hz3 Ud;rw[hR,hQ]at hS;have Uf:=Ja (show Sqs R from Sqs.of fun i=>Sq.of (hz2 i) (by omega));have HSQ':=Ja (show Sqs Q from Sqs.of fun i=>Sq.of (hz3 i) (by omega));have Wb:RowK true W (.slice (some ⟨gR,0,none⟩) la rc) R:=by
   have h:=(hS.1.rats (i:=4) rfl).row (n:=la) (cap:=rc) (by have:=Qg.o;omega) (by have:=Ur.o;omega) (by have:=Ur.o;omega) hlma;rwa[Ac (by have:=Qg.o;omega)]at h
  have Us:RowK true W (.slice (some ⟨B5+1,0,none⟩) m m) Q:=by
   have h:=(hS.1.rats (i:=6) rfl).row (n:=m) (cap:=m) (by omega) (Aa _) (by omega) Ql;rwa[Ac (by omega)]at h
  have Qm:GZ w W.drew DC B5 (B5+1+1) (.slice (some ⟨gR,0,none⟩) la rc) (.slice (some ⟨B5+1,0,none⟩) m m) R Q:=
   GZ.below ⟨(hS.1.cell (i:=2) rfl).1,(hS.1.cell (i:=3) rfl).1,(hS.1.cell (i:=5) rfl).1,(hS.1.cell (i:=7) rfl).1,Wb,Us,hS.1.2.2,hK⟩ ((BG _ W).drew)
  have Wu:LT false w W.drew DC undef:=fun e=>by cases e
  obtain⟨Wl,Wn,Wo⟩:=Dg Ud Ua (show w.heap.size≤DC by have:=Wc.o;omega);clear hS Un Uv hz1 hz2 hz3 Ug Ud Ua hR hQ Qc Wb Us hK Qq;gi_wp2_with fail
  refine JM Uc [[],[0],[],[2,1],[1,3,0,1],[3,4,0,1,2,3,4],[5,0,1,2,3,4,5]] (by kernel_rfl) (by decide)
   (fun D act V=>∃(tK tL tM tN tD:Value),act={ tmps:=#[.agg #[.slice pa la pc],.agg #[.slice qa lb qc],.pointer (some ⟨w.heap.size,0,none⟩),.pointer (some ⟨w.heap.size+1,0,none⟩),.pointer (some ⟨w.heap.size+1+1,0,none⟩),.pointer (some ⟨w.heap.size+1+1+1,0,none⟩),tD,.pointer (some ⟨B4,0,none⟩),.pointer (some ⟨B5,0,none⟩),.pointer (some ⟨B5+1+1,0,none⟩),undef,undef,undef,undef,undef,.agg #[.slice qa lb qc],.int .i64 ↑n,.int .i64 ↑n,.bool (decide ((n:Int)<0)),undef,undef,.pointer (some ⟨w.heap.size,0,none⟩),.slice pa la pc,.slice (some ⟨gR,0,none⟩) la rc,.slice (some ⟨gR,0,none⟩) la rc,.int .i64 ↑la,.int .i64 ↑n,.int .i64 ↑m,.int .i64 ↑m,.slice (some ⟨B5+1,0,none⟩) m m,.slice (some ⟨B5+1,0,none⟩) m m,.func (.func 170) #[] #[.pointer (some ⟨B5+1+1+1,0,none⟩)],undef,undef,undef,undef,undef,undef,undef,undef,undef,undef,undef,undef,undef,undef,undef,undef,undef,undef,undef,undef,undef,undef,undef,undef,undef,undef,undef,undef,undef,undef,undef,undef,undef,undef,undef,undef,undef,undef,undef,undef,undef,undef,undef,undef,undef,tK,tL,tM,tN],defers:={ target:=.collected DC,args:=#[] }::[] }∧Hid ((D 0=true→tK=.slice (some ⟨B5+1,0,none⟩) m m)∧(D 1=true→D 5=false→Je V tL (Jc Q))∧(D 2=true→tM=.slice (some ⟨gR,0,none⟩) la rc)∧(D 3=true→D 5=false→Je V tN (Jc R))∧(D 6=true→tD=.bool true))∧Hid ((D 4=false→GZ w V DC B5 (B5+1+1) (.slice (some ⟨gR,0,none⟩) la rc) (.slice (some ⟨B5+1,0,none⟩) m m) R Q)∧(D 4=true→IA V))∧Hid ((D 5=false→LT (D 4) w V DC tL)∧(D 5=true→QR w V DC tL tN (Jc Q) (Jc R))))
   ⟨_,_,_,_,_,rfl,Ja (by simp),Ja ⟨fun _=>Qm,by simp⟩,Ja ⟨fun _=>Wu,by simp⟩⟩ ?step3 ?fin3
  case step3=>
   rintro D act V i ds hcl hi hds hDi ⟨tK,tL,tM,tN,tD,rfl,GG,SS0,SS1⟩;have Up:i<7:=(Ae.1 hi).1;obtain rfl|rfl|rfl|rfl|rfl|rfl|rfl:=Gw i (by omega)
   all_goals
    simp only[Ai,Ag,Ak]at hi;subst hi
   · have Qb:=SS0.o.1 (DP hcl hDi);have Qk:=SS1.o.1 (DP hcl hDi);have e6:=Qb.2.2.2.1.cell;clear hds;refine DY ?_;exact⟨(Di GG),SS0,SS1⟩
   · have Qa:D 4=false:=DP hcl hDi;have Qb:=SS0.o.1 Qa;have Qd:D 5=false:=DP hcl hDi;have Qk:=SS1.o.1 Qd;obtain rfl:=GG.o.1 (hds 0 (by simp));clear hds;have HC:=Ja (fun(n9:Nat)=>(BJ (n:=n9)).2 (Xu _ Q V Qb.2.2.2.2.2.1 HSQ'.o));refine BO rfl fun K hK=>?_;go_simp;gi_wp2_with(refine⟨trivial,?_⟩;gi_at_call 39;refine(HC.o _).mono ?_;rintro e w5 ⟨v5,rfl,hv5,_,hb5⟩)
     exact⟨_,_,_,_,_,rfl,Ja ⟨fun _=>rfl,fun _ _=>hv5,GG.o.2.2.1,fun h h2=>(GG.o.2.2.2.1 h h2).below hb5,GG.o.2.2.2.2⟩,Ja ⟨fun h=>(SS0.o.1 h).below hb5,fun h=>(SS0.o.2 h).below hb5⟩,Ja ⟨fun _=>(fun e=>by simp[Qa]at e),fun h=>by simp[Qd]at h⟩⟩
   · have Qa:D 4=false:=DP hcl (DP (a:=3) hcl hDi);have Qb:=SS0.o.1 Qa;have Qk:=SS1.o.1 (DP hcl hDi);have e5:=Qb.2.2.1.cell;clear hds;refine DY ?_;exact⟨Ja ⟨GG.o.1,GG.o.2.1,fun _=>rfl,GG.o.2.2.2.1,GG.o.2.2.2.2⟩,SS0,SS1⟩
   · have Qa:D 4=false:=DP hcl hDi;have Qb:=SS0.o.1 Qa;have Qd:D 5=false:=DP hcl hDi;have Qk:=SS1.o.1 Qd;obtain rfl:=GG.o.2.2.1 (hds 2 (by simp));clear hds;have HC:=Ja (fun(n9:Nat)=>(BJ (n:=n9)).2 (Xu _ R V Qb.2.2.2.2.1 Uf.o));refine BO rfl fun K hK=>?_;go_simp;gi_wp2_with(refine⟨trivial,?_⟩;gi_at_call 39;refine(HC.o _).mono ?_;rintro e w5 ⟨v5,rfl,hv5,_,hb5⟩)
     exact⟨_,_,_,_,_,rfl,Ja ⟨GG.o.1,fun h h2=>(GG.o.2.1 h h2).below hb5,fun _=>rfl,fun _ _=>hv5,GG.o.2.2.2.2⟩,Ja ⟨fun h=>(SS0.o.1 h).below hb5,fun h=>(SS0.o.2 h).below hb5⟩,Ja ⟨fun _=>(fun e=>by simp[Qa]at e),fun h=>by simp[Qd]at h⟩⟩
   · have Qb:=SS0.o.1 hDi;have Qd:D 5=false:=DP hcl hDi;have Qk:=SS1.o.1 Qd;have h0:=GG.o.2.1 (hds 1 (by simp)) Qd;obtain⟨a9,l9,c9,rfl⟩:=Je.form h0;have Qn:=Qb.1;have e0:=Qn.cell;have f0:=Qn.frozen;have Qy:w.heap.size+1+1+1≠w.heap.size+1+1:=by omega
     clear hds;refine DY ?_;obtain⟨G0,G1,G2,G3,G4⟩:=GG.o;exact⟨Ja ⟨G0,fun h h2=>(G1 h h2).setP Qn _,G2,fun h h2=>(G3 h h2).setP Qn _,G4⟩,Ja ⟨fun h=>by simp at h,fun _=>trivial⟩,Ja ⟨fun _=>(fun _=>⟨_,rfl,Qn.set _,(BC V ⟨w.heap.size+1+1,0,none⟩ _ _ Qy).trans Qb.2.1,Qb.2.2.2.2.2.2.1.setCell (p:=⟨w.heap.size+1+1,0,none⟩) (by show w.heap.size≤w.heap.size+1+1;omega) _,(BK V ⟨w.heap.size+1+1,0,none⟩ _).same DC _ Qb.2.2.2.2.2.2.2 rfl⟩),fun h=>by simp[Qd]at h⟩⟩
   · have Qk:=SS1.o.1 hDi;have h0:=GG.o.2.1 (hds 1 (by simp)) hDi;have h1:=GG.o.2.2.2.1 (hds 3 (by simp)) hDi;have Wr:=hds 4 (by simp);obtain⟨v2,rfl,hb2,hb3,hbw,hbd⟩:=Qk (hds 4 (by simp));obtain⟨a9,l9,c9,rfl⟩:=Je.form h1;have e0:=hb3.cell;have f0:=hb3.frozen;have Qy:w.heap.size+1+1≠w.heap.size+1+1+1:=by omega
     clear hds;refine DY ?_;exact⟨Ja ⟨GG.o.1,fun _ h=>by simp at h,GG.o.2.2.1,fun _ h=>by simp at h,GG.o.2.2.2.2⟩,Ja ⟨fun h=>by simp[Wr]at h,fun _=>trivial⟩,Ja ⟨fun h=>by simp at h,fun _=>⟨_,_,rfl,rfl,(BC V ⟨w.heap.size+1+1+1,0,none⟩ _ _ Qy).trans hb2,hb3.set _,h0.setP hb3 _,h1.setP hb3 _,hbw.setCell (p:=⟨w.heap.size+1+1+1,0,none⟩) (by show w.heap.size≤w.heap.size+1+1+1;omega) _,(BK V ⟨w.heap.size+1+1+1,0,none⟩ _).same DC _ hbd rfl⟩⟩⟩
   · clear hds;refine DY ?_;exact⟨Ja ⟨GG.o.1,GG.o.2.1,GG.o.2.2.1,GG.o.2.2.2.1,fun _=>rfl⟩,SS0,SS1⟩
  case fin3=>
   rintro E act V hDD ⟨tK,tL,tM,tN,tD,rfl,GG,SS0,SS1⟩;obtain⟨v,v',rfl,rfl,g2,g3,hi2,hi3,hbw,hbd⟩:=SS1.o.2 (hDD 5 (by decide));obtain rfl:=GG.o.2.2.2.2 (hDD 6 (by decide));clear GG SS0 SS1 hDD;gi_wp2;refine⟨by simp,.inl ⟨_,_,rfl,Bb hbd,?_⟩⟩;have hg:=Bg V DC (.deferred none);have Qv:∀r,some DC=some r→∃o:Obj,V.heap[r]?=some o∧o.isCells=false:=fun r e=>by cases e;exact⟨_,hbd,rfl⟩
   have q2:Boxed _ (w.heap.size+1+1) 25 v:=Yd hg Qv (show Bx V (w.heap.size+1+1) 25 #[v]from g2);have q3:Boxed _ (w.heap.size+1+1+1) 25 v':=Yd hg Qv (show Bx V (w.heap.size+1+1+1) 25 #[v']from g3);have x2:=q2.cell;have x3:=q3.cell;refine⟨.tuple #[.agg #[v],.agg #[v'],.bool true],by simp[results,Tryz.results139,go_sem,x2,x3],_,_,rfl,?_,?_,?_⟩
   · rw[Wl.o];obtain⟨u,e,h⟩:=hi2;exact⟨u,e,Xq hg Qv h⟩
   · rw[Wn.o];obtain⟨u,e,h⟩:=hi3;exact⟨u,e,Xq hg Qv h⟩
   · exact hbw.trans (DH (w:=w) (Aa _) _ DC _ _ Wo.o hbd rfl rfl)
end Go.Proofs.YtakpoihdghihmaaGreatDoor.M3
