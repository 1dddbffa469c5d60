import Derived.Test.YtcahejkcdcjjgaaGreatDoorK42
set_option maxRecDepth 100000
set_option maxHeartbeats 16000000
namespace Go.Proofs.YtcahejkcdcjjgaaGreatDoor.M3
open Go.RowKit Go.Shelf
attribute [local go_sem] Oper.semAt_some
def ZQ(V:World)(g r:Nat):Prop:=∀j,j<r→V.cell? ⟨g,j*4,none⟩=some (.bool false)∧V.cell? ⟨g,j*4+1,none⟩=some (.slice none 0 0)∧V.cell? ⟨g,j*4+2,none⟩=some (.bool false)∧V.cell? ⟨g,j*4+3,none⟩=some (.slice none 0 0)
theorem ZQ.of{V V':World}{g r:Nat}(h:ZQ V g r)(e:V'.heap[g]?=V.heap[g]?):ZQ V' g r:=fun j hj=>by
 obtain⟨h0,h1,h2,h3⟩:=h j hj;exact⟨(World.cell?_of_block (w:=V) (a:=⟨g,_,none⟩) e).trans h0,(World.cell?_of_block (w:=V) (a:=⟨g,_,none⟩) e).trans h1,(World.cell?_of_block (w:=V) (a:=⟨g,_,none⟩) e).trans h2,(World.cell?_of_block (w:=V) (a:=⟨g,_,none⟩) e).trans h3⟩
def SpB(w V:World)(bs:List (Option (Nat × Dat)))(B4:Nat)(n:Int)(gQ r:Nat):Prop:=Mem w V bs∧Boxed V B4 3 (.int .i64 n)∧ZQ V gQ r∧gQ<V.heap.size
theorem SpB.below{w V V':World}{bs:List (Option (Nat × Dat))}{B4:Nat}{n:Int}{gQ r:Nat}(h:SpB w V bs B4 n gQ r)(hb:Below V.heap.size V V'):SpB w V' bs B4 n gQ r:=
 ⟨h.1.below hb,(hb.block B4 h.2.1.lt).trans h.2.1,h.2.2.1.of (hb.block gQ h.2.2.2),AA h.2.2.2 hb.size⟩
theorem SpB.own{w V V':World}{bs:List (Option (Nat × Dat))}{B4:Nat}{n:Int}{gQ r:Nat}{row:Option Nat}(h:SpB w V bs B4 n gQ r)(hQ:∃cs t m,V.heap[gQ]?=some (.cells cs t m))(hg:V.grownBy V' row)(hr:∀x,row=some x→w.heap.size≤x∧∃o:Obj,V.heap[x]?=some o∧o.isCells=false):SpB w V' bs B4 n gQ r:=by
 have Qa:∀r,row=some r→∃o:Obj,V.heap[r]?=some o∧o.isCells=false:=fun r e=>(hr r e).2;refine⟨h.1.own hg hr,Xj hg Qa (show Bx V B4 3 #[.int .i64 n]from h.2.1),h.2.2.1.of ?_,AA h.2.2.2 hg.size⟩;obtain⟨cs,t,m,e⟩:=hQ;refine hg.block gQ h.2.2.2 (fun e2=>?_);obtain⟨o,ho,hno⟩:=Qa gQ e2.symm;rw[e]at ho;cases ho;cases hno
theorem Jiu(V:World)(m:Nat):Has V (.agg (Yh m)) (.rats (List.replicate m 0)):=by
 refine⟨Yh m,rfl,fun j hj=>?_⟩;rw[At]at hj;obtain⟨h0,h1,h2,h3⟩:=Jeo hj;exact⟨_,_,_,_,h0,h1,h2,h3,by rw[J3];exact Jcn _⟩
def Jez(w:World)(pa qa:Option Addr)(la pc lb qc m gR rc B5 gQ B6 BX:Nat)(R Q:List Rat):List (Option (Nat × Dat)):=
 [some (w.heap.size,.cell 25 (.slice pa la pc)),some (w.heap.size+1,.cell 25 (.slice qa lb qc)),some (w.heap.size+1+1,.cell 25 (.slice Option.none 0 0)),some (w.heap.size+1+1+1,.cell 25 (.slice Option.none 0 0)),
  some (gR,.rats R),some (B5,.cell 23 (.slice (some ⟨gR,0,Option.none⟩) la rc)),some (gQ,.rats Q),some (B6,.cell 23 (.slice (some ⟨gQ,0,Option.none⟩) m m)),some (BX,.cell 23 (.slice (some ⟨gQ,0,Option.none⟩) m m))]
theorem Jpp(p:List Rat)(i:Nat)(c:Rat)(j:Nat):cf (p.set i c) j=c∨cf (p.set i c) j=cf p j:=by
 by_cases h:i<p.length
 · rw[XC _ _ _ _ h];split
   · exact Or.inl rfl
   · exact Or.inr rfl
 · rw[CI (by omega)];exact Or.inr rfl
theorem Jd2{A:Nat}{ps qs:List Rat}{n m:Nat}(hA:1≤A)(hp:∀i,SmQ A (cf ps i))(hq:∀i,SmQ A (cf qs i))(h0:cf qs n≠0):∀k,∃z,z+(2*A+1)≤2^k*(3*A+1)∧(∀i,SmQ z (cf (JI ps qs n m k).2 i))∧∀i,SmQ (z+A) (cf (JI ps qs n m k).1 i):=by
 intro k;induction k with
 |zero=>exact⟨A,by omega,hp,fun i=>by rw[JI,J3];exact SmQ.zero _ (by omega)⟩
 |succ k ih=>
  obtain⟨z,h1,h2,h3⟩:=ih;have hc:SmQ (z+A) (cf (JI ps qs n m k).2 (m-(k+1)+n)/cf qs n):=(h2 _).div2 (hq _) h0;refine⟨2*z+(2*A+1),?_,fun i=>?_,fun i=>?_⟩
  · rw[AK,As (2^k) 2,Au];omega
  · rw[JI];rcases YW (JI ps qs n m k).2 (m-(k+1)) (-(cf (JI ps qs n m k).2 (m-(k+1)+n)/cf qs n)) qs qs.length i with e|e
    · rw[e];exact(h2 i).mono (by omega)
    · rw[e];exact((h2 i).add2 (hc.neg.mul2 (hq _))).mono (by omega)
  · rw[JI];rcases Jpp (JI ps qs n m k).1 (m-(k+1)) (cf (JI ps qs n m k).2 (m-(k+1)+n)/cf qs n) i with e|e
    · rw[e];exact hc.mono (by omega)
    · rw[e];exact(h3 i).mono (by omega)
theorem SpB.upd{w V V':World}{bs bs':List (Option (Nat × Dat))}{B4:Nat}{n:Int}{gQ r X:Nat}(h:SpB w V bs B4 n gQ r)(hm:Mem w V' bs')(hf:∀B,B≠X→V'.heap[B]?=V.heap[B]?)(h4:B4≠X)(hQ:gQ≠X):SpB w V' bs' B4 n gQ r:=by
 have e:=hf gQ hQ;refine⟨hm,(hf B4 h4).trans h.2.1,h.2.2.1.of e,?_⟩;refine Nat.lt_of_not_le fun hle=>?_;have e2:=Array.getElem?_eq_none_iff.2 hle;rw[e]at e2;exact absurd (Array.getElem?_eq_none_iff.1 e2) (by have:=h.2.2.2;omega)
def SpK(w W V:World)(bs:List (Option (Nat × Dat)))(B4:Nat)(n:Int)(gQ r:Nat):Prop:=SpB w V bs B4 n gQ r∧KeepsOthers W V
theorem SpK.below{w W V V':World}{bs:List (Option (Nat × Dat))}{B4:Nat}{n:Int}{gQ r:Nat}(h:SpK w W V bs B4 n gQ r)(hb:Below V.heap.size V V'):SpK w W V' bs B4 n gQ r:=⟨h.1.below hb,h.2.trans (J6 hb)⟩
theorem Jjs{V:World}{B4 X:Nat}{v:Value}{cs:Array Value}{m:Nat × Nat}(h:Boxed V B4 3 v)(hx:V.heap[X]?=some (.cells cs 38 m)):B4≠X:=fun e=>by
 subst e;have:=hx.symm.trans h;simp only[Ak,Obj.cells.injEq]at this;exact absurd this.2.1 (by decide)
theorem Jr4(V:World)(C:Nat)(x y z u:Value)(B:Nat)(h:B≠C):(put4 V C x y z u).heap[B]?=V.heap[B]?:=
 (Below.heap_setCell _ ⟨C,3,none⟩ u B h).trans ((Below.heap_setCell _ ⟨C,2,none⟩ z B h).trans ((Below.heap_setCell _ ⟨C,1,none⟩ y B h).trans (Below.heap_setCell V ⟨C,0,none⟩ x B h)))
def AbS(d:Bool)(w W V:World)(bs:List (Option (Nat × Dat)))(B4:Nat)(n:Int)(gQ r:Nat)(t:Value):Prop:=
 (d=false→SpK w W V bs B4 n gQ r)∧(d=true→∃Bc,t=.pointer (some ⟨Bc,0,none⟩)∧SpK w W V (bs++[some (Bc,.rat 0)]) B4 n gQ r)
def AbF(w W V:World)(bs:List (Option (Nat × Dat)))(B4:Nat)(n:Int)(gQ r:Nat)(t:Value)(c:Rat):Prop:=∃Bc,t=.pointer (some ⟨Bc,0,none⟩)∧SpK w W V (bs++[some (Bc,.rat c)]) B4 n gQ r
theorem AbF.below{w W V V':World}{bs:List (Option (Nat × Dat))}{B4:Nat}{n:Int}{gQ r:Nat}{t:Value}{c:Rat}(h:AbF w W V bs B4 n gQ r t c)(hb:Below V.heap.size V V'):AbF w W V' bs B4 n gQ r t c:=by
 obtain⟨Bc,e,h⟩:=h;exact⟨Bc,e,h.below hb⟩
theorem AbS.below{d:Bool}{w W V V':World}{bs:List (Option (Nat × Dat))}{B4:Nat}{n:Int}{gQ r:Nat}{t:Value}(h:AbS d w W V bs B4 n gQ r t)(hb:Below V.heap.size V V'):AbS d w W V' bs B4 n gQ r t:=
 ⟨fun e=>(h.1 e).below hb,fun e=>by obtain⟨Bc,e2,h2⟩:=h.2 e;exact⟨Bc,e2,h2.below hb⟩⟩
theorem AbS.base{d:Bool}{w W V:World}{bs:List (Option (Nat × Dat))}{B4:Nat}{n:Int}{gQ r:Nat}{t:Value}(h:AbS d w W V bs B4 n gQ r t):SpK w W V bs B4 n gQ r:=by
 cases d with
 |false=>exact h.1 rfl
 |true=>
  obtain⟨Bc,_,⟨h1,h2⟩,h3⟩:=h.2 rfl;have:=h1.take bs.length;rw[List.take_left' rfl]at this;exact⟨⟨this,h2⟩,h3⟩
theorem AbS.alloc{w W V:World}{bs:List (Option (Nat × Dat))}{B4:Nat}{n:Int}{gQ r:Nat}{t:Value}(h:AbS false w W V bs B4 n gQ r t):AbS true w W (V.alloc (.cells #[.bool false,.slice none 0 0,.bool false,.slice none 0 0] 38)) bs B4 n gQ r (.pointer (some ⟨V.heap.size,0,none⟩)):=by
 have h0:=h.1 rfl;have h1:=h0.below ((Below.refl _ V).alloc (Aa _) (.cells #[.bool false,.slice none 0 0,.bool false,.slice none 0 0] 38));exact⟨(fun e=>by cases e),fun _=>⟨_,rfl,⟨h0.1.1.push (.rat 0) (Jcn _),h1.1.2⟩,h1.2⟩⟩
def Tr0(_:World):Prop:=True
theorem Tr0.below{V V':World}(_:Tr0 V)(_:Below V.heap.size V V'):Tr0 V':=trivial
def Jlm(d:Bool)(V:World)(t:Value)(c:Rat):Prop:=∃u,t=.tuple #[u,.bool true]∧(d=false→Ji V u c)
theorem Jlm.below{d:Bool}{V V':World}{t:Value}{c:Rat}(h:Jlm d V t c)(hb:Below V.heap.size V V'):Jlm d V' t c:=by
 obtain⟨u,e,h⟩:=h;exact⟨u,e,fun e=>(h e).below hb⟩
theorem Jlm.drop{d:Bool}{V:World}{t:Value}{c:Rat}(h:Jlm d V t c)(V':World):Jlm true V' t c:=by
 obtain⟨u,e,_⟩:=h;exact⟨u,e,fun e=>by cases e⟩
theorem JN{V:World}{g o o':Nat}{x:Value}(h:o≠o'):(V.setCell ⟨g,o',none⟩ x).cell? ⟨g,o,none⟩=V.cell? ⟨g,o,none⟩:=World.cell?_setCell_other _ _ _ _ (by intro e;cases e;exact h rfl)
theorem ZQ.put{V:World}{g i:Nat}(h:ZQ V g (i+1))(x y z u:Value):ZQ (putAt V g (i*4) x y z u) g i:=fun j hj=>by
 obtain⟨h0,h1,h2,h3⟩:=h j (by omega);unfold putAt;refine⟨?_,?_,?_,?_⟩
 · rw[JN (by omega),JN (by omega),JN (by omega),JN (by omega)];exact h0
 · rw[JN (by omega),JN (by omega),JN (by omega),JN (by omega)];exact h1
 · rw[JN (by omega),JN (by omega),JN (by omega),JN (by omega)];exact h2
 · rw[JN (by omega),JN (by omega),JN (by omega),JN (by omega)];exact h3
theorem _root_.Go.Proofs.YtcahejkcdcjjgaaGreatDoor.Ju.setP{V:World}{v:Value}{ps:List Rat}(h:Ju V v ps){B:Nat}{a:Option Addr}{l c:Nat}(b:Boxed V B 25 (.slice a l c))(x:Value):Ju (V.setCell ⟨B,0,none⟩ x) v ps:=by
 obtain⟨u,e,h1⟩:=h;exact⟨u,e,Jh0 b x h1⟩
theorem boxed_below{V V':World}{B:Nat}{t:TypeId}{v:Value}(h:Boxed V B t v)(hb:Below V.heap.size V V'):Boxed V' B t v:=(hb.block B h.lt).trans h
def DnS(w V:World)(D B5 B6:Nat)(rs ql:Value)(R Q:List Rat):Prop:=
 Boxed V (w.heap.size+1+1) 25 (.slice none 0 0)∧Boxed V (w.heap.size+1+1+1) 25 (.slice none 0 0)∧Boxed V B5 23 rs∧Boxed V B6 23 ql∧RowK true V rs R∧RowK true V ql Q∧Below w.heap.size w V∧V.heap[D]?=some (.deferred (some []))
theorem DnS.below{w V V':World}{D B5 B6:Nat}{rs ql:Value}{R Q:List Rat}(h:DnS w V D B5 B6 rs ql R Q)(hb:Below V.heap.size V V'):DnS w V' D B5 B6 rs ql R Q:=
 ⟨boxed_below h.1 hb,boxed_below h.2.1 hb,boxed_below h.2.2.1 hb,boxed_below h.2.2.2.1 hb,h.2.2.2.2.1.below hb,h.2.2.2.2.2.1.below hb,h.2.2.2.2.2.2.1.trans (hb.mono h.2.2.2.2.2.2.1.size),(hb.block D (Ac.1 h.2.2.2.2.2.2.2).1).trans h.2.2.2.2.2.2.2⟩
def Dn4(d:Bool)(w V:World)(D:Nat)(t:Value):Prop:=d=true→∃v,t=.agg #[v]∧Boxed V (w.heap.size+1+1) 25 v∧Boxed V (w.heap.size+1+1+1) 25 (.slice none 0 0)∧Below w.heap.size w V∧V.heap[D]?=some (.deferred (some []))
theorem Dn4.below{d:Bool}{w V V':World}{D:Nat}{t:Value}(h:Dn4 d w V D t)(hb:Below V.heap.size V V'):Dn4 d w V' D t:=fun e=>by
 obtain⟨v,e1,h1,h2,h3,h4⟩:=h e;exact⟨v,e1,boxed_below h1 hb,boxed_below h2 hb,h3.trans (hb.mono h3.size),(hb.block D (Ac.1 h4).1).trans h4⟩
def Dn5(w V:World)(D:Nat)(t t':Value)(P P':List Rat):Prop:=∃v v',t=.agg #[v]∧t'=.agg #[v']∧Boxed V (w.heap.size+1+1) 25 v∧Boxed V (w.heap.size+1+1+1) 25 v'∧Ju V t P∧Ju V t' P'∧Below w.heap.size w V∧V.heap[D]?=some (.deferred (some []))
theorem Dn5.below{w V V':World}{D:Nat}{t t':Value}{P P':List Rat}(h:Dn5 w V D t t' P P')(hb:Below V.heap.size V V'):Dn5 w V' D t t' P P':=by
 obtain⟨v,v',e1,e2,h1,h2,h5,h6,h3,h4⟩:=h;exact⟨v,v',e1,e2,boxed_below h1 hb,boxed_below h2 hb,h5.below hb,h6.below hb,h3.trans (hb.mono h3.size),(hb.block D (Ac.1 h4).1).trans h4⟩
def Jts(V:World)(t:Value)(c:Rat):Prop:=∃u,t=.tuple #[u,.bool true]∧Ji V u c
theorem Jts.below{V V':World}{t:Value}{c:Rat}(h:Jts V t c)(hb:Below V.heap.size V V'):Jts V' t c:=by
 obtain⟨u,e,h⟩:=h;exact⟨u,e,h.below hb⟩
theorem Jr5(A:Nat)(pa qa:Option Addr)(la pc lb qc n m:Nat)(ps qs:List Rat)(w:World)(ha:RowK true w (.slice pa la pc) ps)(hb:RowK true w (.slice qa lb qc) qs)(hA:1≤A)(hp:∀i,SmQ A (cf ps i))(hq:∀i,SmQ A (cf qs i))(htq:Jh qs=qs)(hq0:qs≠[])(hL:2^ps.length*(3*A+1)≤1000000)(hn:lb=n+1)(hm:la=m+n)(hm0:0<m):
 Calls Tryz.prog 29 #[.agg #[.slice pa la pc],.agg #[.slice qa lb qc]] w fun e w'=>∃u v,e=.returned (.tuple #[u,v,.bool true])∧Ju w' u (Jaz ps qs)∧Ju w' v (Jac ps qs)∧Below w.heap.size w w':=by
 have Uf:Tryz.prog.follows .mixedOrders=true:=by kernel_rfl
 obtain⟨hla,hca,hcma,hlma,s,t,aa,bb,ll,cc,kk,dd,hcp⟩:=ha.forms;obtain⟨Qo,hcb,hcmb,hlmb,s',t',aa',bb',ll',cc',kk',dd',hcq⟩:=hb.forms;have M0:Mem w _ _:=((((Mem.nil w).push (.cell 25 (.slice pa la pc)) (cs:=#[.slice pa la pc]) ⟨rfl,rfl⟩).push (.cell 25 (.slice qa lb qc)) (cs:=#[.slice qa lb qc]) ⟨rfl,rfl⟩).push (.cell 25 (.slice none 0 0)) (cs:=#[.slice none 0 0]) ⟨rfl,rfl⟩).push (.cell 25 (.slice none 0 0)) (cs:=#[.slice none 0 0]) ⟨rfl,rfl⟩;simp only[World.size_alloc]at M0;obtain⟨V0,hV0⟩:=ex ((((w.alloc (.cells #[.slice pa la pc] 25)).alloc (.cells #[.slice qa lb qc] 25)).alloc (.cells #[.slice none 0 0] 25)).alloc (.cells #[.slice none 0 0] 25));have M1:Mem w V0 [some (w.heap.size,.cell 25 (.slice pa la pc)),some (w.heap.size+1,.cell 25 (.slice qa lb qc)),some (w.heap.size+1+1,.cell 25 (.slice none 0 0)),some (w.heap.size+1+1+1,.cell 25 (.slice none 0 0))]:=by rw[←hV0];exact M0
 have Ui:=Ja M1;have We:=Ja (show Calls Tryz.prog 15 #[.agg #[.slice qa lb qc]] V0 fun e w'=>e=.returned (.int .i64 (n:Int))∧Below V0.heap.size V0 w' by
  have h:=Jdc (.agg #[.slice qa lb qc]) qs V0 ⟨_,rfl,hb.below M1.2.2⟩;rwa[show((qs.length:Int)-1)=(n:Int)by omega]at h)
 have Us:=Ja (fun(V:World) (h:Below w.heap.size w V)=>Jik (.slice pa la pc) ps V (ha.below h));have hmk:∀W:World,(Instr.makeSlice 23 (.int .i64 (m:Int)) (.int .i64 (m:Int))).run Tryz.prog W=.ok (.slice (some ⟨W.heap.size,0,none⟩) m m) (W.alloc (.cells (Yh m) 38)):=fun W=>X9 m (by omega) W;have hsub:(la:Int)-(n:Int)=(m:Int):=by omega
 have hwm:IntKind.i64.wrap (m:Int)=(m:Int):=by rw[IntKind.wrap_i64];omega
 have hmax:max (0:Int) (m:Int)=(m:Int):=by omega
 have hnn:¬(n:Int)<0:=by omega
 have HP:=Ja hcp;have HQ:=Ja hcq;have Qe:=Ja hla;have Qk:=Ja Qo;have HN:=Ja (show lb=n+1∧la=m+n∧0<m from⟨hn,hm,hm0⟩);have Um:=Ja hp;have Qj:=Ja hq;have Uj:=Ja htq;have Un:=Ja hq0;have HL:=Ja hL;have Ur:=Ja hV0;have Qm:m≤1099511627776:=by omega
 clear ha hb hcp hcq hla Qo hca hcma hcb hcmb hp hq htq hq0 hL hn hm hm0 M0 M1 hV0;have c1:=(Ui.o.cell (i:=1) rfl).1.cell;refine(callsIn_wide (n:=3)).1 ?_;refine callsIn_of_wp_marks Tryz.func29 rfl trivial ?_ rfl;simp only[Tryz.ntmps29,An,Al,AU,Nat.reduceAdd,Nat.reduceSub,AM,AN,AX,AR,Ap,Az];gi_wp2_with fail
 rw[Ur.o];refine⟨trivial,?_⟩;refine((callsIn_wide (n:=_)).2 We.o).mono ?_;rintro e w1 ⟨rfl,hb1⟩;have Uw:Below w1.heap.size w1 (w1.alloc (.cells #[.int .i64 (n:Int)] 3)):=(Below.refl _ w1).alloc (Aa _) _;have Qu:=(Ui.o.below hb1).below Uw;have h4:=Boxed.new w1 3 (.int .i64 (n:Int));have c0:=(Qu.cell (i:=0) rfl).1.cell;have Qi:=Ja (Us.o _ Qu.2.2);have Uh:=Ja Qu;have H4:=Ja h4;clear Uw Qu h4 hb1 We c1 Ur Ui Us;gi_wp2_with fail
 obtain⟨V1,hV1⟩:=ex (w1.alloc (.cells #[.int .i64 (n:Int)] 3));obtain⟨B4,hB4⟩:=ex (w1.heap.size);rw[hV1]at Qi Uh H4 c0;rw[hB4]at H4;rw[hV1,hB4];clear hV1 hB4;refine⟨trivial,?_⟩;refine((callsIn_wide (n:=_)).2 Qi.o).mono ?_;rintro e w2 ⟨u2,rfl,hu2,_,hb2,hor⟩;have hex:∃gR rc,u2=.slice (some ⟨gR,0,none⟩) la rc∧V1.heap.size≤gR∧Els true w2 gR ps∧la≤rc∧rc≤9223372036854775807:=by
  obtain⟨_,cap7,e7,h7,h8,_⟩:=id hu2;rcases hor with rfl|⟨g',cap,e1,e2,e3⟩
  · exfalso
    obtain⟨_,_,e,_⟩:=hu2;injection e with _ e _
    have:=Qe.o;have:=HN.o;omega
  · rw[e1]at e7;have e8:cap=cap7:=by injection e7
    exact⟨g',cap,by rw[e1,Qe.o],e2,e3,by rw[Qe.o,e8];exact h7,by rw[e8];exact h8⟩
 obtain⟨gR,rc,rfl,hgR,hER,hrc1,hrc2⟩:=hex;have Uo:=Ja (show la≤rc∧rc≤9223372036854775807 from⟨hrc1,hrc2⟩);clear hrc1 hrc2;have Wc:=Uh.o.adopt hb2 hgR hER;have h4:Boxed w2 B4 3 (.int .i64 (n:Int)):=(hb2.block B4 H4.o.lt).trans H4.o;have Ut:Below w2.heap.size w2 (w2.alloc (.cells #[.slice (some ⟨gR,0,none⟩) la rc] 23)):=(Below.refl _ w2).alloc (Aa _) _;have Uv:=Wc.push (.cell 23 (.slice (some ⟨gR,0,none⟩) la rc)) (cs:=#[.slice (some ⟨gR,0,none⟩) la rc]) ⟨rfl,rfl⟩;have h5:Boxed (w2.alloc (.cells #[.slice (some ⟨gR,0,none⟩) la rc] 23)) B4 3 (.int .i64 (n:Int)):=(Ut.block B4 h4.lt).trans h4;have c4:=h5.cell;have Wb:=Ja Uv;have H5:=Ja h5;clear hor hu2 hb2 hgR hER Wc h4 Ut Uv h5 Uh H4 Qi c0;gi_wp2_with fail
 refine⟨trivial,?_⟩;refine(Jf0 Fence.wide _ trivial rfl _ _ _ _).mono ?_;rintro e w3 ⟨rfl,rfl⟩;have Qt:Mem w ((((w2.alloc (.cells #[.slice (some ⟨gR,0,none⟩) la rc] 23)).alloc (.cells (Yh m) 38)).alloc (.cells #[.slice (some ⟨w2.heap.size+1,0,none⟩) m m] 23)).alloc (.cells #[.slice (some ⟨w2.heap.size+1,0,none⟩) m m] 23)) (Jez w pa qa la pc lb qc m gR rc w2.heap.size (w2.heap.size+1) (w2.heap.size+1+1) (w2.heap.size+1+1+1) ps (List.replicate m 0)):=by
  have h:=((Wb.o.push (.rats (List.replicate m 0)) (Jiu _ m)).push (.cell 23 (.slice (some ⟨w2.heap.size+1,0,none⟩) m m)) (cs:=#[.slice (some ⟨w2.heap.size+1,0,none⟩) m m]) ⟨rfl,rfl⟩).push (.cell 23 (.slice (some ⟨w2.heap.size+1,0,none⟩) m m)) (cs:=#[.slice (some ⟨w2.heap.size+1,0,none⟩) m m]) ⟨rfl,rfl⟩;simp only[World.size_alloc]at h;exact h
 have Wh:Below (w2.alloc (.cells #[.slice (some ⟨gR,0,none⟩) la rc] 23)).heap.size (w2.alloc (.cells #[.slice (some ⟨gR,0,none⟩) la rc] 23)) ((((w2.alloc (.cells #[.slice (some ⟨gR,0,none⟩) la rc] 23)).alloc (.cells (Yh m) 38)).alloc (.cells #[.slice (some ⟨w2.heap.size+1,0,none⟩) m m] 23)).alloc (.cells #[.slice (some ⟨w2.heap.size+1,0,none⟩) m m] 23)):=
  (((Below.refl _ _).alloc (Aa _) _).alloc (by simp only[World.size_alloc];omega) _).alloc (by simp only[World.size_alloc];omega) _
 have h6:Boxed _ B4 3 (.int .i64 (n:Int)):=(Wh.block B4 H5.o.lt).trans H5.o;have hz:((((w2.alloc (.cells #[.slice (some ⟨gR,0,none⟩) la rc] 23)).alloc (.cells (Yh m) 38)).alloc (.cells #[.slice (some ⟨w2.heap.size+1,0,none⟩) m m] 23)).alloc (.cells #[.slice (some ⟨w2.heap.size+1,0,none⟩) m m] 23)).heap[w2.heap.size+1]?=some (.cells (Yh m) 38 (0,0)):=by
  have e:=World.alloc_heap_new (w2.alloc (.cells #[.slice (some ⟨gR,0,none⟩) la rc] 23)) (.cells (Yh m) 38);rw[World.size_alloc]at e;exact(Below.heap_alloc _ _ _ (by simp only[World.size_alloc];omega)).trans ((Below.heap_alloc _ _ _ (by simp only[World.size_alloc];omega)).trans e)
 have Qh:((((w2.alloc (.cells #[.slice (some ⟨gR,0,none⟩) la rc] 23)).alloc (.cells (Yh m) 38)).alloc (.cells #[.slice (some ⟨w2.heap.size+1,0,none⟩) m m] 23)).alloc (.cells #[.slice (some ⟨w2.heap.size+1,0,none⟩) m m] 23)).heap.size=w2.heap.size+1+1+1+1:=by simp only[World.size_alloc]
 obtain⟨W3,hW3⟩:=ex ((((w2.alloc (.cells #[.slice (some ⟨gR,0,none⟩) la rc] 23)).alloc (.cells (Yh m) 38)).alloc (.cells #[.slice (some ⟨w2.heap.size+1,0,none⟩) m m] 23)).alloc (.cells #[.slice (some ⟨w2.heap.size+1,0,none⟩) m m] 23));rw[hW3]at Qt h6 hz Qh;rw[hW3];simp only[World.size_alloc];obtain⟨B5,hB5⟩:=ex (w2.heap.size);rw[hB5]at Qt hz Qh;rw[hB5];have Qx:=Ja (show SpB w W3 (Jez w pa qa la pc lb qc m gR rc B5 (B5+1) (B5+1+1) (B5+1+1+1) ps (List.replicate m 0)) B4 (n:Int) (B5+1) m from
  ⟨Qt,h6,fun j hj=>by
   obtain⟨h0,h1,h2,h3⟩:=Jeo hj;exact⟨cell_of hz h0,cell_of hz h1,cell_of hz h2,cell_of hz h3⟩,by rw[Qh];omega⟩)
 have HSZ:=Ja Qh;clear Qt Wh h6 hz Qh hW3 hB5 Wb H5 c4;gi_wp2_with fail
 have Uu:=Ja (show w.heap.size≤W3.heap.size from Qx.o.1.2.2.size);refine YJ rfl (by omega) (gf:=94) (lb:=#[.pointer (some ⟨B5+1+1+1,0,none⟩)]) rfl trivial (enters_of Tryz.func94 (by kernel_rfl) rfl)
  (Jdb Fence.wide _ trivial rfl (by omega) (B5+1+1+1) (some ⟨B5+1,0,none⟩) m m (fun _=>.bool false) (fun _=>.slice none 0 0) (fun _=>.bool false) (fun _=>.slice none 0 0) Qm) (fun _=>rfl)
  (fun k W=>SpB w W (Jez w pa qa la pc lb qc m gR rc B5 (B5+1) (B5+1+1) (B5+1+1+1) (JI ps qs n m k).2 (JI ps qs n m k).1) B4 (n:Int) (B5+1) (m-k)) (fun _ _ _=>False)
  (fun k W W' row h hg hr=>h.own (by obtain⟨cs,h1,_⟩:=h.1.rats (i:=6) rfl;exact⟨cs,_,_,h1⟩) hg (fun r e=>⟨Aw Uu.o (hr r e).1,(hr r e).2⟩))
  (fun c s W W' row h=>h.elim) Qx.o ?rd
  (fun k=>{ tmps:=#[.agg #[.slice pa la pc],.agg #[.slice qa lb qc],.pointer (some ⟨w.heap.size,0,none⟩),.pointer (some ⟨w.heap.size+1,0,none⟩),.pointer (some ⟨w.heap.size+1+1,0,none⟩),.pointer (some ⟨w.heap.size+1+1+1,0,none⟩),.bool false,.pointer (some ⟨B4,0,none⟩),.pointer (some ⟨B5,0,none⟩),.pointer (some ⟨B5+1+1,0,none⟩),.int .i64 ((m:Int)-1-k),undef,undef,undef,undef,.agg #[.slice qa lb qc],.int .i64 ↑n,.int .i64 ↑n,.bool (decide ((n:Int)<0)),undef,undef,.pointer (some ⟨w.heap.size,0,none⟩),.slice pa la pc,.slice (some ⟨gR,0,none⟩) la rc,.slice (some ⟨gR,0,none⟩) la rc,.int .i64 ↑la,.int .i64 ↑n,.int .i64 ↑m,.int .i64 ↑m,.slice (some ⟨B5+1,0,none⟩) m m,.slice (some ⟨B5+1,0,none⟩) m m,.func (.func 94) #[] #[.pointer (some ⟨B5+1+1+1,0,none⟩)],.int .i64 ((m:Int)-1-k),.agg #[.bool false,.slice none 0 0,.bool false,.slice none 0 0],undef,undef,undef,undef,undef,undef,undef,undef,undef,undef,undef,undef,undef,undef,undef,undef,undef,undef,undef,undef,undef,undef,undef,undef,undef,undef,undef,undef,undef,undef,undef,undef,undef,undef,undef,undef,undef,undef,undef,undef,undef,undef,undef,undef,undef,undef,undef],defers:=[] }) ?assign ?body ?done ?stop
 case stop=>intro D c k W _ _ h;exact h.elim
 case rd=>
  intro k W h;refine⟨(h.1.cell (i:=8) rfl).1.cell,fun hk=>?_⟩;obtain⟨h0,h1,h2,h3⟩:=h.2.2.1 (m-1-k) (by omega);exact⟨B5+1,rfl,h0,h1,h2,h3⟩
 case assign=>
  intro l k W K hK;unfold Jda;gi_wp2;exact hK
 case body=>
  intro l k W hS hk Qh;obtain⟨hiq,bq,rfl,hbq,q0,q1,q2,q3⟩:=HQ.o n (by have:=HN.o;omega);have Uq:=Ja (show ∀j,j<lb→∀V,Below w.heap.size w V→(V.cell? ⟨bq,j*4,none⟩=some (.bool (s' j))∧V.cell? ⟨bq,j*4+1,none⟩=some (.slice (aa' j) (ll' j) (cc' j))∧V.cell? ⟨bq,j*4+2,none⟩=some (.bool (t' j))∧V.cell? ⟨bq,j*4+3,none⟩=some (.slice (bb' j) (kk' j) (dd' j)))∧Ji V (.agg #[.bool (s' j),.slice (aa' j) (ll' j) (cc' j),.bool (t' j),.slice (bb' j) (kk' j) (dd' j)]) (cf qs j)from fun j hj V hB=>by
   obtain⟨hi,b,e,hb,c0,c1,c2,c3⟩:=HQ.o j hj;cases e;exact⟨⟨(hB.cell (p:=⟨bq,_,none⟩) hb).trans c0,(hB.cell (p:=⟨bq,_,none⟩) hb).trans c1,(hB.cell (p:=⟨bq,_,none⟩) hb).trans c2,(hB.cell (p:=⟨bq,_,none⟩) hb).trans c3⟩,hi.below hB⟩)
  clear hiq hbq q0 q1 q2 q3;have Qc:cf qs n≠0:=by
   have:=Yo Uj.o Un.o;rwa[show qs.length-1=n by have:=HN.o;have:=Qk.o;omega]at this
  obtain⟨z,hz1,hz2,hz3⟩:=Jd2 (n:=n) (m:=m) hA Um.o Qj.o Qc k;have Ue:z+(2*A+1)+(z+(2*A+1))≤1000000:=by
   have h1:2^(k+1)*(3*A+1)≤2^ps.length*(3*A+1):=Am _ (Ar (by omega) (by have:=Qe.o;have:=HN.o;omega));have h2:=HL.o;rw[AK,As (2^k) 2,Au]at h1;omega
  obtain⟨i,hi⟩:=ex (m-(k+1):Nat);obtain⟨R,hR⟩:=ex ((JI ps qs n m k).2);obtain⟨Q,hQ⟩:=ex ((JI ps qs n m k).1);have Wu:R.length=la:=by rw[←hR,(YF ps qs n m k).2];exact Qe.o.symm
  have Wt:Q.length=m:=by rw[←hQ];exact(YF ps qs n m k).1
  rw[hR,hQ]at hS;rw[hR]at hz2;obtain⟨t0,ht0⟩:=ex (i+n:Nat);obtain⟨c,hc⟩:=ex (cf R t0/cf qs n);have Uz:JI ps qs n m (k+1)=(Q.set i c,Yq R i (-c) qs qs.length):=by rw[JI];simp only[hR,hQ,hi,ht0,hc]
  have Qf:SmQ (z+A) c:=by rw[←hc];exact(hz2 t0).div2 (Qj.o n) Qc
  have Wk:=Ja (show Sq c from Sq.of Qf (by omega));have Qq:=Ja (show ∀j,Sq (cf qs j)from fun j=>Sq.of (Qj.o j) (by omega));have Qz:=Ja (show ∀j,Sq (c*cf qs j)from fun j=>Sq.of (Qf.mul2 (Qj.o j)) (by omega));have Wv:=Ja (show ∀j t,Sq (cf (Yq R i (-c) qs j) t)from fun j t=>by
   rcases YW R i (-c) qs j t with e|e
   · rw[e];exact Sq.of (hz2 t) (by omega)
   · rw[e];exact Sq.of ((hz2 t).add2 (Qf.neg.mul2 (Qj.o _))) (by omega))
  have Ub:=Ja (show Sq (cf R t0)from Sq.of (hz2 t0) (by omega));have Wn:=Ja hc;have Wl:=Ja Qc;have HDEC:=Ja (show decide (cf qs n≠0)=true from decide_eq_true Qc);have Ua:=Ja Uz;have Qg:=Ja (show R.length=la∧Q.length=m∧t0<la∧i<m∧m-k=i+1∧m-(k+1)=i by have:=HN.o;omega);have Uk:(m:Int)-1-(k:Int)=(i:Int):=by omega
  have hadd:(i:Int)+(n:Int)=(t0:Int):=by omega
  have hwt:IntKind.i64.wrap (t0:Int)=(t0:Int):=by rw[IntKind.wrap_i64];have:=HN.o;omega
  have htl:(t0:Int)<(la:Int):=by have:=Qg.o;omega
  have hnl:(n:Int)<(lb:Int):=by have:=HN.o;omega
  have him:(i:Int)<(m:Int):=by have:=Qg.o;omega
  rw[Uk];have Qp:AbS false w W W.drew (Jez w pa (some ⟨bq,0,none⟩) la pc lb qc m gR rc B5 (B5+1) (B5+1+1) (B5+1+1+1) R Q) B4 (n:Int) (B5+1) (m-k) undef:=⟨fun _=>⟨hS.below ((Below.refl _ W).drew),J6 ((Below.refl _ W).drew)⟩,fun e=>by cases e⟩;clear hS hi hR hQ Wu Wt ht0 hc Qf hz1 hz2 hz3 Ue Qc Uz Uk Qh Qx;gi_wp2_with fail
  refine Yf Uf [[],[],[],[1,2],[0,3],[4],[],[6],[],[7,8],[9],[5,10],[11],[12],[12],[],[15,13,11,0,1,2,3,4,5,6,7,8,9,10,11,12,13,15],[14,16,0,1,2,3,4,5,6,7,8,9,10,11,12,13,14,15,16]] (by kernel_rfl) (by decide)
   (fun D act V=>∃(td te tf tg ti tj tk tl tm tn tp tq tc tr ts ta tb:Value),act={ tmps:=#[.agg #[.slice pa la pc],.agg #[.slice (some ⟨bq,0,none⟩) lb qc],.pointer (some ⟨w.heap.size,0,none⟩),.pointer (some ⟨w.heap.size+1,0,none⟩),.pointer (some ⟨w.heap.size+1+1,0,none⟩),.pointer (some ⟨w.heap.size+1+1+1,0,none⟩),.bool false,.pointer (some ⟨B4,0,none⟩),.pointer (some ⟨B5,0,none⟩),.pointer (some ⟨B5+1+1,0,none⟩),.int .i64 ↑i,ta,tb,undef,undef,.agg #[.slice (some ⟨bq,0,none⟩) lb qc],.int .i64 ↑n,.int .i64 ↑n,.bool (decide (↑n<0)),undef,undef,.pointer (some ⟨w.heap.size,0,none⟩),.slice pa la pc,.slice (some ⟨gR,0,none⟩) la rc,.slice (some ⟨gR,0,none⟩) la rc,.int .i64 ↑la,.int .i64 ↑n,.int .i64 ↑m,.int .i64 ↑m,.slice (some ⟨B5+1,0,none⟩) m m,.slice (some ⟨B5+1,0,none⟩) m m,.func (.func 94) #[] #[.pointer (some ⟨B5+1+1+1,0,none⟩)],.int .i64 ↑i,.agg #[.bool false,.slice none 0 0,.bool false,.slice none 0 0],tc,td,te,tf,tg,ti,tj,tk,tl,tm,tn,tp,tq,tr,ts,undef,undef,undef,undef,undef,undef,undef,undef,undef,undef,undef,undef,undef,undef,undef,undef,undef,undef,undef,undef,undef,undef,undef,undef,undef,undef,undef,undef,undef,undef,undef,undef],defers:=[] }∧Hid ((D 0=true→td=.slice (some ⟨gR,0,none⟩) la rc)∧(D 1=true→te=.int .i64 (i:Int))∧(D 2=true→tf=.int .i64 (n:Int))∧(D 3=true→tg=.int .i64 (t0:Int))∧(D 4=true→ti=.pointer (some ⟨gR,t0*4,none⟩))∧(D 5=true→D 16=false→Ji V tj (cf R t0))∧(D 6=true→tk=.pointer (some ⟨w.heap.size+1,0,none⟩))∧(D 7=true→tl=.slice (some ⟨bq,0,none⟩) lb qc)∧(D 8=true→tm=.int .i64 (n:Int))∧(D 9=true→tn=.pointer (some ⟨bq,n*4,none⟩))∧(D 10=true→D 16=false→Ji V tp (cf qs n))∧(D 11=true→D 16=false→Jts V tq c)∧(D 12=true→Jlm (D 16) V tc c)∧(D 13=true→D 16=false→Ji V tr c)∧(D 14=true→ts=.bool true)∧(D 15=true→Tr0 V)∧(D 17=true→tb=.bool true))∧Hid ((D 16=false→AbS (D 15) w W V (Jez w pa (some ⟨bq,0,none⟩) la pc lb qc m gR rc B5 (B5+1) (B5+1+1) (B5+1+1+1) R Q) B4 (n:Int) (B5+1) (m-k) ta)∧(D 16=true→AbF w W V (Jez w pa (some ⟨bq,0,none⟩) la pc lb qc m gR rc B5 (B5+1) (B5+1+1) (B5+1+1+1) R Q) B4 (n:Int) (B5+1) (m-k) ta c)))
   (E16 ⟨_,rfl,Ja (by simp),Ja ⟨fun _=>Qp,by simp⟩⟩) ?step1 ?fin1
  case step1=>
   rintro D act V i ds hcl hi hds hDi ⟨td,te,tf,tg,ti,tj,tk,tl,tm,tn,tp,tq,tc,tr,ts,ta,tb,rfl,GG,SS0⟩;have Uy:i<18:=(Ad.1 hi).1;obtain rfl|rfl|rfl|rfl|rfl|rfl|rfl|rfl|rfl|rfl|rfl|rfl|rfl|rfl|rfl|rfl|rfl|rfl:=Lt18 i (by omega)
   all_goals
    simp only[Aj,Ah,Ak]at hi;subst hi
   · have Qa:D 16=false:=nyt hcl hDi;have Qb:=SS0.o.1 Qa;have hB:=Qb.base;have e5:=(hB.1.1.cell (i:=5) rfl).1.cell;clear hds;refine wpOpIn_step rfl fun K hK=>?_;go_simp;obtain⟨_,G1⟩:=GG.o;exact hK _ _ (E16 ⟨_,rfl,Ja ⟨fun _=>rfl,G1⟩,SS0⟩)
   · clear hds;refine wpOpIn_step rfl fun K hK=>?_;go_simp;obtain⟨G0,_,G2⟩:=GG.o;exact hK _ _ (E16 ⟨_,rfl,Ja ⟨G0,fun _=>rfl,G2⟩,SS0⟩)
   · have Qa:D 16=false:=nyt hcl hDi;have Qb:=SS0.o.1 Qa;have hB:=Qb.base;have e4:=hB.1.2.1.cell;clear hds;refine wpOpIn_step rfl fun K hK=>?_;go_simp;obtain⟨G0,G1,_,G3⟩:=GG.o;exact hK _ _ (E16 ⟨_,rfl,Ja ⟨G0,G1,fun _=>rfl,G3⟩,SS0⟩)
   · obtain rfl:=GG.o.2.1 (hds 1 (by simp));obtain rfl:=GG.o.2.2.1 (hds 2 (by simp));clear hds;refine wpOpIn_step rfl fun K hK=>?_;go_simp;obtain⟨G0,_,_,_,G4⟩:=GG.o;exact hK _ _ (E16 ⟨_,rfl,Ja ⟨G0,fun _=>rfl,fun _=>rfl,fun _=>rfl,G4⟩,SS0⟩)
   · obtain rfl:=GG.o.1 (hds 0 (by simp));obtain rfl:=GG.o.2.2.2.1 (hds 3 (by simp));clear hds;refine wpOpIn_step rfl fun K hK=>?_;go_simp;obtain⟨_,G1,G2,_,_,G5⟩:=GG.o;exact hK _ _ (E16 ⟨_,rfl,Ja ⟨fun _=>rfl,G1,G2,fun _=>rfl,fun _=>rfl,G5⟩,SS0⟩)
   · have Qa:D 16=false:=nyt hcl hDi;have Qb:=SS0.o.1 Qa;obtain rfl:=GG.o.2.2.2.2.1 (hds 4 (by simp));have hB:=Qb.base;obtain⟨xa,xb,xc,xd,e0,e1,e2,e3,hr⟩:=(hB.1.1.rats (i:=4) rfl).at (j:=t0) (by have:=Qg.o;omega);clear hds;refine wpOpIn_step rfl fun K hK=>?_;go_simp;obtain⟨G0,G1,G2,G3,_,_,G6⟩:=GG.o;exact hK _ _ (E16 ⟨_,rfl,Ja ⟨G0,G1,G2,G3,fun _=>rfl,fun _ _=>hr,G6⟩,SS0⟩)
   · clear hds;refine wpOpIn_step rfl fun K hK=>?_;go_simp;obtain⟨G0,G1,G2,G3,G4,G5,_,G7⟩:=GG.o;exact hK _ _ (E16 ⟨_,rfl,Ja ⟨G0,G1,G2,G3,G4,G5,fun _=>rfl,G7⟩,SS0⟩)
   · have Qa:D 16=false:=nyt hcl hDi;have Qb:=SS0.o.1 Qa;obtain rfl:=GG.o.2.2.2.2.2.2.1 (hds 6 (by simp));have hB:=Qb.base;have e1:=(hB.1.1.cell (i:=1) rfl).1.cell;clear hds;refine wpOpIn_step rfl fun K hK=>?_;go_simp;obtain⟨G0,G1,G2,G3,G4,G5,_,_,G8⟩:=GG.o;exact hK _ _ (E16 ⟨_,rfl,Ja ⟨G0,G1,G2,G3,G4,G5,fun _=>rfl,fun _=>rfl,G8⟩,SS0⟩)
   · have Qa:D 16=false:=nyt hcl hDi;have Qb:=SS0.o.1 Qa;have hB:=Qb.base;have e4:=hB.1.2.1.cell;clear hds;refine wpOpIn_step rfl fun K hK=>?_;go_simp;obtain⟨G0,G1,G2,G3,G4,G5,G6,G7,_,G9⟩:=GG.o;exact hK _ _ (E16 ⟨_,rfl,Ja ⟨G0,G1,G2,G3,G4,G5,G6,G7,fun _=>rfl,G9⟩,SS0⟩)
   · obtain rfl:=GG.o.2.2.2.2.2.2.2.1 (hds 7 (by simp));obtain rfl:=GG.o.2.2.2.2.2.2.2.2.1 (hds 8 (by simp));clear hds;refine wpOpIn_step rfl fun K hK=>?_;go_simp;obtain⟨G0,G1,G2,G3,G4,G5,G6,_,_,_,G10⟩:=GG.o;exact hK _ _ (E16 ⟨_,rfl,Ja ⟨G0,G1,G2,G3,G4,G5,G6,fun _=>rfl,fun _=>rfl,fun _=>rfl,G10⟩,SS0⟩)
   · have Qa:D 16=false:=nyt hcl hDi;have Qb:=SS0.o.1 Qa;obtain rfl:=GG.o.2.2.2.2.2.2.2.2.2.1 (hds 9 (by simp));have hB:=Qb.base;obtain⟨⟨e0,e1,e2,e3⟩,hr⟩:=Uq.o n (by omega) V hB.1.1.2.2;clear hds;refine wpOpIn_step rfl fun K hK=>?_;go_simp;obtain⟨G0,G1,G2,G3,G4,G5,G6,G7,G8,_,_,G11⟩:=GG.o;exact hK _ _ (E16 ⟨_,rfl,Ja ⟨G0,G1,G2,G3,G4,G5,G6,G7,G8,fun _=>rfl,fun _ _=>hr,G11⟩,SS0⟩)
   · have Qa:D 16=false:=nyt hcl hDi;have h0:=GG.o.2.2.2.2.2.1 (hds 5 (by simp)) Qa;have h1:=GG.o.2.2.2.2.2.2.2.2.2.2.1 (hds 10 (by simp)) Qa;clear hds;have HC:=Ja (fun(n9:Nat)=>CallsIn.inRound l ((callsIn_wide (n:=n9)).2 (Js6 _ _ (cf R t0) (cf qs n) V h0 h1 Ub.o (Qq.o n))));clear h0 h1;refine wpOpIn_step rfl fun K hK=>?_;go_simp;gi_wp2_with(refine⟨trivial,?_⟩;gi_at_call 70;refine(HC.o _).mono ?_;rintro e w5 ⟨v5,rfl,hv5,hb5⟩)
     obtain⟨G0,G1,G2,G3,G4,G5,G6,G7,G8,G9,G10,_,G12,G13,G14,G15,G16⟩:=GG.o;exact E16 ⟨_,rfl,Ja ⟨G0,G1,G2,G3,G4,fun h h2=>(G5 h h2).below hb5,G6,G7,G8,G9,fun h h2=>(G10 h h2).below hb5,fun _ _=>⟨v5,by simp[Wl.o],by rw[←Wn.o];exact hv5⟩,fun h=>(G12 h).below hb5,fun h h2=>(G13 h h2).below hb5,G14,fun h=>(G15 h).below hb5,G16⟩,Ja ⟨fun h=>(SS0.o.1 h).below hb5,fun h=>(SS0.o.2 h).below hb5⟩⟩
   · have Qa:D 16=false:=nyt hcl hDi;have h0:=GG.o.2.2.2.2.2.2.2.2.2.2.2.1 (hds 11 (by simp)) Qa;clear hds;refine wpOpIn_step rfl fun K hK=>?_;go_simp;obtain⟨G0,G1,G2,G3,G4,G5,G6,G7,G8,G9,G10,G11,_,G13⟩:=GG.o;exact hK _ _ (E16 ⟨_,rfl,Ja ⟨G0,G1,G2,G3,G4,G5,G6,G7,G8,G9,G10,G11,fun _=>(show Jlm (D 16) V _ c from by obtain⟨u,e,h⟩:=h0;exact⟨u,e,fun _=>h⟩),G13⟩,SS0⟩)
   · have Qa:D 16=false:=nyt hcl hDi;have h0:=GG.o.2.2.2.2.2.2.2.2.2.2.2.2.1 (hds 12 (by simp));obtain⟨u0,rfl,g0⟩:=h0;clear hds;refine wpOpIn_step rfl fun K hK=>?_;go_simp;obtain⟨G0,G1,G2,G3,G4,G5,G6,G7,G8,G9,G10,G11,G12,_,G14⟩:=GG.o;exact hK _ _ (E16 ⟨_,rfl,Ja ⟨G0,G1,G2,G3,G4,G5,G6,G7,G8,G9,G10,G11,G12,fun _ _=>g0 Qa,G14⟩,SS0⟩)
   · have h0:=GG.o.2.2.2.2.2.2.2.2.2.2.2.2.1 (hds 12 (by simp));obtain⟨u0,rfl,g0⟩:=h0;clear hds;refine wpOpIn_step rfl fun K hK=>?_;go_simp;obtain⟨G0,G1,G2,G3,G4,G5,G6,G7,G8,G9,G10,G11,G12,G13,_,G15⟩:=GG.o;exact hK _ _ (E16 ⟨_,rfl,Ja ⟨G0,G1,G2,G3,G4,G5,G6,G7,G8,G9,G10,G11,G12,G13,fun _=>rfl,G15⟩,SS0⟩)
   · have Qa:D 16=false:=nyt hcl hDi;have Qb:=SS0.o.1 Qa;clear hds;refine wpOpIn_step rfl fun K hK=>?_;go_simp;obtain⟨G0,G1,G2,G3,G4,G5,G6,G7,G8,G9,G10,G11,G12,G13,G14,_,G16⟩:=GG.o;exact hK _ _ (E16 ⟨_,rfl,Ja ⟨G0,G1,G2,G3,G4,fun h h2=>(G5 h h2).below ((Below.refl _ V).alloc (Aa _) _),G6,G7,G8,G9,fun h h2=>(G10 h h2).below ((Below.refl _ V).alloc (Aa _) _),fun h h2=>(G11 h h2).below ((Below.refl _ V).alloc (Aa _) _),fun h=>(G12 h).below ((Below.refl _ V).alloc (Aa _) _),fun h h2=>(G13 h h2).below ((Below.refl _ V).alloc (Aa _) _),G14,fun _=>trivial,G16⟩,Ja ⟨fun _=>(show AbS true w W _ (Jez w pa (some ⟨bq,0,none⟩) la pc lb qc m gR rc B5 (B5+1) (B5+1+1) (B5+1+1+1) R Q) B4 (n:Int) (B5+1) (m-k) _ from AbS.alloc (by rw[hDi]at Qb;exact Qb)),fun h=>by simp[Qa]at h⟩⟩)
   · have Qb:=SS0.o.1 hDi;have h0:=GG.o.2.2.2.2.2.2.2.2.2.2.2.2.2.1 (hds 13 (by simp)) hDi;obtain⟨Bc,rfl,hM⟩:=Qb.2 (hds 15 (by simp));obtain⟨s9,a9,l9,c9,t9,b9,k9,d9,rfl⟩:=Ji.form h0;obtain⟨s8,a8,l8,c8,t8,b8,k8,d8,n8,r8,i8,j8⟩:=hM.1.1.rat (i:=9) rfl;have e0:=n8.c0;have e1:=n8.c1;have e2:=n8.c2;have e3:=n8.c3;have f0:=n8.f0;have f1:=n8.f1;have f2:=n8.f2;have f3:=n8.f3;clear hds;refine wpOpIn_step rfl fun K hK=>?_;go_simp;obtain⟨G0,G1,G2,G3,G4,_,G6,G7,G8,G9,_,_,G12,_,G14,_,G16⟩:=GG.o;exact hK _ _ (E16 ⟨_,rfl,Ja ⟨G0,G1,G2,G3,G4,fun _ h=>by simp at h,G6,G7,G8,G9,fun _ h=>by simp at h,fun _ h=>by simp at h,fun h=>(G12 h).drop _,fun _ h=>by simp at h,G14,fun _=>trivial,G16⟩,Ja ⟨fun h=>by simp at h,fun _=>⟨Bc,rfl,hM.1.upd (hM.1.1.putRat (i:=9) rfl h0) (Jr4 _ _ _ _ _ _) (Jjs hM.1.2.1 n8) (hM.1.1.ne 6 9 rfl rfl (by decide)),hM.2.trans (Jmn _ _ _ _ _ _)⟩⟩⟩)
   · obtain rfl:=GG.o.2.2.2.2.2.2.2.2.2.2.2.2.2.2.1 (hds 14 (by simp));clear hds;refine wpOpIn_step rfl fun K hK=>?_;go_simp;obtain⟨G0,G1,G2,G3,G4,G5,G6,G7,G8,G9,G10,G11,G12,G13,_,G15,_⟩:=GG.o;exact hK _ _ (E16 ⟨_,rfl,Ja ⟨G0,G1,G2,G3,G4,G5,G6,G7,G8,G9,G10,G11,G12,G13,fun _=>rfl,G15,fun _=>rfl⟩,SS0⟩)
  case fin1=>
   rintro D act V hDD ⟨td,te,tf,tg,ti,tj,tk,tl,tm,tn,tp,tq,tc,tr,ts,ta,tb,rfl,GG,SS0⟩;obtain⟨Bc,rfl,hM⟩:=SS0.o.2 (hDD 16 (by decide));obtain rfl:=GG.o.2.2.2.2.2.2.2.2.2.2.2.2.2.2.2.2 (hDD 17 (by decide));have HM:=Ja hM;clear GG SS0 hDD hM;obtain⟨s8,a8,l8,c8,t8,b8,k8,d8,n8,r8,i8,j8⟩:=HM.o.1.1.rat (i:=9) rfl;have e0:=n8.c0;have e1:=n8.c1;have e2:=n8.c2;have e3:=n8.c3;have e6:=(HM.o.1.1.cell (i:=7) rfl).1.cell;have hE:=HM.o.1.1.rats (i:=6) rfl;obtain⟨z0,z1,z2,z3⟩:=HM.o.1.2.2.1 i (by have:=Qg.o;omega);have f0:=hE.frozen (i*4);have f1:=hE.frozen (i*4+1);have f2:=hE.frozen (i*4+2);have f3:=hE.frozen (i*4+3);have Wq:=Ja r8;have Qv:=Ja (show SpK w W (putAt V (B5+1) (i*4) (.bool s8) (.slice a8 l8 c8) (.bool t8) (.slice b8 k8 d8)) (Jez w pa (some ⟨bq,0,none⟩) la pc lb qc m gR rc B5 (B5+1) (B5+1+1) (B5+1+1+1) R (Q.set i c)++[some (Bc,.rat c)]) B4 (n:Int) (B5+1) i from by
    have hp:=HM.o.1.1.putRats (i:=6) rfl (j:=i) (by have:=Qg.o;omega) r8;obtain⟨cs,Qf,_⟩:=hE;refine⟨⟨hp,(Jbf (Jjs HM.o.1.2.1 Qf) _ _ _ _).trans HM.o.1.2.1,ZQ.put (by have h:=HM.o.1.2.2.1;rwa[Qg.o.2.2.2.2.1]at h) _ _ _ _,?_⟩,HM.o.2.trans (Jfi _ _ _ _ _ _ _)⟩;exact(Ac.1 (Jg2 Qf _ _ _ _)).1)
   have c9:=(Qv.o.1.1.cell (i:=1) rfl).1.cell;unfold putAt at c9;clear n8 i8 j8 hE r8 HM;gi_wp2_with fail
   obtain⟨W9,hW9⟩:=ex (putAt V (B5+1) (i*4) (.bool s8) (.slice a8 l8 c8) (.bool t8) (.slice b8 k8 d8));rw[hW9]at Qv;unfold putAt at hW9;rw[hW9];clear hW9 c9 e0 e1 e2 e3 e6 z0 z1 z2 z3 f0 f1 f2 f3 Wq;gi_loopw [56] (fun jv wr=>∃j:Nat,j≤lb∧jv=.int .i64 (j:Int)∧Hid (SpK w W wr (Jez w pa (some ⟨bq,0,none⟩) la pc lb qc m gR rc B5 (B5+1) (B5+1+1) (B5+1+1+1) (Yq R i (-c) qs j) (Q.set i c)++[some (Bc,.rat c)]) B4 (n:Int) (B5+1) i)) (fun jv _=>lb-(intOf jv).toNat)
   case atStart=>exact⟨0,AW _,rfl,Qv⟩
   case round=>
    obtain⟨j,hj,rfl,HJ⟩:=hrel;clear Qv;by_cases hjl:j<lb
    · have hjl2:(j:Int)<(lb:Int):=by omega
      obtain⟨⟨e0,e1,e2,e3⟩,hrd⟩:=Uq.o j hjl wr HJ.o.1.1.2.2;have Wa:=Ja hrd;obtain⟨t1,ht1⟩:=ex (i+j:Nat);have hadd1:(i:Int)+(j:Int)=(t1:Int):=by omega
      have Qw:=Ja (show t1<la∧t1=i+j by have:=Qg.o;have:=HN.o;omega);have hwt1:IntKind.i64.wrap (t1:Int)=(t1:Int):=by rw[IntKind.wrap_i64];have:=Qw.o;omega
      have htl1:(t1:Int)<(la:Int):=by have:=Qw.o;omega
      clear hrd ht1;gi_wp2_with fail
      have Qs:SpK w W (wr.alloc (.cells #[.bool (s' j),.slice (aa' j) (ll' j) (cc' j),.bool (t' j),.slice (bb' j) (kk' j) (dd' j)] 38)) (Jez w pa (some ⟨bq,0,none⟩) la pc lb qc m gR rc B5 (B5+1) (B5+1+1) (B5+1+1+1) (Yq R i (-c) qs j) (Q.set i c)++[some (Bc,.rat c)]++[some (wr.heap.size,.rat (cf qs j))]) B4 (n:Int) (B5+1) i:=by
       have h1:=HJ.o.below ((Below.refl _ wr).alloc (Aa _) (.cells #[.bool (s' j),.slice (aa' j) (ll' j) (cc' j),.bool (t' j),.slice (bb' j) (kk' j) (dd' j)] 38));exact⟨⟨HJ.o.1.1.push (.rat (cf qs j)) Wa.o,h1.1.2⟩,h1.2⟩
      obtain⟨Wd,hWd⟩:=ex (wr.alloc (.cells #[.bool (s' j),.slice (aa' j) (ll' j) (cc' j),.bool (t' j),.slice (bb' j) (kk' j) (dd' j)] 38));obtain⟨Bd,hBd⟩:=ex (wr.heap.size);rw[hWd,hBd]at Qs;rw[hWd,hBd];obtain⟨X,hX⟩:=ex (Yq R i (-c) qs j);rw[hX]at Qs;have Ud:=Ja (show t1<X.length by rw[←hX,Yi];have:=Qg.o;have:=Qw.o;omega);have Wp:=Ja (show Sq (cf X t1)by rw[←hX];exact Wv.o j t1);have Wo:=Ja (show X.set t1 (cf X t1-c*cf qs j)=Yq R i (-c) qs (j+1)by
       rw[Yq,hX,←Qw.o.2,show cf X t1-c*cf qs j=cf X t1+-c*cf qs j by grind])
      have Qp:=Qs.below ((Below.refl _ Wd).drew);clear hWd hBd hX Qs e0 e1 e2 e3 Wa HJ;refine Yf Uf [[],[],[],[1,2],[],[],[],[5,6],[4,7],[8],[],[],[10,11],[9,12,12],[0,3,0,1,2,3,4,5,6,7,8,9,10,11,12,13],[14,13,13,0,1,2,3,4,5,6,7,8,9,10,11,12,13]] (by kernel_rfl) (by decide)
       (fun D act V=>∃(tt tu tv tw tx tz tA tB tC tE tF tG tH tI tJ:Value),act={ tmps:=#[.agg #[.slice pa la pc],.agg #[.slice (some ⟨bq,0,none⟩) lb qc],.pointer (some ⟨w.heap.size,0,none⟩),.pointer (some ⟨w.heap.size+1,0,none⟩),.pointer (some ⟨w.heap.size+1+1,0,none⟩),.pointer (some ⟨w.heap.size+1+1+1,0,none⟩),.bool false,.pointer (some ⟨B4,0,none⟩),.pointer (some ⟨B5,0,none⟩),.pointer (some ⟨B5+1+1,0,none⟩),.int .i64 ↑i,.pointer (some ⟨Bc,0,none⟩),.bool true,.int .i64 ↑j,.pointer (some ⟨Bd,0,none⟩),.agg #[.slice (some ⟨bq,0,none⟩) lb qc],.int .i64 ↑n,.int .i64 ↑n,.bool (decide (n<0)),undef,undef,.pointer (some ⟨w.heap.size,0,none⟩),.slice pa la pc,.slice (some ⟨gR,0,none⟩) la rc,.slice (some ⟨gR,0,none⟩) la rc,.int .i64 ↑la,.int .i64 ↑n,.int .i64 ↑m,.int .i64 ↑m,.slice (some ⟨B5+1,0,none⟩) m m,.slice (some ⟨B5+1,0,none⟩) m m,.func (.func 94) #[] #[.pointer (some ⟨B5+1+1+1,0,none⟩)],.int .i64 ↑i,.agg #[.bool false,.slice none 0 0,.bool false,.slice none 0 0],tc,td,te,tf,tg,ti,tj,tk,tl,tm,tn,tp,tq,tr,ts,.slice (some ⟨B5+1,0,none⟩) m m,.int .i64 ↑i,.agg #[.bool s8,.slice a8 l8 c8,.bool t8,.slice b8 k8 d8],.pointer (some { block:=B5+1,off:=i*4 }),.pointer (some ⟨w.heap.size+1,0,none⟩),.slice (some ⟨bq,0,none⟩) lb qc,.int .i64 ↑lb,.int .i64 ↑j,.bool true,.int .i64 ↑j,.pointer (some { block:=bq,off:=j*4 }),.agg #[.bool (s' j),.slice (aa' j) (ll' j) (cc' j),.bool (t' j),.slice (bb' j) (kk' j) (dd' j)],tt,tu,tv,tw,tx,tz,tA,tB,tC,tE,tF,tG,tH,tI,tJ,u76,undef,undef,undef,undef],defers:=[] }∧Hid ((D 0=true→tt=.slice (some ⟨gR,0,none⟩) la rc)∧(D 1=true→tu=.int .i64 (i:Int))∧(D 2=true→tv=.int .i64 (j:Int))∧(D 3=true→tw=.int .i64 (t1:Int))∧(D 4=true→tx=.slice (some ⟨gR,0,none⟩) la rc)∧(D 5=true→tz=.int .i64 (i:Int))∧(D 6=true→tA=.int .i64 (j:Int))∧(D 7=true→tB=.int .i64 (t1:Int))∧(D 8=true→tC=.pointer (some ⟨gR,t1*4,none⟩))∧(D 9=true→D 15=false→Ji V tE (cf X t1))∧(D 10=true→D 15=false→Ji V tF c)∧(D 11=true→D 15=false→Ji V tG (cf qs j))∧(D 12=true→D 15=false→Ji V tH (c*cf qs j))∧(D 13=true→D 15=false→Ji V tI (cf X t1-c*cf qs j))∧(D 14=true→tJ=.pointer (some ⟨gR,t1*4,none⟩)))∧Hid ((D 15=false→SpK w W V (Jez w pa (some ⟨bq,0,none⟩) la pc lb qc m gR rc B5 (B5+1) (B5+1+1) (B5+1+1+1) (X) (Q.set i c)++[some (Bc,.rat c)]++[some (Bd,.rat (cf qs j))]) B4 (n:Int) (B5+1) i)∧(D 15=true→SpK w W V (Jez w pa (some ⟨bq,0,none⟩) la pc lb qc m gR rc B5 (B5+1) (B5+1+1) (B5+1+1+1) (X.set t1 (cf X t1-c*cf qs j)) (Q.set i c)++[some (Bc,.rat c)]++[some (Bd,.rat (cf qs j))]) B4 (n:Int) (B5+1) i)))
       (E8 ⟨_,_,_,_,_,_,_,rfl,Ja (by simp),Ja ⟨fun _=>Qp,by simp⟩⟩) ?step2 ?fin2
      case step2=>
       rintro D act V i ds hcl hi hds hDi ⟨tt,tu,tv,tw,tx,tz,tA,tB,tC,tE,tF,tG,tH,tI,tJ,rfl,GG,SS0⟩;have Uy:i<16:=(Ad.1 hi).1;obtain rfl|rfl|rfl|rfl|rfl|rfl|rfl|rfl|rfl|rfl|rfl|rfl|rfl|rfl|rfl|rfl:=Lt16 i (by omega)
       all_goals
        simp only[Aj,Ah,Ak]at hi;subst hi
       · have Qa:D 15=false:=nyt hcl hDi;have Qb:=SS0.o.1 Qa;have e5:=(Qb.1.1.cell (i:=5) rfl).1.cell;clear hds;refine wpOpIn_step rfl fun K hK=>?_;go_simp;obtain⟨_,G1⟩:=GG.o;exact hK _ _ (E8 ⟨_,_,_,_,_,_,_,rfl,Ja ⟨fun _=>rfl,G1⟩,SS0⟩)
       · clear hds;refine wpOpIn_step rfl fun K hK=>?_;go_simp;obtain⟨G0,_,G2⟩:=GG.o;exact hK _ _ (E8 ⟨_,_,_,_,_,_,_,rfl,Ja ⟨G0,fun _=>rfl,G2⟩,SS0⟩)
       · clear hds;refine wpOpIn_step rfl fun K hK=>?_;go_simp;obtain⟨G0,G1,_,G3⟩:=GG.o;exact hK _ _ (E8 ⟨_,_,_,_,_,_,_,rfl,Ja ⟨G0,G1,fun _=>rfl,G3⟩,SS0⟩)
       · obtain rfl:=GG.o.2.1 (hds 1 (by simp));obtain rfl:=GG.o.2.2.1 (hds 2 (by simp));clear hds;refine wpOpIn_step rfl fun K hK=>?_;go_simp;obtain⟨G0,_,_,_,G4⟩:=GG.o;exact hK _ _ (E8 ⟨_,_,_,_,_,_,_,rfl,Ja ⟨G0,fun _=>rfl,fun _=>rfl,fun _=>rfl,G4⟩,SS0⟩)
       · have Qa:D 15=false:=nyt hcl hDi;have Qb:=SS0.o.1 Qa;have e5:=(Qb.1.1.cell (i:=5) rfl).1.cell;clear hds;refine wpOpIn_step rfl fun K hK=>?_;go_simp;obtain⟨G0,G1,G2,G3,_,G5⟩:=GG.o;exact hK _ _ (E8 ⟨_,_,_,_,_,_,_,rfl,Ja ⟨G0,G1,G2,G3,fun _=>rfl,G5⟩,SS0⟩)
       · clear hds;refine wpOpIn_step rfl fun K hK=>?_;go_simp;obtain⟨G0,G1,G2,G3,G4,_,G6⟩:=GG.o;exact hK _ _ (E8 ⟨_,_,_,_,_,_,_,rfl,Ja ⟨G0,G1,G2,G3,G4,fun _=>rfl,G6⟩,SS0⟩)
       · clear hds;refine wpOpIn_step rfl fun K hK=>?_;go_simp;obtain⟨G0,G1,G2,G3,G4,G5,_,G7⟩:=GG.o;exact hK _ _ (E8 ⟨_,_,_,_,_,_,_,rfl,Ja ⟨G0,G1,G2,G3,G4,G5,fun _=>rfl,G7⟩,SS0⟩)
       · obtain rfl:=GG.o.2.2.2.2.2.1 (hds 5 (by simp));obtain rfl:=GG.o.2.2.2.2.2.2.1 (hds 6 (by simp));clear hds;refine wpOpIn_step rfl fun K hK=>?_;go_simp;obtain⟨G0,G1,G2,G3,G4,_,_,_,G8⟩:=GG.o;exact hK _ _ (E8 ⟨_,_,_,_,_,_,_,rfl,Ja ⟨G0,G1,G2,G3,G4,fun _=>rfl,fun _=>rfl,fun _=>rfl,G8⟩,SS0⟩)
       · obtain rfl:=GG.o.2.2.2.2.1 (hds 4 (by simp));obtain rfl:=GG.o.2.2.2.2.2.2.2.1 (hds 7 (by simp));clear hds;refine wpOpIn_step rfl fun K hK=>?_;go_simp;obtain⟨G0,G1,G2,G3,_,G5,G6,_,_,G9⟩:=GG.o;exact hK _ _ (E8 ⟨_,_,_,_,_,_,_,rfl,Ja ⟨G0,G1,G2,G3,fun _=>rfl,G5,G6,fun _=>rfl,fun _=>rfl,G9⟩,SS0⟩)
       · have Qa:D 15=false:=nyt hcl hDi;have Qb:=SS0.o.1 Qa;obtain rfl:=GG.o.2.2.2.2.2.2.2.2.1 (hds 8 (by simp));obtain⟨xa,xb,xc,xd,e0,e1,e2,e3,hr⟩:=(Qb.1.1.rats (i:=4) rfl).at Ud.o;clear hds;refine wpOpIn_step rfl fun K hK=>?_;go_simp;obtain⟨G0,G1,G2,G3,G4,G5,G6,G7,_,_,G10⟩:=GG.o;exact hK _ _ (E8 ⟨_,_,_,_,_,_,_,rfl,Ja ⟨G0,G1,G2,G3,G4,G5,G6,G7,fun _=>rfl,fun _ _=>hr,G10⟩,SS0⟩)
       · have Qa:D 15=false:=nyt hcl hDi;have Qb:=SS0.o.1 Qa;obtain⟨s5,a5,l5,c5,t5,b5,k5,d5,n5,r5,i5,j5⟩:=Qb.1.1.rat (i:=9) rfl;have e0:=n5.c0;have e1:=n5.c1;have e2:=n5.c2;have e3:=n5.c3;clear hds;refine wpOpIn_step rfl fun K hK=>?_;go_simp;obtain⟨G0,G1,G2,G3,G4,G5,G6,G7,G8,G9,_,G11⟩:=GG.o;exact hK _ _ (E8 ⟨_,_,_,_,_,_,_,rfl,Ja ⟨G0,G1,G2,G3,G4,G5,G6,G7,G8,G9,fun _ _=>r5,G11⟩,SS0⟩)
       · have Qa:D 15=false:=nyt hcl hDi;have Qb:=SS0.o.1 Qa;obtain⟨s5,a5,l5,c5,t5,b5,k5,d5,n5,r5,i5,j5⟩:=Qb.1.1.rat (i:=10) rfl;have e0:=n5.c0;have e1:=n5.c1;have e2:=n5.c2;have e3:=n5.c3;clear hds;refine wpOpIn_step rfl fun K hK=>?_;go_simp;obtain⟨G0,G1,G2,G3,G4,G5,G6,G7,G8,G9,G10,_,G12⟩:=GG.o;exact hK _ _ (E8 ⟨_,_,_,_,_,_,_,rfl,Ja ⟨G0,G1,G2,G3,G4,G5,G6,G7,G8,G9,G10,fun _ _=>r5,G12⟩,SS0⟩)
       · have Qa:D 15=false:=nyt hcl hDi;have h0:=GG.o.2.2.2.2.2.2.2.2.2.2.1 (hds 10 (by simp)) Qa;have h1:=GG.o.2.2.2.2.2.2.2.2.2.2.2.1 (hds 11 (by simp)) Qa;clear hds;have HC:=Ja (fun(n9:Nat)=>CallsIn.inRound l ((callsIn_wide (n:=n9)).2 (Jkt _ _ c (cf qs j) V h0 h1 Wk.o (Qq.o j))));clear h0 h1;refine wpOpIn_step rfl fun K hK=>?_;go_simp;gi_wp2_with(refine⟨trivial,?_⟩;gi_at_call 41;refine(HC.o _).mono ?_;rintro e w5 ⟨v5,rfl,hv5,hb5⟩)
         obtain⟨G0,G1,G2,G3,G4,G5,G6,G7,G8,G9,G10,G11,_,G13,G14⟩:=GG.o;exact E8 ⟨_,_,_,_,_,_,_,rfl,Ja ⟨G0,G1,G2,G3,G4,G5,G6,G7,G8,fun h h2=>(G9 h h2).below hb5,fun h h2=>(G10 h h2).below hb5,fun h h2=>(G11 h h2).below hb5,fun _ _=>hv5,fun h h2=>(G13 h h2).below hb5,G14⟩,Ja ⟨fun h=>(SS0.o.1 h).below hb5,fun h=>(SS0.o.2 h).below hb5⟩⟩
       · have Qa:D 15=false:=nyt hcl hDi;have h0:=GG.o.2.2.2.2.2.2.2.2.2.1 (hds 9 (by simp)) Qa;have h1:=GG.o.2.2.2.2.2.2.2.2.2.2.2.2.1 (hds 12 (by simp)) Qa;clear hds;have HC:=Ja (fun(n9:Nat)=>CallsIn.inRound l ((callsIn_wide (n:=n9)).2 (Jen _ _ (cf X t1) (c*cf qs j) V h0 h1 Wp.o (Qz.o j))));clear h0 h1;refine wpOpIn_step rfl fun K hK=>?_;go_simp;gi_wp2_with(refine⟨trivial,?_⟩;gi_at_call 43;refine(HC.o _).mono ?_;rintro e w5 ⟨v5,rfl,hv5,hb5⟩)
         obtain⟨G0,G1,G2,G3,G4,G5,G6,G7,G8,G9,G10,G11,G12,_,G14⟩:=GG.o;exact E8 ⟨_,_,_,_,_,_,_,rfl,Ja ⟨G0,G1,G2,G3,G4,G5,G6,G7,G8,fun h h2=>(G9 h h2).below hb5,fun h h2=>(G10 h h2).below hb5,fun h h2=>(G11 h h2).below hb5,fun h h2=>(G12 h h2).below hb5,fun _ _=>hv5,G14⟩,Ja ⟨fun h=>(SS0.o.1 h).below hb5,fun h=>(SS0.o.2 h).below hb5⟩⟩
       · obtain rfl:=GG.o.1 (hds 0 (by simp));obtain rfl:=GG.o.2.2.2.1 (hds 3 (by simp));clear hds;refine wpOpIn_step rfl fun K hK=>?_;go_simp;obtain⟨_,G1,G2,_,G4,G5,G6,G7,G8,G9,G10,G11,G12,G13,_⟩:=GG.o;exact hK _ _ (E8 ⟨_,_,_,_,_,_,_,rfl,Ja ⟨fun _=>rfl,G1,G2,fun _=>rfl,G4,G5,G6,G7,G8,G9,G10,G11,G12,G13,fun _=>rfl⟩,SS0⟩)
       · have Qb:=SS0.o.1 hDi;have h0:=GG.o.2.2.2.2.2.2.2.2.2.2.2.2.2.1 (hds 13 (by simp)) hDi;obtain rfl:=GG.o.2.2.2.2.2.2.2.2.2.2.2.2.2.2 (hds 14 (by simp));have hE:=Qb.1.1.rats (i:=4) rfl;obtain⟨xa,xb,xc,xd,e0,e1,e2,e3,_⟩:=hE.at Ud.o;have f0:=hE.frozen (t1*4);have f1:=hE.frozen (t1*4+1);have f2:=hE.frozen (t1*4+2);have f3:=hE.frozen (t1*4+3);obtain⟨s9,a9,l9,c9,t9,b9,k9,d9,rfl⟩:=Ji.form h0;have Qf:∃cs,V.heap[gR]?=some (.cells cs 38 (0,0)):=by obtain⟨cs,h1,_⟩:=hE;exact⟨cs,h1⟩
         clear hds;refine wpOpIn_step rfl fun K hK=>?_;go_simp;obtain⟨G0,G1,G2,G3,G4,G5,G6,G7,G8,_,_,_,_,_,_⟩:=GG.o;exact hK _ _ (E8 ⟨_,_,_,_,_,_,_,rfl,Ja ⟨G0,G1,G2,G3,G4,G5,G6,G7,G8,fun _ h=>by simp at h,fun _ h=>by simp at h,fun _ h=>by simp at h,fun _ h=>by simp at h,fun _ h=>by simp at h,fun _=>rfl⟩,Ja ⟨fun h=>by simp at h,fun _=>⟨Qb.1.upd (Qb.1.1.putRats (i:=4) rfl Ud.o h0) (fun B hB=>Jbf hB _ _ _ _) (by obtain⟨cs,h1⟩:=Qf;exact Jjs Qb.1.2.1 h1) (fun e=>Qb.1.1.ne 4 6 rfl rfl (by decide) e.symm),Qb.2.trans (Jfi _ _ _ _ _ _ _)⟩⟩⟩)
      case fin2=>
       rintro D act V hDD ⟨tt,tu,tv,tw,tx,tz,tA,tB,tC,tE,tF,tG,tH,tI,tJ,rfl,GG,SS0⟩;have h3:=SS0.o.2 (hDD 15 (by decide));rw[Wo.o]at h3;have HO:=Ja (show SpK w W V (Jez w pa (some ⟨bq,0,none⟩) la pc lb qc m gR rc B5 (B5+1) (B5+1+1) (B5+1+1+1) (Yq R i (-c) qs (j+1)) (Q.set i c)++[some (Bc,.rat c)]) B4 (n:Int) (B5+1) i from⟨⟨h3.1.1.take 10,h3.1.2⟩,h3.2⟩);clear GG SS0 hDD h3;gi_wp2_with fail
       go_roundw
       case rel=>exact⟨j+1,by omega,by go_num,HO⟩
       case measure=>simp[intOf];omega
    · obtain rfl:j=lb:=by omega
      gi_wp2_with fail
      refine⟨HJ.o.2.from _,?_⟩;have h3:=HJ.o.1.1.take 9;rw[Qk.o]at h3;show SpB w wr (Jez w pa _ la pc _ qc m gR rc B5 (B5+1) (B5+1+1) (B5+1+1+1) (JI ps qs n m (k+1)).2 (JI ps qs n m (k+1)).1) B4 (n:Int) (B5+1) (m-(k+1));rw[Ua.o,Qg.o.2.2.2.2.2];refine⟨?_,HJ.o.1.2⟩;have Qo:=Qk.o;rw[←Qo];rw[←Qo]at h3;exact h3
 case done=>
  intro DC W hD hS hK;have Ul:=(YF ps qs n m m).2;have Ux:=(YF ps qs n m m).1;have Qc:cf qs n≠0:=by
   have:=Yo Uj.o Un.o;rwa[show qs.length-1=n by have:=HN.o;have:=Qk.o;omega]at this
  obtain⟨z,hz1,hz2,hz3⟩:=Jd2 (n:=n) (m:=m) hA Um.o Qj.o Qc m;have Ue:z+(2*A+1)≤1000000:=by
   have h1:2^m*(3*A+1)≤2^ps.length*(3*A+1):=Am _ (Ar (by omega) (by have:=Qe.o;have:=HN.o;omega));have h2:=HL.o;omega
  have Ug:Jaz ps qs=Jh (JI ps qs n m m).1:=by unfold Jaz;rw[show qs.length-1=n by have:=HN.o;have:=Qk.o;omega,show ps.length-n=m by have:=HN.o;have:=Qe.o;omega]
  have Uc:Jac ps qs=Jh (JI ps qs n m m).2:=by unfold Jac;rw[show qs.length-1=n by have:=HN.o;have:=Qk.o;omega,show ps.length-n=m by have:=HN.o;have:=Qe.o;omega]
  obtain⟨R,hR⟩:=ex ((JI ps qs n m m).2);obtain⟨Q,hQ⟩:=ex ((JI ps qs n m m).1);rw[hR]at Ul hz2 Uc;rw[hQ]at Ux hz3 Ug;rw[hR,hQ]at hS;have Ub:=Ja (show Sqs R from Sqs.of fun i=>Sq.of (hz2 i) (by omega));have HSQ':=Ja (show Sqs Q from Sqs.of fun i=>Sq.of (hz3 i) (by omega));have Up:RowK true W (.slice (some ⟨gR,0,none⟩) la rc) R:=by
   have h:=(hS.1.rats (i:=4) rfl).row (n:=la) (cap:=rc) (by have:=Qe.o;omega) (by have:=Uo.o;omega) (by have:=Uo.o;omega) hlma;rwa[Ab (by have:=Qe.o;omega)]at h
  have Wg:RowK true W (.slice (some ⟨B5+1,0,none⟩) m m) Q:=by
   have h:=(hS.1.rats (i:=6) rfl).row (n:=m) (cap:=m) (by omega) (Aa _) (by omega) Qm;rwa[Ab (by omega)]at h
  have Qp:DnS w W.drew DC B5 (B5+1+1) (.slice (some ⟨gR,0,none⟩) la rc) (.slice (some ⟨B5+1,0,none⟩) m m) R Q:=
   DnS.below ⟨(hS.1.cell (i:=2) rfl).1,(hS.1.cell (i:=3) rfl).1,(hS.1.cell (i:=5) rfl).1,(hS.1.cell (i:=7) rfl).1,Up,Wg,hS.1.2.2,hK⟩ ((Below.refl _ W).drew)
  have Wm:Dn4 false w W.drew DC undef:=fun e=>by cases e
  have Wr:=Ja Ug;have Wj:=Ja Uc;have Wi:=Ja (show w.heap.size≤DC by have:=Uu.o;omega);clear hS Ul Ux hz1 hz2 hz3 Ue Ug Uc hR hQ Qc Up Wg hK Qx;gi_wp2_with fail
  refine Yf Uf [[],[0],[],[2,1],[1,3,0,1],[3,4,0,1,2,3,4],[5,0,1,2,3,4,5]] (by kernel_rfl) (by decide)
   (fun D act V=>∃(tK tL tM tN tD:Value),act={ tmps:=#[.agg #[.slice pa la pc],.agg #[.slice qa lb qc],.pointer (some ⟨w.heap.size,0,none⟩),.pointer (some ⟨w.heap.size+1,0,none⟩),.pointer (some ⟨w.heap.size+1+1,0,none⟩),.pointer (some ⟨w.heap.size+1+1+1,0,none⟩),tD,.pointer (some ⟨B4,0,none⟩),.pointer (some ⟨B5,0,none⟩),.pointer (some ⟨B5+1+1,0,none⟩),undef,undef,undef,undef,undef,.agg #[.slice qa lb qc],.int .i64 ↑n,.int .i64 ↑n,.bool (decide ((n:Int)<0)),undef,undef,.pointer (some ⟨w.heap.size,0,none⟩),.slice pa la pc,.slice (some ⟨gR,0,none⟩) la rc,.slice (some ⟨gR,0,none⟩) la rc,.int .i64 ↑la,.int .i64 ↑n,.int .i64 ↑m,.int .i64 ↑m,.slice (some ⟨B5+1,0,none⟩) m m,.slice (some ⟨B5+1,0,none⟩) m m,.func (.func 94) #[] #[.pointer (some ⟨B5+1+1+1,0,none⟩)],undef,undef,undef,undef,undef,undef,undef,undef,undef,undef,undef,undef,undef,undef,undef,undef,undef,undef,undef,undef,undef,undef,undef,undef,undef,undef,undef,undef,undef,undef,undef,undef,undef,undef,undef,undef,undef,undef,undef,undef,undef,undef,undef,undef,undef,tK,tL,tM,tN],defers:={ target:=.collected DC,args:=#[] }::[] }∧Hid ((D 0=true→tK=.slice (some ⟨B5+1,0,none⟩) m m)∧(D 1=true→D 5=false→Ju V tL (Jh Q))∧(D 2=true→tM=.slice (some ⟨gR,0,none⟩) la rc)∧(D 3=true→D 5=false→Ju V tN (Jh R))∧(D 6=true→tD=.bool true))∧Hid ((D 4=false→DnS w V DC B5 (B5+1+1) (.slice (some ⟨gR,0,none⟩) la rc) (.slice (some ⟨B5+1,0,none⟩) m m) R Q)∧(D 4=true→Tr0 V))∧Hid ((D 5=false→Dn4 (D 4) w V DC tL)∧(D 5=true→Dn5 w V DC tL tN (Jh Q) (Jh R))))
   ⟨_,_,_,_,_,rfl,Ja (by simp),Ja ⟨fun _=>Qp,by simp⟩,Ja ⟨fun _=>Wm,by simp⟩⟩ ?step3 ?fin3
  case step3=>
   rintro D act V i ds hcl hi hds hDi ⟨tK,tL,tM,tN,tD,rfl,GG,SS0,SS1⟩;have Uy:i<7:=(Ad.1 hi).1;obtain rfl|rfl|rfl|rfl|rfl|rfl|rfl:=Lt7 i (by omega)
   all_goals
    simp only[Aj,Ah,Ak]at hi;subst hi
   · have Qa:D 4=false:=nyt hcl hDi;have Qb:=SS0.o.1 Qa;have Qd:D 5=false:=nyt hcl hDi;have Ql:=SS1.o.1 Qd;have e6:=Qb.2.2.2.1.cell;clear hds;refine wpOpIn_step rfl fun K hK=>?_;go_simp;obtain⟨_,G1⟩:=GG.o;exact hK _ _ ⟨_,_,_,_,_,rfl,Ja ⟨fun _=>rfl,G1⟩,SS0,SS1⟩
   · have Qa:D 4=false:=nyt hcl hDi;have Qb:=SS0.o.1 Qa;have Qd:D 5=false:=nyt hcl hDi;have Ql:=SS1.o.1 Qd;obtain rfl:=GG.o.1 (hds 0 (by simp));clear hds;have HC:=Ja (fun(n9:Nat)=>(callsIn_wide (n:=n9)).2 (X4 _ Q V Qb.2.2.2.2.2.1 HSQ'.o));refine wpOpIn_step rfl fun K hK=>?_;go_simp;gi_wp2_with(refine⟨trivial,?_⟩;gi_at_call 65;refine(HC.o _).mono ?_;rintro e w5 ⟨v5,rfl,hv5,_,hb5⟩)
     exact⟨_,_,_,_,_,rfl,Ja ⟨fun _=>rfl,fun _ _=>hv5,GG.o.2.2.1,fun h h2=>(GG.o.2.2.2.1 h h2).below hb5,GG.o.2.2.2.2⟩,Ja ⟨fun h=>(SS0.o.1 h).below hb5,fun h=>(SS0.o.2 h).below hb5⟩,Ja ⟨fun _=>(fun e=>by simp[Qa]at e),fun h=>by simp[Qd]at h⟩⟩
   · have Qa:D 4=false:=by
      cases h:D 4 with
      |false=>rfl
      |true=>rw[(hcl 3 _ rfl (hcl 4 _ rfl h 3 (by simp)) 2 (by simp))]at hDi;cases hDi
     have Qb:=SS0.o.1 Qa;have Qd:D 5=false:=nyt hcl hDi;have Ql:=SS1.o.1 Qd;have e5:=Qb.2.2.1.cell;clear hds;refine wpOpIn_step rfl fun K hK=>?_;go_simp;exact hK _ _ ⟨_,_,_,_,_,rfl,Ja ⟨GG.o.1,GG.o.2.1,fun _=>rfl,GG.o.2.2.2.1,GG.o.2.2.2.2⟩,SS0,SS1⟩
   · have Qa:D 4=false:=nyt hcl hDi;have Qb:=SS0.o.1 Qa;have Qd:D 5=false:=nyt hcl hDi;have Ql:=SS1.o.1 Qd;obtain rfl:=GG.o.2.2.1 (hds 2 (by simp));clear hds;have HC:=Ja (fun(n9:Nat)=>(callsIn_wide (n:=n9)).2 (X4 _ R V Qb.2.2.2.2.1 Ub.o));refine wpOpIn_step rfl fun K hK=>?_;go_simp;gi_wp2_with(refine⟨trivial,?_⟩;gi_at_call 65;refine(HC.o _).mono ?_;rintro e w5 ⟨v5,rfl,hv5,_,hb5⟩)
     exact⟨_,_,_,_,_,rfl,Ja ⟨GG.o.1,fun h h2=>(GG.o.2.1 h h2).below hb5,fun _=>rfl,fun _ _=>hv5,GG.o.2.2.2.2⟩,Ja ⟨fun h=>(SS0.o.1 h).below hb5,fun h=>(SS0.o.2 h).below hb5⟩,Ja ⟨fun _=>(fun e=>by simp[Qa]at e),fun h=>by simp[Qd]at h⟩⟩
   · have Qb:=SS0.o.1 hDi;have Qd:D 5=false:=nyt hcl hDi;have Ql:=SS1.o.1 Qd;have h0:=GG.o.2.1 (hds 1 (by simp)) Qd;obtain⟨a9,l9,c9,rfl⟩:=Ju.form h0;have Qn:=Qb.1;have e0:=Qn.cell;have f0:=Qn.frozen;have Qy:w.heap.size+1+1+1≠w.heap.size+1+1:=by omega
     clear hds;refine wpOpIn_step rfl fun K hK=>?_;go_simp;obtain⟨G0,G1,G2,G3,G4⟩:=GG.o;exact hK _ _ ⟨_,_,_,_,_,rfl,Ja ⟨G0,fun h h2=>(G1 h h2).setP Qn _,G2,fun h h2=>(G3 h h2).setP Qn _,G4⟩,Ja ⟨fun h=>by simp at h,fun _=>trivial⟩,Ja ⟨fun _=>(fun _=>⟨_,rfl,Qn.set _,(Below.heap_setCell V ⟨w.heap.size+1+1,0,none⟩ _ _ Qy).trans Qb.2.1,Qb.2.2.2.2.2.2.1.setCell (p:=⟨w.heap.size+1+1,0,none⟩) (by show w.heap.size≤w.heap.size+1+1;omega) _,(KeepsOthers.setCell V ⟨w.heap.size+1+1,0,none⟩ _).same DC _ Qb.2.2.2.2.2.2.2 rfl⟩),fun h=>by simp[Qd]at h⟩⟩
   · have Ql:=SS1.o.1 hDi;have h0:=GG.o.2.1 (hds 1 (by simp)) hDi;have h1:=GG.o.2.2.2.1 (hds 3 (by simp)) hDi;have Ws:=hds 4 (by simp);obtain⟨v2,rfl,hb2,hb3,hbw,hbd⟩:=Ql (hds 4 (by simp));obtain⟨a9,l9,c9,rfl⟩:=Ju.form h1;have e0:=hb3.cell;have f0:=hb3.frozen;have Qy:w.heap.size+1+1≠w.heap.size+1+1+1:=by omega
     clear hds;refine wpOpIn_step rfl fun K hK=>?_;go_simp;exact hK _ _ ⟨_,_,_,_,_,rfl,Ja ⟨GG.o.1,fun _ h=>by simp at h,GG.o.2.2.1,fun _ h=>by simp at h,GG.o.2.2.2.2⟩,Ja ⟨fun h=>by simp[Ws]at h,fun _=>trivial⟩,Ja ⟨fun h=>by simp at h,fun _=>⟨_,_,rfl,rfl,(Below.heap_setCell V ⟨w.heap.size+1+1+1,0,none⟩ _ _ Qy).trans hb2,hb3.set _,h0.setP hb3 _,h1.setP hb3 _,hbw.setCell (p:=⟨w.heap.size+1+1+1,0,none⟩) (by show w.heap.size≤w.heap.size+1+1+1;omega) _,(KeepsOthers.setCell V ⟨w.heap.size+1+1+1,0,none⟩ _).same DC _ hbd rfl⟩⟩⟩
   · clear hds;refine wpOpIn_step rfl fun K hK=>?_;go_simp;exact hK _ _ ⟨_,_,_,_,_,rfl,Ja ⟨GG.o.1,GG.o.2.1,GG.o.2.2.1,GG.o.2.2.2.1,fun _=>rfl⟩,SS0,SS1⟩
  case fin3=>
   rintro E act V hDD ⟨tK,tL,tM,tN,tD,rfl,GG,SS0,SS1⟩;obtain⟨v,v',rfl,rfl,g2,g3,hi2,hi3,hbw,hbd⟩:=SS1.o.2 (hDD 5 (by decide));obtain rfl:=GG.o.2.2.2.2 (hDD 6 (by decide));clear GG SS0 SS1 hDD;gi_wp2;refine⟨by simp,.inl ⟨_,_,rfl,run_takeDeferred hbd,?_⟩⟩;have hg:=grownBy_putObj' V DC (.deferred none);have Qr:∀r,some DC=some r→∃o:Obj,V.heap[r]?=some o∧o.isCells=false:=fun r e=>by cases e;exact⟨_,hbd,rfl⟩
   have q2:Boxed _ (w.heap.size+1+1) 25 v:=Xj hg Qr (show Bx V (w.heap.size+1+1) 25 #[v]from g2);have q3:Boxed _ (w.heap.size+1+1+1) 25 v':=Xj hg Qr (show Bx V (w.heap.size+1+1+1) 25 #[v']from g3);have x2:=q2.cell;have x3:=q3.cell;refine⟨.tuple #[.agg #[v],.agg #[v'],.bool true],by simp[results,Tryz.results29,go_sem,x2,x3],_,_,rfl,?_,?_,?_⟩
   · rw[Wr.o];obtain⟨u,e,h⟩:=hi2;exact⟨u,e,Jbi hg Qr h⟩
   · rw[Wj.o];obtain⟨u,e,h⟩:=hi3;exact⟨u,e,Jbi hg Qr h⟩
   · exact hbw.trans (belowK_b (w:=w) (Aa _) _ DC _ _ Wi.o hbd rfl rfl)
end Go.Proofs.YtcahejkcdcjjgaaGreatDoor.M3
