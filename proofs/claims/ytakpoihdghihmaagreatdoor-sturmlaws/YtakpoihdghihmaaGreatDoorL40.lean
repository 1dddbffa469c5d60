import Derived.Test.YtakpoihdghihmaaGreatDoorL39
import Derived.Defers
import Derived.Recover
import Derived.Test.YtakpoihdghihmaaGreatDoorL35
set_option maxRecDepth 100000
set_option maxHeartbeats 16000000
namespace Go.Proofs.YtakpoihdghihmaaGreatDoor
open Go.RowKit Go.Shelf
section
theorem aU(p q:Addr)(w:World):
 CallsD Tryz.prog 119 #[.pointer (some p),.pointer (some q)] .returning w fun e u' w'=>e=.returned (.tuple #[])∧u'=.returning∧w'=w.alloc (.cells #[.int .i64 0,.int .i64 0] 101):=by
 have Qa:∀w:World,(Instr.typeAssert Value.nilIface 20 101 true).run Tryz.prog w=.ok (.tuple #[.agg #[.int .i64 0,.int .i64 0],.bool false]) w:=fun _=>by kernel_rfl
 refine callsD_of_wpS Tryz.func119 rfl fun c₀ cs hu=>?_;apply wpS_seq;apply wpS_region;simp[wpOpsS,go_sem,recoverD,hu,Tryz.ntmps119,Exit.thenS,Qa];apply wpS_seq;apply wpS_region;simp[wpOpsS,go_sem,Exit.thenS];refine wpS_cond (t:=false) (by simp[Act.eval,Array.replicate]) ?_;simp only[Cu,if_false];refine wpS_of_wp (wp_skip ?_);cases c₀;simp_all [bodyPostS,results,Tryz.results119]
theorem aV(p q:Nat)(e0 p0:Int)(w:World)(bp:Boxed w p 25 (.slice none 0 0))(bq:Jo w q 101 (.int .i64 0) (.int .i64 0))(hne:p≠q):
 CallsD Tryz.prog 119 #[.pointer (some ⟨p,0,none⟩),.pointer (some ⟨q,0,none⟩)] (.panicking [{ v:=GA e0 p0,recovered:=false }]) w fun e u' w'=>e=.returned (.tuple #[])∧u'=.panicking [{ v:=GA e0 p0,recovered:=true }]∧Boxed w' p 25 (.slice none 0 0)∧Jo w' q 101 (.int .i64 e0) (.int .i64 p0)∧∀n w0,Below n w0 w→n≤w.heap.size→n≤p→n≤q→Below n w0 w':=by
 unfold GA;have Qc:∀w:World,(Instr.typeAssert (.iface 101 (.agg #[.int .i64 e0,.int .i64 p0])) 20 101 true).run Tryz.prog w=.ok (.tuple #[.agg #[.int .i64 e0,.int .i64 p0],.bool true]) w:=fun _=>by kernel_rfl
 refine callsD_of_wpS Tryz.func119 rfl fun c₀ cs hu=>?_;apply wpS_seq;apply wpS_region;simp[wpOpsS,go_sem,recoverD,hu,Tryz.ntmps119,Exit.thenS,Qc];apply wpS_seq;apply wpS_region;simp[wpOpsS,go_sem,Exit.thenS];refine wpS_cond (t:=true) (by simp[Act.eval,Array.replicate]) ?_;simp only[if_true];refine wpS_of_wp ?_;simp[Array.replicate];have n0:=Jo.new w 101 (.int .i64 e0) (.int .i64 p0);have Qb:=bp.alloc (.cells #[.int .i64 e0,.int .i64 p0] 101);have Qa:=bq.alloc (.cells #[.int .i64 e0,.int .i64 p0] 101);have Qd:p≠w.heap.size:=by have:=bp.lt;omega
 have Qe:q≠w.heap.size:=by have:=bq.lt;omega
 have HB:=Ja (fun(n:Nat) (w0:World) (h:Below n w0 w) (hn:n≤w.heap.size)=>h.alloc hn (.cells #[.int .i64 e0,.int .i64 p0] 101));obtain⟨W,hW⟩:=ex (w.alloc (.cells #[.int .i64 e0,.int .i64 p0] 101));rw[hW]at n0 Qb Qa HB;rw[hW];obtain⟨D,hD⟩:=ex (w.heap.size);rw[hD]at n0 Qd Qe HB;rw[hD];clear hW bp bq Qc hu;obtain⟨d0,d1⟩:=n0.cp;have x0:=Qb.cell;have x1:=Qb.frozen;obtain⟨y0,y1⟩:=Qa.cp;obtain⟨z0,z1⟩:=Qa.fp;have HX:=Ja Qb;have HY:=Ja Qa;clear Qb Qa n0;go_region
 have hX:Boxed (((W.setCell ⟨p,0,none⟩ (.slice none 0 0)).setCell ⟨q,0,none⟩ (.int .i64 e0)).setCell ⟨q,1,none⟩ (.int .i64 p0)).drew p 25 (.slice none 0 0):=
  (BC _ ⟨q,1,none⟩ (.int .i64 p0) p hne).trans ((BC _ ⟨q,0,none⟩ (.int .i64 e0) p hne).trans (HX.o.set (.slice none 0 0)))
 have hY:Jo (((W.setCell ⟨p,0,none⟩ (.slice none 0 0)).setCell ⟨q,0,none⟩ (.int .i64 e0)).setCell ⟨q,1,none⟩ (.int .i64 p0)).drew q 101 (.int .i64 e0) (.int .i64 p0):=
  (((HY.o.far (p:=⟨p,0,none⟩) (fun e=>hne e.symm) _).set0 _).set1 _).drew
 have hZ:∀n w0,Below n w0 w→n≤D→n≤p→n≤q→Below n w0 (((W.setCell ⟨p,0,none⟩ (.slice none 0 0)).setCell ⟨q,0,none⟩ (.int .i64 e0)).setCell ⟨q,1,none⟩ (.int .i64 p0)).drew:=
  fun n w0 h hn h1 h2=>((((HB.o n w0 h hn).setCell (p:=⟨p,0,none⟩) h1 _).setCell (p:=⟨q,0,none⟩) h2 _).setCell (p:=⟨q,1,none⟩) h2 _).drew
 generalize (((W.setCell ⟨p,0,none⟩ (.slice none 0 0)).setCell ⟨q,0,none⟩ (.int .i64 e0)).setCell ⟨q,1,none⟩ (.int .i64 p0)).drew=V at hX hY hZ ⊢;simp[bodyPostS,results,Tryz.results119];exact⟨hX,hY,hZ⟩
theorem aW(s:ByteArray)(e0 q0:Int)(w:World)(hP:∀V R,Db V R s 0→Calls Tryz.prog 120 #[.pointer (some ⟨R,0,none⟩)] V fun r w'=>V.grownBy w' (some R)∧r=.panicked [{ v:=GA e0 q0,recovered:=false }]):
 Calls Tryz.prog 61 #[.string s] w fun r w'=>r=.returned (.tuple #[.agg #[.slice none 0 0],.agg #[.int .i64 e0,.int .i64 q0]])∧Bl w w':=by
 have HP:=Ja hP;clear hP;go_enter_defers Tryz.func61,Tryz.ntmps61
 go_upto_region 3 with fail
 have h0:=BI w 25 (.slice none 0 0);have h1:=Jo.new (w.alloc (.cells #[.slice none 0 0] 25)) 101 (.int .i64 0) (.int .i64 0);have h2:Db (((w.alloc (.cells #[.slice none 0 0] 25)).alloc (.cells #[.int .i64 0,.int .i64 0] 101)).alloc (.cells #[.string s,.int .i64 0] 151)) ((w.alloc (.cells #[.slice none 0 0] 25)).alloc (.cells #[.int .i64 0,.int .i64 0] 101)).heap.size s 0:=BF _ _;rw[BA,BA]at h2;rw[BA]at h1;replace h0:=(h0.alloc (.cells #[.int .i64 0,.int .i64 0] 101)).alloc (.cells #[.string s,.int .i64 0] 151);replace h1:=h1.alloc (.cells #[.string s,.int .i64 0] 151);have hb:Bl w (((w.alloc (.cells #[.slice none 0 0] 25)).alloc (.cells #[.int .i64 0,.int .i64 0] 101)).alloc (.cells #[.string s,.int .i64 0] 151)):=((Ba w _).alloc (by rw[BA];omega) _).alloc (by rw[BA,BA];omega) _;have hz:(((w.alloc (.cells #[.slice none 0 0] 25)).alloc (.cells #[.int .i64 0,.int .i64 0] 101)).alloc (.cells #[.string s,.int .i64 0] 151)).heap.size=w.heap.size+1+1+1:=by rw[BA,BA,BA]
 obtain⟨V,hV⟩:=ex (((w.alloc (.cells #[.slice none 0 0] 25)).alloc (.cells #[.int .i64 0,.int .i64 0] 101)).alloc (.cells #[.string s,.int .i64 0] 151));rw[hV]at h0 h1 h2 hb hz;rw[hV];obtain⟨H0,H1,HB,HC⟩:=Dt h0 h1 hb (HP.o _ _ h2);clear h0 h1 h2 hb hV HP hz;go_wp2_with(go_at_call 120;refine HC.o.mono ?_;rintro e w1 ⟨hg1,rfl⟩;have HG:=Ja hg1;clear hg1)
 have Qc:Boxed w1 w.heap.size 25 (.slice none 0 0):=H0.o.kept HG.o (fun e=>by have:=Cp e;omega);have Qb:Jo w1 (w.heap.size+1) 101 (.int .i64 0) (.int .i64 0):=(HG.o.block _ H1.o.lt (fun e=>by have:=Cp e;omega)).trans H1.o;have Qa:Bl w w1:=HB.o.grown HG.o HB.o.size (fun k e=>by have:=Cp e;omega);refine leaves_cons (f:=119) (args:=#[.pointer (some ⟨w.heap.size,0,none⟩),.pointer (some ⟨w.heap.size+1,0,none⟩)]) (by simp) (by simp[go_sem]) ?_;refine(aV w.heap.size (w.heap.size+1) e0 q0 _ Qc Qb (by omega)).mono ?_;rintro e u' w2 ⟨rfl,rfl,h3,h4,h5⟩;have h6:=h5 _ _ Qa Qa.size (Aa _) (by omega);have x0:=h3.cell;obtain⟨y0,y1⟩:=h4.cp;simp[Leaves,settle,results,Tryz.results61,go_sem,x0,y0,y1];exact h6
theorem aX{W W':World}{F:Nat}{cs:Array Value}{t:TypeId}{m:Nat × Nat}(hF:W.heap[F]?=some (.cells cs t m))(ht:t=101)(hg:W.grownBy W' (some F)):∀k v ds,Row k W v ds→Row k W' v ds:=by
 intro k v ds hr;obtain⟨a,cap,e,_⟩:=id hr;subst e;refine hr.grown hg (fun p ep hl=>?_);obtain⟨b,off,ea,cs',m',hb⟩:=hr.typ hl;rw[ea]at ep;cases ep;intro e;subst e;have:=hb.symm.trans hF;simp only[Ak,DG]at this;subst ht;have h2:=this.2.1;revert h2;cases k<;>(show ¬(_=_);decide)
theorem QN{W W':World}{F:Nat}{cs:Array Value}{t:TypeId}{m:Nat × Nat}(hF:W.heap[F]?=some (.cells cs t m))(ht:t=101)(hg:W.grownBy W' (some F)){r:Bool}{v:Value}{qs:List Rat}(h:RowK r W v qs):RowK r W' v qs:=by
 obtain⟨a,cap,e,h1,h2,h3,h4⟩:=h;refine⟨a,cap,e,h1,h2,h3,?_⟩;rcases h4 with h4|⟨b,ea,h5⟩
 · exact Or.inl h4
 · refine Or.inr ⟨b,ea,h5.keep (hg.block b h5.lt (fun e=>?_)) (aX hF ht hg)⟩;obtain⟨cs',g1,_⟩:=h5;have e:=Cp e;subst e;have:=g1.symm.trans hF;simp only[Ak,DG]at this;subst ht;have h2:=this.2.1;revert h2;cases r<;>(show ¬(_=_);decide)
theorem aY(s:ByteArray)(ps:List Rat)(w:World)(hP:∀V R,Db V R s 0→Calls Tryz.prog 120 #[.pointer (some ⟨R,0,none⟩)] V fun r w'=>V.grownBy w' (some R)∧∃u,r=.returned u∧Je w' u ps):
 Calls Tryz.prog 61 #[.string s] w fun r w'=>∃u,r=.returned (.tuple #[u,.agg #[.int .i64 0,.int .i64 0]])∧Je w' u ps∧Bl w w':=by
 have HP:=Ja hP;clear hP;go_enter_defers Tryz.func61,Tryz.ntmps61
 go_upto_region 3 with fail
 have h0:=BI w 25 (.slice none 0 0);have h1:=Jo.new (w.alloc (.cells #[.slice none 0 0] 25)) 101 (.int .i64 0) (.int .i64 0);have h2:Db (((w.alloc (.cells #[.slice none 0 0] 25)).alloc (.cells #[.int .i64 0,.int .i64 0] 101)).alloc (.cells #[.string s,.int .i64 0] 151)) ((w.alloc (.cells #[.slice none 0 0] 25)).alloc (.cells #[.int .i64 0,.int .i64 0] 101)).heap.size s 0:=BF _ _;rw[BA,BA]at h2;rw[BA]at h1;replace h0:=(h0.alloc (.cells #[.int .i64 0,.int .i64 0] 101)).alloc (.cells #[.string s,.int .i64 0] 151);replace h1:=h1.alloc (.cells #[.string s,.int .i64 0] 151);have hb:Bl w (((w.alloc (.cells #[.slice none 0 0] 25)).alloc (.cells #[.int .i64 0,.int .i64 0] 101)).alloc (.cells #[.string s,.int .i64 0] 151)):=((Ba w _).alloc (by rw[BA];omega) _).alloc (by rw[BA,BA];omega) _;have hz:(((w.alloc (.cells #[.slice none 0 0] 25)).alloc (.cells #[.int .i64 0,.int .i64 0] 101)).alloc (.cells #[.string s,.int .i64 0] 151)).heap.size=w.heap.size+1+1+1:=by rw[BA,BA,BA]
 obtain⟨V,hV⟩:=ex (((w.alloc (.cells #[.slice none 0 0] 25)).alloc (.cells #[.int .i64 0,.int .i64 0] 101)).alloc (.cells #[.string s,.int .i64 0] 151));rw[hV]at h0 h1 h2 hb hz;rw[hV];obtain⟨H0,H1,HB,HC⟩:=Dt h0 h1 hb (HP.o _ _ h2);clear h0 h1 h2 hb hV HP hz;go_wp2_with(go_at_call 120;refine HC.o.mono ?_;rintro e w1 ⟨hg1,u1,rfl,hu1⟩;have HG:=Ja hg1;obtain⟨a9,l9,c9,rfl⟩:=hu1.form;have HU:=Ja hu1.row;have Qb:Boxed w1 w.heap.size 25 (.slice none 0 0):=H0.o.kept HG.o (fun e=>by have:=Cp e;omega);have Qa:Jo w1 (w.heap.size+1) 101 (.int .i64 0) (.int .i64 0):=(HG.o.block _ H1.o.lt (fun e=>by have:=Cp e;omega)).trans H1.o;have x0:=Qb.cell;have x1:=Qb.frozen;obtain⟨y0,y1⟩:=Qa.cp;obtain⟨z0,z1⟩:=Qa.fp;have H2:=Ja Qb;have H3:=Ja Qa;clear hg1 hu1 Qb Qa)
 have Qc:w.heap.size+1≠w.heap.size:=by omega
 have Qd:Bl w w1:=HB.o.grown HG.o HB.o.size (fun k e=>by have:=Cp e;omega);have a1:=H2.o.set (.slice a9 l9 c9);have a2:=EX H2.o (.slice a9 l9 c9) HU.o;have a3:=H3.o.far (p:=⟨w.heap.size,0,none⟩) Qc (.slice a9 l9 c9);have a4:=Qd.setCell (p:=⟨w.heap.size,0,none⟩) (Aa _) (.slice a9 l9 c9);generalize w1.setCell ⟨w.heap.size,0,none⟩ (.slice a9 l9 c9)=W2 at a1 a2 a3 a4 ⊢;have b1:=(BC W2 ⟨w.heap.size+1,0,none⟩ (.int .i64 0) w.heap.size (fun e=>Qc e.symm)).trans a1;have b2:=QN a3 rfl (JQ W2 (w.heap.size+1) 0 (.int .i64 0)) a2;have b3:=a3.set0 (.int .i64 0);have b4:=a4.setCell (p:=⟨w.heap.size+1,0,none⟩) (by show _≤w.heap.size+1;omega) (.int .i64 0);generalize W2.setCell ⟨w.heap.size+1,0,none⟩ (.int .i64 0)=W3 at b1 b2 b3 b4 ⊢;have d1:=(BC W3 ⟨w.heap.size+1,1,none⟩ (.int .i64 0) w.heap.size (fun e=>Qc e.symm)).trans b1;have d2:=QN b3 rfl (JQ W3 (w.heap.size+1) 1 (.int .i64 0)) b2;have d3:=b3.set1 (.int .i64 0);have d4:=b4.setCell (p:=⟨w.heap.size+1,1,none⟩) (by show _≤w.heap.size+1;omega) (.int .i64 0);generalize W3.setCell ⟨w.heap.size+1,1,none⟩ (.int .i64 0)=W4 at d1 d2 d3 d4 ⊢;refine leaves_cons (f:=119) (args:=#[.pointer (some ⟨w.heap.size,0,none⟩),.pointer (some ⟨w.heap.size+1,0,none⟩)]) (by simp) (by simp[go_sem]) ?_;refine(aU ⟨w.heap.size,0,none⟩ ⟨w.heap.size+1,0,none⟩ _).mono ?_;rintro e u' w2 ⟨rfl,rfl,rfl⟩;have e1:Boxed W4 w.heap.size 25 (.slice a9 l9 c9):=d1;have f1:=(e1.alloc (.cells #[.int .i64 0,.int .i64 0] 101)).cell;have f2:=(d3.alloc (.cells #[.int .i64 0,.int .i64 0] 101)).c0;have f3:=(d3.alloc (.cells #[.int .i64 0,.int .i64 0] 101)).c1;have f4:=d4.alloc d4.size (.cells #[.int .i64 0,.int .i64 0] 101);have f5:=d2.below (Ba W4 (.cells #[.int .i64 0,.int .i64 0] 101));generalize W4.alloc (.cells #[.int .i64 0,.int .i64 0] 101)=W5 at f1 f2 f3 f4 f5 ⊢;simp[Leaves,settle,results,Tryz.results61,go_sem,f1,f2,f3];exact⟨⟨_,rfl,f5⟩,f4⟩
attribute [local go_sem] Oper.semAt_some
theorem QO{l:List UInt8}:∀(f:Nat) (b:Bool) (I m:Nat) (S S':List Rat) (k:Nat),I≤l.length→m≤I→X5 S m→Ea l f b I S=.ok S' k→∃m',m'≤l.length∧X5 S' m':=by
 intro f;induction f with
 |zero=>intro b I m S S' k _ _ _ h;cases h
 |succ f ih=>
  intro b I m S S' k hI hm hS h;cases ht:Y5 l I with
  |error e p=>rw[NL ht]at h;cases h
  |ok a k5=>
   obtain⟨c,n⟩:=a;have h1:=MK hI ht;have h2:=hS.next (QK hI ht) h1.2.2 b;have h3:=GJ l k5;rw[NM ht]at h;split at h
   · rename_i h5;have:=Yu h5;exact ih _ _ (m+1) _ _ _ (by omega) (by omega) h2 h
   · split at h
     · rename_i h5;have:=Yu h5;exact ih _ _ (m+1) _ _ _ (by omega) (by omega) h2 h
     · split at h
       · cases h;exact⟨m+1,by omega,h2⟩
       · cases h
theorem aZ{l:List UInt8}{S:List Rat}{k:Nat}(h:EW l=.ok S k):∃m,m≤l.length∧X5 S m:=by
 unfold EW at h;have h4:=XY (l:=l) (i:=0) (by omega);split at h
 · rename_i h5;have:=Yu h5;exact QO _ _ _ 0 _ _ _ (by omega) (by omega) X5.start h
 · exact QO _ _ _ 0 _ _ _ h4 (by omega) X5.start h
theorem QP(l:List UInt8):(YC l).1.length≤9∧∀i,DV 601 (cf (YC l).1 i):=by
 by_cases h:300<l.length
 · rw[show YC l=([],1,0)by unfold YC;rw[BH h]];exact⟨by simp,fun i=>by rw[YD];exact DV.zero _ (by omega)⟩
 · rw[LN h];cases ht:EW l with
   |error e p=>exact⟨by simp[Ij],fun i=>by rw[show(Ij (EStateM.Result.error (α:=List Rat) e p)).1=[]from rfl,YD];exact DV.zero _ (by omega)⟩
   |ok S k=>
    obtain⟨m,hm,hs⟩:=aZ ht;rw[show(Ij (EStateM.Result.ok S k)).1=Jc S from rfl];exact⟨An (YB _) (by rw[hs.1];exact Aa _),fun i=>by rw[J0];exact(hs.2 i).mono (by omega)⟩
def Im(l:List UInt8)(w':World)(u:Value)(e p:Int):Prop:=e=((YC l).2.1:Int)∧p=((YC l).2.2:Int)∧Je w' u (YC l).1
theorem ad(s:ByteArray)(hs:s.size≤300)(w:World):
 Calls Tryz.prog 61 #[.string s] w fun r w'=>∃u e p,r=.returned (.tuple #[u,.agg #[.int .i64 e,.int .i64 p]])∧Im (Jj s) w' u e p∧Bl w w':=by
 have HP:=LN (l:=Jj s) (by rw[Jp];omega);cases ht:EW (Jj s)with
 |error e0 q0=>
  rw[ht]at HP;refine(aW s e0 q0 w (fun V R hR=>(QL R s V hR hs).mono (fun r w' h=>⟨h.1,h.2.1 _ _ ht⟩))).mono ?_;rintro r w' ⟨rfl,hb⟩;refine⟨_,_,_,rfl,?_,hb⟩;rw[Im,HP];exact⟨rfl,rfl,_,rfl,RowK.nil _ _⟩
 |ok S k=>
  rw[ht]at HP;refine(aY s (Jc S) w (fun V R hR=>(QL R s V hR hs).mono (fun r w' h=>⟨h.1,by obtain⟨u,h1,h2,_⟩:=h.2.2 _ _ ht;exact⟨u,h1,h2⟩⟩))).mono ?_;rintro r w' ⟨u,rfl,hu,hb⟩;refine⟨_,_,_,rfl,?_,hb⟩;rw[Im,HP];exact⟨rfl,rfl,hu⟩
theorem QQ(s:ByteArray)(w:World):
 Calls Tryz.prog 23 #[.string s] w fun r w'=>∃u e p,r=.returned (.tuple #[u,.int .i64 e,.int .i64 p])∧Im (Jj s) w' u e p∧Bl w w':=by
 by_cases hlong:300<s.size
 · have hlong':(300:Int)<(s.size:Int):=by omega
   have HP:=Ja (show YC (Jj s)=([],1,0)by unfold YC;rw[BH (by rw[Jp];exact hlong)]);clear hlong;go_enter Tryz.func23,Tryz.ntmps23
   go_wp2;exact BB (v:=.tuple #[.agg #[.slice none 0 0],.int .i64 1,.int .i64 0]) (by simp[results,Tryz.results23,go_sem]) rfl ⟨_,_,_,rfl,by rw[Im,HP.o];exact⟨rfl,rfl,_,rfl,RowK.nil _ _⟩,Ba w _⟩
 · have hlong':¬(300:Int)<(s.size:Int):=by omega
   have HR:=Ja (fun(V:World)=>ad s (by omega) V);clear hlong;go_enter Tryz.func23,Tryz.ntmps23
   go_upto_region 4 with(go_at_call 61;refine(HR.o _).mono ?_;clear HR;rintro e w1 ⟨u1,e1,p1,rfl,Qa,Qb⟩;obtain⟨a9,l9,c9,rfl⟩:=Qa.2.2.form;have HU:=Ja Qa;have HB:=Ja Qb;clear Qa Qb)
   have Qj:w.heap.size<w1.heap.size:=by have:=HB.o.size;rw[BA]at this;omega
   have q0:Boxed w1 w.heap.size 25 (.slice none 0 0):=(HB.o.block _ (by rw[BA];omega)).trans (BI w 25 (.slice none 0 0));have Qe:Bl w w1:=(Ba w _).trans (HB.o.mono (by rw[BA];omega));have h0:=BI w1 25 (.slice a9 l9 c9);have h1:=Jo.new (w1.alloc (.cells #[.slice a9 l9 c9] 25)) 101 (.int .i64 e1) (.int .i64 p1);rw[BA]at h1;replace h0:=h0.alloc (.cells #[.int .i64 e1,.int .i64 p1] 101);have hA:Bl w1 ((w1.alloc (.cells #[.slice a9 l9 c9] 25)).alloc (.cells #[.int .i64 e1,.int .i64 p1] 101)):=(Ba w1 _).alloc (by rw[BA];omega) _;have q1:=(hA.block _ q0.lt).trans q0;have Qb:=Bt Qe hA;have Qa:=HU.o.2.2.row.below hA;have Qf:=Ja (⟨HU.o.1,HU.o.2.1⟩:e1=_∧p1=_);have Qc:w.heap.size≠w1.heap.size:=by omega
   have Qd:w.heap.size≠w1.heap.size+1:=by omega
   generalize (w1.alloc (.cells #[.slice a9 l9 c9] 25)).alloc (.cells #[.int .i64 e1,.int .i64 p1] 101)=W2 at h0 h1 hA q1 Qb Qa ⊢;clear hA q0 Qe HB HU Qj;obtain⟨Q,hQ⟩:=ex (w.heap.size);obtain⟨B,hB⟩:=ex (w1.heap.size);rw[hB]at h0 h1 Qc Qd;rw[hQ]at q1 Qc Qd;rw[hB,hQ];have q2:Boxed W2 Q 25 (.slice none 0 0):=q1;have x0:=h0.cell;obtain⟨y0,y1⟩:=h1.cp;have z0:=q2.cell;have z1:=q2.frozen;obtain⟨Qi,Qh,Qk,Qg⟩:=Dt q2 hQ Qb Qa;clear h0 h1 q1 q2 hQ hB Qb Qa;go_region
   go_wp2_with fail
   have r0:=z0;refine BB (v:=.tuple #[.agg #[.slice a9 l9 c9],.int .i64 e1,.int .i64 p1]) (by simp[results,Tryz.results23,go_sem,r0]) rfl ⟨_,_,_,rfl,⟨Qf.o.1,Qf.o.2,_,rfl,?_⟩,?_⟩
   · exact(EX Qi.o (.slice a9 l9 c9) Qg.o).below ((BG _ _).drew)
   · exact(Qk.o.setCell (p:=⟨Q,0,none⟩) (by rw[Qh.o];exact Aa _) _).drew
end
theorem DV.abs{k:Nat}{q:Rat}(h:DV k q):DV k (Yl q):=by
 have:=WN q;unfold DV Sm at h ⊢;rw[this.1,this.2];exact⟨by have:=h.1;omega,h.2⟩
theorem ae(z:List Rat)(i:Nat)(a:Rat)(q:List Rat):∀(j k:Nat),i+j≤k→cf (YG z i a q j) k=cf z k:=by
 intro j;induction j with
 |zero=>intro k _;rfl
 |succ j ih=>
  intro k hk;rw[YG];by_cases h:i+j<z.length
  · rw[XG _ _ _ _ (by rw[Yr];exact h),BE (by omega),ih k (by omega)]
  · rw[CW (by rw[Yr];omega),ih k (by omega)]
theorem LQ(z:List Rat)(i:Nat)(a:Rat)(q:List Rat):∀(j k:Nat),cf (YG z i a q j) k=cf z k∨cf (YG z i a q j) k=cf z k+a*cf q (k-i):=by
 intro j;induction j with
 |zero=>intro k;exact Or.inl rfl
 |succ j ih=>
  intro k;rw[YG];by_cases h:i+j<z.length
  · rw[XG _ _ _ _ (by rw[Yr];exact h)];by_cases e:k=i+j
    · subst e;rw[BH rfl,ae z i a q j (i+j) (Aa _)];exact Or.inr (by rw[Nat.add_sub_cancel_left])
    · rw[BE e];exact ih k
  · rw[CW (by rw[Yr];omega)];exact ih k
theorem DV.mul2{k m:Nat}{p q:Rat}(hp:DV k p)(hq:DV m q):DV (k+m) (p*q):=by
 rw[←TN];refine DV.divInt ?_ (hp.1.mul hq.1) (hp.2.mul hq.2);exact A7 (by have:=p.den_nz;omega) (by have:=q.den_nz;omega)
theorem DV.inv{m:Nat}{q:Rat}(hq:DV m q)(h0:q≠0):DV m q⁻¹:=by
 rw[Rat.inv_def];exact DV.divInt (fun e=>h0 (FG.1 e)) hq.2 hq.1
theorem DV.div2{k m:Nat}{p q:Rat}(hp:DV k p)(hq:DV m q)(h0:q≠0):DV (k+m) (p/q):=by
 rw[Rat.div_def];exact hp.mul2 (hq.inv h0)
theorem XO{p:List Rat}{m:Nat}(hp:Jc p=p)(h:∀i,m≤i→cf p i=0):p.length≤m:=by
 by_cases hl:p.length≤m
 · exact hl
 · exfalso
   exact Jq hp (by intro e;rw[e]at hl;simp at hl) (h _ (by omega))

