import Derived.Defers
import Derived.Recover
import Derived.Test.YtcahejkcdcjjgaaGreatDoorK40
import Derived.Test.YtcahejkcdcjjgaaGreatDoorK41
set_option maxRecDepth 100000
set_option maxHeartbeats 16000000
namespace Go.Proofs.YtcahejkcdcjjgaaGreatDoor
open Go.RowKit Go.Shelf
theorem Jmx(p q:Addr)(w:World):
 CallsD Tryz.prog 89 #[.pointer (some p),.pointer (some q)] .returning w fun e u' w'=>e=.returned (.tuple #[])∧u'=.returning∧w'=w.alloc (.cells #[.int .i64 0,.int .i64 0] 77):=by
 have Qa:∀w:World,(Instr.typeAssert Value.nilIface 20 77 true).run Tryz.prog w=.ok (.tuple #[.agg #[.int .i64 0,.int .i64 0],.bool false]) w:=fun _=>by kernel_rfl
 refine callsD_of_wpS Tryz.func89 rfl fun c₀ cs hu=>?_;apply wpS_seq;apply wpS_region;simp[wpOpsS,go_sem,recoverD,hu,Tryz.ntmps89,Exit.thenS,Qa];apply wpS_seq;apply wpS_region;simp[wpOpsS,go_sem,Exit.thenS];refine wpS_cond (t:=false) (by simp[Act.eval,Array.replicate]) ?_;simp only[A6,if_false];refine wpS_of_wp (wp_skip ?_);cases c₀;simp_all [bodyPostS,results,Tryz.results89]
theorem Jlg(p q:Nat)(e0 p0:Int)(w:World)(bp:Boxed w p 25 (.slice none 0 0))(bq:Jk w q 77 (.int .i64 0) (.int .i64 0))(hne:p≠q):
 CallsD Tryz.prog 89 #[.pointer (some ⟨p,0,none⟩),.pointer (some ⟨q,0,none⟩)] (.panicking [{ v:=XZ e0 p0,recovered:=false }]) w fun e u' w'=>e=.returned (.tuple #[])∧u'=.panicking [{ v:=XZ e0 p0,recovered:=true }]∧Boxed w' p 25 (.slice none 0 0)∧Jk w' q 77 (.int .i64 e0) (.int .i64 p0)∧∀n w0,Below n w0 w→n≤w.heap.size→n≤p→n≤q→Below n w0 w':=by
 unfold XZ;have Qc:∀w:World,(Instr.typeAssert (.iface 77 (.agg #[.int .i64 e0,.int .i64 p0])) 20 77 true).run Tryz.prog w=.ok (.tuple #[.agg #[.int .i64 e0,.int .i64 p0],.bool true]) w:=fun _=>by kernel_rfl
 refine callsD_of_wpS Tryz.func89 rfl fun c₀ cs hu=>?_;apply wpS_seq;apply wpS_region;simp[wpOpsS,go_sem,recoverD,hu,Tryz.ntmps89,Exit.thenS,Qc];apply wpS_seq;apply wpS_region;simp[wpOpsS,go_sem,Exit.thenS];refine wpS_cond (t:=true) (by simp[Act.eval,Array.replicate]) ?_;simp only[if_true];refine wpS_of_wp ?_;simp[Array.replicate];have n0:=Jk.new w 77 (.int .i64 e0) (.int .i64 p0);have Qb:=bp.alloc (.cells #[.int .i64 e0,.int .i64 p0] 77);have Qa:=bq.alloc (.cells #[.int .i64 e0,.int .i64 p0] 77);have Qe:p≠w.heap.size:=by have:=bp.lt;omega
 have Qd:q≠w.heap.size:=by have:=bq.lt;omega
 have HB:=Ja (fun(n:Nat) (w0:World) (h:Below n w0 w) (hn:n≤w.heap.size)=>h.alloc hn (.cells #[.int .i64 e0,.int .i64 p0] 77));obtain⟨W,hW⟩:=ex (w.alloc (.cells #[.int .i64 e0,.int .i64 p0] 77));rw[hW]at n0 Qb Qa HB;rw[hW];obtain⟨D,hD⟩:=ex (w.heap.size);rw[hD]at n0 Qe Qd HB;rw[hD];clear hW bp bq Qc hu;have d0:=n0.c0;have d1:=n0.c1;have x0:=Qb.cell;have x1:=Qb.frozen;have y0:=Qa.c0;have y1:=Qa.c1;have z0:=Qa.f0;have z1:=Qa.f1;have HX:=Ja Qb;have HY:=Ja Qa;clear Qb Qa n0;go_region
 have hX:Boxed (((W.setCell ⟨p,0,none⟩ (.slice none 0 0)).setCell ⟨q,0,none⟩ (.int .i64 e0)).setCell ⟨q,1,none⟩ (.int .i64 p0)).drew p 25 (.slice none 0 0):=
  (Below.heap_setCell _ ⟨q,1,none⟩ (.int .i64 p0) p hne).trans ((Below.heap_setCell _ ⟨q,0,none⟩ (.int .i64 e0) p hne).trans (HX.o.set (.slice none 0 0)))
 have hY:Jk (((W.setCell ⟨p,0,none⟩ (.slice none 0 0)).setCell ⟨q,0,none⟩ (.int .i64 e0)).setCell ⟨q,1,none⟩ (.int .i64 p0)).drew q 77 (.int .i64 e0) (.int .i64 p0):=
  (((HY.o.far (p:=⟨p,0,none⟩) (fun e=>hne e.symm) _).set0 _).set1 _).drew
 have hZ:∀n w0,Below n w0 w→n≤D→n≤p→n≤q→Below n w0 (((W.setCell ⟨p,0,none⟩ (.slice none 0 0)).setCell ⟨q,0,none⟩ (.int .i64 e0)).setCell ⟨q,1,none⟩ (.int .i64 p0)).drew:=
  fun n w0 h hn h1 h2=>((((HB.o n w0 h hn).setCell (p:=⟨p,0,none⟩) h1 _).setCell (p:=⟨q,0,none⟩) h2 _).setCell (p:=⟨q,1,none⟩) h2 _).drew
 generalize (((W.setCell ⟨p,0,none⟩ (.slice none 0 0)).setCell ⟨q,0,none⟩ (.int .i64 e0)).setCell ⟨q,1,none⟩ (.int .i64 p0)).drew=V at hX hY hZ ⊢;simp[bodyPostS,results,Tryz.results89];exact⟨hX,hY,hZ⟩
theorem Jpi(s:ByteArray)(e0 q0:Int)(w:World)(hP:∀V R,RcB V R s 0→Calls Tryz.prog 90 #[.pointer (some ⟨R,0,none⟩)] V fun r w'=>V.grownBy w' (some R)∧r=.panicked [{ v:=XZ e0 q0,recovered:=false }]):
 Calls Tryz.prog 44 #[.string s] w fun r w'=>r=.returned (.tuple #[.agg #[.slice none 0 0],.agg #[.int .i64 e0,.int .i64 q0]])∧Below w.heap.size w w':=by
 have hmf:∀(fn:Fn) (first cap:Array Value) (w:World),(Instr.makeFunc fn first cap).run Tryz.prog w=.ok (.func fn first cap) w:=fun _ _ _ _=>rfl;have HP:=Ja hP;clear hP;go_enter_defers Tryz.func44,Tryz.ntmps44
 go_upto_region 3 with fail
 have h0:=Boxed.new w 25 (.slice none 0 0);have h1:=Jk.new (w.alloc (.cells #[.slice none 0 0] 25)) 77 (.int .i64 0) (.int .i64 0);have h2:RcB (((w.alloc (.cells #[.slice none 0 0] 25)).alloc (.cells #[.int .i64 0,.int .i64 0] 77)).alloc (.cells #[.string s,.int .i64 0] 124)) ((w.alloc (.cells #[.slice none 0 0] 25)).alloc (.cells #[.int .i64 0,.int .i64 0] 77)).heap.size s 0:=World.alloc_heap_new _ _;rw[World.size_alloc,World.size_alloc]at h2;rw[World.size_alloc]at h1;replace h0:=(h0.alloc (.cells #[.int .i64 0,.int .i64 0] 77)).alloc (.cells #[.string s,.int .i64 0] 124);replace h1:=h1.alloc (.cells #[.string s,.int .i64 0] 124);have hb:Below w.heap.size w (((w.alloc (.cells #[.slice none 0 0] 25)).alloc (.cells #[.int .i64 0,.int .i64 0] 77)).alloc (.cells #[.string s,.int .i64 0] 124)):=(((Below.refl _ w).alloc (Aa _) _).alloc (by rw[World.size_alloc];omega) _).alloc (by rw[World.size_alloc,World.size_alloc];omega) _;have hz:(((w.alloc (.cells #[.slice none 0 0] 25)).alloc (.cells #[.int .i64 0,.int .i64 0] 77)).alloc (.cells #[.string s,.int .i64 0] 124)).heap.size=w.heap.size+1+1+1:=by rw[World.size_alloc,World.size_alloc,World.size_alloc]
 obtain⟨V,hV⟩:=ex (((w.alloc (.cells #[.slice none 0 0] 25)).alloc (.cells #[.int .i64 0,.int .i64 0] 77)).alloc (.cells #[.string s,.int .i64 0] 124));rw[hV]at h0 h1 h2 hb hz;rw[hV];have H0:=Ja h0;have H1:=Ja h1;have HB:=Ja hb;have HC:=Ja (HP.o _ _ h2);clear h0 h1 h2 hb hV HP hz;go_wp2_with(go_at_call 90;refine HC.o.mono ?_;rintro e w1 ⟨hg1,rfl⟩;have HG:=Ja hg1;clear hg1)
 have Qc:Boxed w1 w.heap.size 25 (.slice none 0 0):=H0.o.kept HG.o (fun e=>by have:=Cb e;omega);have Qb:Jk w1 (w.heap.size+1) 77 (.int .i64 0) (.int .i64 0):=(HG.o.block _ H1.o.lt (fun e=>by have:=Cb e;omega)).trans H1.o;have Qa:Below w.heap.size w w1:=HB.o.grown HG.o HB.o.size (fun k e=>by have:=Cb e;omega);refine leaves_cons (f:=89) (args:=#[.pointer (some ⟨w.heap.size,0,none⟩),.pointer (some ⟨w.heap.size+1,0,none⟩)]) (by simp) (by simp[go_sem]) ?_;refine(Jlg w.heap.size (w.heap.size+1) e0 q0 _ Qc Qb (by omega)).mono ?_;rintro e u' w2 ⟨rfl,rfl,h3,h4,h5⟩;have h6:=h5 _ _ Qa Qa.size (Aa _) (by omega);have x0:=h3.cell;have y0:=h4.c0;have y1:=h4.c1;simp[Leaves,settle,results,Tryz.results44,go_sem,x0,y0,y1];exact h6
theorem Jpj{W W':World}{F:Nat}{cs:Array Value}{t:TypeId}{m:Nat × Nat}(hF:W.heap[F]?=some (.cells cs t m))(ht:t=77)(hg:W.grownBy W' (some F)):∀k v ds,Row k W v ds→Row k W' v ds:=by
 intro k v ds hr;obtain⟨a,cap,e,_⟩:=id hr;subst e;refine hr.grown hg (fun p ep hl=>?_);obtain⟨b,off,ea,cs',m',hb⟩:=hr.typ hl;rw[ea]at ep;cases ep;intro e;subst e;have:=hb.symm.trans hF;simp only[Ak,Obj.cells.injEq]at this;subst ht;have h2:=this.2.1;revert h2;cases k<;>(show ¬(_=_);decide)
theorem Jhj{W W':World}{F:Nat}{cs:Array Value}{t:TypeId}{m:Nat × Nat}(hF:W.heap[F]?=some (.cells cs t m))(ht:t=77)(hg:W.grownBy W' (some F)){r:Bool}{v:Value}{qs:List Rat}(h:RowK r W v qs):RowK r W' v qs:=by
 obtain⟨a,cap,e,h1,h2,h3,h4⟩:=h;refine⟨a,cap,e,h1,h2,h3,?_⟩;rcases h4 with h4|⟨b,ea,h5⟩
 · exact Or.inl h4
 · refine Or.inr ⟨b,ea,h5.keep (hg.block b h5.lt (fun e=>?_)) (Jpj hF ht hg)⟩;obtain⟨cs',g1,_⟩:=h5;have e:=Cb e;subst e;have:=g1.symm.trans hF;simp only[Ak,Obj.cells.injEq]at this;subst ht;have h2:=this.2.1;revert h2;cases r<;>(show ¬(_=_);decide)
theorem Jr2(s:ByteArray)(ps:List Rat)(w:World)(hP:∀V R,RcB V R s 0→Calls Tryz.prog 90 #[.pointer (some ⟨R,0,none⟩)] V fun r w'=>V.grownBy w' (some R)∧∃u,r=.returned u∧Ju w' u ps):
 Calls Tryz.prog 44 #[.string s] w fun r w'=>∃u,r=.returned (.tuple #[u,.agg #[.int .i64 0,.int .i64 0]])∧Ju w' u ps∧Below w.heap.size w w':=by
 have hmf:∀(fn:Fn) (first cap:Array Value) (w:World),(Instr.makeFunc fn first cap).run Tryz.prog w=.ok (.func fn first cap) w:=fun _ _ _ _=>rfl;have HP:=Ja hP;clear hP;go_enter_defers Tryz.func44,Tryz.ntmps44
 go_upto_region 3 with fail
 have h0:=Boxed.new w 25 (.slice none 0 0);have h1:=Jk.new (w.alloc (.cells #[.slice none 0 0] 25)) 77 (.int .i64 0) (.int .i64 0);have h2:RcB (((w.alloc (.cells #[.slice none 0 0] 25)).alloc (.cells #[.int .i64 0,.int .i64 0] 77)).alloc (.cells #[.string s,.int .i64 0] 124)) ((w.alloc (.cells #[.slice none 0 0] 25)).alloc (.cells #[.int .i64 0,.int .i64 0] 77)).heap.size s 0:=World.alloc_heap_new _ _;rw[World.size_alloc,World.size_alloc]at h2;rw[World.size_alloc]at h1;replace h0:=(h0.alloc (.cells #[.int .i64 0,.int .i64 0] 77)).alloc (.cells #[.string s,.int .i64 0] 124);replace h1:=h1.alloc (.cells #[.string s,.int .i64 0] 124);have hb:Below w.heap.size w (((w.alloc (.cells #[.slice none 0 0] 25)).alloc (.cells #[.int .i64 0,.int .i64 0] 77)).alloc (.cells #[.string s,.int .i64 0] 124)):=(((Below.refl _ w).alloc (Aa _) _).alloc (by rw[World.size_alloc];omega) _).alloc (by rw[World.size_alloc,World.size_alloc];omega) _;have hz:(((w.alloc (.cells #[.slice none 0 0] 25)).alloc (.cells #[.int .i64 0,.int .i64 0] 77)).alloc (.cells #[.string s,.int .i64 0] 124)).heap.size=w.heap.size+1+1+1:=by rw[World.size_alloc,World.size_alloc,World.size_alloc]
 obtain⟨V,hV⟩:=ex (((w.alloc (.cells #[.slice none 0 0] 25)).alloc (.cells #[.int .i64 0,.int .i64 0] 77)).alloc (.cells #[.string s,.int .i64 0] 124));rw[hV]at h0 h1 h2 hb hz;rw[hV];have H0:=Ja h0;have H1:=Ja h1;have HB:=Ja hb;have HC:=Ja (HP.o _ _ h2);clear h0 h1 h2 hb hV HP hz;go_wp2_with(go_at_call 90;refine HC.o.mono ?_;rintro e w1 ⟨hg1,u1,rfl,hu1⟩;have HG:=Ja hg1;obtain⟨a9,l9,c9,rfl⟩:=hu1.form;have HU:=Ja hu1.row;have Qb:Boxed w1 w.heap.size 25 (.slice none 0 0):=H0.o.kept HG.o (fun e=>by have:=Cb e;omega);have Qa:Jk w1 (w.heap.size+1) 77 (.int .i64 0) (.int .i64 0):=(HG.o.block _ H1.o.lt (fun e=>by have:=Cb e;omega)).trans H1.o;have x0:=Qb.cell;have x1:=Qb.frozen;have y0:=Qa.c0;have y1:=Qa.c1;have z0:=Qa.f0;have z1:=Qa.f1;have H2:=Ja Qb;have H3:=Ja Qa;clear hg1 hu1 Qb Qa)
 have Qc:w.heap.size+1≠w.heap.size:=by omega
 have Qd:Below w.heap.size w w1:=HB.o.grown HG.o HB.o.size (fun k e=>by have:=Cb e;omega);have a1:=H2.o.set (.slice a9 l9 c9);have a2:=Jh0 H2.o (.slice a9 l9 c9) HU.o;have a3:=H3.o.far (p:=⟨w.heap.size,0,none⟩) Qc (.slice a9 l9 c9);have a4:=Qd.setCell (p:=⟨w.heap.size,0,none⟩) (Aa _) (.slice a9 l9 c9);generalize w1.setCell ⟨w.heap.size,0,none⟩ (.slice a9 l9 c9)=W2 at a1 a2 a3 a4 ⊢;have b1:=(Below.heap_setCell W2 ⟨w.heap.size+1,0,none⟩ (.int .i64 0) w.heap.size (fun e=>Qc e.symm)).trans a1;have b2:=Jhj a3 rfl (JE W2 (w.heap.size+1) 0 (.int .i64 0)) a2;have b3:=a3.set0 (.int .i64 0);have b4:=a4.setCell (p:=⟨w.heap.size+1,0,none⟩) (by show _≤w.heap.size+1;omega) (.int .i64 0);generalize W2.setCell ⟨w.heap.size+1,0,none⟩ (.int .i64 0)=W3 at b1 b2 b3 b4 ⊢;have d1:=(Below.heap_setCell W3 ⟨w.heap.size+1,1,none⟩ (.int .i64 0) w.heap.size (fun e=>Qc e.symm)).trans b1;have d2:=Jhj b3 rfl (JE W3 (w.heap.size+1) 1 (.int .i64 0)) b2;have d3:=b3.set1 (.int .i64 0);have d4:=b4.setCell (p:=⟨w.heap.size+1,1,none⟩) (by show _≤w.heap.size+1;omega) (.int .i64 0);generalize W3.setCell ⟨w.heap.size+1,1,none⟩ (.int .i64 0)=W4 at d1 d2 d3 d4 ⊢;refine leaves_cons (f:=89) (args:=#[.pointer (some ⟨w.heap.size,0,none⟩),.pointer (some ⟨w.heap.size+1,0,none⟩)]) (by simp) (by simp[go_sem]) ?_;refine(Jmx ⟨w.heap.size,0,none⟩ ⟨w.heap.size+1,0,none⟩ _).mono ?_;rintro e u' w2 ⟨rfl,rfl,rfl⟩;have e1:Boxed W4 w.heap.size 25 (.slice a9 l9 c9):=d1;have f1:=(e1.alloc (.cells #[.int .i64 0,.int .i64 0] 77)).cell;have f2:=(d3.alloc (.cells #[.int .i64 0,.int .i64 0] 77)).c0;have f3:=(d3.alloc (.cells #[.int .i64 0,.int .i64 0] 77)).c1;have f4:=d4.alloc d4.size (.cells #[.int .i64 0,.int .i64 0] 77);have f5:=d2.below ((Below.refl _ W4).alloc (Aa _) (.cells #[.int .i64 0,.int .i64 0] 77));generalize W4.alloc (.cells #[.int .i64 0,.int .i64 0] 77)=W5 at f1 f2 f3 f4 f5 ⊢;simp[Leaves,settle,results,Tryz.results44,go_sem,f1,f2,f3];exact⟨⟨_,rfl,f5⟩,f4⟩
attribute [local go_sem] Oper.semAt_some
theorem Jis{l:List UInt8}:∀(f:Nat) (b:Bool) (I m:Nat) (S S':List Rat) (k:Nat),I≤l.length→m≤I→Yv S m→X3 l f b I S=.ok S' k→∃m',m'≤l.length∧Yv S' m':=by
 intro f;induction f with
 |zero=>intro b I m S S' k _ _ _ h;cases h
 |succ f ih=>
  intro b I m S S' k hI hm hS h;cases ht:JR l I with
  |bad e p=>rw[Jcs ht]at h;cases h
  |ok a k5=>
   obtain⟨c,n⟩:=a;have h1:=Jb9 hI ht;have h2:=hS.next (Jd0 hI ht) h1.2.2 b;have h3:=Jbt l k5;have h4:=Yj h1.2.1;rw[Jet ht]at h;split at h
   · rename_i h5;have:=JZ h5;exact ih _ _ (m+1) _ _ _ (by omega) (by omega) h2 h
   · split at h
     · rename_i h5;have:=JZ h5;exact ih _ _ (m+1) _ _ _ (by omega) (by omega) h2 h
     · split at h
       · cases h;exact⟨m+1,by omega,h2⟩
       · cases h
theorem Jpk{l:List UInt8}{S:List Rat}{k:Nat}(h:Xx l=.ok S k):∃m,m≤l.length∧Yv S m:=by
 unfold Xx at h;have h4:=Yj (l:=l) (i:=0) (by omega);split at h
 · rename_i h5;have:=JZ h5;exact Jis _ _ _ 0 _ _ _ (by omega) (by omega) Yv.start h
 · exact Jis _ _ _ 0 _ _ _ h4 (by omega) Yv.start h
theorem Jex(l:List UInt8):(JT l).1.length≤9∧∀i,SmQ 601 (cf (JT l).1 i):=by
 by_cases h:300<l.length
 · rw[show JT l=([],1,0)by unfold JT;rw[if_pos h]];exact⟨by simp,fun i=>by rw[Y2];exact SmQ.zero _ (by omega)⟩
 · rw[Jdh h];cases ht:Xx l with
   |bad e p=>exact⟨by simp[Jrl],fun i=>by rw[show(Jrl (Rd.bad (α:=List Rat) e p)).1=[]from rfl,Y2];exact SmQ.zero _ (by omega)⟩
   |ok S k=>
    obtain⟨m,hm,hs⟩:=Jpk ht;rw[show(Jrl (Rd.ok S k)).1=Jh S from rfl];exact⟨Aw (Jz _) (by rw[hs.1];exact Aa _),fun i=>by rw[J8];exact(hs.2 i).mono (by omega)⟩
def Jpl(l:List UInt8)(w':World)(u:Value)(e p:Int):Prop:=e=((JT l).2.1:Int)∧p=((JT l).2.2:Int)∧Ju w' u (JT l).1
theorem Jtq(s:ByteArray)(hs:s.size≤300)(w:World):
 Calls Tryz.prog 44 #[.string s] w fun r w'=>∃u e p,r=.returned (.tuple #[u,.agg #[.int .i64 e,.int .i64 p]])∧Jpl (Jd s) w' u e p∧Below w.heap.size w w':=by
 have HP:=Jdh (l:=Jd s) (by rw[Jg];omega);cases ht:Xx (Jd s)with
 |bad e0 q0=>
  rw[ht]at HP;refine(Jpi s e0 q0 w (fun V R hR=>(Jnx R s V hR hs).mono (fun r w' h=>⟨h.1,h.2.1 _ _ ht⟩))).mono ?_;rintro r w' ⟨rfl,hb⟩;refine⟨_,_,_,rfl,?_,hb⟩;rw[Jpl,HP];exact⟨rfl,rfl,_,rfl,RowK.nil _ _⟩
 |ok S k=>
  rw[ht]at HP;refine(Jr2 s (Jh S) w (fun V R hR=>(Jnx R s V hR hs).mono (fun r w' h=>⟨h.1,by obtain⟨u,h1,h2,_⟩:=h.2.2 _ _ ht;exact⟨u,h1,h2⟩⟩))).mono ?_;rintro r w' ⟨u,rfl,hu,hb⟩;refine⟨_,_,_,rfl,?_,hb⟩;rw[Jpl,HP];exact⟨rfl,rfl,hu⟩
theorem Jlh(s:ByteArray)(w:World):
 Calls Tryz.prog 9 #[.string s] w fun r w'=>∃u e p,r=.returned (.tuple #[u,.int .i64 e,.int .i64 p])∧Jpl (Jd s) w' u e p∧Below w.heap.size w w':=by
 by_cases hlong:300<s.size
 · have hlong':(300:Int)<(s.size:Int):=by omega
   have HP:=Ja (show JT (Jd s)=([],1,0)by unfold JT;rw[if_pos (by rw[Jg];exact hlong)]);clear hlong;go_enter Tryz.func9,Tryz.ntmps9
   go_wp2;exact bodyPost_ret (v:=.tuple #[.agg #[.slice none 0 0],.int .i64 1,.int .i64 0]) (by simp[results,Tryz.results9,go_sem]) rfl ⟨_,_,_,rfl,by rw[Jpl,HP.o];exact⟨rfl,rfl,_,rfl,RowK.nil _ _⟩,(Below.refl _ w).alloc (Aa _) _⟩
 · have hlong':¬(300:Int)<(s.size:Int):=by omega
   have HR:=Ja (fun(V:World)=>Jtq s (by omega) V);clear hlong;go_enter Tryz.func9,Tryz.ntmps9
   go_upto_region 4 with(go_at_call 44;refine(HR.o _).mono ?_;clear HR;rintro e w1 ⟨u1,e1,p1,rfl,Qa,Qb⟩;obtain⟨a9,l9,c9,rfl⟩:=Qa.2.2.form;have HU:=Ja Qa;have HB:=Ja Qb;clear Qa Qb)
   have Qg:w.heap.size<w1.heap.size:=by have:=HB.o.size;rw[World.size_alloc]at this;omega
   have q0:Boxed w1 w.heap.size 25 (.slice none 0 0):=(HB.o.block _ (by rw[World.size_alloc];omega)).trans (Boxed.new w 25 (.slice none 0 0));have Qe:Below w.heap.size w w1:=((Below.refl _ w).alloc (Aa _) _).trans (HB.o.mono (by rw[World.size_alloc];omega));have h0:=Boxed.new w1 25 (.slice a9 l9 c9);have h1:=Jk.new (w1.alloc (.cells #[.slice a9 l9 c9] 25)) 77 (.int .i64 e1) (.int .i64 p1);rw[World.size_alloc]at h1;replace h0:=h0.alloc (.cells #[.int .i64 e1,.int .i64 p1] 77);have hA:Below w1.heap.size w1 ((w1.alloc (.cells #[.slice a9 l9 c9] 25)).alloc (.cells #[.int .i64 e1,.int .i64 p1] 77)):=((Below.refl _ w1).alloc (Aa _) _).alloc (by rw[World.size_alloc];omega) _;have q1:=(hA.block _ q0.lt).trans q0;have Qb:=Qe.trans (hA.mono Qe.size);have Qa:=HU.o.2.2.row.below hA;have Qf:=Ja (⟨HU.o.1,HU.o.2.1⟩:e1=_∧p1=_);have Qd:w.heap.size≠w1.heap.size:=by omega
   have Qc:w.heap.size≠w1.heap.size+1:=by omega
   generalize (w1.alloc (.cells #[.slice a9 l9 c9] 25)).alloc (.cells #[.int .i64 e1,.int .i64 p1] 77)=W2 at h0 h1 hA q1 Qb Qa ⊢;clear hA q0 Qe HB HU Qg;obtain⟨Q,hQ⟩:=ex (w.heap.size);obtain⟨B,hB⟩:=ex (w1.heap.size);rw[hB]at h0 h1 Qd Qc;rw[hQ]at q1 Qd Qc;rw[hB,hQ];have q2:Boxed W2 Q 25 (.slice none 0 0):=q1;have x0:=h0.cell;have y0:=h1.c0;have y1:=h1.c1;have z0:=q2.cell;have z1:=q2.frozen;have Qj:=Ja q2;have Qh:=Ja hQ;have Qi:=Ja Qb;have Qk:=Ja Qa;clear h0 h1 q1 q2 hQ hB Qb Qa;go_region
   go_wp2_with fail
   have r0:=z0;refine bodyPost_ret (v:=.tuple #[.agg #[.slice a9 l9 c9],.int .i64 e1,.int .i64 p1]) (by simp[results,Tryz.results9,go_sem,r0]) rfl ⟨_,_,_,rfl,⟨Qf.o.1,Qf.o.2,_,rfl,?_⟩,?_⟩
   · exact(Jh0 Qj.o (.slice a9 l9 c9) Qk.o).below ((Below.refl _ _).drew)
   · exact(Qi.o.setCell (p:=⟨Q,0,none⟩) (by rw[Qh.o];exact Aa _) _).drew
end Go.Proofs.YtcahejkcdcjjgaaGreatDoor
namespace Go.Proofs.YtcahejkcdcjjgaaGreatDoor
open Go.RowKit Go.Shelf
theorem Jpm{k:Nat}{q:Rat}(h:SmQ k q):(JY q).length≤40*k+5:=by
 have h1:=Jai q.num;have h2:=Jai (q.den:Int);have h3:=h.1.words;have h4:=h.2.words;unfold JY;split
 · omega
 · rw[Ai,Al];omega
theorem SmQ.abs{k:Nat}{q:Rat}(h:SmQ k q):SmQ k (Y3 q):=by
 have:=Jcp q;unfold SmQ Sm at h ⊢;rw[this.1,this.2];exact⟨by have:=h.1;omega,h.2⟩
theorem Jpn{k:Nat}{c:Rat}(h:SmQ k c){i:Nat}(hi:i<B64)(f:Bool):(Xu c i f).length≤40*k+40:=by
 have h1:=Jpm h.abs;have h2:=Jah i;have h3:(Jc B64 i).length≤1:=JG Je (by rw[Nat.pow_one];exact hi);have h4:(XA c f).length≤1:=by
  unfold XA;split
  · simp
  · split<;>simp
 have h5:(YK c i).length≤40*k+5:=by
  unfold YK;split
  · simp
  · exact h1
 have h6:(X5 i).length≤23:=by
  unfold X5;split
  · simp
  · split
    · simp
    · rw[Al,Al];omega
 unfold Xu;rw[Ai,Ai];omega
theorem Jpo{k:Nat}{ps:List Rat}(h:∀i,SmQ k (cf ps i))(hl:ps.length≤B64):∀(d m:Nat),ps.length-m=d→(JV (ps.drop m) m).length≤d*(40*k+40):=by
 intro d;induction d with
 |zero=>
  intro m hm;rw[List.drop_of_length_le (by omega)];simp[JV]
 |succ d ih=>
  intro m hm;have ih:=ih (m+1) (by omega);rw[XK ps (by omega:m<ps.length)];have h1:=Jpn (h m) (by omega:m<B64) (JV (ps.drop (m+1)) (m+1)).isEmpty;rw[AZ];split
  · omega
  · rw[Ai];omega
theorem XU{ps:List Rat}(h:Sqs ps)(hl:ps.length≤3000000)(m:Nat):(JV (ps.drop m) m).length≤140737488355328:=by
 have h1:=Jpo (fun i=>(h.at i).sm) (by unfold B64;omega) _ m rfl;refine Aw h1 (Aw (Am _ (Nat.sub_le _ _)) (Aw (Am _ hl) ?_));decide
theorem Jli(z:List Rat)(i:Nat)(a:Rat)(q:List Rat):∀(j k:Nat),i+j≤k→cf (Yq z i a q j) k=cf z k:=by
 intro j;induction j with
 |zero=>intro k _;rfl
 |succ j ih=>
  intro k hk;rw[Yq];by_cases h:i+j<z.length
  · rw[XC _ _ _ _ (by rw[Yi];exact h),if_neg (by omega),ih k (by omega)]
  · rw[CI (by rw[Yi];omega),ih k (by omega)]
theorem YW(z:List Rat)(i:Nat)(a:Rat)(q:List Rat):∀(j k:Nat),cf (Yq z i a q j) k=cf z k∨cf (Yq z i a q j) k=cf z k+a*cf q (k-i):=by
 intro j;induction j with
 |zero=>intro k;exact Or.inl rfl
 |succ j ih=>
  intro k;rw[Yq];by_cases h:i+j<z.length
  · rw[XC _ _ _ _ (by rw[Yi];exact h)];by_cases e:k=i+j
    · subst e;rw[if_pos rfl,Jli z i a q j (i+j) (Aa _)];exact Or.inr (by rw[Nat.add_sub_cancel_left])
    · rw[if_neg e];exact ih k
  · rw[CI (by rw[Yi];omega)];exact ih k
theorem Jlj{A:Nat}{ps qs:List Rat}(hp:∀i,SmQ A (cf ps i))(hq:∀j,SmQ A (cf qs j))(n:Nat):∀(i k:Nat),SmQ (min i ps.length*(A+A+1)+1) (cf (Yl ps qs n i) k):=by
 intro i;induction i with
 |zero=>intro k;rw[Yl,J3];exact SmQ.zero _ (by omega)
 |succ i ih=>
  intro k;rw[Yl];rcases YW (Yl ps qs n i) i (cf ps i) qs qs.length k with e|e
  · rw[e];exact(ih k).mono (by have:min i ps.length*(A+A+1)≤min (i+1) ps.length*(A+A+1):=Am _ (by omega);omega)
  · rw[e];by_cases hi:i<ps.length
    · rw[show min (i+1) ps.length=min i ps.length+1 from by omega,AZ];exact((ih k).add2 ((hp i).mul (hq (k-i)))).mono (by omega)
    · rw[J4 (p:=ps) (by omega),Fm,Fo,show min (i+1) ps.length=min i ps.length from by omega];exact ih k
theorem Jhk{A:Nat}{ps qs:List Rat}(hp:∀i,SmQ A (cf ps i))(hq:∀j,SmQ A (cf qs j))(hL:(ps.length+1)*(A+A+1)+1≤1000000):M3.Jax ps qs:=by
 have hle:A+A+1≤(ps.length+1)*(A+A+1):=Cu _ (by omega);refine⟨fun i j=>Sq.of ((hp i).mul (hq j)) (by omega),fun n i j k=>?_⟩;have h1:=Jlj hp hq n i k;have h2:min i ps.length*(A+A+1)≤ps.length*(A+A+1):=Am _ (by omega);rw[AZ]at hL;rcases YW (Yl ps qs n i) i (cf ps i) qs j k with e|e
 · rw[e];exact Sq.of h1 (by omega)
 · rw[e];exact Sq.of (h1.add2 ((hp i).mul (hq (k-i)))) (by omega)
theorem Jny{A:Nat}{ps qs:List Rat}(hp:∀i,SmQ A (cf ps i))(hq:∀j,SmQ A (cf qs j))(k:Nat):SmQ (ps.length*(A+A+1)+1) (cf (Xk ps qs) k):=by
 unfold Xk;rw[J8,Jcz];have h:=Jlj hp hq (ps.length+qs.length) ps.length k;rwa[Jf7 _ _ _ _ _ (Or.inr (by omega)),Nat.min_self]at h
def X0:List Rat:=[Rat.divInt 1 2,1]
def Jd1:List Rat:=[Rat.divInt 1 4,1,1]
theorem Jlk:JT [120,32,43,32,49,47,50]=(X0,0,0):=by decide +kernel
theorem Jfk:Xk X0 X0=Jd1:=by decide +kernel
attribute [local go_sem] Oper.semAt_some
theorem _root_.Go.Boxed.bel{W W':World}{B:Nat}{t:TypeId}{v:Value}(h:Boxed W B t v)(hb:Below W.heap.size W W'):Boxed W' B t v:=(hb.block B h.lt).trans h
theorem Jmy:Xv Jd1=[120,94,50,43,120,43,49,47,52]:=by decide +kernel
theorem Jbn(i:Nat):SmQ 1 (cf X0 i):=by
 rcases i with _|_|i
 · exact⟨by show Sm 1 1;unfold Sm B64;decide,by show Sm 1 2;unfold Sm B64;decide⟩
 · exact⟨by show Sm 1 1;unfold Sm B64;decide,by show Sm 1 1;unfold Sm B64;decide⟩
 · rw[J4 (by simp[X0])];exact SmQ.zero 1 (by omega)
theorem Jhl:Sqs X0:=Sqs.of fun i=>Sq.of (Jbn i) (by omega)
theorem Jhm:Sqs Jd1:=Sqs.of fun i=>by rw[←Jfk];exact Sq.of (Jny Jbn Jbn i) (by simp[X0])
theorem Jun(e:Int)(w:World):Calls Tryz.prog 12 #[.int .i64 e] w fun r w'=>r=.returned (.int .i64 e)∧Below w.heap.size w w':=by
 go_enter Tryz.func12,Tryz.ntmps12
 go_wp2;go_ret;exact⟨rfl,Below.refl _ _⟩
theorem Jll(w:World)(htab:Jg9 w):Calls Tryz.prog 19 #[] w fun r w'=>r=.returned (.bool true)∧Below w.heap.size w w':=by
 have HT:=Ja htab;have HC:=Ja (fun(V:World)=>show Calls Tryz.prog 9 #[.string ⟨#[120,32,43,32,49,47,50]⟩] V fun r w'=>∃u,r=.returned (.tuple #[u,.int .i64 0,.int .i64 0])∧Ju w' u X0∧Below V.heap.size V w' from
  (Jlh ⟨#[120,32,43,32,49,47,50]⟩ V).mono (fun r w' h=>by
   obtain⟨u,e,p,h1,h2,h3⟩:=h;rw[Jpl,show Jd ⟨#[120,32,43,32,49,47,50]⟩=[120,32,43,32,49,47,50]from rfl,Jlk]at h2;obtain⟨rfl,rfl,h4⟩:=h2;exact⟨u,h1,h4,h3⟩))
 have M:=Ja (Below.refl w.heap.size w);clear htab;go_enter Tryz.func19,Tryz.ntmps19
 go_upto_region 2 with(go_at_call 9;refine(HC.o _).mono ?_;clear HC;rintro e w1 ⟨u,rfl,hu,hb⟩;obtain⟨a1,l1,c1,rfl⟩:=hu.form)
 replace M:=Ja (M.o.trans (hb.mono M.o.size));have hA:Below w1.heap.size w1 (w1.alloc (.cells #[.slice a1 l1 c1] 25)):=(Below.refl _ w1).alloc (Aa _) _;have nP:=Boxed.new w1 25 (.slice a1 l1 c1);have rP:=hu.below hA;replace M:=Ja (M.o.trans (hA.mono M.o.size));clear hA;obtain⟨VP,hV⟩:=ex (w1.alloc (.cells #[.slice a1 l1 c1] 25));obtain⟨BP,hB⟩:=ex (w1.heap.size);rw[hV]at rP M;rw[hV,hB]at nP;rw[hV];rw[hB];clear hV hB;clear hu hb;have H1:=Ja (fun(V:World) (h:Below VP.heap.size VP V)=>M3.Jg8 _ _ X0 X0 V (rP.below h) (rP.below h) Jhl Jhl (Jhk Jbn Jbn (by simp[X0])) (by simp[X0]));rw[Jfk]at H1;have hq:Below VP.heap.size VP VP:=Below.refl _ _;have eP:=(nP.bel hq).cell;go_upto_region 3 with(go_at_call 28;refine(H1.o _ hq).mono ?_;clear H1;rintro e w2 ⟨u,rfl,hu,_,hb⟩;obtain⟨a2,l2,c2,rfl⟩:=hu.form)
 replace hb:=Below.then hq hb
 clear hq eP;replace nP:=nP.bel hb;replace rP:=rP.below hb;replace M:=Ja (M.o.trans (hb.mono M.o.size));clear hb;have hA:Below w2.heap.size w2 (w2.alloc (.cells #[.slice a2 l2 c2] 25)):=(Below.refl _ w2).alloc (Aa _) _;have nQ:=Boxed.new w2 25 (.slice a2 l2 c2);have rQ:=hu.below hA;replace nP:=nP.bel hA;replace rP:=rP.below hA;replace M:=Ja (M.o.trans (hA.mono M.o.size));clear hA;obtain⟨VQ,hV⟩:=ex (w2.alloc (.cells #[.slice a2 l2 c2] 25));obtain⟨BQ,hB⟩:=ex (w2.heap.size);rw[hV]at nP rP rQ M;rw[hV,hB]at nQ;rw[hV];rw[hB];clear hV hB;clear hu;have H1:=Ja (fun(V:World) (h:Below VQ.heap.size VQ V)=>Jun 0 V);have H2:=Ja (fun(V:World) (h:Below VQ.heap.size VQ V)=>YL _ Jd1 V (rQ.below h) Jhm (fun m=>XU Jhm (by simp[Jd1]) m) (Jy HT.o (M.o.trans (h.mono M.o.size))));rw[Jmy]at H2;have H3:=Ja (fun(V:World) (h:Below VQ.heap.size VQ V)=>Jdc _ Jd1 V (rQ.below h));rw[show((Jd1.length:Int)-1)=2 from rfl]at H3;have hq:Below VQ.heap.size VQ VQ:=Below.refl _ _;have eQ:=(nQ.bel hq).cell;go_wp2_with(first
  |(go_at_call 12;refine(H1.o _ hq).mono ?_;clear H1;rintro e x1 ⟨rfl,hb⟩;replace hq:=Below.then hq hb;clear hb eQ;have eQ:=(nQ.bel hq).cell)
  |(go_at_call 13;refine(H2.o _ hq).mono ?_;clear H2;rintro e x2 ⟨rfl,hb⟩;replace hq:=Below.then hq hb;clear hb eQ;have eQ:=(nQ.bel hq).cell)
  |(go_at_call 15;refine(H3.o _ hq).mono ?_;clear H3;rintro e x3 ⟨rfl,hb⟩;replace hq:=Below.then hq hb;clear hb eQ;have eQ:=(nQ.bel hq).cell))
 go_ret;exact⟨rfl,M.o.trans (hq.mono M.o.size)⟩
theorem Jit:Xv []=[48]:=by decide
theorem Jfl(l:List UInt8):Jh (JT l).1=(JT l).1:=by
 by_cases h:300<l.length
 · rw[show JT l=([],1,0)by unfold JT;rw[if_pos h]];rfl
 · rw[Jdh h];cases Xx l with
   |bad e p=>rfl
   |ok S k=>exact Xe _
theorem _root_.Go.Proofs.YtcahejkcdcjjgaaGreatDoor.RowK.isPoly{V:World}{a:Option Addr}{l c:Nat}{ps:List Rat}(h:RowK true V (.slice a l c) ps):Ju V (.agg #[.slice a l c]) ps:=⟨_,rfl,h⟩
end Go.Proofs.YtcahejkcdcjjgaaGreatDoor
namespace Go.Proofs.YtcahejkcdcjjgaaGreatDoor
open Go.RowKit Go.Shelf
theorem SmQ.mul2{k m:Nat}{p q:Rat}(hp:SmQ k p)(hq:SmQ m q):SmQ (k+m) (p*q):=by
 rw[←Jl3];refine SmQ.divInt ?_ (hp.1.mul hq.1) (hp.2.mul hq.2);exact CU (by have:=p.den_nz;omega) (by have:=q.den_nz;omega)
theorem SmQ.inv{m:Nat}{q:Rat}(hq:SmQ m q)(h0:q≠0):SmQ m q⁻¹:=by
 rw[Rat.inv_def];exact SmQ.divInt (fun e=>h0 (Fe.1 e)) hq.2 hq.1
theorem SmQ.div2{k m:Nat}{p q:Rat}(hp:SmQ k p)(hq:SmQ m q)(h0:q≠0):SmQ (k+m) (p/q):=by
 rw[Rat.div_def];exact hp.mul2 (hq.inv h0)
theorem SmQ.sub2{k m:Nat}{p q:Rat}(hp:SmQ k p)(hq:SmQ m q):SmQ (k+m+1) (p-q):=by
 rw[Rat.sub_eq_add_neg];exact hp.add2 hq.neg
theorem Jcw{p:List Rat}{m:Nat}(hp:Jh p=p)(h:∀i,m≤i→cf p i=0):p.length≤m:=by
 by_cases hl:p.length≤m
 · exact hl
 · exfalso
   exact Yo hp (by intro e;rw[e]at hl;simp at hl) (h _ (by omega))
theorem Jf6(n:Nat)(a:Rat)(i:Nat):cf (Jh (upR n [a])) i=if i=n then a else 0:=by rw[J8,Jf4]
theorem Jr3(n:Nat)(a:Rat):(Jh (upR n [a])).length≤n+1:=YI n a
theorem Jnz(n:Nat)(a:Rat)(x:Rat):ev (Jh (upR n [a])) x=x^n*a:=by
 rw[Jbo,Ji2];show x^n*(a+x*0)=_;grind
theorem Jey(n:Nat)(a:Rat)(q:List Rat)(i:Nat):cf (Xk (Jh (upR n [a])) q) i=if n≤i then a*cf q (i-n)else 0:=by
 have e:Xk (Jh (upR n [a])) q=Jh (YE a (upR n q)):=by
  rw[←Ja6];refine Ji0 fun x=>?_;rw[Jm4,Jnz,XD,Ji2];grind
 rw[e,J8,YX,Jdo];split
 · exact Rat.mul_comm _ _
 · exact Fm _
theorem Jn0{M qs:List Rat}{n:Nat}(hM:∀i,i≠n→cf M i=0)(N:Nat):∀i k,cf (Yl M qs N i) k=0∨cf (Yl M qs N i) k=cf M n*cf qs (k-n)∧n<i:=by
 intro i;induction i with
 |zero=>intro k;left;rw[Yl,J3]
 |succ i ih=>
  intro k;rw[Yl];by_cases hi:i=n
  · subst hi;have h0:cf (Yl M qs N i) k=0:=by
     rcases ih k with h|⟨_,h⟩
     · exact h
     · omega
    rcases YW (Yl M qs N i) i (cf M i) qs qs.length k with e|e
    · left;rw[e,h0]
    · right;exact⟨by rw[e,h0,Rat.zero_add],by omega⟩
  · have he:cf (Yq (Yl M qs N i) i (cf M i) qs qs.length) k=cf (Yl M qs N i) k:=by
     rcases YW (Yl M qs N i) i (cf M i) qs qs.length k with e|e
     · exact e
     · rw[e,hM i hi,Fm,Fo]
    rw[he];rcases ih k with h|⟨h,h2⟩
    · exact Or.inl h
    · exact Or.inr ⟨h,by omega⟩
theorem Jtr{M qs:List Rat}{n:Nat}(hM:∀i,i≠n→cf M i=0)(hs:∀j,Sq (cf M n*cf qs j)):M3.Jax M qs:=by
 have h0:Sq 0:=Sq.of (k:=1) (SmQ.zero 1 (by omega)) (by omega);refine⟨fun i j=>?_,fun N i j k=>?_⟩
 · by_cases hi:i=n
   · rw[hi];exact hs j
   · rw[hM i hi,Fm];exact h0
 · have h1:Sq (cf (Yl M qs N i) k):=by
    rcases Jn0 hM N i k with h|⟨h,_⟩
    · rw[h];exact h0
    · rw[h];exact hs _
   rcases YW (Yl M qs N i) i (cf M i) qs j k with e|e
   · rw[e];exact h1
   · by_cases hi:i=n
     · have h2:cf (Yl M qs N i) k=0:=by
        rcases Jn0 hM N i k with h|⟨_,h⟩
        · exact h
        · omega
       rw[e,h2,hi,Rat.zero_add];exact hs _
     · rw[e,hM i hi,Fm,Fo];exact h1
def Jcx(A la:Nat)(ps qs R Q:List Rat)(k:Nat):Prop:=
 Jh R=R∧Jh Q=Q∧k+R.length≤la∧Q.length≤la∧(∀x,ev ps x=ev qs x*ev Q x+ev R x)∧(∀i,i+qs.length≤R.length→cf Q i=0)∧
  ∃z,z+(2*A+1)≤2^k*(3*A+1)∧(∀i,SmQ z (cf R i))∧∀i,SmQ (z+A) (cf Q i)
theorem Jcx.start{A:Nat}{ps qs:List Rat}(hA:1≤A)(ht:Jh ps=ps)(hp:∀i,SmQ A (cf ps i)):Jcx A ps.length ps qs ps [] 0:=by
 refine⟨ht,rfl,by omega,by simp,fun x=>?_,fun i _=>Y2 i,A,by omega,hp,fun i=>?_⟩
 · show _=ev qs x*0+_;grind
 · rw[Y2];exact SmQ.zero _ (by omega)
theorem Jcx.sizes{A la:Nat}{ps qs R Q:List Rat}{k:Nat}(h:Jcx A la ps qs R Q k)(hL:2^la*(3*A+1)≤1000000):Sqs R∧Sqs Q∧∃z,z+(2*A+1)≤1000000∧(∀i,SmQ z (cf R i)):=by
 obtain⟨_,_,h3,_,_,_,z,h7,h8,h9⟩:=h;have h1:2^k*(3*A+1)≤2^la*(3*A+1):=Am _ (Ar (by omega) (by omega));exact⟨Sqs.of fun i=>Sq.of (h8 i) (by omega),Sqs.of fun i=>Sq.of (h9 i) (by omega),z,by omega,h8⟩
theorem Jfm{qs R:List Rat}{n:Nat}{a:Rat}(htq:Jh qs=qs)(hq0:qs≠[])(hl:qs.length≤R.length)(hn:n=R.length-qs.length)
(ha:a=cf R (R.length-1)/cf qs (qs.length-1)):(XR R (Xk (Jh (upR n [a])) qs)).length≤R.length-1:=by
 have hql:0<qs.length:=AH.2 hq0;have Qa:=Yo htq hq0;refine Jcw (X8 _ _) fun i hi=>?_;rw[Jc0,Jey];by_cases e:i=R.length-1
 · rw[if_pos (by omega),e,show R.length-1-n=qs.length-1 from by omega,ha,Rat.div_mul_cancel Qa,Rat.sub_self]
 · rw[J4 (p:=R) (by omega),if_pos (by omega),J4 (p:=qs) (by omega),Rat.mul_zero,Rat.sub_self]
theorem Jcx.next{A la:Nat}{ps qs R Q:List Rat}{k n:Nat}{a:Rat}(h:Jcx A la ps qs R Q k)(hq:∀i,SmQ A (cf qs i))(htq:Jh qs=qs)(hq0:qs≠[])(hl:qs.length≤R.length)(hn:n=R.length-qs.length)
(ha:a=cf R (R.length-1)/cf qs (qs.length-1)):Jcx A la ps qs (XR R (Xk (Jh (upR n [a])) qs)) (XV Q (Jh (upR n [a]))) (k+1):=by
 obtain⟨h1,h2,h3,h4,h5,h6,z,h7,h8,h9⟩:=h;have hql:0<qs.length:=AH.2 hq0;have Qa:=Yo htq hq0;have Qd:∀i,cf (XR R (Xk (Jh (upR n [a])) qs)) i=cf R i-(if n≤i then a*cf qs (i-n)else 0):=fun i=>by rw[Jc0,Jey]
 have Qb:∀i,cf (XV Q (Jh (upR n [a]))) i=if i=n then a else cf Q i:=fun i=>by
  rw[Jfq,Jf6];split
  · rename_i e;rw[e,h6 n (by omega),Rat.zero_add]
  · exact Fo _
 have hlen:=Jfm htq hq0 hl hn ha;have Qc:SmQ (z+A) a:=by rw[ha];exact(h8 _).div2 (hq _) Qa
 refine⟨X8 _ _,Ja5 _ _,by omega,Jcw (Ja5 _ _) (fun i hi=>?_),fun x=>?_,fun i hi=>?_,2*z+(2*A+1),?_,fun i=>?_,fun i=>?_⟩
 · rw[Qb,if_neg (by omega),J4 (by omega)]
 · rw[Jsb,Jsc,Jm4,Jnz,h5 x];grind
 · rw[Qb,if_neg (by omega)];exact h6 i (by omega)
 · rw[AK,As (2^k) 2,Au];omega
 · rw[Qd];split
   · exact((h8 i).sub2 (Qc.mul2 (hq _))).mono (by omega)
   · rw[Rat.sub_eq_add_neg,Rat.neg_zero,Fo];exact(h8 i).mono (by omega)
 · rw[Qb];split
   · exact Qc.mono (by omega)
   · exact(h9 i).mono (by omega)
theorem Jcx.done{A la:Nat}{ps qs R Q:List Rat}{k:Nat}(h:Jcx A la ps qs R Q k)(htq:Jh qs=qs)(hq0:qs≠[])(hl:R.length<qs.length):Q=Jaz ps qs∧R=Jac ps qs:=by
 obtain⟨h1,h2,_,_,h5,_⟩:=h;obtain⟨g1,g2,g3,g4⟩:=Jjv ps qs htq hq0;exact Ji1 htq hq0 h2 g3 h1 g4 hl g2 (fun x=>by rw[←h5 x,←g1 x])
