import Derived.Test.YtcahejkcdcjjgaaGreatDoorK40
import Derived.Defers
import Derived.Recover
import Derived.Test.YtcahejkcdcjjgaaGreatDoorK41
import Derived.Test.YtcahejkcdcjjgaaGreatDoorK29
import Derived.Test.YtcahejkcdcjjgaaGreatDoorK42
import Derived.Test.YtcahejkcdcjjgaaGreatDoorK35
set_option maxRecDepth 100000
set_option maxHeartbeats 16000000
namespace Go.Proofs.YtcahejkcdcjjgaaGreatDoor
open Go.RowKit Go.Shelf
theorem Jly (p q:Addr) (w:World) :
 CallsD Tryz.prog 89 #[.pointer (some p),.pointer (some q)] .returning w fun e u' w'=>e=.returned (.tuple #[])∧u'=.returning∧w'=w.alloc (.cells #[.int .i64 0,.int .i64 0] 77):=by
 have hta:∀ w:World,(Instr.typeAssert Value.nilIface 20 77 true).run Tryz.prog w=.ok (.tuple #[.agg #[.int .i64 0,.int .i64 0],.bool false]) w:=fun _=>by kernel_rfl
 refine callsD_of_wpS Tryz.func89 rfl fun c₀ cs hu=>?_;apply wpS_seq;apply wpS_region;simp [wpOpsS,go_sem,recoverD,hu,Tryz.ntmps89,Exit.thenS,hta];apply wpS_seq;apply wpS_region;simp [wpOpsS,go_sem,Exit.thenS];refine wpS_cond (t:=false) (by simp [Act.eval,Array.replicate]) ?_;simp only [Bool.false_eq_true,if_false];refine wpS_of_wp (wp_skip ?_);cases c₀;simp_all [bodyPostS,results,Tryz.results89]
theorem Jkk (p q:Nat) (e0 p0:Int) (w:World) (bp:Boxed w p 25 (.slice none 0 0)) (bq:Jo w q 77 (.int .i64 0) (.int .i64 0)) (hne:p≠q) :
 CallsD Tryz.prog 89 #[.pointer (some ⟨p,0,none⟩),.pointer (some ⟨q,0,none⟩)] (.panicking [{ v:=Xw e0 p0,recovered:=false }]) w fun e u' w'=>e=.returned (.tuple #[])∧u'=.panicking [{ v:=Xw e0 p0,recovered:=true }]∧Boxed w' p 25 (.slice none 0 0)∧Jo w' q 77 (.int .i64 e0) (.int .i64 p0)∧∀ n w0,Below n w0 w→n≤w.heap.size→n≤p→n≤q→Below n w0 w':=by
 unfold Xw;have hta:∀ w:World,(Instr.typeAssert (.iface 77 (.agg #[.int .i64 e0,.int .i64 p0])) 20 77 true).run Tryz.prog w=.ok (.tuple #[.agg #[.int .i64 e0,.int .i64 p0],.bool true]) w:=fun _=>by kernel_rfl
 refine callsD_of_wpS Tryz.func89 rfl fun c₀ cs hu=>?_;apply wpS_seq;apply wpS_region;simp [wpOpsS,go_sem,recoverD,hu,Tryz.ntmps89,Exit.thenS,hta];apply wpS_seq;apply wpS_region;simp [wpOpsS,go_sem,Exit.thenS];refine wpS_cond (t:=true) (by simp [Act.eval,Array.replicate]) ?_;simp only [if_true];refine wpS_of_wp ?_;simp [Array.replicate];have n0:=Jo.new w 77 (.int .i64 e0) (.int .i64 p0);have bp1:=bp.alloc (.cells #[.int .i64 e0,.int .i64 p0] 77);have bq1:=bq.alloc (.cells #[.int .i64 e0,.int .i64 p0] 77);have hpD:p≠w.heap.size:=by have:=bp.lt;omega
 have hqD:q≠w.heap.size:=by have:=bq.lt;omega
 have HB:=Ja (fun (n:Nat) (w0:World) (h:Below n w0 w) (hn:n≤w.heap.size)=>h.alloc hn (.cells #[.int .i64 e0,.int .i64 p0] 77));obtain ⟨W,hW⟩:∃ W,w.alloc (.cells #[.int .i64 e0,.int .i64 p0] 77)=W:=⟨_,rfl⟩;rw [hW] at n0 bp1 bq1 HB;rw [hW];obtain ⟨D,hD⟩:∃ D,w.heap.size=D:=⟨_,rfl⟩;rw [hD] at n0 hpD hqD HB;rw [hD];clear hW bp bq hta hu;have d0:=n0.c0;have d1:=n0.c1;have x0:=bp1.cell;have x1:=bp1.frozen;have y0:=bq1.c0;have y1:=bq1.c1;have z0:=bq1.f0;have z1:=bq1.f1;have HX:=Ja bp1;have HY:=Ja bq1;clear bp1 bq1 n0;go_region
 have hX:Boxed (((W.setCell ⟨p,0,none⟩ (.slice none 0 0)).setCell ⟨q,0,none⟩ (.int .i64 e0)).setCell ⟨q,1,none⟩ (.int .i64 p0)).drew p 25 (.slice none 0 0):=
  (Below.heap_setCell _ ⟨q,1,none⟩ (.int .i64 p0) p hne).trans ((Below.heap_setCell _ ⟨q,0,none⟩ (.int .i64 e0) p hne).trans (HX.out.set (.slice none 0 0)))
 have hY:Jo (((W.setCell ⟨p,0,none⟩ (.slice none 0 0)).setCell ⟨q,0,none⟩ (.int .i64 e0)).setCell ⟨q,1,none⟩ (.int .i64 p0)).drew q 77 (.int .i64 e0) (.int .i64 p0):=
  (((HY.out.far (p:=⟨p,0,none⟩) (fun e=>hne e.symm) _).set0 _).set1 _).drew
 have hZ:∀ n w0,Below n w0 w→n≤D→n≤p→n≤q→Below n w0 (((W.setCell ⟨p,0,none⟩ (.slice none 0 0)).setCell ⟨q,0,none⟩ (.int .i64 e0)).setCell ⟨q,1,none⟩ (.int .i64 p0)).drew:=
  fun n w0 h hn h1 h2=>((((HB.out n w0 h hn).setCell (p:=⟨p,0,none⟩) h1 _).setCell (p:=⟨q,0,none⟩) h2 _).setCell (p:=⟨q,1,none⟩) h2 _).drew
 generalize (((W.setCell ⟨p,0,none⟩ (.slice none 0 0)).setCell ⟨q,0,none⟩ (.int .i64 e0)).setCell ⟨q,1,none⟩ (.int .i64 p0)).drew=V at hX hY hZ ⊢;simp [bodyPostS,results,Tryz.results89];exact ⟨hX,hY,hZ⟩
theorem Joe (s:ByteArray) (e0 q0:Int) (w:World) (hP:∀ V R,RcB V R s 0→Calls Tryz.prog 90 #[.pointer (some ⟨R,0,none⟩)] V fun r w'=>V.grownBy w' (some R)∧r=.panicked [{ v:=Xw e0 q0,recovered:=false }]) :
 Calls Tryz.prog 44 #[.string s] w fun r w'=>r=.returned (.tuple #[.agg #[.slice none 0 0],.agg #[.int .i64 e0,.int .i64 q0]])∧Below w.heap.size w w':=by
 have hmf:∀ (fn:Fn) (first cap:Array Value) (w:World),(Instr.makeFunc fn first cap).run Tryz.prog w=.ok (.func fn first cap) w:=fun _ _ _ _=>rfl;have HP:=Ja hP;clear hP;go_enter_defers Tryz.func44,Tryz.ntmps44
 go_upto_region 3 with fail
 have h0:=Boxed.new w 25 (.slice none 0 0);have h1:=Jo.new (w.alloc (.cells #[.slice none 0 0] 25)) 77 (.int .i64 0) (.int .i64 0);have h2:RcB (((w.alloc (.cells #[.slice none 0 0] 25)).alloc (.cells #[.int .i64 0,.int .i64 0] 77)).alloc (.cells #[.string s,.int .i64 0] 124)) ((w.alloc (.cells #[.slice none 0 0] 25)).alloc (.cells #[.int .i64 0,.int .i64 0] 77)).heap.size s 0:=World.alloc_heap_new _ _;rw [World.size_alloc,World.size_alloc] at h2;rw [World.size_alloc] at h1;replace h0:=(h0.alloc (.cells #[.int .i64 0,.int .i64 0] 77)).alloc (.cells #[.string s,.int .i64 0] 124);replace h1:=h1.alloc (.cells #[.string s,.int .i64 0] 124);have hb:Below w.heap.size w (((w.alloc (.cells #[.slice none 0 0] 25)).alloc (.cells #[.int .i64 0,.int .i64 0] 77)).alloc (.cells #[.string s,.int .i64 0] 124)):=(((Below.refl _ w).alloc (Nat.le_refl _) _).alloc (by rw [World.size_alloc];omega) _).alloc (by rw [World.size_alloc,World.size_alloc];omega) _;have hz:(((w.alloc (.cells #[.slice none 0 0] 25)).alloc (.cells #[.int .i64 0,.int .i64 0] 77)).alloc (.cells #[.string s,.int .i64 0] 124)).heap.size=w.heap.size+1+1+1:=by rw [World.size_alloc,World.size_alloc,World.size_alloc]
 obtain ⟨V,hV⟩:∃ V,((w.alloc (.cells #[.slice none 0 0] 25)).alloc (.cells #[.int .i64 0,.int .i64 0] 77)).alloc (.cells #[.string s,.int .i64 0] 124)=V:=⟨_,rfl⟩;rw [hV] at h0 h1 h2 hb hz;rw [hV];have H0:=Ja h0;have H1:=Ja h1;have HB:=Ja hb;have HC:=Ja (HP.out _ _ h2);clear h0 h1 h2 hb hV HP hz;go_wp2_with (go_at_call 90;refine HC.out.mono ?_;rintro e w1 ⟨hg1,rfl⟩;have HG:=Ja hg1;clear hg1)
 have hp1:Boxed w1 w.heap.size 25 (.slice none 0 0):=H0.out.kept HG.out (fun e=>by have:=Option.some.inj e;omega);have hq1:Jo w1 (w.heap.size+1) 77 (.int .i64 0) (.int .i64 0):=(HG.out.block _ H1.out.lt (fun e=>by have:=Option.some.inj e;omega)).trans H1.out;have hB1:Below w.heap.size w w1:=HB.out.grown HG.out HB.out.size (fun k e=>by have:=Option.some.inj e;omega);refine leaves_cons (f:=89) (args:=#[.pointer (some ⟨w.heap.size,0,none⟩),.pointer (some ⟨w.heap.size+1,0,none⟩)]) (by simp) (by simp [go_sem]) ?_;refine (Jkk w.heap.size (w.heap.size+1) e0 q0 _ hp1 hq1 (by omega)).mono ?_;rintro e u' w2 ⟨rfl,rfl,h3,h4,h5⟩;have h6:=h5 _ _ hB1 hB1.size (Nat.le_refl _) (by omega);have x0:=h3.cell;have y0:=h4.c0;have y1:=h4.c1;simp [Leaves,settle,results,Tryz.results44,go_sem,x0,y0,y1];exact h6
theorem Jof {W W':World} {F:Nat} {cs:Array Value} {t:TypeId} {m:Nat × Nat} (hF:W.heap[F]?=some (.cells cs t m)) (ht:t=77) (hg:W.grownBy W' (some F)):∀ k v ds,Row k W v ds→Row k W' v ds:=by
 intro k v ds hr;obtain ⟨a,cap,e,_⟩:=id hr;subst e;refine hr.grown hg (fun p ep hl=>?_);obtain ⟨b,off,ea,cs',m',hb⟩:=hr.typ hl;rw [ea] at ep;cases ep;intro e;subst e;have:=hb.symm.trans hF;simp only [Option.some.injEq,Obj.cells.injEq] at this;subst ht;have h2:=this.2.1;revert h2;cases k <;> (show ¬ (_=_);decide)
theorem Jgl {W W':World} {F:Nat} {cs:Array Value} {t:TypeId} {m:Nat × Nat} (hF:W.heap[F]?=some (.cells cs t m)) (ht:t=77) (hg:W.grownBy W' (some F)) {r:Bool} {v:Value} {qs:List Rat} (h:RowK r W v qs):RowK r W' v qs:=by
 obtain ⟨a,cap,e,h1,h2,h3,h4⟩:=h;refine ⟨a,cap,e,h1,h2,h3,?_⟩;rcases h4 with h4 | ⟨b,ea,h5⟩
 · exact Or.inl h4
 · refine Or.inr ⟨b,ea,h5.keep (hg.block b h5.lt (fun e=>?_)) (Jof hF ht hg)⟩;obtain ⟨cs',g1,_⟩:=h5;have e:=Option.some.inj e;subst e;have:=g1.symm.trans hF;simp only [Option.some.injEq,Obj.cells.injEq] at this;subst ht;have h2:=this.2.1;revert h2;cases r <;> (show ¬ (_=_);decide)
theorem Jqk (s:ByteArray) (ps:List Rat) (w:World) (hP:∀ V R,RcB V R s 0→Calls Tryz.prog 90 #[.pointer (some ⟨R,0,none⟩)] V fun r w'=>V.grownBy w' (some R)∧∃ u,r=.returned u∧Jk w' u ps) :
 Calls Tryz.prog 44 #[.string s] w fun r w'=>∃ u,r=.returned (.tuple #[u,.agg #[.int .i64 0,.int .i64 0]])∧Jk w' u ps∧Below w.heap.size w w':=by
 have hmf:∀ (fn:Fn) (first cap:Array Value) (w:World),(Instr.makeFunc fn first cap).run Tryz.prog w=.ok (.func fn first cap) w:=fun _ _ _ _=>rfl;have HP:=Ja hP;clear hP;go_enter_defers Tryz.func44,Tryz.ntmps44
 go_upto_region 3 with fail
 have h0:=Boxed.new w 25 (.slice none 0 0);have h1:=Jo.new (w.alloc (.cells #[.slice none 0 0] 25)) 77 (.int .i64 0) (.int .i64 0);have h2:RcB (((w.alloc (.cells #[.slice none 0 0] 25)).alloc (.cells #[.int .i64 0,.int .i64 0] 77)).alloc (.cells #[.string s,.int .i64 0] 124)) ((w.alloc (.cells #[.slice none 0 0] 25)).alloc (.cells #[.int .i64 0,.int .i64 0] 77)).heap.size s 0:=World.alloc_heap_new _ _;rw [World.size_alloc,World.size_alloc] at h2;rw [World.size_alloc] at h1;replace h0:=(h0.alloc (.cells #[.int .i64 0,.int .i64 0] 77)).alloc (.cells #[.string s,.int .i64 0] 124);replace h1:=h1.alloc (.cells #[.string s,.int .i64 0] 124);have hb:Below w.heap.size w (((w.alloc (.cells #[.slice none 0 0] 25)).alloc (.cells #[.int .i64 0,.int .i64 0] 77)).alloc (.cells #[.string s,.int .i64 0] 124)):=(((Below.refl _ w).alloc (Nat.le_refl _) _).alloc (by rw [World.size_alloc];omega) _).alloc (by rw [World.size_alloc,World.size_alloc];omega) _;have hz:(((w.alloc (.cells #[.slice none 0 0] 25)).alloc (.cells #[.int .i64 0,.int .i64 0] 77)).alloc (.cells #[.string s,.int .i64 0] 124)).heap.size=w.heap.size+1+1+1:=by rw [World.size_alloc,World.size_alloc,World.size_alloc]
 obtain ⟨V,hV⟩:∃ V,((w.alloc (.cells #[.slice none 0 0] 25)).alloc (.cells #[.int .i64 0,.int .i64 0] 77)).alloc (.cells #[.string s,.int .i64 0] 124)=V:=⟨_,rfl⟩;rw [hV] at h0 h1 h2 hb hz;rw [hV];have H0:=Ja h0;have H1:=Ja h1;have HB:=Ja hb;have HC:=Ja (HP.out _ _ h2);clear h0 h1 h2 hb hV HP hz;go_wp2_with (go_at_call 90;refine HC.out.mono ?_;rintro e w1 ⟨hg1,u1,rfl,hu1⟩;have HG:=Ja hg1;obtain ⟨a9,l9,c9,rfl⟩:=hu1.form;have HU:=Ja hu1.row;have hp1:Boxed w1 w.heap.size 25 (.slice none 0 0):=H0.out.kept HG.out (fun e=>by have:=Option.some.inj e;omega);have hq1:Jo w1 (w.heap.size+1) 77 (.int .i64 0) (.int .i64 0):=(HG.out.block _ H1.out.lt (fun e=>by have:=Option.some.inj e;omega)).trans H1.out;have x0:=hp1.cell;have x1:=hp1.frozen;have y0:=hq1.c0;have y1:=hq1.c1;have z0:=hq1.f0;have z1:=hq1.f1;have H2:=Ja hp1;have H3:=Ja hq1;clear hg1 hu1 hp1 hq1)
 have hne:w.heap.size+1≠w.heap.size:=by omega
 have hB1:Below w.heap.size w w1:=HB.out.grown HG.out HB.out.size (fun k e=>by have:=Option.some.inj e;omega);have a1:=H2.out.set (.slice a9 l9 c9);have a2:=Jbh H2.out (.slice a9 l9 c9) HU.out;have a3:=H3.out.far (p:=⟨w.heap.size,0,none⟩) hne (.slice a9 l9 c9);have a4:=hB1.setCell (p:=⟨w.heap.size,0,none⟩) (Nat.le_refl _) (.slice a9 l9 c9);generalize w1.setCell ⟨w.heap.size,0,none⟩ (.slice a9 l9 c9)=W2 at a1 a2 a3 a4 ⊢;have b1:=(Below.heap_setCell W2 ⟨w.heap.size+1,0,none⟩ (.int .i64 0) w.heap.size (fun e=>hne e.symm)).trans a1;have b2:=Jgl a3 rfl (JD W2 (w.heap.size+1) 0 (.int .i64 0)) a2;have b3:=a3.set0 (.int .i64 0);have b4:=a4.setCell (p:=⟨w.heap.size+1,0,none⟩) (by show _≤w.heap.size+1;omega) (.int .i64 0);generalize W2.setCell ⟨w.heap.size+1,0,none⟩ (.int .i64 0)=W3 at b1 b2 b3 b4 ⊢;have d1:=(Below.heap_setCell W3 ⟨w.heap.size+1,1,none⟩ (.int .i64 0) w.heap.size (fun e=>hne e.symm)).trans b1;have d2:=Jgl b3 rfl (JD W3 (w.heap.size+1) 1 (.int .i64 0)) b2;have d3:=b3.set1 (.int .i64 0);have d4:=b4.setCell (p:=⟨w.heap.size+1,1,none⟩) (by show _≤w.heap.size+1;omega) (.int .i64 0);generalize W3.setCell ⟨w.heap.size+1,1,none⟩ (.int .i64 0)=W4 at d1 d2 d3 d4 ⊢;refine leaves_cons (f:=89) (args:=#[.pointer (some ⟨w.heap.size,0,none⟩),.pointer (some ⟨w.heap.size+1,0,none⟩)]) (by simp) (by simp [go_sem]) ?_;refine (Jly ⟨w.heap.size,0,none⟩ ⟨w.heap.size+1,0,none⟩ _).mono ?_;rintro e u' w2 ⟨rfl,rfl,rfl⟩;have e1:Boxed W4 w.heap.size 25 (.slice a9 l9 c9):=d1;have f1:=(e1.alloc (.cells #[.int .i64 0,.int .i64 0] 77)).cell;have f2:=(d3.alloc (.cells #[.int .i64 0,.int .i64 0] 77)).c0;have f3:=(d3.alloc (.cells #[.int .i64 0,.int .i64 0] 77)).c1;have f4:=d4.alloc d4.size (.cells #[.int .i64 0,.int .i64 0] 77);have f5:=d2.below ((Below.refl _ W4).alloc (Nat.le_refl _) (.cells #[.int .i64 0,.int .i64 0] 77));generalize W4.alloc (.cells #[.int .i64 0,.int .i64 0] 77)=W5 at f1 f2 f3 f4 f5 ⊢;simp [Leaves,settle,results,Tryz.results44,go_sem,f1,f2,f3];exact ⟨⟨_,rfl,f5⟩,f4⟩
end Go.Proofs.YtcahejkcdcjjgaaGreatDoor
namespace Go.Proofs.YtcahejkcdcjjgaaGreatDoor
open Go.RowKit Go.Shelf
attribute [local go_sem] Oper.semAt_some
theorem Jh2 {l:List UInt8}:∀ (f:Nat) (b:Bool) (I m:Nat) (S S':List Rat) (k:Nat),I≤l.length→m≤I→YN S m→Ja4 l f b I S=.ok S' k→∃ m',m'≤l.length∧YN S' m':=by
 intro f;induction f with
 | zero=>intro b I m S S' k _ _ _ h;cases h
 | succ f ih=>
  intro b I m S S' k hI hm hS h;cases ht:Yc l I with
  | bad e p=>rw [Jge ht] at h;cases h
  | ok a k5=>
   obtain ⟨c,n⟩:=a;have h1:=Jfi hI ht;have h2:=hS.next (Jc8 hI ht) h1.2.2 b;have h3:=Jcz l k5;have h4:=Y5 h1.2.1;rw [Ji0 ht] at h;split at h
   · rename_i h5;have:=Yk h5;exact ih _ _ (m+1) _ _ _ (by omega) (by omega) h2 h
   · split at h
     · rename_i h5;have:=Yk h5;exact ih _ _ (m+1) _ _ _ (by omega) (by omega) h2 h
     · split at h
       · cases h;exact ⟨m+1,by omega,h2⟩
       · cases h
theorem Jog {l:List UInt8} {S:List Rat} {k:Nat} (h:XS l=.ok S k):∃ m,m≤l.length∧YN S m:=by
 unfold XS at h;have h4:=Y5 (l:=l) (i:=0) (by omega);split at h
 · rename_i h5;have:=Yk h5;exact Jh2 _ _ _ 0 _ _ _ (by omega) (by omega) YN.start h
 · exact Jh2 _ _ _ 0 _ _ _ h4 (by omega) YN.start h
theorem XE (l:List UInt8):(JV l).1.length≤9∧∀ i,SmQ 601 (cf (JV l).1 i):=by
 by_cases h:300<l.length
 · rw [show JV l=([],1,0) by unfold JV;rw [if_pos h]];exact ⟨by simp,fun i=>by rw [Yu];exact SmQ.zero _ (by omega)⟩
 · rw [Jd9 h];cases ht:XS l with
   | bad e p=>exact ⟨by simp [Jp7],fun i=>by rw [show (Jp7 (Rd.bad (α:=List Rat) e p)).1=[] from rfl,Yu];exact SmQ.zero _ (by omega)⟩
   | ok S k=>
    obtain ⟨m,hm,hs⟩:=Jog ht;rw [show (Jp7 (Rd.ok S k)).1=Ji S from rfl];exact ⟨Nat.le_trans (JZ _) (by rw [hs.1];exact Nat.le_refl _),fun i=>by rw [JY];exact (hs.2 i).mono (by omega)⟩
def Joh (l:List UInt8) (w':World) (u:Value) (e p:Int):Prop:=e=((JV l).2.1:Int)∧p=((JV l).2.2:Int)∧Jk w' u (JV l).1
theorem Jr9 (s:ByteArray) (hs:s.size≤300) (w:World) :
 Calls Tryz.prog 44 #[.string s] w fun r w'=>∃ u e p,r=.returned (.tuple #[u,.agg #[.int .i64 e,.int .i64 p]])∧Joh (Je s) w' u e p∧Below w.heap.size w w':=by
 have HP:=Jd9 (l:=Je s) (by rw [Jm];omega);cases ht:XS (Je s) with
 | bad e0 q0=>
  rw [ht] at HP;refine (Joe s e0 q0 w (fun V R hR=>(Jm1 R s V hR hs).mono (fun r w' h=>⟨h.1,h.2.1 _ _ ht⟩))).mono ?_;rintro r w' ⟨rfl,hb⟩;refine ⟨_,_,_,rfl,?_,hb⟩;rw [Joh,HP];exact ⟨rfl,rfl,_,rfl,RowK.nil _ _⟩
 | ok S k=>
  rw [ht] at HP;refine (Jqk s (Ji S) w (fun V R hR=>(Jm1 R s V hR hs).mono (fun r w' h=>⟨h.1,by obtain ⟨u,h1,h2,_⟩:=h.2.2 _ _ ht;exact ⟨u,h1,h2⟩⟩))).mono ?_;rintro r w' ⟨u,rfl,hu,hb⟩;refine ⟨_,_,_,rfl,?_,hb⟩;rw [Joh,HP];exact ⟨rfl,rfl,hu⟩
theorem Jkl (s:ByteArray) (w:World) :
 Calls Tryz.prog 9 #[.string s] w fun r w'=>∃ u e p,r=.returned (.tuple #[u,.int .i64 e,.int .i64 p])∧Joh (Je s) w' u e p∧Below w.heap.size w w':=by
 by_cases hlong:300<s.size
 · have hlong':(300:Int)<(s.size:Int):=by omega
   have HP:=Ja (show JV (Je s)=([],1,0) by unfold JV;rw [if_pos (by rw [Jm];exact hlong)]);clear hlong;go_enter Tryz.func9,Tryz.ntmps9
   go_wp2;exact bodyPost_ret (v:=.tuple #[.agg #[.slice none 0 0],.int .i64 1,.int .i64 0]) (by simp [results,Tryz.results9,go_sem]) rfl ⟨_,_,_,rfl,by rw [Joh,HP.out];exact ⟨rfl,rfl,_,rfl,RowK.nil _ _⟩,(Below.refl _ w).alloc (Nat.le_refl _) _⟩
 · have hlong':¬ (300:Int)<(s.size:Int):=by omega
   have HR:=Ja (fun (V:World)=>Jr9 s (by omega) V);clear hlong;go_enter Tryz.func9,Tryz.ntmps9
   go_upto_region 4 with (go_at_call 44;refine (HR.out _).mono ?_;clear HR;rintro e w1 ⟨u1,e1,p1,rfl,hu1,hb1⟩;obtain ⟨a9,l9,c9,rfl⟩:=hu1.2.2.form;have HU:=Ja hu1;have HB:=Ja hb1;clear hu1 hb1)
   have hw0:w.heap.size<w1.heap.size:=by have:=HB.out.size;rw [World.size_alloc] at this;omega
   have q0:Boxed w1 w.heap.size 25 (.slice none 0 0):=(HB.out.block _ (by rw [World.size_alloc];omega)).trans (Boxed.new w 25 (.slice none 0 0));have hb0:Below w.heap.size w w1:=((Below.refl _ w).alloc (Nat.le_refl _) _).trans (HB.out.mono (by rw [World.size_alloc];omega));have h0:=Boxed.new w1 25 (.slice a9 l9 c9);have h1:=Jo.new (w1.alloc (.cells #[.slice a9 l9 c9] 25)) 77 (.int .i64 e1) (.int .i64 p1);rw [World.size_alloc] at h1;replace h0:=h0.alloc (.cells #[.int .i64 e1,.int .i64 p1] 77);have hA:Below w1.heap.size w1 ((w1.alloc (.cells #[.slice a9 l9 c9] 25)).alloc (.cells #[.int .i64 e1,.int .i64 p1] 77)):=((Below.refl _ w1).alloc (Nat.le_refl _) _).alloc (by rw [World.size_alloc];omega) _;have q1:=(hA.block _ q0.lt).trans q0;have hb1:=hb0.trans (hA.mono hb0.size);have hu1:=HU.out.2.2.row.below hA;have HUE:=Ja (⟨HU.out.1,HU.out.2.1⟩:e1=_∧p1=_);have hne1:w.heap.size≠w1.heap.size:=by omega
   have hne2:w.heap.size≠w1.heap.size+1:=by omega
   generalize (w1.alloc (.cells #[.slice a9 l9 c9] 25)).alloc (.cells #[.int .i64 e1,.int .i64 p1] 77)=W2 at h0 h1 hA q1 hb1 hu1 ⊢;clear hA q0 hb0 HB HU hw0;obtain ⟨Q,hQ⟩:∃ Q,w.heap.size=Q:=⟨_,rfl⟩;obtain ⟨B,hB⟩:∃ B,w1.heap.size=B:=⟨_,rfl⟩;rw [hB] at h0 h1 hne1 hne2;rw [hQ] at q1 hne1 hne2;rw [hB,hQ];have q2:Boxed W2 Q 25 (.slice none 0 0):=q1;have x0:=h0.cell;have y0:=h1.c0;have y1:=h1.c1;have z0:=q2.cell;have z1:=q2.frozen;have HQ2:=Ja q2;have HQQ:=Ja hQ;have HB1:=Ja hb1;have HU1:=Ja hu1;clear h0 h1 q1 q2 hQ hB hb1 hu1;go_region
   go_wp2_with fail
   have r0:=z0;refine bodyPost_ret (v:=.tuple #[.agg #[.slice a9 l9 c9],.int .i64 e1,.int .i64 p1]) (by simp [results,Tryz.results9,go_sem,r0]) rfl ⟨_,_,_,rfl,⟨HUE.out.1,HUE.out.2,_,rfl,?_⟩,?_⟩
   · exact (Jbh HQ2.out (.slice a9 l9 c9) HU1.out).below ((Below.refl _ _).drew)
   · exact (HB1.out.setCell (p:=⟨Q,0,none⟩) (by rw [HQQ.out];exact Nat.le_refl _) _).drew
end Go.Proofs.YtcahejkcdcjjgaaGreatDoor
namespace Go.Proofs.YtcahejkcdcjjgaaGreatDoor
open Go.RowKit Go.Shelf
theorem Joi {k:Nat} {q:Rat} (h:SmQ k q):(Yq q).length≤40*k+5:=by
 have h1:=Jb7 q.num;have h2:=Jb7 (q.den:Int);have h3:=h.1.words;have h4:=h.2.words;unfold Yq;split
 · omega
 · rw [List.length_append,List.length_cons];omega
theorem SmQ.abs {k:Nat} {q:Rat} (h:SmQ k q):SmQ k (Jb8 q):=by
 have:=Jj8 q;unfold SmQ Sm at h ⊢;rw [this.1,this.2];exact ⟨by have:=h.1;omega,h.2⟩
theorem Joj {k:Nat} {c:Rat} (h:SmQ k c) {i:Nat} (hi:i<B64) (f:Bool):(Xy c i f).length≤40*k+40:=by
 have h1:=Joi h.abs;have h2:=Jb5 i;have h3:(Jd B64 i).length≤1:=JN Jc (by rw [Nat.pow_one];exact hi);have h4:(Jhv c f).length≤1:=by
  unfold Jhv;split
  · simp
  · split <;> simp
 have h5:(Jbo c i).length≤40*k+5:=by
  unfold Jbo;split
  · simp
  · exact h1
 have h6:(Jg7 i).length≤23:=by
  unfold Jg7;split
  · simp
  · split
    · simp
    · rw [List.length_cons,List.length_cons];omega
 unfold Xy;rw [List.length_append,List.length_append];omega
theorem Jok {k:Nat} {ps:List Rat} (h:∀ i,SmQ k (cf ps i)) (hl:ps.length≤B64):∀ (d m:Nat),ps.length - m=d→(Yt (ps.drop m) m).length≤d*(40*k+40):=by
 intro d;induction d with
 | zero=>
  intro m hm;rw [List.drop_of_length_le (by omega)];simp [Yt]
 | succ d ih=>
  intro m hm;have ih:=ih (m+1) (by omega);rw [Jf9 ps (by omega:m<ps.length)];have h1:=Joj (h m) (by omega:m<B64) (Yt (ps.drop (m+1)) (m+1)).isEmpty;rw [Nat.add_mul];split
  · omega
  · rw [List.length_append];omega
theorem Jce {ps:List Rat} (h:Sqs ps) (hl:ps.length≤3000000) (m:Nat):(Yt (ps.drop m) m).length≤140737488355328:=by
 have h1:=Jok (fun i=>(h.at i).sm) (by unfold B64;omega) _ m rfl;refine Nat.le_trans h1 (Nat.le_trans (Nat.mul_le_mul_right _ (Nat.sub_le _ _)) (Nat.le_trans (Nat.mul_le_mul_right _ hl) ?_));decide
theorem Jkm (z:List Rat) (i:Nat) (a:Rat) (q:List Rat):∀ (j k:Nat),i+j≤k→cf (Yl z i a q j) k=cf z k:=by
 intro j;induction j with
 | zero=>intro k _;rfl
 | succ j ih=>
  intro k hk;rw [Yl];by_cases h:i+j<z.length
  · rw [XI _ _ _ _ (by rw [Ye];exact h),if_neg (by omega),ih k (by omega)]
  · rw [List.set_eq_of_length_le (by rw [Ye];omega),ih k (by omega)]
theorem YH (z:List Rat) (i:Nat) (a:Rat) (q:List Rat):∀ (j k:Nat),cf (Yl z i a q j) k=cf z k∨cf (Yl z i a q j) k=cf z k+a*cf q (k - i):=by
 intro j;induction j with
 | zero=>intro k;exact Or.inl rfl
 | succ j ih=>
  intro k;rw [Yl];by_cases h:i+j<z.length
  · rw [XI _ _ _ _ (by rw [Ye];exact h)];by_cases e:k=i+j
    · subst e;rw [if_pos rfl,Jkm z i a q j (i+j) (Nat.le_refl _)];exact Or.inr (by rw [Nat.add_sub_cancel_left])
    · rw [if_neg e];exact ih k
  · rw [List.set_eq_of_length_le (by rw [Ye];omega)];exact ih k
theorem Jkn {A:Nat} {ps qs:List Rat} (hp:∀ i,SmQ A (cf ps i)) (hq:∀ j,SmQ A (cf qs j)) (n:Nat):∀ (i k:Nat),SmQ (min i ps.length*(A+A+1)+1) (cf (YC ps qs n i) k):=by
 intro i;induction i with
 | zero=>intro k;rw [YC,JO];exact SmQ.zero _ (by omega)
 | succ i ih=>
  intro k;rw [YC];rcases YH (YC ps qs n i) i (cf ps i) qs qs.length k with e | e
  · rw [e];exact (ih k).mono (by have:min i ps.length*(A+A+1)≤min (i+1) ps.length*(A+A+1):=Nat.mul_le_mul_right _ (by omega);omega)
  · rw [e];by_cases hi:i<ps.length
    · rw [show min (i+1) ps.length=min i ps.length+1 from by omega,Nat.add_mul];exact ((ih k).add2 ((hp i).mul (hq (k - i)))).mono (by omega)
    · rw [J7 (p:=ps) (by omega),Rat.zero_mul,Rat.add_zero,show min (i+1) ps.length=min i ps.length from by omega];exact ih k
theorem Jbj {A:Nat} {ps qs:List Rat} (hp:∀ i,SmQ A (cf ps i)) (hq:∀ j,SmQ A (cf qs j)) (hL:(ps.length+1)*(A+A+1)+1≤1000000):M3.XC ps qs:=by
 have hle:A+A+1≤(ps.length+1)*(A+A+1):=Nat.le_mul_of_pos_left _ (by omega);refine ⟨fun i j=>Sq.of ((hp i).mul (hq j)) (by omega),fun n i j k=>?_⟩;have h1:=Jkn hp hq n i k;have h2:min i ps.length*(A+A+1)≤ps.length*(A+A+1):=Nat.mul_le_mul_right _ (by omega);rw [Nat.add_mul] at hL;rcases YH (YC ps qs n i) i (cf ps i) qs j k with e | e
 · rw [e];exact Sq.of h1 (by omega)
 · rw [e];exact Sq.of (h1.add2 ((hp i).mul (hq (k - i)))) (by omega)
theorem Je4 {A:Nat} {ps qs:List Rat} (hp:∀ i,SmQ A (cf ps i)) (hq:∀ j,SmQ A (cf qs j)) (k:Nat):SmQ (ps.length*(A+A+1)+1) (cf (JS ps qs) k):=by
 unfold JS;rw [JY,Jaz];have h:=Jkn hp hq (ps.length+qs.length) ps.length k;rwa [Je7 _ _ _ _ _ (Or.inr (by omega)),Nat.min_self] at h
def Xx:List Rat:=[Rat.divInt 1 2,1]
def Jc9:List Rat:=[Rat.divInt 1 4,1,1]
theorem Jko:JV [120,32,43,32,49,47,50]=(Xx,0,0):=by decide +kernel
theorem Jes:JS Xx Xx=Jc9:=by decide +kernel
end Go.Proofs.YtcahejkcdcjjgaaGreatDoor
namespace Go.Proofs.YtcahejkcdcjjgaaGreatDoor
open Go.RowKit Go.Shelf
attribute [local go_sem] Oper.semAt_some
theorem _root_.Go.Boxed.bel {W W':World} {B:Nat} {t:TypeId} {v:Value} (h:Boxed W B t v) (hb:Below W.heap.size W W'):Boxed W' B t v:=(hb.block B h.lt).trans h
theorem Jlz:Jb9 Jc9=[120,94,50,43,120,43,49,47,52]:=by decide +kernel
theorem Jav (i:Nat):SmQ 1 (cf Xx i):=by
 rcases i with _ | _ | i
 · exact ⟨by show Sm 1 1;unfold Sm B64;decide,by show Sm 1 2;unfold Sm B64;decide⟩
 · exact ⟨by show Sm 1 1;unfold Sm B64;decide,by show Sm 1 1;unfold Sm B64;decide⟩
 · rw [J7 (by simp [Xx])];exact SmQ.zero 1 (by omega)
theorem Jgm:Sqs Xx:=Sqs.of fun i=>Sq.of (Jav i) (by omega)
theorem Jgn:Sqs Jc9:=Sqs.of fun i=>by rw [←Jes];exact Sq.of (Je4 Jav Jav i) (by simp [Xx])
theorem Js8 (e:Int) (w:World):Calls Tryz.prog 12 #[.int .i64 e] w fun r w'=>r=.returned (.int .i64 e)∧Below w.heap.size w w':=by
 go_enter Tryz.func12,Tryz.ntmps12
 go_wp2;go_ret;exact ⟨rfl,Below.refl _ _⟩
theorem Jkp (w:World) (htab:Jer w):Calls Tryz.prog 19 #[] w fun r w'=>r=.returned (.bool true)∧Below w.heap.size w w':=by
 have HT:=Ja htab;have HC:=Ja (fun (V:World)=>show Calls Tryz.prog 9 #[.string ⟨#[120,32,43,32,49,47,50]⟩] V fun r w'=>∃ u,r=.returned (.tuple #[u,.int .i64 0,.int .i64 0])∧Jk w' u Xx∧Below V.heap.size V w' from
  (Jkl ⟨#[120,32,43,32,49,47,50]⟩ V).mono (fun r w' h=>by
   obtain ⟨u,e,p,h1,h2,h3⟩:=h;rw [Joh,show Je ⟨#[120,32,43,32,49,47,50]⟩=[120,32,43,32,49,47,50] from rfl,Jko] at h2;obtain ⟨rfl,rfl,h4⟩:=h2;exact ⟨u,h1,h4,h3⟩))
 have M:=Ja (Below.refl w.heap.size w);clear htab;go_enter Tryz.func19,Tryz.ntmps19
 go_upto_region 2 with (go_at_call 9;refine (HC.out _).mono ?_;clear HC;rintro e w1 ⟨u,rfl,hu,hb⟩;obtain ⟨a1,l1,c1,rfl⟩:=hu.form)
 replace M:=Ja (M.out.trans (hb.mono M.out.size));have hA:Below w1.heap.size w1 (w1.alloc (.cells #[.slice a1 l1 c1] 25)):=(Below.refl _ w1).alloc (Nat.le_refl _) _;have nP:=Boxed.new w1 25 (.slice a1 l1 c1);have rP:=hu.below hA;replace M:=Ja (M.out.trans (hA.mono M.out.size));clear hA;obtain ⟨VP,hV⟩:∃ V,w1.alloc (.cells #[.slice a1 l1 c1] 25)=V:=⟨_,rfl⟩;obtain ⟨BP,hB⟩:∃ B,w1.heap.size=B:=⟨_,rfl⟩;rw [hV] at rP M;rw [hV,hB] at nP;rw [hV];rw [hB];clear hV hB;clear hu hb;have H1:=Ja (fun (V:World) (h:Below VP.heap.size VP V)=>M3.Xb _ _ Xx Xx V (rP.below h) (rP.below h) Jgm Jgm (Jbj Jav Jav (by simp [Xx])) (by simp [Xx]));rw [Jes] at H1;have hq:Below VP.heap.size VP VP:=Below.refl _ _;have eP:=(nP.bel hq).cell;go_upto_region 3 with (go_at_call 28;refine (H1.out _ hq).mono ?_;clear H1;rintro e w2 ⟨u,rfl,hu,_,hb⟩;obtain ⟨a2,l2,c2,rfl⟩:=hu.form)
 replace hb:=Below.then hq hb
 clear hq eP;replace nP:=nP.bel hb;replace rP:=rP.below hb;replace M:=Ja (M.out.trans (hb.mono M.out.size));clear hb;have hA:Below w2.heap.size w2 (w2.alloc (.cells #[.slice a2 l2 c2] 25)):=(Below.refl _ w2).alloc (Nat.le_refl _) _;have nQ:=Boxed.new w2 25 (.slice a2 l2 c2);have rQ:=hu.below hA;replace nP:=nP.bel hA;replace rP:=rP.below hA;replace M:=Ja (M.out.trans (hA.mono M.out.size));clear hA;obtain ⟨VQ,hV⟩:∃ V,w2.alloc (.cells #[.slice a2 l2 c2] 25)=V:=⟨_,rfl⟩;obtain ⟨BQ,hB⟩:∃ B,w2.heap.size=B:=⟨_,rfl⟩;rw [hV] at nP rP rQ M;rw [hV,hB] at nQ;rw [hV];rw [hB];clear hV hB;clear hu;have H1:=Ja (fun (V:World) (h:Below VQ.heap.size VQ V)=>Js8 0 V);have H2:=Ja (fun (V:World) (h:Below VQ.heap.size VQ V)=>Xc _ Jc9 V (rQ.below h) Jgn (fun m=>Jce Jgn (by simp [Jc9]) m) (JE HT.out (M.out.trans (h.mono M.out.size))));rw [Jlz] at H2;have H3:=Ja (fun (V:World) (h:Below VQ.heap.size VQ V)=>Yp _ Jc9 V (rQ.below h));rw [show ((Jc9.length:Int) - 1)=2 from rfl] at H3;have hq:Below VQ.heap.size VQ VQ:=Below.refl _ _;have eQ:=(nQ.bel hq).cell;go_wp2_with (first
  | (go_at_call 12;refine (H1.out _ hq).mono ?_;clear H1;rintro e x1 ⟨rfl,hb⟩;replace hq:=Below.then hq hb;clear hb eQ;have eQ:=(nQ.bel hq).cell)
  | (go_at_call 13;refine (H2.out _ hq).mono ?_;clear H2;rintro e x2 ⟨rfl,hb⟩;replace hq:=Below.then hq hb;clear hb eQ;have eQ:=(nQ.bel hq).cell)
  | (go_at_call 15;refine (H3.out _ hq).mono ?_;clear H3;rintro e x3 ⟨rfl,hb⟩;replace hq:=Below.then hq hb;clear hb eQ;have eQ:=(nQ.bel hq).cell))
 go_ret;exact ⟨rfl,M.out.trans (hq.mono M.out.size)⟩
theorem X7 (l:List UInt8):Ji (JV l).1=(JV l).1:=by
 by_cases h:300<l.length
 · rw [show JV l=([],1,0) by unfold JV;rw [if_pos h]];rfl
 · rw [Jd9 h];cases XS l with
   | bad e p=>rfl
   | ok S k=>exact Yx _
theorem _root_.Go.Proofs.YtcahejkcdcjjgaaGreatDoor.RowK.isPoly {V:World} {a:Option Addr} {l c:Nat} {ps:List Rat} (h:RowK true V (.slice a l c) ps):Jk V (.agg #[.slice a l c]) ps:=⟨_,rfl,h⟩
end Go.Proofs.YtcahejkcdcjjgaaGreatDoor
namespace Go.Proofs.YtcahejkcdcjjgaaGreatDoor
open Go.RowKit Go.Shelf
theorem SmQ.mul2 {k m:Nat} {p q:Rat} (hp:SmQ k p) (hq:SmQ m q):SmQ (k+m) (p*q):=by
 rw [←Jo4];refine SmQ.divInt ?_ (hp.1.mul hq.1) (hp.2.mul hq.2);exact Int.mul_ne_zero (by have:=p.den_nz;omega) (by have:=q.den_nz;omega)
theorem SmQ.inv {m:Nat} {q:Rat} (hq:SmQ m q) (h0:q≠0):SmQ m q⁻¹:=by
 rw [Rat.inv_def];exact SmQ.divInt (fun e=>h0 (Rat.num_eq_zero.1 e)) hq.2 hq.1
theorem SmQ.div2 {k m:Nat} {p q:Rat} (hp:SmQ k p) (hq:SmQ m q) (h0:q≠0):SmQ (k+m) (p / q):=by
 rw [Rat.div_def];exact hp.mul2 (hq.inv h0)
theorem SmQ.sub2 {k m:Nat} {p q:Rat} (hp:SmQ k p) (hq:SmQ m q):SmQ (k+m+1) (p - q):=by
 rw [Rat.sub_eq_add_neg];exact hp.add2 hq.neg
theorem Jdx {p:List Rat} {m:Nat} (hp:Ji p=p) (h:∀ i,m≤i→cf p i=0):p.length≤m:=by
 by_cases hl:p.length≤m
 · exact hl
 · exfalso
   exact J1 hp (by intro e;rw [e] at hl;simp at hl) (h _ (by omega))
theorem Jsa (n:Nat) (a:Rat) (i:Nat):cf (Ji (upR n [a])) i=if i=n then a else 0:=by rw [JY,Jr2]
theorem Jm2 (n:Nat) (a:Rat) (x:Rat):ev (Ji (upR n [a])) x=x ^ n*a:=by
 rw [XA,Jh9];show x ^ n*(a+x*0)=_;grind
theorem Jkq (n:Nat) (a:Rat) (q:List Rat) (i:Nat):cf (JS (Ji (upR n [a])) q) i=if n≤i then a*cf q (i - n) else 0:=by
 have e:JS (Ji (upR n [a])) q=Ji (Yz a (upR n q)):=by
  rw [←Jcf];refine Je6 fun x=>?_;rw [Xk,Jm2,YY,Jh9];grind
 rw [e,JY,XF,Jd4];split
 · exact Rat.mul_comm _ _
 · exact Rat.zero_mul _
def Jgo (A la:Nat) (ps qs R Q:List Rat) (k:Nat):Prop:=
 Ji R=R∧Ji Q=Q∧k+R.length≤la∧Q.length≤la∧(∀ x,ev ps x=ev qs x*ev Q x+ev R x)∧(∀ i,i+qs.length≤R.length→cf Q i=0)∧
  ∃ z,z+(2*A+1)≤2 ^ k*(3*A+1)∧(∀ i,SmQ z (cf R i))∧∀ i,SmQ (z+A) (cf Q i)
theorem Jgo.start {A:Nat} {ps qs:List Rat} (hA:1≤A) (ht:Ji ps=ps) (hp:∀ i,SmQ A (cf ps i)):Jgo A ps.length ps qs ps [] 0:=by
 refine ⟨ht,rfl,by omega,by simp,fun x=>?_,fun i _=>Yu i,A,by omega,hp,fun i=>?_⟩
 · show _=ev qs x*0+_;grind
 · rw [Yu];exact SmQ.zero _ (by omega)
theorem Jkr {qs R:List Rat} {n:Nat} {a:Rat} (htq:Ji qs=qs) (hq0:qs≠[]) (hl:qs.length≤R.length) (hn:n=R.length - qs.length)
 (ha:a=cf R (R.length - 1) / cf qs (qs.length - 1)):(Jia R (JS (Ji (upR n [a])) qs)).length≤R.length - 1:=by
 have hql:0<qs.length:=List.length_pos_iff.2 hq0;have hlead:=J1 htq hq0;refine Jdx (Jha _ _) fun i hi=>?_;rw [Jmc,Jkq];by_cases e:i=R.length - 1
 · rw [if_pos (by omega),e,show R.length - 1 - n=qs.length - 1 from by omega,ha,Rat.div_mul_cancel hlead,Rat.sub_self]
 · rw [J7 (p:=R) (by omega),if_pos (by omega),J7 (p:=qs) (by omega),Rat.mul_zero,Rat.sub_self]
theorem Jgo.next {A la:Nat} {ps qs R Q:List Rat} {k n:Nat} {a:Rat} (h:Jgo A la ps qs R Q k) (hq:∀ i,SmQ A (cf qs i)) (htq:Ji qs=qs) (hq0:qs≠[]) (hl:qs.length≤R.length) (hn:n=R.length - qs.length)
 (ha:a=cf R (R.length - 1) / cf qs (qs.length - 1)):Jgo A la ps qs (Jia R (JS (Ji (upR n [a])) qs)) (XK Q (Ji (upR n [a]))) (k+1):=by
 obtain ⟨h1,h2,h3,h4,h5,h6,z,h7,h8,h9⟩:=h;have hql:0<qs.length:=List.length_pos_iff.2 hq0;have hlead:=J1 htq hq0;have hcR:∀ i,cf (Jia R (JS (Ji (upR n [a])) qs)) i=cf R i - (if n≤i then a*cf qs (i - n) else 0):=fun i=>by rw [Jmc,Jkq]
 have hcQ:∀ i,cf (XK Q (Ji (upR n [a]))) i=if i=n then a else cf Q i:=fun i=>by
  rw [Jcg,Jsa];split
  · rename_i e;rw [e,h6 n (by omega),Rat.zero_add]
  · exact Rat.add_zero _
 have hlen:=Jkr htq hq0 hl hn ha;have hsa:SmQ (z+A) a:=by rw [ha];exact (h8 _).div2 (hq _) hlead
 refine ⟨Jha _ _,Xf _ _,by omega,Jdx (Xf _ _) (fun i hi=>?_),fun x=>?_,fun i hi=>?_,2*z+(2*A+1),?_,fun i=>?_,fun i=>?_⟩
 · rw [hcQ,if_neg (by omega),J7 (by omega)]
 · rw [XW,Jqx,Xk,Jm2,h5 x];grind
 · rw [hcQ,if_neg (by omega)];exact h6 i (by omega)
 · rw [Nat.pow_succ,Nat.mul_comm (2 ^ k) 2,Nat.mul_assoc];omega
 · rw [hcR];split
   · exact ((h8 i).sub2 (hsa.mul2 (hq _))).mono (by omega)
   · rw [Rat.sub_eq_add_neg,Rat.neg_zero,Rat.add_zero];exact (h8 i).mono (by omega)
 · rw [hcQ];split
   · exact hsa.mono (by omega)
   · exact (h9 i).mono (by omega)
theorem Jgo.done {A la:Nat} {ps qs R Q:List Rat} {k:Nat} (h:Jgo A la ps qs R Q k) (htq:Ji qs=qs) (hq0:qs≠[]) (hl:R.length<qs.length):Q=Xr ps qs∧R=X8 ps qs:=by
 obtain ⟨h1,h2,_,_,h5,_⟩:=h;obtain ⟨g1,g2,g3,g4⟩:=Je8 ps qs htq hq0;exact Jh8 htq hq0 h2 g3 h1 g4 hl g2 (fun x=>by rw [←h5 x,←g1 x])
end Go.Proofs.YtcahejkcdcjjgaaGreatDoor
