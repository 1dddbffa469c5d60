import Derived.Test.YtcahejkcdcjjgaaGreatDoorK39
import Derived.Defers
import Derived.Recover
import Derived.Test.YtcahejkcdcjjgaaGreatDoorK40
import Derived.Test.YtcahejkcdcjjgaaGreatDoorK29
import Derived.Test.YtcahejkcdcjjgaaGreatDoorK41
set_option maxRecDepth 100000
set_option maxHeartbeats 16000000
namespace Go.Proofs.YtcahejkcdcjjgaaGreatDoor
open Go.RowKit Go.Shelf
theorem Jkm (p q:Addr) (w:World) :
 CallsD Tryz.prog 89 #[.pointer (some p),.pointer (some q)] .returning w fun e u' w'=>e=.returned (.tuple #[])∧u'=.returning∧w'=w.alloc (.cells #[.int .i64 0,.int .i64 0] 77):=by
 have hta:∀ w:World,(Instr.typeAssert Value.nilIface 20 77 true).run Tryz.prog w=.ok (.tuple #[.agg #[.int .i64 0,.int .i64 0],.bool false]) w:=fun _=>by kernel_rfl
 refine callsD_of_wpS Tryz.func89 rfl fun c₀ cs hu=>?_;apply wpS_seq;apply wpS_region;simp [wpOpsS,go_sem,recoverD,hu,Tryz.ntmps89,Exit.thenS,hta];apply wpS_seq;apply wpS_region;simp [wpOpsS,go_sem,Exit.thenS];refine wpS_cond (t:=false) (by simp [Act.eval,Array.replicate]) ?_;simp only [Bool.false_eq_true,if_false];refine wpS_of_wp (wp_skip ?_);cases c₀;simp_all [bodyPostS,results,Tryz.results89]
theorem Ji8 (p q:Nat) (e0 p0:Int) (w:World) (bp:Boxed w p 25 (.slice none 0 0)) (bq:Jg w q 77 (.int .i64 0) (.int .i64 0)) (hne:p≠q) :
 CallsD Tryz.prog 89 #[.pointer (some ⟨p,0,none⟩),.pointer (some ⟨q,0,none⟩)] (.panicking [{ v:=Xx e0 p0,recovered:=false }]) w fun e u' w'=>e=.returned (.tuple #[])∧u'=.panicking [{ v:=Xx e0 p0,recovered:=true }]∧Boxed w' p 25 (.slice none 0 0)∧Jg w' q 77 (.int .i64 e0) (.int .i64 p0)∧∀ n w0,Below n w0 w→n≤w.heap.size→n≤p→n≤q→Below n w0 w':=by
 unfold Xx;have hta:∀ w:World,(Instr.typeAssert (.iface 77 (.agg #[.int .i64 e0,.int .i64 p0])) 20 77 true).run Tryz.prog w=.ok (.tuple #[.agg #[.int .i64 e0,.int .i64 p0],.bool true]) w:=fun _=>by kernel_rfl
 refine callsD_of_wpS Tryz.func89 rfl fun c₀ cs hu=>?_;apply wpS_seq;apply wpS_region;simp [wpOpsS,go_sem,recoverD,hu,Tryz.ntmps89,Exit.thenS,hta];apply wpS_seq;apply wpS_region;simp [wpOpsS,go_sem,Exit.thenS];refine wpS_cond (t:=true) (by simp [Act.eval,Array.replicate]) ?_;simp only [if_true];refine wpS_of_wp ?_;simp [Array.replicate];have n0:=Jg.new w 77 (.int .i64 e0) (.int .i64 p0);have bp1:=bp.alloc (.cells #[.int .i64 e0,.int .i64 p0] 77);have bq1:=bq.alloc (.cells #[.int .i64 e0,.int .i64 p0] 77);have hpD:p≠w.heap.size:=by have:=bp.lt;omega
 have hqD:q≠w.heap.size:=by have:=bq.lt;omega
 have HB:=Ja (fun (n:Nat) (w0:World) (h:Below n w0 w) (hn:n≤w.heap.size)=>h.alloc hn (.cells #[.int .i64 e0,.int .i64 p0] 77));obtain ⟨W,hW⟩:∃ W,w.alloc (.cells #[.int .i64 e0,.int .i64 p0] 77)=W:=⟨_,rfl⟩;rw [hW] at n0 bp1 bq1 HB;rw [hW];obtain ⟨D,hD⟩:∃ D,w.heap.size=D:=⟨_,rfl⟩;rw [hD] at n0 hpD hqD HB;rw [hD];clear hW bp bq hta hu;have d0:=n0.c0;have d1:=n0.c1;have x0:=bp1.cell;have x1:=bp1.frozen;have y0:=bq1.c0;have y1:=bq1.c1;have z0:=bq1.f0;have z1:=bq1.f1;have HX:=Ja bp1;have HY:=Ja bq1;clear bp1 bq1 n0;go_region
 have hX:Boxed (((W.setCell ⟨p,0,none⟩ (.slice none 0 0)).setCell ⟨q,0,none⟩ (.int .i64 e0)).setCell ⟨q,1,none⟩ (.int .i64 p0)).drew p 25 (.slice none 0 0):=
  (Below.heap_setCell _ ⟨q,1,none⟩ (.int .i64 p0) p hne).trans ((Below.heap_setCell _ ⟨q,0,none⟩ (.int .i64 e0) p hne).trans (HX.out.set (.slice none 0 0)))
 have hY:Jg (((W.setCell ⟨p,0,none⟩ (.slice none 0 0)).setCell ⟨q,0,none⟩ (.int .i64 e0)).setCell ⟨q,1,none⟩ (.int .i64 p0)).drew q 77 (.int .i64 e0) (.int .i64 p0):=
  (((HY.out.far (p:=⟨p,0,none⟩) (fun e=>hne e.symm) _).set0 _).set1 _).drew
 have hZ:∀ n w0,Below n w0 w→n≤D→n≤p→n≤q→Below n w0 (((W.setCell ⟨p,0,none⟩ (.slice none 0 0)).setCell ⟨q,0,none⟩ (.int .i64 e0)).setCell ⟨q,1,none⟩ (.int .i64 p0)).drew:=
  fun n w0 h hn h1 h2=>((((HB.out n w0 h hn).setCell (p:=⟨p,0,none⟩) h1 _).setCell (p:=⟨q,0,none⟩) h2 _).setCell (p:=⟨q,1,none⟩) h2 _).drew
 generalize (((W.setCell ⟨p,0,none⟩ (.slice none 0 0)).setCell ⟨q,0,none⟩ (.int .i64 e0)).setCell ⟨q,1,none⟩ (.int .i64 p0)).drew=V at hX hY hZ ⊢;simp [bodyPostS,results,Tryz.results89];exact ⟨hX,hY,hZ⟩
theorem Jm7 (s:ByteArray) (e0 q0:Int) (w:World) (hP:∀ V R,RcB V R s 0→Calls Tryz.prog 90 #[.pointer (some ⟨R,0,none⟩)] V fun r w'=>V.grownBy w' (some R)∧r=.panicked [{ v:=Xx e0 q0,recovered:=false }]) :
 Calls Tryz.prog 44 #[.string s] w fun r w'=>r=.returned (.tuple #[.agg #[.slice none 0 0],.agg #[.int .i64 e0,.int .i64 q0]])∧Below w.heap.size w w':=by
 have hmf:∀ (fn:Fn) (first cap:Array Value) (w:World),(Instr.makeFunc fn first cap).run Tryz.prog w=.ok (.func fn first cap) w:=fun _ _ _ _=>rfl;have HP:=Ja hP;clear hP;go_enter_defers Tryz.func44,Tryz.ntmps44
 go_upto_region 3 with fail
 have h0:=Boxed.new w 25 (.slice none 0 0);have h1:=Jg.new (w.alloc (.cells #[.slice none 0 0] 25)) 77 (.int .i64 0) (.int .i64 0);have h2:RcB (((w.alloc (.cells #[.slice none 0 0] 25)).alloc (.cells #[.int .i64 0,.int .i64 0] 77)).alloc (.cells #[.string s,.int .i64 0] 124)) ((w.alloc (.cells #[.slice none 0 0] 25)).alloc (.cells #[.int .i64 0,.int .i64 0] 77)).heap.size s 0:=World.alloc_heap_new _ _;rw [World.size_alloc,World.size_alloc] at h2;rw [World.size_alloc] at h1;replace h0:=(h0.alloc (.cells #[.int .i64 0,.int .i64 0] 77)).alloc (.cells #[.string s,.int .i64 0] 124);replace h1:=h1.alloc (.cells #[.string s,.int .i64 0] 124);have hb:Below w.heap.size w (((w.alloc (.cells #[.slice none 0 0] 25)).alloc (.cells #[.int .i64 0,.int .i64 0] 77)).alloc (.cells #[.string s,.int .i64 0] 124)):=(((Below.refl _ w).alloc (Nat.le_refl _) _).alloc (by rw [World.size_alloc];omega) _).alloc (by rw [World.size_alloc,World.size_alloc];omega) _;have hz:(((w.alloc (.cells #[.slice none 0 0] 25)).alloc (.cells #[.int .i64 0,.int .i64 0] 77)).alloc (.cells #[.string s,.int .i64 0] 124)).heap.size=w.heap.size+1+1+1:=by rw [World.size_alloc,World.size_alloc,World.size_alloc]
 obtain ⟨V,hV⟩:∃ V,((w.alloc (.cells #[.slice none 0 0] 25)).alloc (.cells #[.int .i64 0,.int .i64 0] 77)).alloc (.cells #[.string s,.int .i64 0] 124)=V:=⟨_,rfl⟩;rw [hV] at h0 h1 h2 hb hz;rw [hV];have H0:=Ja h0;have H1:=Ja h1;have HB:=Ja hb;have HC:=Ja (HP.out _ _ h2);clear h0 h1 h2 hb hV HP hz;go_wp2_with (go_at_call 90;refine HC.out.mono ?_;rintro e w1 ⟨hg1,rfl⟩;have HG:=Ja hg1;clear hg1)
 have hp1:Boxed w1 w.heap.size 25 (.slice none 0 0):=H0.out.kept HG.out (fun e=>by have:=Option.some.inj e;omega);have hq1:Jg w1 (w.heap.size+1) 77 (.int .i64 0) (.int .i64 0):=(HG.out.block _ H1.out.lt (fun e=>by have:=Option.some.inj e;omega)).trans H1.out;have hB1:Below w.heap.size w w1:=HB.out.grown HG.out HB.out.size (fun k e=>by have:=Option.some.inj e;omega);refine leaves_cons (f:=89) (args:=#[.pointer (some ⟨w.heap.size,0,none⟩),.pointer (some ⟨w.heap.size+1,0,none⟩)]) (by simp) (by simp [go_sem]) ?_;refine (Ji8 w.heap.size (w.heap.size+1) e0 q0 _ hp1 hq1 (by omega)).mono ?_;rintro e u' w2 ⟨rfl,rfl,h3,h4,h5⟩;have h6:=h5 _ _ hB1 hB1.size (Nat.le_refl _) (by omega);have x0:=h3.cell;have y0:=h4.c0;have y1:=h4.c1;simp [Leaves,settle,results,Tryz.results44,go_sem,x0,y0,y1];exact h6
theorem Jm8 {W W':World} {F:Nat} {cs:Array Value} {t:TypeId} {m:Nat × Nat} (hF:W.heap[F]?=some (.cells cs t m)) (ht:t=77) (hg:W.grownBy W' (some F)):∀ k v ds,Row k W v ds→Row k W' v ds:=by
 intro k v ds hr;obtain ⟨a,cap,e,_⟩:=id hr;subst e;refine hr.grown hg (fun p ep hl=>?_);obtain ⟨b,off,ea,cs',m',hb⟩:=hr.typ hl;rw [ea] at ep;cases ep;intro e;subst e;have:=hb.symm.trans hF;simp only [Option.some.injEq,Obj.cells.injEq] at this;subst ht;have h2:=this.2.1;revert h2;cases k <;> (show ¬ (_=_);decide)
theorem Jfh {W W':World} {F:Nat} {cs:Array Value} {t:TypeId} {m:Nat × Nat} (hF:W.heap[F]?=some (.cells cs t m)) (ht:t=77) (hg:W.grownBy W' (some F)) {r:Bool} {v:Value} {qs:List Rat} (h:RowK r W v qs):RowK r W' v qs:=by
 obtain ⟨a,cap,e,h1,h2,h3,h4⟩:=h;refine ⟨a,cap,e,h1,h2,h3,?_⟩;rcases h4 with h4 | ⟨b,ea,h5⟩
 · exact Or.inl h4
 · refine Or.inr ⟨b,ea,h5.keep (hg.block b h5.lt (fun e=>?_)) (Jm8 hF ht hg)⟩;obtain ⟨cs',g1,_⟩:=h5;have e:=Option.some.inj e;subst e;have:=g1.symm.trans hF;simp only [Option.some.injEq,Obj.cells.injEq] at this;subst ht;have h2:=this.2.1;revert h2;cases r <;> (show ¬ (_=_);decide)
theorem Jpp (s:ByteArray) (ps:List Rat) (w:World) (hP:∀ V R,RcB V R s 0→Calls Tryz.prog 90 #[.pointer (some ⟨R,0,none⟩)] V fun r w'=>V.grownBy w' (some R)∧∃ u,r=.returned u∧Ya w' u ps) :
 Calls Tryz.prog 44 #[.string s] w fun r w'=>∃ u,r=.returned (.tuple #[u,.agg #[.int .i64 0,.int .i64 0]])∧Ya w' u ps∧Below w.heap.size w w':=by
 have hmf:∀ (fn:Fn) (first cap:Array Value) (w:World),(Instr.makeFunc fn first cap).run Tryz.prog w=.ok (.func fn first cap) w:=fun _ _ _ _=>rfl;have HP:=Ja hP;clear hP;go_enter_defers Tryz.func44,Tryz.ntmps44
 go_upto_region 3 with fail
 have h0:=Boxed.new w 25 (.slice none 0 0);have h1:=Jg.new (w.alloc (.cells #[.slice none 0 0] 25)) 77 (.int .i64 0) (.int .i64 0);have h2:RcB (((w.alloc (.cells #[.slice none 0 0] 25)).alloc (.cells #[.int .i64 0,.int .i64 0] 77)).alloc (.cells #[.string s,.int .i64 0] 124)) ((w.alloc (.cells #[.slice none 0 0] 25)).alloc (.cells #[.int .i64 0,.int .i64 0] 77)).heap.size s 0:=World.alloc_heap_new _ _;rw [World.size_alloc,World.size_alloc] at h2;rw [World.size_alloc] at h1;replace h0:=(h0.alloc (.cells #[.int .i64 0,.int .i64 0] 77)).alloc (.cells #[.string s,.int .i64 0] 124);replace h1:=h1.alloc (.cells #[.string s,.int .i64 0] 124);have hb:Below w.heap.size w (((w.alloc (.cells #[.slice none 0 0] 25)).alloc (.cells #[.int .i64 0,.int .i64 0] 77)).alloc (.cells #[.string s,.int .i64 0] 124)):=(((Below.refl _ w).alloc (Nat.le_refl _) _).alloc (by rw [World.size_alloc];omega) _).alloc (by rw [World.size_alloc,World.size_alloc];omega) _;have hz:(((w.alloc (.cells #[.slice none 0 0] 25)).alloc (.cells #[.int .i64 0,.int .i64 0] 77)).alloc (.cells #[.string s,.int .i64 0] 124)).heap.size=w.heap.size+1+1+1:=by rw [World.size_alloc,World.size_alloc,World.size_alloc]
 obtain ⟨V,hV⟩:∃ V,((w.alloc (.cells #[.slice none 0 0] 25)).alloc (.cells #[.int .i64 0,.int .i64 0] 77)).alloc (.cells #[.string s,.int .i64 0] 124)=V:=⟨_,rfl⟩;rw [hV] at h0 h1 h2 hb hz;rw [hV];have H0:=Ja h0;have H1:=Ja h1;have HB:=Ja hb;have HC:=Ja (HP.out _ _ h2);clear h0 h1 h2 hb hV HP hz;go_wp2_with (go_at_call 90;refine HC.out.mono ?_;rintro e w1 ⟨hg1,u1,rfl,hu1⟩;have HG:=Ja hg1;obtain ⟨a9,l9,c9,rfl⟩:=hu1.form;have HU:=Ja hu1.row;have hp1:Boxed w1 w.heap.size 25 (.slice none 0 0):=H0.out.kept HG.out (fun e=>by have:=Option.some.inj e;omega);have hq1:Jg w1 (w.heap.size+1) 77 (.int .i64 0) (.int .i64 0):=(HG.out.block _ H1.out.lt (fun e=>by have:=Option.some.inj e;omega)).trans H1.out;have x0:=hp1.cell;have x1:=hp1.frozen;have y0:=hq1.c0;have y1:=hq1.c1;have z0:=hq1.f0;have z1:=hq1.f1;have H2:=Ja hp1;have H3:=Ja hq1;clear hg1 hu1 hp1 hq1)
 have hne:w.heap.size+1≠w.heap.size:=by omega
 have hB1:Below w.heap.size w w1:=HB.out.grown HG.out HB.out.size (fun k e=>by have:=Option.some.inj e;omega);have a1:=H2.out.set (.slice a9 l9 c9);have a2:=Jj8 H2.out (.slice a9 l9 c9) HU.out;have a3:=H3.out.far (p:=⟨w.heap.size,0,none⟩) hne (.slice a9 l9 c9);have a4:=hB1.setCell (p:=⟨w.heap.size,0,none⟩) (Nat.le_refl _) (.slice a9 l9 c9);generalize w1.setCell ⟨w.heap.size,0,none⟩ (.slice a9 l9 c9)=W2 at a1 a2 a3 a4 ⊢;have b1:=(Below.heap_setCell W2 ⟨w.heap.size+1,0,none⟩ (.int .i64 0) w.heap.size (fun e=>hne e.symm)).trans a1;have b2:=Jfh a3 rfl (JF W2 (w.heap.size+1) 0 (.int .i64 0)) a2;have b3:=a3.set0 (.int .i64 0);have b4:=a4.setCell (p:=⟨w.heap.size+1,0,none⟩) (by show _≤w.heap.size+1;omega) (.int .i64 0);generalize W2.setCell ⟨w.heap.size+1,0,none⟩ (.int .i64 0)=W3 at b1 b2 b3 b4 ⊢;have d1:=(Below.heap_setCell W3 ⟨w.heap.size+1,1,none⟩ (.int .i64 0) w.heap.size (fun e=>hne e.symm)).trans b1;have d2:=Jfh b3 rfl (JF W3 (w.heap.size+1) 1 (.int .i64 0)) b2;have d3:=b3.set1 (.int .i64 0);have d4:=b4.setCell (p:=⟨w.heap.size+1,1,none⟩) (by show _≤w.heap.size+1;omega) (.int .i64 0);generalize W3.setCell ⟨w.heap.size+1,1,none⟩ (.int .i64 0)=W4 at d1 d2 d3 d4 ⊢;refine leaves_cons (f:=89) (args:=#[.pointer (some ⟨w.heap.size,0,none⟩),.pointer (some ⟨w.heap.size+1,0,none⟩)]) (by simp) (by simp [go_sem]) ?_;refine (Jkm ⟨w.heap.size,0,none⟩ ⟨w.heap.size+1,0,none⟩ _).mono ?_;rintro e u' w2 ⟨rfl,rfl,rfl⟩;have e1:Boxed W4 w.heap.size 25 (.slice a9 l9 c9):=d1;have f1:=(e1.alloc (.cells #[.int .i64 0,.int .i64 0] 77)).cell;have f2:=(d3.alloc (.cells #[.int .i64 0,.int .i64 0] 77)).c0;have f3:=(d3.alloc (.cells #[.int .i64 0,.int .i64 0] 77)).c1;have f4:=d4.alloc d4.size (.cells #[.int .i64 0,.int .i64 0] 77);have f5:=d2.below ((Below.refl _ W4).alloc (Nat.le_refl _) (.cells #[.int .i64 0,.int .i64 0] 77));generalize W4.alloc (.cells #[.int .i64 0,.int .i64 0] 77)=W5 at f1 f2 f3 f4 f5 ⊢;simp [Leaves,settle,results,Tryz.results44,go_sem,f1,f2,f3];exact ⟨⟨_,rfl,f5⟩,f4⟩
end Go.Proofs.YtcahejkcdcjjgaaGreatDoor
namespace Go.Proofs.YtcahejkcdcjjgaaGreatDoor
open Go.RowKit Go.Shelf
attribute [local go_sem] Oper.semAt_some
def Jm9 (l:List UInt8) (w':World) (u:Value) (e p:Int):Prop:=e=((YO l).2.1:Int)∧p=((YO l).2.2:Int)∧Ya w' u (YO l).1
theorem Jre (s:ByteArray) (hs:s.size≤300) (w:World) :
 Calls Tryz.prog 44 #[.string s] w fun r w'=>∃ u e p,r=.returned (.tuple #[u,.agg #[.int .i64 e,.int .i64 p]])∧Jm9 (Je s) w' u e p∧Below w.heap.size w w':=by
 have HP:=Jm5 (l:=Je s) (by rw [Jm];omega);cases ht:Jaq (Je s) with
 | bad e0 q0=>
  rw [ht] at HP;refine (Jm7 s e0 q0 w (fun V R hR=>(Jlm R s V hR hs).mono (fun r w' h=>⟨h.1,h.2.1 _ _ ht⟩))).mono ?_;rintro r w' ⟨rfl,hb⟩;refine ⟨_,_,_,rfl,?_,hb⟩;rw [Jm9,HP];exact ⟨rfl,rfl,_,rfl,RowK.nil _ _⟩
 | ok S k=>
  rw [ht] at HP;refine (Jpp s (JG S) w (fun V R hR=>(Jlm R s V hR hs).mono (fun r w' h=>⟨h.1,by obtain ⟨u,h1,h2,_⟩:=h.2.2 _ _ ht;exact ⟨u,h1,h2⟩⟩))).mono ?_;rintro r w' ⟨u,rfl,hu,hb⟩;refine ⟨_,_,_,rfl,?_,hb⟩;rw [Jm9,HP];exact ⟨rfl,rfl,hu⟩
theorem Jpq (s:ByteArray) (w:World) :
 Calls Tryz.prog 9 #[.string s] w fun r w'=>∃ u e p,r=.returned (.tuple #[u,.int .i64 e,.int .i64 p])∧Jm9 (Je s) w' u e p∧Below w.heap.size w w':=by
 by_cases hlong:300<s.size
 · have hlong':(300:Int)<(s.size:Int):=by omega
   have HP:=Ja (show YO (Je s)=([],1,0) by unfold YO;rw [if_pos (by rw [Jm];exact hlong)]);clear hlong;go_enter Tryz.func9,Tryz.ntmps9
   go_wp2;exact bodyPost_ret (v:=.tuple #[.agg #[.slice none 0 0],.int .i64 1,.int .i64 0]) (by simp [results,Tryz.results9,go_sem]) rfl ⟨_,_,_,rfl,by rw [Jm9,HP.out];exact ⟨rfl,rfl,_,rfl,RowK.nil _ _⟩,(Below.refl _ w).alloc (Nat.le_refl _) _⟩
 · have hlong':¬ (300:Int)<(s.size:Int):=by omega
   have HR:=Ja (fun (V:World)=>Jre s (by omega) V);clear hlong;go_enter Tryz.func9,Tryz.ntmps9
   go_upto_region 4 with (go_at_call 44;refine (HR.out _).mono ?_;clear HR;rintro e w1 ⟨u1,e1,p1,rfl,hu1,hb1⟩;obtain ⟨a9,l9,c9,rfl⟩:=hu1.2.2.form;have HU:=Ja hu1;have HB:=Ja hb1;clear hu1 hb1)
   have hw0:w.heap.size<w1.heap.size:=by have:=HB.out.size;rw [World.size_alloc] at this;omega
   have q0:Boxed w1 w.heap.size 25 (.slice none 0 0):=(HB.out.block _ (by rw [World.size_alloc];omega)).trans (Boxed.new w 25 (.slice none 0 0));have hb0:Below w.heap.size w w1:=((Below.refl _ w).alloc (Nat.le_refl _) _).trans (HB.out.mono (by rw [World.size_alloc];omega));have h0:=Boxed.new w1 25 (.slice a9 l9 c9);have h1:=Jg.new (w1.alloc (.cells #[.slice a9 l9 c9] 25)) 77 (.int .i64 e1) (.int .i64 p1);rw [World.size_alloc] at h1;replace h0:=h0.alloc (.cells #[.int .i64 e1,.int .i64 p1] 77);have hA:Below w1.heap.size w1 ((w1.alloc (.cells #[.slice a9 l9 c9] 25)).alloc (.cells #[.int .i64 e1,.int .i64 p1] 77)):=((Below.refl _ w1).alloc (Nat.le_refl _) _).alloc (by rw [World.size_alloc];omega) _;have q1:=(hA.block _ q0.lt).trans q0;have hb1:=hb0.trans (hA.mono hb0.size);have hu1:=HU.out.2.2.row.below hA;have HUE:=Ja (⟨HU.out.1,HU.out.2.1⟩:e1=_∧p1=_);have hne1:w.heap.size≠w1.heap.size:=by omega
   have hne2:w.heap.size≠w1.heap.size+1:=by omega
   generalize (w1.alloc (.cells #[.slice a9 l9 c9] 25)).alloc (.cells #[.int .i64 e1,.int .i64 p1] 77)=W2 at h0 h1 hA q1 hb1 hu1 ⊢;clear hA q0 hb0 HB HU hw0;obtain ⟨Q,hQ⟩:∃ Q,w.heap.size=Q:=⟨_,rfl⟩;obtain ⟨B,hB⟩:∃ B,w1.heap.size=B:=⟨_,rfl⟩;rw [hB] at h0 h1 hne1 hne2;rw [hQ] at q1 hne1 hne2;rw [hB,hQ];have q2:Boxed W2 Q 25 (.slice none 0 0):=q1;have x0:=h0.cell;have y0:=h1.c0;have y1:=h1.c1;have z0:=q2.cell;have z1:=q2.frozen;have HQ2:=Ja q2;have HQQ:=Ja hQ;have HB1:=Ja hb1;have HU1:=Ja hu1;clear h0 h1 q1 q2 hQ hB hb1 hu1;go_region
   go_wp2_with fail
   have r0:=z0;refine bodyPost_ret (v:=.tuple #[.agg #[.slice a9 l9 c9],.int .i64 e1,.int .i64 p1]) (by simp [results,Tryz.results9,go_sem,r0]) rfl ⟨_,_,_,rfl,⟨HUE.out.1,HUE.out.2,_,rfl,?_⟩,?_⟩
   · exact (Jj8 HQ2.out (.slice a9 l9 c9) HU1.out).below ((Below.refl _ _).drew)
   · exact (HB1.out.setCell (p:=⟨Q,0,none⟩) (by rw [HQQ.out];exact Nat.le_refl _) _).drew
end Go.Proofs.YtcahejkcdcjjgaaGreatDoor
namespace Go.Proofs.YtcahejkcdcjjgaaGreatDoor
open Go.RowKit Go.Shelf
theorem Jna {k:Nat} {q:Rat} (h:SmQ k q):(JM q).length≤40*k+5:=by
 have h1:=XJ q.num;have h2:=XJ (q.den:Int);have h3:=h.1.words;have h4:=h.2.words;unfold JM;split
 · omega
 · rw [List.length_append,List.length_cons];omega
theorem SmQ.abs {k:Nat} {q:Rat} (h:SmQ k q):SmQ k (YJ q):=by
 have:=Jbe q;unfold SmQ Sm at h ⊢;rw [this.1,this.2];exact ⟨by have:=h.1;omega,h.2⟩
theorem Jnb {k:Nat} {c:Rat} (h:SmQ k c) {i:Nat} (hi:i<B64) (f:Bool):(Y7 c i f).length≤40*k+40:=by
 have h1:=Jna h.abs;have h2:=XH i;have h3:(Jb B64 i).length≤1:=JA Jd (by rw [Nat.pow_one];exact hi);have h4:(Xc c f).length≤1:=by
  unfold Xc;split
  · simp
  · split <;> simp
 have h5:(Yo c i).length≤40*k+5:=by
  unfold Yo;split
  · simp
  · exact h1
 have h6:(XA i).length≤23:=by
  unfold XA;split
  · simp
  · split
    · simp
    · rw [List.length_cons,List.length_cons];omega
 unfold Y7;rw [List.length_append,List.length_append];omega
theorem Jnc {k:Nat} {ps:List Rat} (h:∀ i,SmQ k (cf ps i)) (hl:ps.length≤B64):∀ (d m:Nat),ps.length - m=d→(JP (ps.drop m) m).length≤d*(40*k+40):=by
 intro d;induction d with
 | zero=>
  intro m hm;rw [List.drop_of_length_le (by omega)];simp [JP]
 | succ d ih=>
  intro m hm;have ih:=ih (m+1) (by omega);rw [Xi ps (by omega:m<ps.length)];have h1:=Jnb (h m) (by omega:m<B64) (JP (ps.drop (m+1)) (m+1)).isEmpty;rw [Nat.add_mul];split
  · omega
  · rw [List.length_append];omega
theorem Ji9 {ps:List Rat} (h:Sqs ps) (hl:ps.length≤3000000) (m:Nat):(JP (ps.drop m) m).length≤140737488355328:=by
 have h1:=Jnc (fun i=>(h.at i).sm) (by unfold B64;omega) _ m rfl;refine Nat.le_trans h1 (Nat.le_trans (Nat.mul_le_mul_right _ (Nat.sub_le _ _)) (Nat.le_trans (Nat.mul_le_mul_right _ hl) ?_));decide
theorem Jja (z:List Rat) (i:Nat) (a:Rat) (q:List Rat):∀ (j k:Nat),i+j≤k→cf (Xa z i a q j) k=cf z k:=by
 intro j;induction j with
 | zero=>intro k _;rfl
 | succ j ih=>
  intro k hk;rw [Xa];by_cases h:i+j<z.length
  · rw [Jb2 _ _ _ _ (by rw [Yp];exact h),if_neg (by omega),ih k (by omega)]
  · rw [List.set_eq_of_length_le (by rw [Yp];omega),ih k (by omega)]
theorem Jdr (z:List Rat) (i:Nat) (a:Rat) (q:List Rat):∀ (j k:Nat),cf (Xa z i a q j) k=cf z k∨cf (Xa z i a q j) k=cf z k+a*cf q (k - i):=by
 intro j;induction j with
 | zero=>intro k;exact Or.inl rfl
 | succ j ih=>
  intro k;rw [Xa];by_cases h:i+j<z.length
  · rw [Jb2 _ _ _ _ (by rw [Yp];exact h)];by_cases e:k=i+j
    · subst e;rw [if_pos rfl,Jja z i a q j (i+j) (Nat.le_refl _)];exact Or.inr (by rw [Nat.add_sub_cancel_left])
    · rw [if_neg e];exact ih k
  · rw [List.set_eq_of_length_le (by rw [Yp];omega)];exact ih k
theorem Jjb {A:Nat} {ps qs:List Rat} (hp:∀ i,SmQ A (cf ps i)) (hq:∀ j,SmQ A (cf qs j)) (n:Nat):∀ (i k:Nat),SmQ (min i ps.length*(A+A+1)+1) (cf (Xb ps qs n i) k):=by
 intro i;induction i with
 | zero=>intro k;rw [Xb,YY];exact SmQ.zero _ (by omega)
 | succ i ih=>
  intro k;rw [Xb];rcases Jdr (Xb ps qs n i) i (cf ps i) qs qs.length k with e | e
  · rw [e];exact (ih k).mono (by have:min i ps.length*(A+A+1)≤min (i+1) ps.length*(A+A+1):=Nat.mul_le_mul_right _ (by omega);omega)
  · rw [e];by_cases hi:i<ps.length
    · rw [show min (i+1) ps.length=min i ps.length+1 from by omega,Nat.add_mul];exact ((ih k).add2 ((hp i).mul (hq (k - i)))).mono (by omega)
    · rw [Jea (p:=ps) (by omega),Rat.zero_mul,Rat.add_zero,show min (i+1) ps.length=min i ps.length from by omega];exact ih k
theorem Jkn {A:Nat} {ps qs:List Rat} (hp:∀ i,SmQ A (cf ps i)) (hq:∀ j,SmQ A (cf qs j)) (hL:(ps.length+1)*(A+A+1)+1≤1000000):M3.Jhi ps qs:=by
 have hle:A+A+1≤(ps.length+1)*(A+A+1):=Nat.le_mul_of_pos_left _ (by omega);refine ⟨fun i j=>Sq.of ((hp i).mul (hq j)) (by omega),fun n i j k=>?_⟩;have h1:=Jjb hp hq n i k;have h2:min i ps.length*(A+A+1)≤ps.length*(A+A+1):=Nat.mul_le_mul_right _ (by omega);rw [Nat.add_mul] at hL;rcases Jdr (Xb ps qs n i) i (cf ps i) qs j k with e | e
 · rw [e];exact Sq.of h1 (by omega)
 · rw [e];exact Sq.of (h1.add2 ((hp i).mul (hq (k - i)))) (by omega)
theorem Jrf {A:Nat} {ps qs:List Rat} (hp:∀ i,SmQ A (cf ps i)) (hq:∀ j,SmQ A (cf qs j)) (k:Nat):SmQ (ps.length*(A+A+1)+1) (cf (Jnh ps qs) k):=by
 unfold Jnh;rw [Jdv,Jkr];have h:=Jjb hp hq (ps.length+qs.length) ps.length k;rwa [Jho _ _ _ _ _ (Or.inr (by omega)),Nat.min_self] at h
def Xy:List Rat:=[Rat.divInt 1 2,1]
def Jcc:List Rat:=[Rat.divInt 1 4,1,1]
theorem Jjc:YO [120,32,43,32,49,47,50]=(Xy,0,0):=by decide +kernel
theorem Jds:Jnh Xy Xy=Jcc:=by decide +kernel
end Go.Proofs.YtcahejkcdcjjgaaGreatDoor
namespace Go.Proofs.YtcahejkcdcjjgaaGreatDoor
open Go.RowKit Go.Shelf
attribute [local go_sem] Oper.semAt_some
theorem _root_.Go.Boxed.bel {W W':World} {B:Nat} {t:TypeId} {v:Value} (h:Boxed W B t v) (hb:Below W.heap.size W W'):Boxed W' B t v:=(hb.block B h.lt).trans h
theorem Jko:Jav Jcc=[120,94,50,43,120,43,49,47,52]:=by decide +kernel
theorem Jad (i:Nat):SmQ 1 (cf Xy i):=by
 rcases i with _ | _ | i
 · exact ⟨by show Sm 1 1;unfold Sm B64;decide,by show Sm 1 2;unfold Sm B64;decide⟩
 · exact ⟨by show Sm 1 1;unfold Sm B64;decide,by show Sm 1 1;unfold Sm B64;decide⟩
 · rw [Jea (by simp [Xy])];exact SmQ.zero 1 (by omega)
theorem Jfi:Sqs Xy:=Sqs.of fun i=>Sq.of (Jad i) (by omega)
theorem Jfj:Sqs Jcc:=Sqs.of fun i=>by rw [←Jds];exact Sq.of (Jrf Jad Jad i) (by simp [Xy])
theorem Jsd (e:Int) (w:World):Calls Tryz.prog 12 #[.int .i64 e] w fun r w'=>r=.returned (.int .i64 e)∧Below w.heap.size w w':=by
 go_enter Tryz.func12,Tryz.ntmps12
 go_wp2;go_ret;exact ⟨rfl,Below.refl _ _⟩
theorem Jpr (w:World) (htab:Je9 w):Calls Tryz.prog 19 #[] w fun r w'=>r=.returned (.bool true)∧Below w.heap.size w w':=by
 have HT:=Ja htab;have HC:=Ja (fun (V:World)=>show Calls Tryz.prog 9 #[.string ⟨#[120,32,43,32,49,47,50]⟩] V fun r w'=>∃ u,r=.returned (.tuple #[u,.int .i64 0,.int .i64 0])∧Ya w' u Xy∧Below V.heap.size V w' from
  (Jpq ⟨#[120,32,43,32,49,47,50]⟩ V).mono (fun r w' h=>by
   obtain ⟨u,e,p,h1,h2,h3⟩:=h;rw [Jm9,show Je ⟨#[120,32,43,32,49,47,50]⟩=[120,32,43,32,49,47,50] from rfl,Jjc] at h2;obtain ⟨rfl,rfl,h4⟩:=h2;exact ⟨u,h1,h4,h3⟩))
 have M:=Ja (Below.refl w.heap.size w);clear htab;go_enter Tryz.func19,Tryz.ntmps19
 go_upto_region 2 with (go_at_call 9;refine (HC.out _).mono ?_;clear HC;rintro e w1 ⟨u,rfl,hu,hb⟩;obtain ⟨a1,l1,c1,rfl⟩:=hu.form)
 replace M:=Ja (M.out.trans (hb.mono M.out.size));have hA:Below w1.heap.size w1 (w1.alloc (.cells #[.slice a1 l1 c1] 25)):=(Below.refl _ w1).alloc (Nat.le_refl _) _;have nP:=Boxed.new w1 25 (.slice a1 l1 c1);have rP:=hu.below hA;replace M:=Ja (M.out.trans (hA.mono M.out.size));clear hA;obtain ⟨VP,hV⟩:∃ V,w1.alloc (.cells #[.slice a1 l1 c1] 25)=V:=⟨_,rfl⟩;obtain ⟨BP,hB⟩:∃ B,w1.heap.size=B:=⟨_,rfl⟩;rw [hV] at rP M;rw [hV,hB] at nP;rw [hV];rw [hB];clear hV hB;clear hu hb;have H1:=Ja (fun (V:World) (h:Below VP.heap.size VP V)=>M3.Jo0 _ _ Xy Xy V (rP.below h) (rP.below h) Jfi Jfi (Jkn Jad Jad (by simp [Xy])) (by simp [Xy]));rw [Jds] at H1;have hq:Below VP.heap.size VP VP:=Below.refl _ _;have eP:=(nP.bel hq).cell;go_upto_region 3 with (go_at_call 28;refine (H1.out _ hq).mono ?_;clear H1;rintro e w2 ⟨u,rfl,hu,_,hb⟩;obtain ⟨a2,l2,c2,rfl⟩:=hu.form)
 replace hb:=Below.then hq hb
 clear hq eP;replace nP:=nP.bel hb;replace rP:=rP.below hb;replace M:=Ja (M.out.trans (hb.mono M.out.size));clear hb;have hA:Below w2.heap.size w2 (w2.alloc (.cells #[.slice a2 l2 c2] 25)):=(Below.refl _ w2).alloc (Nat.le_refl _) _;have nQ:=Boxed.new w2 25 (.slice a2 l2 c2);have rQ:=hu.below hA;replace nP:=nP.bel hA;replace rP:=rP.below hA;replace M:=Ja (M.out.trans (hA.mono M.out.size));clear hA;obtain ⟨VQ,hV⟩:∃ V,w2.alloc (.cells #[.slice a2 l2 c2] 25)=V:=⟨_,rfl⟩;obtain ⟨BQ,hB⟩:∃ B,w2.heap.size=B:=⟨_,rfl⟩;rw [hV] at nP rP rQ M;rw [hV,hB] at nQ;rw [hV];rw [hB];clear hV hB;clear hu;have H1:=Ja (fun (V:World) (h:Below VQ.heap.size VQ V)=>Jsd 0 V);have H2:=Ja (fun (V:World) (h:Below VQ.heap.size VQ V)=>Jlc _ Jcc V (rQ.below h) Jfj (fun m=>Ji9 Jfj (by simp [Jcc]) m) (JY HT.out (M.out.trans (h.mono M.out.size))));rw [Jko] at H2;have H3:=Ja (fun (V:World) (h:Below VQ.heap.size VQ V)=>Jgi _ Jcc V (rQ.below h));rw [show ((Jcc.length:Int) - 1)=2 from rfl] at H3;have hq:Below VQ.heap.size VQ VQ:=Below.refl _ _;have eQ:=(nQ.bel hq).cell;go_wp2_with (first
  | (go_at_call 12;refine (H1.out _ hq).mono ?_;clear H1;rintro e x1 ⟨rfl,hb⟩;replace hq:=Below.then hq hb;clear hb eQ;have eQ:=(nQ.bel hq).cell)
  | (go_at_call 13;refine (H2.out _ hq).mono ?_;clear H2;rintro e x2 ⟨rfl,hb⟩;replace hq:=Below.then hq hb;clear hb eQ;have eQ:=(nQ.bel hq).cell)
  | (go_at_call 15;refine (H3.out _ hq).mono ?_;clear H3;rintro e x3 ⟨rfl,hb⟩;replace hq:=Below.then hq hb;clear hb eQ;have eQ:=(nQ.bel hq).cell))
 go_ret;exact ⟨rfl,M.out.trans (hq.mono M.out.size)⟩
end Go.Proofs.YtcahejkcdcjjgaaGreatDoor
namespace Go.Proofs.YtcahejkcdcjjgaaGreatDoor
open Go.RowKit Go.Shelf
def Jrm (Z:List UInt8):Prop:=Z=[]∨∃ t,Z=43::t∨Z=45::t
theorem Jrm.head {Z:List UInt8} (h:Jrm Z) {c:UInt8} (hc:Z.head?=some c):isD c=false∧c≠47∧c≠32∧c≠120∧c≠94:=by
 rcases h with rfl | ⟨t,rfl | rfl⟩
 · cases hc
 · cases hc;decide
 · cases hc;decide
end Go.Proofs.YtcahejkcdcjjgaaGreatDoor
namespace Go.Proofs.YtcahejkcdcjjgaaGreatDoor
open Go.RowKit Go.Shelf
attribute [local go_sem] Oper.semAt_some
def Abv (V0 V:World):Prop:=Below V0.heap.size V0 V
theorem Abv.below {V0 V V':World} (h:Abv V0 V) (hb:Below V.heap.size V V'):Abv V0 V':=Below.then h hb
theorem Abv.drew (V:World):Abv V V.drew:=(Below.refl _ V).drew
end Go.Proofs.YtcahejkcdcjjgaaGreatDoor
namespace Go.Proofs.YtcahejkcdcjjgaaGreatDoor
open Go.RowKit Go.Shelf
theorem Jfk (r:Bool) (base:Nat) (W:World) (v:Value) (qs:List Rat) (h:YI r base W v qs) {x y z u:Value} {q:Rat} (hq:IsK r W (.agg #[x,y,z,u]) q) (hl:qs.length+1≤1099511627776) {v':Value} {w':World}
 (hap:(Builtin.append_ #[tsK r,tsK r] (tsK r) #[v,.slice (some ⟨W.heap.size,0,none⟩) 1 1]).run Tryz.prog (W.alloc (.cells #[x,y,z,u] (tyK r)))=.ok v' w') :
 ∀ B,B<W.heap.size→(∀ cs m,W.heap[B]?≠some (.cells cs (tyK r) m))→w'.heap[B]?=W.heap[B]?:=by
 obtain ⟨i,hi,hz,hsz,hby⟩:=Jis r;have ht:=Jgk r;have hal:Below W.heap.size W (W.alloc (.cells #[x,y,z,u] (tyK r))):=(Below.refl _ W).alloc (Nat.le_refl _) _;obtain ⟨W1,hW1⟩:∃ W1,W.alloc (.cells #[x,y,z,u] (tyK r))=W1:=⟨_,rfl⟩;have hnew:W1.heap[W.heap.size]?=some (.cells #[x,y,z,u] (tyK r) (0,0)):=by rw [←hW1];exact World.alloc_heap_new W _
 rw [hW1] at hal hap;have hnews:∀ j c,[x,y,z,u][j]?=some c→W1.cell? ((⟨W.heap.size,0,none⟩:Addr).add j)=some c:=fun j c hc=>by
  rw [Ys,Nat.zero_add];exact cell_of hnew (by simpa using hc)
 have hz1:(Value.agg (zK r)).cells=zK r:=rfl;have fin:∀ o B,B<W.heap.size→(W1.drew.alloc o).heap[B]?=W.heap[B]?:=fun o B hB=>by
  have hb2:Below W.heap.size W (W1.drew.alloc o):=(hal.drew).alloc (by exact hal.size) _;exact hb2.block B hB
 rcases h with ⟨rfl,rfl⟩ | ⟨g,cap,cur,rfl,h2,h3,h4,h5,h6,h7,h8⟩
 · have hr:=run_append_nil (P:=Tryz.prog) W1 (tsK r) (tsK r) (tyK r) i _ ht hi hz ⟨W.heap.size,0,none⟩ 1 1 [x,y,z,u] (by rw [hsz];rfl) hnews (by omega) (by omega) (by rw [hby];omega);rw [hz1] at hr;rw [hr] at hap;cases hap;intro B hB _;exact fin _ B hB
 · have h3':W1.heap[g]?=some (.cells cur (tyK r) (0,0)):=(hal.block g (Array.getElem?_eq_some_iff.1 h3).1).trans h3;have hlc:(cur.toList.take (qs.length*4)).length=qs.length*4:=by rw [List.length_take];have h0:cur.toList.length=cur.size:=Array.length_toList;omega
   by_cases hroom:qs.length+1≤cap
   · have hr:=run_append_room (P:=Tryz.prog) W1 (tsK r) (tsK r) (tyK r) i ht hi g qs.length cap cur h3' ⟨W.heap.size,0,none⟩ 1 1 [x,y,z,u] (by rw [hsz];rfl) hnews hq.one hroom (by rw [hsz];simp;omega);rw [hr] at hap;cases hap;intro B hB hn;have hne:B≠g:=fun e=>hn cur (0,0) (by rw [e];exact h3);exact (setRow_other W1 g B _ hne).trans (hal.block B hB)
   · have holds:∀ j c,(cur.toList.take (qs.length*4))[j]?=some c→W1.cell? ((⟨g,0,none⟩:Addr).add j)=some c:=fun j c hc=>by
      rw [Ys,Nat.zero_add];rw [List.getElem?_take] at hc;split at hc
      · rw [Array.getElem?_toList] at hc;exact cell_of h3' hc
      · cases hc
     have hr:=run_append_grow (P:=Tryz.prog) W1 (tsK r) (tsK r) (tyK r) i _ ht hi hz ⟨g,0,none⟩ qs.length cap (cur.toList.take (qs.length*4)) (by rw [hsz];exact hlc) holds ⟨W.heap.size,0,none⟩ 1 1 [x,y,z,u] (by rw [hsz];rfl) hnews (by omega) (by omega) (by rw [hby];exact growslice_fits (by omega) (by omega));rw [hz1] at hr;rw [hr] at hap;cases hap;intro B hB _;exact fin _ B hB
theorem YI.other {r r2:Bool} {base:Nat} {W W':World} {v:Value} {qs:List Rat} (h:YI r2 base W v qs) (hne:tyK r2≠tyK r) (hf:∀ B,B<W.heap.size→(∀ cs m,W.heap[B]?≠some (.cells cs (tyK r) m))→W'.heap[B]?=W.heap[B]?) (hk:∀ k v ds,Row k W v ds→Row k W' v ds):YI r2 base W' v qs:=by
 rcases h with h | ⟨g,cap,cur,h1,h2,h3,h4,h5,h6,h7,h8⟩
 · exact Or.inl h
 · refine Or.inr ⟨g,cap,cur,h1,h2,(hf g (Array.getElem?_eq_some_iff.1 h3).1 fun cs m e=>?_).trans h3,h4,h5,h6,h7,h8.keep hk⟩;rw [h3] at e;simp only [Option.some.injEq,Obj.cells.injEq] at e;exact hne e.2.1
theorem Jkp (base:Nat) (W:World) (v u:Value) (qs:List Rat) (h:YI true base W v qs) (h2:YI false base W u qs) {x y z t:Value} {q:Rat} (hq:Ji W (.agg #[x,y,z,t]) q) (hl:qs.length+1≤1099511627776) (hbase:base≤W.heap.size) :
 ∃ v' w',(Builtin.append_ #[22,22] 22 #[v,.slice (some ⟨W.heap.size,0,none⟩) 1 1]).run Tryz.prog (W.alloc (.cells #[x,y,z,t] 38))=.ok v' w'∧YI true base w' v' (qs++[q])∧YI false base w' u qs∧(∀ n w0,n≤base→Below n w0 W→Below n w0 w'):=by
 obtain ⟨v',w',e,h3,h4,h5⟩:=Je7 true base W v qs h hq hl hbase;exact ⟨v',w',e,h3,h2.other (r:=true) (by decide) (Jfk true base W v qs h hq hl e) h4,h5⟩
theorem Jjd (base:Nat) (W:World) (v u:Value) (qs ps:List Rat) (h:YI true base W v ps) (h2:YI false base W u qs) {x y z t:Value} {q:Rat} (hq:JB W (.agg #[x,y,z,t]) q) (hl:qs.length+1≤1099511627776) (hbase:base≤W.heap.size) :
 ∃ v' w',(Builtin.append_ #[30,30] 30 #[u,.slice (some ⟨W.heap.size,0,none⟩) 1 1]).run Tryz.prog (W.alloc (.cells #[x,y,z,t] 49))=.ok v' w'∧YI false base w' v' (qs++[q])∧YI true base w' v ps∧(∀ n w0,n≤base→Below n w0 W→Below n w0 w'):=by
 obtain ⟨v',w',e,h3,h4,h5⟩:=Je7 false base W u qs h2 hq hl hbase;exact ⟨v',w',e,h3,h.other (r:=false) (by decide) (Jfk false base W u qs h2 hq hl e) h4,h5⟩
theorem YI.els {r:Bool} {base:Nat} {W:World} {a:Option Addr} {n c:Nat} {qs:List Rat} (h:YI r base W (.slice a n c) qs) (hn:0<qs.length):∃ g,a=some ⟨g,0,none⟩∧base≤g∧Els r W g qs:=by
 rcases h with ⟨_,rfl⟩ | ⟨g,cap,cur,e,h2,h3,h4,h5,h6,h7,h8⟩
 · simp at hn
 · refine ⟨g,by cases e;rfl,h2,cur,h3,fun j hj=>?_⟩;obtain ⟨x,y,z,u,e0,e1,e2,e3,h9⟩:=h8.2 j hj;rw [List.getElem?_take_of_lt (by omega),Array.getElem?_toList] at e0 e1 e2 e3;exact ⟨x,y,z,u,e0,e1,e2,e3,h9⟩
structure OfS (w:World) (n:Nat) (fs:List Rat) (oa ma:Option Addr) (BP:Nat) (ap:Option Addr) (lp cp:Nat) (qv:Value) (k:Nat) (W:World):Prop where
 bel:Below w.heap.size w W
 le:w.heap.size≤BP
 box:Boxed W BP 25 (.slice ap lp cp)
 pol:RowK true W (.slice ap lp cp) (JG fs)
 quo:RowK false W qv (JG fs)
 inn:0<n→∃ g,oa=some ⟨g,0,none⟩∧w.heap.size≤g∧(∀ p,ap=some p→p.block≠g)∧∃ qs,qs.length=n∧(∀ j,k≤j→cf qs j=cf fs j)∧Els true W g qs
 mro:0<n→∃ g,ma=some ⟨g,0,none⟩∧Els false W g fs
section
variable {w:World} {n:Nat} {fs:List Rat} {oa ma:Option Addr} {BP:Nat} {ap:Option Addr} {lp cp:Nat} {qv:Value} {k:Nat} {W W':World}
theorem OfS.below (h:OfS w n fs oa ma BP ap lp cp qv k W) (hb:Below W.heap.size W W'):OfS w n fs oa ma BP ap lp cp qv k W':=by
 refine ⟨h.bel.trans (hb.mono h.bel.size),h.le,h.box.bel hb,h.pol.below hb,h.quo.below hb,fun h0=>?_,fun h0=>?_⟩
 · obtain ⟨g,e,h1,h2,qs,h3,h4,h5⟩:=h.inn h0;exact ⟨g,e,h1,h2,qs,h3,h4,h5.below hb⟩
 · obtain ⟨g,e,h1⟩:=h.mro h0;exact ⟨g,e,h1.below hb⟩
theorem OfS.drew (h:OfS w n fs oa ma BP ap lp cp qv k W):OfS w n fs oa ma BP ap lp cp qv k W.drew:=h.below (Below.refl _ W).drew
theorem OfS.elem (h:OfS w n fs oa ma BP ap lp cp qv k W) {g:Nat} (hg:oa=some ⟨g,0,none⟩) (hk:k<n) :
 ∃ s a l c t b kk d,W.cell? ⟨g,k*4,none⟩=some (.bool s)∧W.cell? ⟨g,k*4+1,none⟩=some (.slice a l c)∧W.cell? ⟨g,k*4+2,none⟩=some (.bool t)∧W.cell? ⟨g,k*4+3,none⟩=some (.slice b kk d)∧Ji W (.agg #[.bool s,.slice a l c,.bool t,.slice b kk d]) (cf fs k):=by
 obtain ⟨g',e,h1,h2,qs,h3,h4,h5⟩:=h.inn (by omega);rw [hg] at e;cases e;obtain ⟨x,y,z,u,c0,c1,c2,c3,h6⟩:=h5.at (j:=k) (by omega);rw [h4 k (Nat.le_refl _)] at h6;obtain ⟨s,a,l,c,t,b,kk,d,e,_⟩:=(show Ji W _ _ from h6);cases e;exact ⟨s,a,l,c,t,b,kk,d,c0,c1,c2,c3,h6⟩
theorem OfS.melem (h:OfS w n fs oa ma BP ap lp cp qv k W) {g:Nat} (hg:ma=some ⟨g,0,none⟩) {j:Nat} (hj:j<fs.length) (h0:0<n) :
 ∃ a l c s b kk d t,W.cell? ⟨g,j*4,none⟩=some (.slice a l c)∧W.cell? ⟨g,j*4+1,none⟩=some (.bool s)∧W.cell? ⟨g,j*4+2,none⟩=some (.slice b kk d)∧W.cell? ⟨g,j*4+3,none⟩=some (.bool t)∧JB W (.agg #[.slice a l c,.bool s,.slice b kk d,.bool t]) (cf fs j):=by
 obtain ⟨g',e,h5⟩:=h.mro h0;rw [hg] at e;cases e;obtain ⟨x,y,z,u,c0,c1,c2,c3,h6⟩:=h5.at hj;obtain ⟨a,l,c,s,b,kk,d,t,e,_⟩:=(show JB W _ _ from h6);cases e;exact ⟨a,l,c,s,b,kk,d,t,c0,c1,c2,c3,h6⟩
theorem OfS.frozen (h:OfS w n fs oa ma BP ap lp cp qv k W) {g:Nat} (hg:oa=some ⟨g,0,none⟩) (h0:0<n) (o:Nat):W.frozen? ⟨g,o,none⟩=false:=by
 obtain ⟨g',e,h1,h2,qs,h3,h4,h5⟩:=h.inn h0;rw [hg] at e;cases e;exact h5.frozen o
theorem RowK.keepRow {r:Bool} {W W':World} {a:Option Addr} {l c:Nat} {qs:List Rat} (h:RowK r W (.slice a l c) qs) (hb:∀ b,a=some ⟨b,0,none⟩→(∃ cs,W.heap[b]?=some (.cells cs (tyK r) (0,0)))→W'.heap[b]?=W.heap[b]?) (hk:∀ k v ds,Row k W v ds→Row k W' v ds):RowK r W' (.slice a l c) qs:=by
 obtain ⟨a',cap,e,h1,h2,h3,h4⟩:=h;cases e;refine ⟨a,c,rfl,h1,h2,h3,?_⟩;rcases h4 with h4 | ⟨b,ea,h5⟩
 · exact Or.inl h4
 · exact Or.inr ⟨b,ea,h5.keep (hb b ea (by obtain ⟨cs,h6,_⟩:=h5;exact ⟨cs,h6⟩)) hk⟩
theorem OfS.put (h:OfS w n fs oa ma BP ap lp cp qv k W) {g:Nat} (hg:oa=some ⟨g,0,none⟩) (hk:k<n):OfS w n fs oa ma BP ap lp cp qv (k+1) (putAt W g (k*4) (.bool false) (.slice none 0 0) (.bool false) (.slice none 0 0)):=by
 obtain ⟨g',e,h1,h2,qs,h3,h4,h5⟩:=h.inn (by omega);rw [hg] at e;cases e;have hkeep:=h5.putKeep (j:=k) (by omega) (.bool false) (.slice none 0 0) (.bool false) (.slice none 0 0);have hE:=h5.set (j:=k) (by omega) (x:=.bool false) (y:=.slice none 0 0) (z:=.bool false) (u:=.slice none 0 0) (q:=0) (Jbc W);obtain ⟨cs,hcs,_⟩:=h5;have far:∀ B,B≠g→(putAt W g (k*4) (.bool false) (.slice none 0 0) (.bool false) (.slice none 0 0)).heap[B]?=W.heap[B]?:=fun B hB=>Jbq hB _ _ _ _;have hBP:BP≠g:=fun e=>by
  have:=h.box;unfold Boxed at this;rw [e,hcs] at this;cases this
 have hty:∀ b,(∃ cs,W.heap[b]?=some (.cells cs (tyK false) (0,0)))→b≠g:=fun b ⟨cs2,h9⟩ e=>by
  rw [e,hcs] at h9;cases h9
 refine ⟨Jdo h.bel h1 _ _ _ _,h.le,(far BP hBP).trans h.box,?_,?_,fun _=>⟨g,hg,h1,h2,qs.set k 0,by rw [List.length_set];exact h3,fun j hj=>?_,hE⟩,fun h0=>?_⟩
 · exact h.pol.keepRow (fun b eb _=>far b (h2 _ eb)) hkeep
 · obtain ⟨a,l,c,rfl⟩:=h.quo.form;exact h.quo.keepRow (fun b _ hx=>far b (hty b hx)) hkeep
 · rw [Jb2 _ _ _ _ (by omega),if_neg (by omega)];exact h4 j (by omega)
 · obtain ⟨gm,em,h6⟩:=h.mro h0;refine ⟨gm,em,?_⟩;obtain ⟨cs2,h7,h8⟩:=h6;exact Els.keep ⟨cs2,h7,h8⟩ (far gm (hty gm ⟨cs2,h7⟩)) hkeep
end
theorem Jnd {w wr W:World} {n:Nat} {fs:List Rat} {oa ma:Option Addr} {oc mc BP:Nat} {ap:Option Addr} {lp cp:Nat} {qv:Value} (hO:YI true w.heap.size wr (.slice oa n oc) fs) (hM:YI false w.heap.size wr (.slice ma n mc) fs) (hl:fs.length=n) (hB:Below w.heap.size w wr)
 (hfr:Jqs wr.heap.size (.agg #[.slice ap lp cp])) (h5:Below wr.heap.size wr W) (hle:w.heap.size≤BP) (box:Boxed W BP 25 (.slice ap lp cp)) (pol:RowK true W (.slice ap lp cp) (JG fs)) (quo:RowK false W qv (JG fs)):OfS w n fs oa ma BP ap lp cp qv 0 W:=by
 refine ⟨hB.trans (h5.mono hB.size),hle,box,pol,quo,fun h0=>?_,fun h0=>?_⟩
 · obtain ⟨g,e,h1,h2⟩:=hO.els (by omega);refine ⟨g,e,h1,fun p hp=>?_,fs,hl,fun _ _=>rfl,h2.below h5⟩;have h6:=hfr p lp cp (by rw [hp]);have h7:=h2.lt;omega
 · obtain ⟨g,e,h1,h2⟩:=hM.els (by omega);exact ⟨g,e,h2.below h5⟩
end Go.Proofs.YtcahejkcdcjjgaaGreatDoor
