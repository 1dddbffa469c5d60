import Derived.Test.YtcahejkcdcjjgaaGreatDoorK39
import Derived.Defers
import Derived.Recover
import Derived.Test.YtcahejkcdcjjgaaGreatDoorK40
import Derived.Test.YtcahejkcdcjjgaaGreatDoorK29
import Derived.Test.YtcahejkcdcjjgaaGreatDoorK41
set_option maxRecDepth 100000
set_option maxHeartbeats 16000000
namespace Go.Proofs.YtcahejkcdcjjgaaGreatDoor
open Go.RowKit Go.Shelf
theorem Jk3 (p q:Addr) (w:World) :
 CallsD Tryz.prog 89 #[.pointer (some p),.pointer (some q)] .returning w fun e u' w'=>e=.returned (.tuple #[])∧u'=.returning∧w'=w.alloc (.cells #[.int .i64 0,.int .i64 0] 77):=by
 have hta:∀ w:World,(Instr.typeAssert Value.nilIface 20 77 true).run Tryz.prog w=.ok (.tuple #[.agg #[.int .i64 0,.int .i64 0],.bool false]) w:=fun _=>by kernel_rfl
 refine callsD_of_wpS Tryz.func89 rfl fun c₀ cs hu=>?_;apply wpS_seq;apply wpS_region;simp [wpOpsS,go_sem,recoverD,hu,Tryz.ntmps89,Exit.thenS,hta];apply wpS_seq;apply wpS_region;simp [wpOpsS,go_sem,Exit.thenS];refine wpS_cond (t:=false) (by simp [Act.eval,Array.replicate]) ?_;simp only [Bool.false_eq_true,if_false];refine wpS_of_wp (wp_skip ?_);cases c₀;simp_all [bodyPostS,results,Tryz.results89]
theorem Jjt (p q:Nat) (e0 p0:Int) (w:World) (bp:Boxed w p 25 (.slice none 0 0)) (bq:Ji w q 77 (.int .i64 0) (.int .i64 0)) (hne:p≠q) :
 CallsD Tryz.prog 89 #[.pointer (some ⟨p,0,none⟩),.pointer (some ⟨q,0,none⟩)] (.panicking [{ v:=XC e0 p0,recovered:=false }]) w fun e u' w'=>e=.returned (.tuple #[])∧u'=.panicking [{ v:=XC e0 p0,recovered:=true }]∧Boxed w' p 25 (.slice none 0 0)∧Ji w' q 77 (.int .i64 e0) (.int .i64 p0)∧∀ n w0,Below n w0 w→n≤w.heap.size→n≤p→n≤q→Below n w0 w':=by
 unfold XC;have hta:∀ w:World,(Instr.typeAssert (.iface 77 (.agg #[.int .i64 e0,.int .i64 p0])) 20 77 true).run Tryz.prog w=.ok (.tuple #[.agg #[.int .i64 e0,.int .i64 p0],.bool true]) w:=fun _=>by kernel_rfl
 refine callsD_of_wpS Tryz.func89 rfl fun c₀ cs hu=>?_;apply wpS_seq;apply wpS_region;simp [wpOpsS,go_sem,recoverD,hu,Tryz.ntmps89,Exit.thenS,hta];apply wpS_seq;apply wpS_region;simp [wpOpsS,go_sem,Exit.thenS];refine wpS_cond (t:=true) (by simp [Act.eval,Array.replicate]) ?_;simp only [if_true];refine wpS_of_wp ?_;simp [Array.replicate];have n0:=Ji.new w 77 (.int .i64 e0) (.int .i64 p0);have bp1:=bp.alloc (.cells #[.int .i64 e0,.int .i64 p0] 77);have bq1:=bq.alloc (.cells #[.int .i64 e0,.int .i64 p0] 77);have hpD:p≠w.heap.size:=by have:=bp.lt;omega
 have hqD:q≠w.heap.size:=by have:=bq.lt;omega
 have HB:=Ja (fun (n:Nat) (w0:World) (h:Below n w0 w) (hn:n≤w.heap.size)=>h.alloc hn (.cells #[.int .i64 e0,.int .i64 p0] 77));obtain ⟨W,hW⟩:∃ W,w.alloc (.cells #[.int .i64 e0,.int .i64 p0] 77)=W:=⟨_,rfl⟩;rw [hW] at n0 bp1 bq1 HB;rw [hW];obtain ⟨D,hD⟩:∃ D,w.heap.size=D:=⟨_,rfl⟩;rw [hD] at n0 hpD hqD HB;rw [hD];clear hW bp bq hta hu;have d0:=n0.c0;have d1:=n0.c1;have x0:=bp1.cell;have x1:=bp1.frozen;have y0:=bq1.c0;have y1:=bq1.c1;have z0:=bq1.f0;have z1:=bq1.f1;have HX:=Ja bp1;have HY:=Ja bq1;clear bp1 bq1 n0;go_region
 have hX:Boxed (((W.setCell ⟨p,0,none⟩ (.slice none 0 0)).setCell ⟨q,0,none⟩ (.int .i64 e0)).setCell ⟨q,1,none⟩ (.int .i64 p0)).drew p 25 (.slice none 0 0):=
  (Below.heap_setCell _ ⟨q,1,none⟩ (.int .i64 p0) p hne).trans ((Below.heap_setCell _ ⟨q,0,none⟩ (.int .i64 e0) p hne).trans (HX.out.set (.slice none 0 0)))
 have hY:Ji (((W.setCell ⟨p,0,none⟩ (.slice none 0 0)).setCell ⟨q,0,none⟩ (.int .i64 e0)).setCell ⟨q,1,none⟩ (.int .i64 p0)).drew q 77 (.int .i64 e0) (.int .i64 p0):=
  (((HY.out.far (p:=⟨p,0,none⟩) (fun e=>hne e.symm) _).set0 _).set1 _).drew
 have hZ:∀ n w0,Below n w0 w→n≤D→n≤p→n≤q→Below n w0 (((W.setCell ⟨p,0,none⟩ (.slice none 0 0)).setCell ⟨q,0,none⟩ (.int .i64 e0)).setCell ⟨q,1,none⟩ (.int .i64 p0)).drew:=
  fun n w0 h hn h1 h2=>((((HB.out n w0 h hn).setCell (p:=⟨p,0,none⟩) h1 _).setCell (p:=⟨q,0,none⟩) h2 _).setCell (p:=⟨q,1,none⟩) h2 _).drew
 generalize (((W.setCell ⟨p,0,none⟩ (.slice none 0 0)).setCell ⟨q,0,none⟩ (.int .i64 e0)).setCell ⟨q,1,none⟩ (.int .i64 p0)).drew=V at hX hY hZ ⊢;simp [bodyPostS,results,Tryz.results89];exact ⟨hX,hY,hZ⟩
theorem Jnj (s:ByteArray) (e0 q0:Int) (w:World) (hP:∀ V R,RcB V R s 0→Calls Tryz.prog 90 #[.pointer (some ⟨R,0,none⟩)] V fun r w'=>V.grownBy w' (some R)∧r=.panicked [{ v:=XC e0 q0,recovered:=false }]) :
 Calls Tryz.prog 44 #[.string s] w fun r w'=>r=.returned (.tuple #[.agg #[.slice none 0 0],.agg #[.int .i64 e0,.int .i64 q0]])∧Below w.heap.size w w':=by
 have hmf:∀ (fn:Fn) (first cap:Array Value) (w:World),(Instr.makeFunc fn first cap).run Tryz.prog w=.ok (.func fn first cap) w:=fun _ _ _ _=>rfl;have HP:=Ja hP;clear hP;go_enter_defers Tryz.func44,Tryz.ntmps44
 go_upto_region 3 with fail
 have h0:=Boxed.new w 25 (.slice none 0 0);have h1:=Ji.new (w.alloc (.cells #[.slice none 0 0] 25)) 77 (.int .i64 0) (.int .i64 0);have h2:RcB (((w.alloc (.cells #[.slice none 0 0] 25)).alloc (.cells #[.int .i64 0,.int .i64 0] 77)).alloc (.cells #[.string s,.int .i64 0] 124)) ((w.alloc (.cells #[.slice none 0 0] 25)).alloc (.cells #[.int .i64 0,.int .i64 0] 77)).heap.size s 0:=World.alloc_heap_new _ _;rw [World.size_alloc,World.size_alloc] at h2;rw [World.size_alloc] at h1;replace h0:=(h0.alloc (.cells #[.int .i64 0,.int .i64 0] 77)).alloc (.cells #[.string s,.int .i64 0] 124);replace h1:=h1.alloc (.cells #[.string s,.int .i64 0] 124);have hb:Below w.heap.size w (((w.alloc (.cells #[.slice none 0 0] 25)).alloc (.cells #[.int .i64 0,.int .i64 0] 77)).alloc (.cells #[.string s,.int .i64 0] 124)):=(((Below.refl _ w).alloc (Nat.le_refl _) _).alloc (by rw [World.size_alloc];omega) _).alloc (by rw [World.size_alloc,World.size_alloc];omega) _;have hz:(((w.alloc (.cells #[.slice none 0 0] 25)).alloc (.cells #[.int .i64 0,.int .i64 0] 77)).alloc (.cells #[.string s,.int .i64 0] 124)).heap.size=w.heap.size+1+1+1:=by rw [World.size_alloc,World.size_alloc,World.size_alloc]
 obtain ⟨V,hV⟩:∃ V,((w.alloc (.cells #[.slice none 0 0] 25)).alloc (.cells #[.int .i64 0,.int .i64 0] 77)).alloc (.cells #[.string s,.int .i64 0] 124)=V:=⟨_,rfl⟩;rw [hV] at h0 h1 h2 hb hz;rw [hV];have H0:=Ja h0;have H1:=Ja h1;have HB:=Ja hb;have HC:=Ja (HP.out _ _ h2);clear h0 h1 h2 hb hV HP hz;go_wp2_with (go_at_call 90;refine HC.out.mono ?_;rintro e w1 ⟨hg1,rfl⟩;have HG:=Ja hg1;clear hg1)
 have hp1:Boxed w1 w.heap.size 25 (.slice none 0 0):=H0.out.kept HG.out (fun e=>by have:=Option.some.inj e;omega);have hq1:Ji w1 (w.heap.size+1) 77 (.int .i64 0) (.int .i64 0):=(HG.out.block _ H1.out.lt (fun e=>by have:=Option.some.inj e;omega)).trans H1.out;have hB1:Below w.heap.size w w1:=HB.out.grown HG.out HB.out.size (fun k e=>by have:=Option.some.inj e;omega);refine leaves_cons (f:=89) (args:=#[.pointer (some ⟨w.heap.size,0,none⟩),.pointer (some ⟨w.heap.size+1,0,none⟩)]) (by simp) (by simp [go_sem]) ?_;refine (Jjt w.heap.size (w.heap.size+1) e0 q0 _ hp1 hq1 (by omega)).mono ?_;rintro e u' w2 ⟨rfl,rfl,h3,h4,h5⟩;have h6:=h5 _ _ hB1 hB1.size (Nat.le_refl _) (by omega);have x0:=h3.cell;have y0:=h4.c0;have y1:=h4.c1;simp [Leaves,settle,results,Tryz.results44,go_sem,x0,y0,y1];exact h6
theorem Jnk {W W':World} {F:Nat} {cs:Array Value} {t:TypeId} {m:Nat × Nat} (hF:W.heap[F]?=some (.cells cs t m)) (ht:t=77) (hg:W.grownBy W' (some F)):∀ k v ds,Row k W v ds→Row k W' v ds:=by
 intro k v ds hr;obtain ⟨a,cap,e,_⟩:=id hr;subst e;refine hr.grown hg (fun p ep hl=>?_);obtain ⟨b,off,ea,cs',m',hb⟩:=hr.typ hl;rw [ea] at ep;cases ep;intro e;subst e;have:=hb.symm.trans hF;simp only [Option.some.injEq,Obj.cells.injEq] at this;subst ht;have h2:=this.2.1;revert h2;cases k <;> (show ¬ (_=_);decide)
theorem Jfy {W W':World} {F:Nat} {cs:Array Value} {t:TypeId} {m:Nat × Nat} (hF:W.heap[F]?=some (.cells cs t m)) (ht:t=77) (hg:W.grownBy W' (some F)) {r:Bool} {v:Value} {qs:List Rat} (h:RowK r W v qs):RowK r W' v qs:=by
 obtain ⟨a,cap,e,h1,h2,h3,h4⟩:=h;refine ⟨a,cap,e,h1,h2,h3,?_⟩;rcases h4 with h4 | ⟨b,ea,h5⟩
 · exact Or.inl h4
 · refine Or.inr ⟨b,ea,h5.keep (hg.block b h5.lt (fun e=>?_)) (Jnk hF ht hg)⟩;obtain ⟨cs',g1,_⟩:=h5;have e:=Option.some.inj e;subst e;have:=g1.symm.trans hF;simp only [Option.some.injEq,Obj.cells.injEq] at this;subst ht;have h2:=this.2.1;revert h2;cases r <;> (show ¬ (_=_);decide)
theorem Jp4 (s:ByteArray) (ps:List Rat) (w:World) (hP:∀ V R,RcB V R s 0→Calls Tryz.prog 90 #[.pointer (some ⟨R,0,none⟩)] V fun r w'=>V.grownBy w' (some R)∧∃ u,r=.returned u∧Yi w' u ps) :
 Calls Tryz.prog 44 #[.string s] w fun r w'=>∃ u,r=.returned (.tuple #[u,.agg #[.int .i64 0,.int .i64 0]])∧Yi w' u ps∧Below w.heap.size w w':=by
 have hmf:∀ (fn:Fn) (first cap:Array Value) (w:World),(Instr.makeFunc fn first cap).run Tryz.prog w=.ok (.func fn first cap) w:=fun _ _ _ _=>rfl;have HP:=Ja hP;clear hP;go_enter_defers Tryz.func44,Tryz.ntmps44
 go_upto_region 3 with fail
 have h0:=Boxed.new w 25 (.slice none 0 0);have h1:=Ji.new (w.alloc (.cells #[.slice none 0 0] 25)) 77 (.int .i64 0) (.int .i64 0);have h2:RcB (((w.alloc (.cells #[.slice none 0 0] 25)).alloc (.cells #[.int .i64 0,.int .i64 0] 77)).alloc (.cells #[.string s,.int .i64 0] 124)) ((w.alloc (.cells #[.slice none 0 0] 25)).alloc (.cells #[.int .i64 0,.int .i64 0] 77)).heap.size s 0:=World.alloc_heap_new _ _;rw [World.size_alloc,World.size_alloc] at h2;rw [World.size_alloc] at h1;replace h0:=(h0.alloc (.cells #[.int .i64 0,.int .i64 0] 77)).alloc (.cells #[.string s,.int .i64 0] 124);replace h1:=h1.alloc (.cells #[.string s,.int .i64 0] 124);have hb:Below w.heap.size w (((w.alloc (.cells #[.slice none 0 0] 25)).alloc (.cells #[.int .i64 0,.int .i64 0] 77)).alloc (.cells #[.string s,.int .i64 0] 124)):=(((Below.refl _ w).alloc (Nat.le_refl _) _).alloc (by rw [World.size_alloc];omega) _).alloc (by rw [World.size_alloc,World.size_alloc];omega) _;have hz:(((w.alloc (.cells #[.slice none 0 0] 25)).alloc (.cells #[.int .i64 0,.int .i64 0] 77)).alloc (.cells #[.string s,.int .i64 0] 124)).heap.size=w.heap.size+1+1+1:=by rw [World.size_alloc,World.size_alloc,World.size_alloc]
 obtain ⟨V,hV⟩:∃ V,((w.alloc (.cells #[.slice none 0 0] 25)).alloc (.cells #[.int .i64 0,.int .i64 0] 77)).alloc (.cells #[.string s,.int .i64 0] 124)=V:=⟨_,rfl⟩;rw [hV] at h0 h1 h2 hb hz;rw [hV];have H0:=Ja h0;have H1:=Ja h1;have HB:=Ja hb;have HC:=Ja (HP.out _ _ h2);clear h0 h1 h2 hb hV HP hz;go_wp2_with (go_at_call 90;refine HC.out.mono ?_;rintro e w1 ⟨hg1,u1,rfl,hu1⟩;have HG:=Ja hg1;obtain ⟨a9,l9,c9,rfl⟩:=hu1.form;have HU:=Ja hu1.row;have hp1:Boxed w1 w.heap.size 25 (.slice none 0 0):=H0.out.kept HG.out (fun e=>by have:=Option.some.inj e;omega);have hq1:Ji w1 (w.heap.size+1) 77 (.int .i64 0) (.int .i64 0):=(HG.out.block _ H1.out.lt (fun e=>by have:=Option.some.inj e;omega)).trans H1.out;have x0:=hp1.cell;have x1:=hp1.frozen;have y0:=hq1.c0;have y1:=hq1.c1;have z0:=hq1.f0;have z1:=hq1.f1;have H2:=Ja hp1;have H3:=Ja hq1;clear hg1 hu1 hp1 hq1)
 have hne:w.heap.size+1≠w.heap.size:=by omega
 have hB1:Below w.heap.size w w1:=HB.out.grown HG.out HB.out.size (fun k e=>by have:=Option.some.inj e;omega);have a1:=H2.out.set (.slice a9 l9 c9);have a2:=Jm7 H2.out (.slice a9 l9 c9) HU.out;have a3:=H3.out.far (p:=⟨w.heap.size,0,none⟩) hne (.slice a9 l9 c9);have a4:=hB1.setCell (p:=⟨w.heap.size,0,none⟩) (Nat.le_refl _) (.slice a9 l9 c9);generalize w1.setCell ⟨w.heap.size,0,none⟩ (.slice a9 l9 c9)=W2 at a1 a2 a3 a4 ⊢;have b1:=(Below.heap_setCell W2 ⟨w.heap.size+1,0,none⟩ (.int .i64 0) w.heap.size (fun e=>hne e.symm)).trans a1;have b2:=Jfy a3 rfl (JB W2 (w.heap.size+1) 0 (.int .i64 0)) a2;have b3:=a3.set0 (.int .i64 0);have b4:=a4.setCell (p:=⟨w.heap.size+1,0,none⟩) (by show _≤w.heap.size+1;omega) (.int .i64 0);generalize W2.setCell ⟨w.heap.size+1,0,none⟩ (.int .i64 0)=W3 at b1 b2 b3 b4 ⊢;have d1:=(Below.heap_setCell W3 ⟨w.heap.size+1,1,none⟩ (.int .i64 0) w.heap.size (fun e=>hne e.symm)).trans b1;have d2:=Jfy b3 rfl (JB W3 (w.heap.size+1) 1 (.int .i64 0)) b2;have d3:=b3.set1 (.int .i64 0);have d4:=b4.setCell (p:=⟨w.heap.size+1,1,none⟩) (by show _≤w.heap.size+1;omega) (.int .i64 0);generalize W3.setCell ⟨w.heap.size+1,1,none⟩ (.int .i64 0)=W4 at d1 d2 d3 d4 ⊢;refine leaves_cons (f:=89) (args:=#[.pointer (some ⟨w.heap.size,0,none⟩),.pointer (some ⟨w.heap.size+1,0,none⟩)]) (by simp) (by simp [go_sem]) ?_;refine (Jk3 ⟨w.heap.size,0,none⟩ ⟨w.heap.size+1,0,none⟩ _).mono ?_;rintro e u' w2 ⟨rfl,rfl,rfl⟩;have e1:Boxed W4 w.heap.size 25 (.slice a9 l9 c9):=d1;have f1:=(e1.alloc (.cells #[.int .i64 0,.int .i64 0] 77)).cell;have f2:=(d3.alloc (.cells #[.int .i64 0,.int .i64 0] 77)).c0;have f3:=(d3.alloc (.cells #[.int .i64 0,.int .i64 0] 77)).c1;have f4:=d4.alloc d4.size (.cells #[.int .i64 0,.int .i64 0] 77);have f5:=d2.below ((Below.refl _ W4).alloc (Nat.le_refl _) (.cells #[.int .i64 0,.int .i64 0] 77));generalize W4.alloc (.cells #[.int .i64 0,.int .i64 0] 77)=W5 at f1 f2 f3 f4 f5 ⊢;simp [Leaves,settle,results,Tryz.results44,go_sem,f1,f2,f3];exact ⟨⟨_,rfl,f5⟩,f4⟩
end Go.Proofs.YtcahejkcdcjjgaaGreatDoor
namespace Go.Proofs.YtcahejkcdcjjgaaGreatDoor
open Go.RowKit Go.Shelf
attribute [local go_sem] Oper.semAt_some
theorem Jg9 {l:List UInt8}:∀ (f:Nat) (b:Bool) (I m:Nat) (S S':List Rat) (k:Nat),I≤l.length→m≤I→Ym S m→Xu l f b I S=.ok S' k→∃ m',m'≤l.length∧Ym S' m':=by
 intro f;induction f with
 | zero=>intro b I m S S' k _ _ _ h;cases h
 | succ f ih=>
  intro b I m S S' k hI hm hS h;cases ht:JN l I with
  | bad e p=>rw [Xy ht] at h;cases h
  | ok a k5=>
   obtain ⟨c,n⟩:=a;have h1:=Xv hI ht;have h2:=hS.next (Jcy hI ht) h1.2.2 b;have h3:=X6 l k5;have h4:=J8 h1.2.1;rw [Jba ht] at h;split at h
   · rename_i h5;have:=JQ h5;exact ih _ _ (m+1) _ _ _ (by omega) (by omega) h2 h
   · split at h
     · rename_i h5;have:=JQ h5;exact ih _ _ (m+1) _ _ _ (by omega) (by omega) h2 h
     · split at h
       · cases h;exact ⟨m+1,by omega,h2⟩
       · cases h
theorem Jnl {l:List UInt8} {S:List Rat} {k:Nat} (h:YU l=.ok S k):∃ m,m≤l.length∧Ym S m:=by
 unfold YU at h;have h4:=J8 (l:=l) (i:=0) (by omega);split at h
 · rename_i h5;have:=JQ h5;exact Jg9 _ _ _ 0 _ _ _ (by omega) (by omega) Ym.start h
 · exact Jg9 _ _ _ 0 _ _ _ h4 (by omega) Ym.start h
theorem Jib (l:List UInt8):(Js l).1.length≤9∧∀ i,SmQ 601 (cf (Js l).1 i):=by
 by_cases h:300<l.length
 · rw [show Js l=([],1,0) by unfold Js;rw [if_pos h]];exact ⟨by simp,fun i=>by rw [Jas];exact SmQ.zero _ (by omega)⟩
 · rw [Jan h];cases ht:YU l with
   | bad e p=>exact ⟨by simp [Jps],fun i=>by rw [show (Jps (Rd.bad (α:=List Rat) e p)).1=[] from rfl,Jas];exact SmQ.zero _ (by omega)⟩
   | ok S k=>
    obtain ⟨m,hm,hs⟩:=Jnl ht;rw [show (Jps (Rd.ok S k)).1=Jr S from rfl];exact ⟨Nat.le_trans (JE _) (by rw [hs.1];exact Nat.le_refl _),fun i=>by rw [YV];exact (hs.2 i).mono (by omega)⟩
def Jju (l:List UInt8) (w':World) (u:Value) (e p:Int):Prop:=e=((Js l).2.1:Int)∧p=((Js l).2.2:Int)∧Yi w' u (Js l).1
theorem Jrn (s:ByteArray) (hs:s.size≤300) (w:World) :
 Calls Tryz.prog 44 #[.string s] w fun r w'=>∃ u e p,r=.returned (.tuple #[u,.agg #[.int .i64 e,.int .i64 p]])∧Jju (Jc s) w' u e p∧Below w.heap.size w w':=by
 have HP:=Jan (l:=Jc s) (by rw [Jg];omega);cases ht:YU (Jc s) with
 | bad e0 q0=>
  rw [ht] at HP;refine (Jnj s e0 q0 w (fun V R hR=>(Jl2 R s V hR hs).mono (fun r w' h=>⟨h.1,h.2.1 _ _ ht⟩))).mono ?_;rintro r w' ⟨rfl,hb⟩;refine ⟨_,_,_,rfl,?_,hb⟩;rw [Jju,HP];exact ⟨rfl,rfl,_,rfl,RowK.nil _ _⟩
 | ok S k=>
  rw [ht] at HP;refine (Jp4 s (Jr S) w (fun V R hR=>(Jl2 R s V hR hs).mono (fun r w' h=>⟨h.1,by obtain ⟨u,h1,h2,_⟩:=h.2.2 _ _ ht;exact ⟨u,h1,h2⟩⟩))).mono ?_;rintro r w' ⟨u,rfl,hu,hb⟩;refine ⟨_,_,_,rfl,?_,hb⟩;rw [Jju,HP];exact ⟨rfl,rfl,hu⟩
theorem Jfz (s:ByteArray) (w:World) :
 Calls Tryz.prog 9 #[.string s] w fun r w'=>∃ u e p,r=.returned (.tuple #[u,.int .i64 e,.int .i64 p])∧Jju (Jc s) w' u e p∧Below w.heap.size w w':=by
 by_cases hlong:300<s.size
 · have hlong':(300:Int)<(s.size:Int):=by omega
   have HP:=Ja (show Js (Jc s)=([],1,0) by unfold Js;rw [if_pos (by rw [Jg];exact hlong)]);clear hlong;go_enter Tryz.func9,Tryz.ntmps9
   go_wp2;exact bodyPost_ret (v:=.tuple #[.agg #[.slice none 0 0],.int .i64 1,.int .i64 0]) (by simp [results,Tryz.results9,go_sem]) rfl ⟨_,_,_,rfl,by rw [Jju,HP.out];exact ⟨rfl,rfl,_,rfl,RowK.nil _ _⟩,(Below.refl _ w).alloc (Nat.le_refl _) _⟩
 · have hlong':¬ (300:Int)<(s.size:Int):=by omega
   have HR:=Ja (fun (V:World)=>Jrn s (by omega) V);clear hlong;go_enter Tryz.func9,Tryz.ntmps9
   go_upto_region 4 with (go_at_call 44;refine (HR.out _).mono ?_;clear HR;rintro e w1 ⟨u1,e1,p1,rfl,hu1,hb1⟩;obtain ⟨a9,l9,c9,rfl⟩:=hu1.2.2.form;have HU:=Ja hu1;have HB:=Ja hb1;clear hu1 hb1)
   have hw0:w.heap.size<w1.heap.size:=by have:=HB.out.size;rw [World.size_alloc] at this;omega
   have q0:Boxed w1 w.heap.size 25 (.slice none 0 0):=(HB.out.block _ (by rw [World.size_alloc];omega)).trans (Boxed.new w 25 (.slice none 0 0));have hb0:Below w.heap.size w w1:=((Below.refl _ w).alloc (Nat.le_refl _) _).trans (HB.out.mono (by rw [World.size_alloc];omega));have h0:=Boxed.new w1 25 (.slice a9 l9 c9);have h1:=Ji.new (w1.alloc (.cells #[.slice a9 l9 c9] 25)) 77 (.int .i64 e1) (.int .i64 p1);rw [World.size_alloc] at h1;replace h0:=h0.alloc (.cells #[.int .i64 e1,.int .i64 p1] 77);have hA:Below w1.heap.size w1 ((w1.alloc (.cells #[.slice a9 l9 c9] 25)).alloc (.cells #[.int .i64 e1,.int .i64 p1] 77)):=((Below.refl _ w1).alloc (Nat.le_refl _) _).alloc (by rw [World.size_alloc];omega) _;have q1:=(hA.block _ q0.lt).trans q0;have hb1:=hb0.trans (hA.mono hb0.size);have hu1:=HU.out.2.2.row.below hA;have HUE:=Ja (⟨HU.out.1,HU.out.2.1⟩:e1=_∧p1=_);have hne1:w.heap.size≠w1.heap.size:=by omega
   have hne2:w.heap.size≠w1.heap.size+1:=by omega
   generalize (w1.alloc (.cells #[.slice a9 l9 c9] 25)).alloc (.cells #[.int .i64 e1,.int .i64 p1] 77)=W2 at h0 h1 hA q1 hb1 hu1 ⊢;clear hA q0 hb0 HB HU hw0;obtain ⟨Q,hQ⟩:∃ Q,w.heap.size=Q:=⟨_,rfl⟩;obtain ⟨B,hB⟩:∃ B,w1.heap.size=B:=⟨_,rfl⟩;rw [hB] at h0 h1 hne1 hne2;rw [hQ] at q1 hne1 hne2;rw [hB,hQ];have q2:Boxed W2 Q 25 (.slice none 0 0):=q1;have x0:=h0.cell;have y0:=h1.c0;have y1:=h1.c1;have z0:=q2.cell;have z1:=q2.frozen;have HQ2:=Ja q2;have HQQ:=Ja hQ;have HB1:=Ja hb1;have HU1:=Ja hu1;clear h0 h1 q1 q2 hQ hB hb1 hu1;go_region
   go_wp2_with fail
   have r0:=z0;refine bodyPost_ret (v:=.tuple #[.agg #[.slice a9 l9 c9],.int .i64 e1,.int .i64 p1]) (by simp [results,Tryz.results9,go_sem,r0]) rfl ⟨_,_,_,rfl,⟨HUE.out.1,HUE.out.2,_,rfl,?_⟩,?_⟩
   · exact (Jm7 HQ2.out (.slice a9 l9 c9) HU1.out).below ((Below.refl _ _).drew)
   · exact (HB1.out.setCell (p:=⟨Q,0,none⟩) (by rw [HQQ.out];exact Nat.le_refl _) _).drew
end Go.Proofs.YtcahejkcdcjjgaaGreatDoor
namespace Go.Proofs.YtcahejkcdcjjgaaGreatDoor
open Go.RowKit Go.Shelf
theorem Jnm {k:Nat} {q:Rat} (h:SmQ k q):(J0 q).length≤40*k+5:=by
 have h1:=Jbw q.num;have h2:=Jbw (q.den:Int);have h3:=h.1.words;have h4:=h.2.words;unfold J0;split
 · omega
 · rw [List.length_append,List.length_cons];omega
theorem SmQ.abs {k:Nat} {q:Rat} (h:SmQ k q):SmQ k (YI q):=by
 have:=Jfp q;unfold SmQ Sm at h ⊢;rw [this.1,this.2];exact ⟨by have:=h.1;omega,h.2⟩
theorem Jnn {k:Nat} {c:Rat} (h:SmQ k c) {i:Nat} (hi:i<B64) (f:Bool):(Yt c i f).length≤40*k+40:=by
 have h1:=Jnm h.abs;have h2:=Jbt i;have h3:(Jb B64 i).length≤1:=JL Je (by rw [Nat.pow_one];exact hi);have h4:(Jck c f).length≤1:=by
  unfold Jck;split
  · simp
  · split <;> simp
 have h5:(YG c i).length≤40*k+5:=by
  unfold YG;split
  · simp
  · exact h1
 have h6:(YQ i).length≤23:=by
  unfold YQ;split
  · simp
  · split
    · simp
    · rw [List.length_cons,List.length_cons];omega
 unfold Yt;rw [List.length_append,List.length_append];omega
theorem Jha {k:Nat} {ps:List Rat} (h:∀ i,SmQ k (cf ps i)) (hl:ps.length≤B64):∀ (d m:Nat),ps.length - m=d→(J7 (ps.drop m) m).length≤d*(40*k+40):=by
 intro d;induction d with
 | zero=>
  intro m hm;rw [List.drop_of_length_le (by omega)];simp [J7]
 | succ d ih=>
  intro m hm;have ih:=ih (m+1) (by omega);rw [Ja8 ps (by omega:m<ps.length)];have h1:=Jnn (h m) (by omega:m<B64) (J7 (ps.drop (m+1)) (m+1)).isEmpty;rw [Nat.add_mul];split
  · omega
  · rw [List.length_append];omega
theorem Jjv {ps:List Rat} (h:Sqs ps) (hl:ps.length≤3000000) (m:Nat):(J7 (ps.drop m) m).length≤140737488355328:=by
 have h1:=Jha (fun i=>(h.at i).sm) (by unfold B64;omega) _ m rfl;refine Nat.le_trans h1 (Nat.le_trans (Nat.mul_le_mul_right _ (Nat.sub_le _ _)) (Nat.le_trans (Nat.mul_le_mul_right _ hl) ?_));decide
theorem Jno {k:Nat} {ps:List Rat} (h:∀ i,SmQ k (cf ps i)) (hl:ps.length≤B64):(YH ps).length≤ps.length*(40*k+40)+1:=by
 have h1:=Jha h hl _ 0 rfl;rw [List.drop_zero,Nat.sub_zero] at h1;unfold YH;split
 · simp
 · omega
theorem Jjw (z:List Rat) (i:Nat) (a:Rat) (q:List Rat):∀ (j k:Nat),i+j≤k→cf (Xi z i a q j) k=cf z k:=by
 intro j;induction j with
 | zero=>intro k _;rfl
 | succ j ih=>
  intro k hk;rw [Xi];by_cases h:i+j<z.length
  · rw [Jau _ _ _ _ (by rw [Yx];exact h),if_neg (by omega),ih k (by omega)]
  · rw [List.set_eq_of_length_le (by rw [Yx];omega),ih k (by omega)]
theorem Jd6 (z:List Rat) (i:Nat) (a:Rat) (q:List Rat):∀ (j k:Nat),cf (Xi z i a q j) k=cf z k∨cf (Xi z i a q j) k=cf z k+a*cf q (k - i):=by
 intro j;induction j with
 | zero=>intro k;exact Or.inl rfl
 | succ j ih=>
  intro k;rw [Xi];by_cases h:i+j<z.length
  · rw [Jau _ _ _ _ (by rw [Yx];exact h)];by_cases e:k=i+j
    · subst e;rw [if_pos rfl,Jjw z i a q j (i+j) (Nat.le_refl _)];exact Or.inr (by rw [Nat.add_sub_cancel_left])
    · rw [if_neg e];exact ih k
  · rw [List.set_eq_of_length_le (by rw [Yx];omega)];exact ih k
theorem Jjx {A:Nat} {ps qs:List Rat} (hp:∀ i,SmQ A (cf ps i)) (hq:∀ j,SmQ A (cf qs j)) (n:Nat):∀ (i k:Nat),SmQ (min i ps.length*(A+A+1)+1) (cf (Xj ps qs n i) k):=by
 intro i;induction i with
 | zero=>intro k;rw [Xj,Yw];exact SmQ.zero _ (by omega)
 | succ i ih=>
  intro k;rw [Xj];rcases Jd6 (Xj ps qs n i) i (cf ps i) qs qs.length k with e | e
  · rw [e];exact (ih k).mono (by have:min i ps.length*(A+A+1)≤min (i+1) ps.length*(A+A+1):=Nat.mul_le_mul_right _ (by omega);omega)
  · rw [e];by_cases hi:i<ps.length
    · rw [show min (i+1) ps.length=min i ps.length+1 from by omega,Nat.add_mul];exact ((ih k).add2 ((hp i).mul (hq (k - i)))).mono (by omega)
    · rw [XG (p:=ps) (by omega),Rat.zero_mul,Rat.add_zero,show min (i+1) ps.length=min i ps.length from by omega];exact ih k
theorem Jk4 {A:Nat} {ps qs:List Rat} (hp:∀ i,SmQ A (cf ps i)) (hq:∀ j,SmQ A (cf qs j)) (hL:(ps.length+1)*(A+A+1)+1≤1000000):M3.Jh5 ps qs:=by
 have hle:A+A+1≤(ps.length+1)*(A+A+1):=Nat.le_mul_of_pos_left _ (by omega);refine ⟨fun i j=>Sq.of ((hp i).mul (hq j)) (by omega),fun n i j k=>?_⟩;have h1:=Jjx hp hq n i k;have h2:min i ps.length*(A+A+1)≤ps.length*(A+A+1):=Nat.mul_le_mul_right _ (by omega);rw [Nat.add_mul] at hL;rcases Jd6 (Xj ps qs n i) i (cf ps i) qs j k with e | e
 · rw [e];exact Sq.of h1 (by omega)
 · rw [e];exact Sq.of (h1.add2 ((hp i).mul (hq (k - i)))) (by omega)
theorem Jro {A:Nat} {ps qs:List Rat} (hp:∀ i,SmQ A (cf ps i)) (hq:∀ j,SmQ A (cf qs j)) (k:Nat):SmQ (ps.length*(A+A+1)+1) (cf (Jnt ps qs) k):=by
 unfold Jnt;rw [YV,Jk9];have h:=Jjx hp hq (ps.length+qs.length) ps.length k;rwa [Jie _ _ _ _ _ (Or.inr (by omega)),Nat.min_self] at h
def XD:List Rat:=[Rat.divInt 1 2,1]
def Jcz:List Rat:=[Rat.divInt 1 4,1,1]
theorem Jjy:Js [120,32,43,32,49,47,50]=(XD,0,0):=by decide +kernel
theorem Jd7:Jnt XD XD=Jcz:=by decide +kernel
end Go.Proofs.YtcahejkcdcjjgaaGreatDoor
namespace Go.Proofs.YtcahejkcdcjjgaaGreatDoor
open Go.RowKit Go.Shelf
attribute [local go_sem] Oper.semAt_some
theorem _root_.Go.Boxed.bel {W W':World} {B:Nat} {t:TypeId} {v:Value} (h:Boxed W B t v) (hb:Below W.heap.size W W'):Boxed W' B t v:=(hb.block B h.lt).trans h
theorem Jk5:YH Jcz=[120,94,50,43,120,43,49,47,52]:=by decide +kernel
theorem Jap (i:Nat):SmQ 1 (cf XD i):=by
 rcases i with _ | _ | i
 · exact ⟨by show Sm 1 1;unfold Sm B64;decide,by show Sm 1 2;unfold Sm B64;decide⟩
 · exact ⟨by show Sm 1 1;unfold Sm B64;decide,by show Sm 1 1;unfold Sm B64;decide⟩
 · rw [XG (by simp [XD])];exact SmQ.zero 1 (by omega)
theorem Jf0:Sqs XD:=Sqs.of fun i=>Sq.of (Jap i) (by omega)
theorem Jf1:Sqs Jcz:=Sqs.of fun i=>by rw [←Jd7];exact Sq.of (Jro Jap Jap i) (by simp [XD])
theorem Jp5 (e:Int) (w:World):Calls Tryz.prog 12 #[.int .i64 e] w fun r w'=>r=.returned (.int .i64 e)∧Below w.heap.size w w':=by
 go_enter Tryz.func12,Tryz.ntmps12
 go_wp2;go_ret;exact ⟨rfl,Below.refl _ _⟩
theorem Jp6 (w:World) (htab:Jg2 w):Calls Tryz.prog 19 #[] w fun r w'=>r=.returned (.bool true)∧Below w.heap.size w w':=by
 have HT:=Ja htab;have HC:=Ja (fun (V:World)=>show Calls Tryz.prog 9 #[.string ⟨#[120,32,43,32,49,47,50]⟩] V fun r w'=>∃ u,r=.returned (.tuple #[u,.int .i64 0,.int .i64 0])∧Yi w' u XD∧Below V.heap.size V w' from
  (Jfz ⟨#[120,32,43,32,49,47,50]⟩ V).mono (fun r w' h=>by
   obtain ⟨u,e,p,h1,h2,h3⟩:=h;rw [Jju,show Jc ⟨#[120,32,43,32,49,47,50]⟩=[120,32,43,32,49,47,50] from rfl,Jjy] at h2;obtain ⟨rfl,rfl,h4⟩:=h2;exact ⟨u,h1,h4,h3⟩))
 have M:=Ja (Below.refl w.heap.size w);clear htab;go_enter Tryz.func19,Tryz.ntmps19
 go_upto_region 2 with (go_at_call 9;refine (HC.out _).mono ?_;clear HC;rintro e w1 ⟨u,rfl,hu,hb⟩;obtain ⟨a1,l1,c1,rfl⟩:=hu.form)
 replace M:=Ja (M.out.trans (hb.mono M.out.size));have hA:Below w1.heap.size w1 (w1.alloc (.cells #[.slice a1 l1 c1] 25)):=(Below.refl _ w1).alloc (Nat.le_refl _) _;have nP:=Boxed.new w1 25 (.slice a1 l1 c1);have rP:=hu.below hA;replace M:=Ja (M.out.trans (hA.mono M.out.size));clear hA;obtain ⟨VP,hV⟩:∃ V,w1.alloc (.cells #[.slice a1 l1 c1] 25)=V:=⟨_,rfl⟩;obtain ⟨BP,hB⟩:∃ B,w1.heap.size=B:=⟨_,rfl⟩;rw [hV] at rP M;rw [hV,hB] at nP;rw [hV];rw [hB];clear hV hB;clear hu hb;have H1:=Ja (fun (V:World) (h:Below VP.heap.size VP V)=>M3.Jpd _ _ XD XD V (rP.below h) (rP.below h) Jf0 Jf0 (Jk4 Jap Jap (by simp [XD])) (by simp [XD]));rw [Jd7] at H1;have hq:Below VP.heap.size VP VP:=Below.refl _ _;have eP:=(nP.bel hq).cell;go_upto_region 3 with (go_at_call 28;refine (H1.out _ hq).mono ?_;clear H1;rintro e w2 ⟨u,rfl,hu,_,hb⟩;obtain ⟨a2,l2,c2,rfl⟩:=hu.form)
 replace hb:=Below.then hq hb
 clear hq eP;replace nP:=nP.bel hb;replace rP:=rP.below hb;replace M:=Ja (M.out.trans (hb.mono M.out.size));clear hb;have hA:Below w2.heap.size w2 (w2.alloc (.cells #[.slice a2 l2 c2] 25)):=(Below.refl _ w2).alloc (Nat.le_refl _) _;have nQ:=Boxed.new w2 25 (.slice a2 l2 c2);have rQ:=hu.below hA;replace nP:=nP.bel hA;replace rP:=rP.below hA;replace M:=Ja (M.out.trans (hA.mono M.out.size));clear hA;obtain ⟨VQ,hV⟩:∃ V,w2.alloc (.cells #[.slice a2 l2 c2] 25)=V:=⟨_,rfl⟩;obtain ⟨BQ,hB⟩:∃ B,w2.heap.size=B:=⟨_,rfl⟩;rw [hV] at nP rP rQ M;rw [hV,hB] at nQ;rw [hV];rw [hB];clear hV hB;clear hu;have H1:=Ja (fun (V:World) (h:Below VQ.heap.size VQ V)=>Jp5 0 V);have H2:=Ja (fun (V:World) (h:Below VQ.heap.size VQ V)=>Jh7 _ Jcz V (rQ.below h) Jf1 (fun m=>Jjv Jf1 (by simp [Jcz]) m) (Yg HT.out (M.out.trans (h.mono M.out.size))));rw [Jk5] at H2;have H3:=Ja (fun (V:World) (h:Below VQ.heap.size VQ V)=>Jdt _ Jcz V (rQ.below h));rw [show ((Jcz.length:Int) - 1)=2 from rfl] at H3;have hq:Below VQ.heap.size VQ VQ:=Below.refl _ _;have eQ:=(nQ.bel hq).cell;go_wp2_with (first
  | (go_at_call 12;refine (H1.out _ hq).mono ?_;clear H1;rintro e x1 ⟨rfl,hb⟩;replace hq:=Below.then hq hb;clear hb eQ;have eQ:=(nQ.bel hq).cell)
  | (go_at_call 13;refine (H2.out _ hq).mono ?_;clear H2;rintro e x2 ⟨rfl,hb⟩;replace hq:=Below.then hq hb;clear hb eQ;have eQ:=(nQ.bel hq).cell)
  | (go_at_call 15;refine (H3.out _ hq).mono ?_;clear H3;rintro e x3 ⟨rfl,hb⟩;replace hq:=Below.then hq hb;clear hb eQ;have eQ:=(nQ.bel hq).cell))
 go_ret;exact ⟨rfl,M.out.trans (hq.mono M.out.size)⟩
end Go.Proofs.YtcahejkcdcjjgaaGreatDoor
namespace Go.Proofs.YtcahejkcdcjjgaaGreatDoor
open Go.RowKit Go.Shelf
theorem XS {l:List UInt8} {I:Nat} {t:List UInt8} (h:l.drop I=t) (ht:t.head?≠some 32):skB l I=I:=by
 unfold skB YF;rw [h];cases t with
 | nil=>rfl
 | cons a t=>
  rw [List.takeWhile_cons_of_neg (by intro e;exact ht (by rw [beq_iff_eq] at e;rw [e];rfl))];rfl
theorem YX {l:List UInt8} {I:Nat} {t:List UInt8} (h:l.drop I=t) (c:UInt8):JK l I c=(t.head? == some c):=by
 unfold JK;rw [←h,List.head?_drop]
theorem Yp {l A B:List UInt8} {I:Nat} (h:l.drop I=A++B):l.drop (I+A.length)=B:=by
 rw [←List.drop_drop,h,List.drop_append_of_le_length (Nat.le_refl _),List.drop_length,List.nil_append]
theorem Jsh {l D Z:List UInt8} {I:Nat} (h:l.drop I=D++Z) (hD:D.all isD=true) (hZ:∀ c,Z.head?=some c→isD c=false):dgE l I=I+D.length:=by
 unfold dgE YF;rw [h,List.takeWhile_append_of_pos (fun a ha=>List.all_eq_true.1 hD a ha)];have:Z.takeWhile isD=[]:=by
  cases Z with
  | nil=>rfl
  | cons a t=>rw [List.takeWhile_cons_of_neg (by rw [hZ a rfl];decide)]
 rw [this,List.append_nil]
theorem Jp7 {c d:UInt8} (h:isD c=true) (hd:isD d=false):c≠d:=fun e=>by rw [e,hd] at h;cases h
theorem Jen {l D Z:List UInt8} {I:Nat} (h:l.drop I=D++Z) (hD:D.all isD=true) (h0:D≠[]) (hZ:∀ c,Z.head?=some c→isD c=false):JO l I=if 12<D.length then .bad 3 I else .ok (D,I) (I+D.length):=by
 have hs:skB l I=I:=XS h (by
  cases D with
   | nil=>exact absurd rfl h0
   | cons a t=>
   intro e;have e:=Option.some.inj e;have ha:=List.all_eq_true.1 hD a (List.mem_cons_self ..);rw [e] at ha;exact absurd ha (by decide))
 have hl:0<D.length:=List.length_pos_iff.2 h0;unfold JO;rw [hs,Jsh h hD hZ,if_neg (by omega),Nat.add_sub_cancel_left,h,List.take_left' rfl]
theorem Jaq (n:Nat):(Yf n).all isD=true∧num (Yf n)=n∧Yf n≠[]:=by
 by_cases h:n=0
 · subst h;decide
 · obtain ⟨c,t,h1,_,_,h2,h3⟩:=Jaa h;rw [h1];exact ⟨h2,h3,by simp⟩
theorem Jp8 {l Z:List UInt8} {I k:Nat} {q c:Rat} (hq:¬ q<0) (h:l.drop I=J0 q++Z) (hZ:∀ c,Z.head?=some c→isD c=false∧c≠47∧c≠32) (hr:JZ l I=.ok c k):c=q∧k=I+(J0 q).length:=by
 have hn:¬ q.num<0:=fun h2=>hq (neg_num.2 h2);obtain ⟨a,ha⟩:∃ a:Nat,q.num=(a:Int):=⟨q.num.toNat,by omega⟩;have hdz:Yl q.num=Yf a:=by rw [ha];unfold Yl;rw [if_neg (by omega)];rfl
 have hdd:Yl (q.den:Int)=Yf q.den:=by unfold Yl;rw [if_neg (by omega)];rfl
 obtain ⟨d1,d2,d3⟩:=Jaq a;obtain ⟨b1,b2,b3⟩:=Jaq q.den;unfold J0 at h ⊢;by_cases h1:q.den=1
 · rw [if_pos h1,hdz] at h ⊢;have hN:=Jen h d1 d3 (fun c hc=>(hZ c hc).1);unfold JZ at hr;rw [hN] at hr;by_cases h12:12<(Yf a).length
   · rw [if_pos h12] at hr;cases hr
   · rw [if_neg h12] at hr;have hm:=Yp h;have hs:skB l (I+(Yf a).length)=I+(Yf a).length:=XS hm (fun e=>(hZ _ e).2.2 rfl);simp only [hs,YX hm,d2] at hr;rw [if_neg (by intro e;rw [beq_iff_eq] at e;exact (hZ _ e).2.1 rfl)] at hr;cases hr;refine ⟨?_,rfl⟩;rw [←Jcx a,←ha];have e:=Rat.num_divInt_den q;rw [h1] at e;exact e
 · rw [if_neg h1,hdz,hdd] at h ⊢;rw [List.append_assoc,List.cons_append] at h;have hN:=Jen (Z:=47::(Yf q.den++Z)) h d1 d3 (fun c hc=>by cases hc;decide);unfold JZ at hr;rw [hN] at hr;by_cases h12:12<(Yf a).length
   · rw [if_pos h12] at hr;cases hr
   · rw [if_neg h12] at hr;have hm:=Yp h;have hs:skB l (I+(Yf a).length)=I+(Yf a).length:=XS hm (by simp);have hm2:l.drop (I+(Yf a).length+1)=Yf q.den++Z:=Yp (A:=[47]) (by rw [hm];rfl);have hN2:=Jen hm2 b1 b3 (fun c hc=>(hZ c hc).1);simp only [hs,YX hm,d2] at hr;rw [if_pos (by simp)] at hr;simp only [hN2] at hr;by_cases h13:12<(Yf q.den).length
     · rw [if_pos h13] at hr;cases hr
     · rw [if_neg h13] at hr;simp only [b2] at hr;rw [if_neg q.den_nz] at hr;cases hr;refine ⟨?_,by rw [List.length_append,List.length_cons];omega⟩;rw [←ha];exact Rat.num_divInt_den q
theorem Jnp {q:Rat} (h:J0 q=[49]):q=1:=by
 have hd:q.den=1:=by
  by_cases h1:q.den=1
  · exact h1
  · exfalso
    unfold J0 at h;rw [if_neg h1] at h;have hl:=congrArg List.length h;rw [List.length_append,List.length_cons] at hl;have h3:(Yl (q.den:Int)).length≠0:=by
     intro e;have h4:=(Jaq q.den).2.2;unfold Yl at e;rw [if_neg (by omega)] at e;exact h4 (List.length_eq_zero_iff.1 e)
    simp at hl;omega
 unfold J0 at h;rw [if_pos hd] at h;have h2:=Jn0 (z:=q.num) (by rw [h];simp);rw [h] at h2;have h3:q.num=1:=h2.2.symm.trans (by decide);rw [←Rat.num_divInt_den q,h3,hd];decide +kernel
theorem Jic (c:Rat):¬ YI c<0:=fun h=>by
 have h1:=neg_num.1 h;rw [(Jfp c).1] at h1;omega
def Jjz (Z:List UInt8):Prop:=Z=[]∨∃ t,Z=43::t∨Z=45::t
theorem Jjz.head {Z:List UInt8} (h:Jjz Z) {c:UInt8} (hc:Z.head?=some c):isD c=false∧c≠47∧c≠32∧c≠120∧c≠94:=by
 rcases h with rfl | ⟨t,rfl | rfl⟩
 · cases hc
 · cases hc;decide
 · cases hc;decide
theorem Jrp {l Z:List UInt8} {I n k j:Nat} (hj:j≠0) (h:l.drop I=YQ j++Z) (hZ:Jjz Z) (hj8:j≤8) (hr:YY l (I+1)=.ok n k):n=j∧k=I+(YQ j).length:=by
 unfold YQ at h ⊢;rw [if_neg hj] at h ⊢;by_cases h1:j=1
 · rw [if_pos h1] at h ⊢;have hm:l.drop (I+1)=Z:=Yp (A:=[120]) h;have hs:skB l (I+1)=I+1:=XS hm (fun e=>(hZ.head e).2.2.1 rfl);unfold YY at hr;rw [hs,YX hm,if_neg (by intro e;rw [beq_iff_eq] at e;exact (hZ.head e).2.2.2.2 rfl)] at hr;cases hr;exact ⟨h1.symm,rfl⟩
 · rw [if_neg h1] at h ⊢;have hm:l.drop (I+1)=94::(Yf j++Z):=Yp (A:=[120]) h;have hs:skB l (I+1)=I+1:=XS hm (by simp);have hm2:l.drop (I+1+1)=Yf j++Z:=Yp (A:=[94]) hm;obtain ⟨d1,d2,d3⟩:=Jaq j;have hN:=Jen hm2 d1 d3 (fun c hc=>(hZ.head hc).1);unfold YY at hr;rw [hs,YX hm,if_pos (by simp),hN] at hr;by_cases h12:12<(Yf j).length
   · rw [if_pos h12] at hr;cases hr
   · rw [if_neg h12] at hr;simp only [d2] at hr;rw [if_neg (by omega)] at hr;cases hr;exact ⟨rfl,by rw [List.length_cons,List.length_cons];omega⟩
theorem Jp9 {l Z:List UInt8} {I n k j:Nat} {c c':Rat} (h:l.drop I=YG c j++(YQ j++Z)) (hZ:Jjz Z) (hj8:j≤8) (hr:JN l I=.ok (c',n) k):c'=YI c∧n=j∧k=I+((YG c j).length+(YQ j).length):=by
 rw [Xe] at hr;have hpz:∀ d,(YQ j++Z).head?=some d→isD d=false∧d≠47∧d≠32:=by
  intro d hd;by_cases hj:j=0
  · rw [show YQ j=[] by unfold YQ;rw [if_pos hj],List.nil_append] at hd;exact ⟨(hZ.head hd).1,(hZ.head hd).2.1,(hZ.head hd).2.2.1⟩
  · have:d=120:=by
     unfold YQ at hd;rw [if_neg hj] at hd;split at hd <;> (cases hd;rfl)
    subst this;decide
 have hh:∀ c0 k0,Xx l I=.ok c0 k0→c0=YI c∧k0=I+(YG c j).length:=by
  intro c0 k0 he;unfold YG at h ⊢;unfold Xx at he;by_cases hc:J0 (YI c)=[49]∧0<j
  · rw [if_pos hc] at h ⊢;rw [List.nil_append] at h;have hj:j≠0:=by omega
    have hx:(YQ j++Z).head?=some 120:=by
     unfold YQ;rw [if_neg hj];split <;> rfl
    have hs:skB l I=I:=XS h (by rw [hx];decide);rw [hs,YX h,hx,if_pos (by decide)] at he;cases he;exact ⟨(Jnp hc.1).symm,rfl⟩
  · rw [if_neg hc] at h ⊢;have hd0:∀ d,(J0 (YI c)++(YQ j++Z)).head?=some d→isD d=true:=by
     intro d hd;have hn:¬ (YI c).num<0:=fun h2=>Jic c (neg_num.2 h2);have hz:Yl (YI c).num=Yf (YI c).num.natAbs:=by unfold Yl;rw [if_neg hn]
     obtain ⟨d1,_,d3⟩:=Jaq (YI c).num.natAbs;have:∃ x t,J0 (YI c)=x::t∧isD x=true:=by
      cases hdn:Yf (YI c).num.natAbs with
      | nil=>exact absurd hdn d3
      | cons x t=>
       rw [hdn] at d1 hz;refine ⟨x,?_⟩;have hx:=List.all_eq_true.1 d1 x (List.mem_cons_self ..);unfold J0;rw [hz];split
       · exact ⟨t,rfl,hx⟩
       · exact ⟨t++47::Yl ((YI c).den:Int),rfl,hx⟩
     obtain ⟨x,t,e,hx⟩:=this;rw [e] at hd;cases hd;exact hx
    have hs:skB l I=I:=XS h (fun e=>absurd (hd0 _ e) (by decide));rw [hs,YX h,if_neg (by intro e;rw [beq_iff_eq] at e;exact absurd (hd0 _ e) (by decide))] at he;exact Jp8 (Jic c) h hpz he
 cases hd:Xx l I with
 | bad e p=>rw [hd] at hr;cases hr
 | ok c0 k0=>
  rw [hd] at hr;obtain ⟨e1,e2⟩:=hh c0 k0 hd;have hm:=Yp h;rw [←e2] at hm;have hs:skB l k0=k0:=XS hm (fun e=>(hpz _ e).2.2 rfl);simp only [hs] at hr;by_cases hj:j=0
  · have hp0:YQ j=[]:=by unfold YQ;rw [if_pos hj]
    rw [hp0,List.nil_append] at hm;rw [YX hm,if_neg (by intro e;rw [beq_iff_eq] at e;exact (hZ.head e).2.2.2.1 rfl)] at hr;cases hr;exact ⟨e1,hj.symm,by rw [hp0,e2];rfl⟩
  · have hx:(YQ j++Z).head?=some 120:=by
     unfold YQ;rw [if_neg hj];split <;> rfl
    rw [YX hm,hx,if_pos (by decide)] at hr;cases hp:YY l (k0+1) with
    | bad e p=>rw [hp] at hr;cases hr
    | ok n0 m0=>
     rw [hp] at hr;cases hr;obtain ⟨g1,g2⟩:=Jrp hj hm hZ hj8 hp;exact ⟨e1,g1,by rw [g2,e2];omega⟩
def Jar (ps:List Rat):Nat→List UInt8
 | 0=>[]
 | m+1=>(if cf ps m=0 then [] else Yt (cf ps m) m false)++Jar ps m
theorem Jnq (ps:List Rat):∀ m,m≤ps.length→J7 (ps.drop m) m≠[]→J7 ps 0=J7 (ps.drop m) m++Jar ps m:=by
 intro m;induction m with
 | zero=>intro _ _;rw [List.drop_zero,Jar,List.append_nil]
 | succ m ih=>
  intro hm hne;have hd:=Ja8 ps (by omega:m<ps.length);have he:(J7 (ps.drop (m+1)) (m+1)).isEmpty=false:=by
   cases h:J7 (ps.drop (m+1)) (m+1) with
   | nil=>exact absurd h hne
   | cons a t=>rfl
  rw [he] at hd;rw [Jar];by_cases hc:cf ps m=0
  · rw [if_pos hc] at hd ⊢;rw [ih (by omega) (by rw [hd];exact hne),hd,List.nil_append]
  · rw [if_neg hc] at hd ⊢;rw [ih (by omega) (by rw [hd];intro e;exact hne (List.append_eq_nil_iff.1 e).1),hd,List.append_assoc]
theorem Jhb (ps:List Rat):∀ m,(Jar ps m=[]∧∀ i,i<m→cf ps i=0)∨∃ j,j<m∧cf ps j≠0∧(∀ i,j<i→i<m→cf ps i=0)∧Jar ps m=Yt (cf ps j) j false++Jar ps j:=by
 intro m;induction m with
 | zero=>exact Or.inl ⟨rfl,fun i hi=>absurd hi (Nat.not_lt_zero _)⟩
 | succ m ih=>
  by_cases hc:cf ps m=0
  · rw [Jar,if_pos hc,List.nil_append];rcases ih with ⟨h1,h2⟩ | ⟨j,h1,h2,h3,h4⟩
    · exact Or.inl ⟨h1,fun i hi=>by by_cases e:i=m;{rw [e];exact hc};{exact h2 i (by omega)}⟩
    · exact Or.inr ⟨j,by omega,h2,fun i a b=>by by_cases e:i=m;{rw [e];exact hc};{exact h3 i a (by omega)},h4⟩
  · exact Or.inr ⟨m,by omega,hc,fun i a b=>by omega,by rw [Jar,if_neg hc]⟩
theorem Jdw (c:Rat):Jck c false=if c<0 then [45] else [43]:=by unfold Jck;split <;> rfl
theorem Jf2 (ps:List Rat) (m:Nat):Jjz (Jar ps m):=by
 rcases Jhb ps m with ⟨h,_⟩ | ⟨j,_,_,_,h⟩
 · exact Or.inl h
 · rw [h];unfold Yt;rw [Jdw];right
   split
   · exact ⟨_,Or.inr rfl⟩
   · exact ⟨_,Or.inl rfl⟩
theorem Jhc {l:List UInt8} {ps:List Rat}:∀ (f I j k:Nat) (b:Bool) (S S':List Rat),j≤8→cf ps j≠0→b=decide (cf ps j<0)→I≤l.length→l.drop I=YG (cf ps j) j++(YQ j++Jar ps j)→S.length=9→(∀ i,cf S i=if j<i then cf ps i else 0)→Xu l f b I S=.ok S' k→S'.length=9∧∀ i,cf S' i=cf ps i:=by
 intro f;induction f with
 | zero=>intro I j k b S S' _ _ _ _ _ _ _ h;cases h
 | succ f ih=>
  intro I j k b S S' hj8 hc hb hI hd hl hS h;cases ht:JN l I with
  | bad e p=>rw [Xy ht] at h;cases h
  | ok a k5=>
   obtain ⟨c',n⟩:=a;obtain ⟨rfl,rfl,hk5⟩:=Jp9 hd (Jf2 ps j) hj8 ht;have hlt:=Xv hI ht;have hm:l.drop k5=Jar ps n:=by
    rw [hk5,←Nat.add_assoc];exact Yp (Yp hd)
   rw [Jba ht] at h;obtain ⟨S1,hS1⟩:∃ S1,S.set n (if b then cf S n - YI (cf ps n) else cf S n+YI (cf ps n))=S1:=⟨_,rfl⟩;rw [hS1] at h;have hl1:S1.length=9:=by rw [←hS1,List.length_set];exact hl
   have h1:∀ i,cf S1 i=if n≤i then cf ps i else 0:=by
    intro i;rw [←hS1,Jau _ _ _ _ (by rw [hl];omega)];by_cases e:i=n
    · rw [if_pos e,e,show (if n≤n then cf ps n else 0)=cf ps n from if_pos (Nat.le_refl _),hS n,show (if n<n then cf ps n else 0)=0 from if_neg (Nat.lt_irrefl _)];by_cases hneg:cf ps n<0
      · rw [hb,decide_eq_true hneg,if_pos rfl,Jfn hneg];grind
      · rw [hb,decide_eq_false hneg,if_neg (by decide),Jfo hneg];grind
    · rw [if_neg e,hS i];by_cases e2:n<i
      · rw [if_pos e2,if_pos (by omega)]
      · rw [if_neg e2,if_neg (by omega)]
   have hs:skB l k5=k5:=XS hm (fun e=>((Jf2 ps n).head e).2.2.1 rfl);rw [hs,YX hm,YX hm] at h;rcases Jhb ps n with ⟨h2,h3⟩ | ⟨j',h2,h3,h4,h5⟩
   · rw [h2] at hm h;rw [if_neg (by decide),if_neg (by decide)] at h;have hke:k5=l.length:=by
      have:=congrArg List.length hm;rw [List.length_drop] at this;simp at this;omega
     rw [if_pos hke] at h;cases h;refine ⟨hl1,fun i=>?_⟩;rw [h1 i];by_cases e:n≤i
     · rw [if_pos e]
     · rw [if_neg e,h3 i (by omega)]
   · have h1':∀ i,cf S1 i=if j'<i then cf ps i else 0:=by
      intro i;rw [h1 i];by_cases e:n≤i
      · rw [if_pos e,if_pos (by omega)]
      · rw [if_neg e];by_cases e2:j'<i
        · rw [if_pos e2,h4 i e2 (by omega)]
        · rw [if_neg e2]
     have hk1:k5+1≤l.length:=by
      have e:=congrArg List.length hm;rw [List.length_drop,h5] at e;have:(Yt (cf ps j') j' false).length≠0:=fun e0=>Jfq _ _ _ (List.length_eq_zero_iff.1 e0);rw [List.length_append] at e;omega
     by_cases hneg:cf ps j'<0
     · have h6:Jar ps n=45::(YG (cf ps j') j'++(YQ j'++Jar ps j')):=by
        rw [h5];unfold Yt;rw [Jdw,if_pos hneg];simp
       rw [h6] at hm h;rw [if_neg (by simp),if_pos (by simp)] at h;exact ih _ j' _ _ _ _ (by omega) h3 (by rw [decide_eq_true hneg]) hk1 (Yp (A:=[45]) hm) hl1 h1' h
     · have h6:Jar ps n=43::(YG (cf ps j') j'++(YQ j'++Jar ps j')):=by
        rw [h5];unfold Yt;rw [Jdw,if_neg hneg];simp
       rw [h6] at hm h;rw [if_pos (by simp)] at h;exact ih _ j' _ _ _ _ (by omega) h3 (by rw [decide_eq_false hneg]) hk1 (Yp (A:=[43]) hm) hl1 h1' h
theorem Jj0 {l:List UInt8}:∀ (f:Nat) (b:Bool) (I:Nat) (S:List Rat) (e p:Nat),Xu l (f+1) b I S=.bad e p→I≤l.length→l.length - I<f+1→e≠0:=by
 intro f;induction f with
 | zero=>
  intro b I S e p h hI hf;cases ht:JN l I with
  | bad e' p'=>rw [Xy ht] at h;cases h;exact Jcf l I _ _ ht
  | ok a k5=>
   obtain ⟨c,n⟩:=a;have:=Xv hI ht;omega
 | succ f ih=>
  intro b I S e p h hI hf;cases ht:JN l I with
  | bad e' p'=>rw [Xy ht] at h;cases h;exact Jcf l I _ _ ht
  | ok a k5=>
   obtain ⟨c,n⟩:=a;have h1:=Xv hI ht;have h3:=X6 l k5;rw [Jba ht] at h;split at h
   · rename_i h5;have:=JQ h5;exact ih _ _ _ _ _ h (by omega) (by omega)
   · split at h
     · rename_i h5;have:=JQ h5;exact ih _ _ _ _ _ h (by omega) (by omega)
     · split at h
       · cases h
       · cases h;decide
theorem Jk6 (c:Rat) (j:Nat) (Z:List UInt8) (d:UInt8) (h:(YG c j++(YQ j++Z)).head?=some d):d≠32∧d≠45:=by
 unfold YG at h;split at h
 · rename_i hc;unfold YQ at h;rw [if_neg (by omega)] at h;split at h <;> (cases h;decide)
 · have hn:¬ (YI c).num<0:=fun h2=>Jic c (neg_num.2 h2);have hz:Yl (YI c).num=Yf (YI c).num.natAbs:=by unfold Yl;rw [if_neg hn]
   obtain ⟨d1,_,d3⟩:=Jaq (YI c).num.natAbs;cases hdn:Yf (YI c).num.natAbs with
   | nil=>exact absurd hdn d3
   | cons x t=>
    rw [hdn] at d1 hz;have hx:=List.all_eq_true.1 d1 x (List.mem_cons_self ..);have hxd:x=d:=by
     unfold J0 at h;rw [hz] at h;split at h <;> (cases h;rfl)
    rw [←hxd];exact ⟨Jp7 hx (by decide),Jp7 hx (by decide)⟩
theorem Jj1 {ps:List Rat} (htr:Jr ps=ps) (hl:ps.length≤9) (h:(Js (YH ps)).2.1=0):(Js (YH ps)).1=ps:=by
 have hlen:¬ 300<(YH ps).length:=by
  intro h2;unfold Js at h;rw [if_pos h2] at h;cases h
 rcases List.eq_nil_or_concat ps with hn | ⟨qs,c,hps⟩
 · rw [hn,show YH []=[48] from by decide,show Js [48]=([],0,0) by decide +kernel]
 rw [List.concat_eq_append] at hps;rw [Jan hlen] at h ⊢;cases ht:YU (YH ps) with
 | bad e p=>
  rw [ht] at h;have hp:e≠0:=by
   intro e0;unfold YU at ht;have h4:=J8 (l:=YH ps) (i:=0) (by omega);split at ht
   · rename_i h5;have:=JQ h5;exact Jj0 _ _ _ _ _ _ ht (by omega) (by omega) e0
   · exact Jj0 _ _ _ _ _ _ ht h4 (by omega) e0
  exact absurd h hp
 | ok S k=>
  show Jr S=ps;have hd:ps.length=qs.length+1:=by rw [hps];simp
  have hcf:cf ps qs.length=c:=by rw [hps];simp [cf]
  have hc:c≠0:=by
   intro h0;have h1:Jr ps=Jr qs:=Yy fun i=>by
    by_cases hi:i<qs.length
    · rw [hps];simp [cf,List.getElem?_append_left hi]
    · rw [XG (p:=qs) (by omega)];by_cases hi2:i=qs.length
      · rw [hi2,hcf,h0]
      · rw [XG (by omega)]
   have h2:=JE qs;rw [←h1,htr] at h2;omega
  clear hps;have hT:J7 (ps.drop qs.length) qs.length=Yt c qs.length true:=by
   rw [Ja8 ps (by omega),hcf,if_neg hc,List.drop_of_length_le (by omega)];simp [J7]
  have hne:J7 (ps.drop qs.length) qs.length≠[]:=by rw [hT];exact Jfq _ _ _
  have hlow:=Jnq ps qs.length (by omega) hne;have htx:YH ps=Yt c qs.length true++Jar ps qs.length:=by
   unfold YH;rw [hlow,hT,if_neg (by intro e;exact Jfq _ _ _ (List.append_eq_nil_iff.1 e).1)]
  have hS0:∀ i,cf (List.replicate 9 0) i=if qs.length<i then cf ps i else 0:=fun i=>by
   rw [Yw];split
   · rw [XG (by omega)]
   · rfl
  unfold YU at ht;by_cases hneg:c<0
  · have hx:(YH ps).drop 0=45::(YG c qs.length++(YQ qs.length++Jar ps qs.length)):=by
     rw [List.drop_zero,htx];unfold Yt Jck;rw [if_pos hneg];simp
    have hs:skB (YH ps) 0=0:=XS hx (by simp);rw [hs,YX hx,if_pos (by simp)] at ht;have h1:0+1≤(YH ps).length:=by
     have e:=congrArg List.length hx;rw [List.drop_zero,List.length_cons] at e;omega
    have:=Jhc (ps:=ps) _ _ qs.length _ _ _ _ (by omega) (by rw [hcf];exact hc) (by rw [hcf,decide_eq_true hneg]) h1 (by rw [hcf];exact Yp (A:=[45]) hx) rfl hS0 ht;rw [←htr];exact Yy this.2
  · have hx:(YH ps).drop 0=YG c qs.length++(YQ qs.length++Jar ps qs.length):=by
     rw [List.drop_zero,htx];unfold Yt Jck;rw [if_neg hneg];simp
    have hh:=Jk6 c qs.length (Jar ps qs.length);have hs:skB (YH ps) 0=0:=XS hx (fun e=>(hh _ e).1 rfl);rw [hs,YX hx,if_neg (by intro e;rw [beq_iff_eq] at e;exact (hh _ e).2 rfl)] at ht;have:=Jhc (ps:=ps) _ _ qs.length _ _ _ _ (by omega) (by rw [hcf];exact hc) (by rw [hcf,decide_eq_false hneg]) (Nat.zero_le _) (by rw [hcf];exact hx) rfl hS0 ht;rw [←htr];exact Yy this.2
end Go.Proofs.YtcahejkcdcjjgaaGreatDoor
namespace Go.Proofs.YtcahejkcdcjjgaaGreatDoor
open Go.RowKit Go.Shelf
attribute [local go_sem] Oper.semAt_some
theorem Jj2 (l:List UInt8):Jr (Js l).1=(Js l).1:=by
 by_cases h:300<l.length
 · rw [show Js l=([],1,0) by unfold Js;rw [if_pos h]];rfl
 · rw [Jan h];cases YU l with
   | bad e p=>rfl
   | ok S k=>exact Jl3 _
theorem _root_.Go.Proofs.YtcahejkcdcjjgaaGreatDoor.RowK.isPoly {V:World} {a:Option Addr} {l c:Nat} {ps:List Rat} (h:RowK true V (.slice a l c) ps):Yi V (.agg #[.slice a l c]) ps:=⟨_,rfl,h⟩
def Abv (V0 V:World):Prop:=Below V0.heap.size V0 V
theorem Abv.below {V0 V V':World} (h:Abv V0 V) (hb:Below V.heap.size V V'):Abv V0 V':=Below.then h hb
theorem Abv.drew (V:World):Abv V V.drew:=(Below.refl _ V).drew
theorem Jk7 (s:ByteArray) (hs:s.size≤140737488351232) (w:World) (htab:Jg2 w) :
 Calls Tryz.prog 8 #[.string s] w fun r w'=>r=.returned (.bool true)∧Below w.heap.size w w':=by
 have hmx:Tryz.prog.follows .mixedOrders=true:=by kernel_rfl
 have HT:=Ja htab;have hsm:=Jib (Jc s);have htr:=Jj2 (Jc s);obtain ⟨ps,hps⟩:∃ ps,(Js (Jc s)).1=ps:=⟨_,rfl⟩;obtain ⟨E,hE⟩:∃ E:Nat,(Js (Jc s)).2.1=E:=⟨_,rfl⟩;have HC:=Ja (fun (V:World)=>Jfz s V);have HD:=Ja (fun (V:World)=>Jjm s hs V);unfold Jju at HC;unfold Xk at HD;rw [hps,hE] at HC HD;rw [hps] at hsm htr;have hQ:Sqs ps:=Sqs.of fun i=>Sq.of (hsm.2 i) (by omega);have HQ:=Ja hQ;have HTL:=Ja (fun m=>Jjv hQ (by omega) m);obtain ⟨T1,hT1⟩:∃ S:ByteArray,⟨(YH ps).toArray⟩=S:=⟨_,rfl⟩;have hwT:Jc T1=YH ps:=by rw [←hT1];simp [Jc]
 have hzT:T1.size≤140737488351232:=by
  rw [←Jg,hwT];have:=Jno hsm.2 (by unfold B64;omega);have h2:ps.length*(40*601+40)≤9*(40*601+40):=Nat.mul_le_mul_right _ hsm.1;omega
 have HT1:=Ja hT1;have HBK:=Ja (fun h=>Jj1 htr hsm.1 h);obtain ⟨qs,hqs⟩:∃ qs,(Js (Jc T1)).1=qs:=⟨_,rfl⟩;obtain ⟨G,hG⟩:∃ G:Nat,(Js (Jc T1)).2.1=G:=⟨_,rfl⟩;have HC2:=Ja (fun (V:World)=>Jfz T1 V);have HD2:=Ja (fun (V:World)=>Jjm T1 hzT V);unfold Jju at HC2;unfold Xk at HD2;rw [hqs,hG] at HC2 HD2;rw [←hwT,hqs,hG] at HBK;have hGc:(G:Int)=0∨(G:Int)≠0:=by omega
 obtain ⟨n,hn⟩:∃ n,ps.length=n:=⟨_,rfl⟩;have HN:=Ja hn;have M:=Ja (Below.refl w.heap.size w);clear htab hps hE hsm htr hQ hn hT1 hs hwT hzT hqs hG;go_enter Tryz.func8,Tryz.ntmps8
 go_upto_region 2 with (go_at_call 9;refine (HC.out _).mono ?_;clear HC;rintro e w1 ⟨u,e1,p1,rfl,⟨rfl,_,hu⟩,hb⟩;obtain ⟨a1,l1,c1,rfl⟩:=hu.form)
 replace M:=Ja (M.out.trans (hb.mono M.out.size));have hA:Below w1.heap.size w1 (w1.alloc (.cells #[.slice a1 l1 c1] 25)):=(Below.refl _ w1).alloc (Nat.le_refl _) _;have nP:=Boxed.new w1 25 (.slice a1 l1 c1);have rP:=hu.row.below hA;replace M:=Ja (M.out.trans (hA.mono M.out.size));clear hA;obtain ⟨VP,hV⟩:∃ V,w1.alloc (.cells #[.slice a1 l1 c1] 25)=V:=⟨_,rfl⟩;obtain ⟨BP,hB⟩:∃ B,w1.heap.size=B:=⟨_,rfl⟩;rw [hV] at rP M;rw [hV,hB] at nP;rw [hV];rw [hB];clear hV hB;clear hu hb;go_upto_region 3 with (go_at_call 10;refine (HD.out _).mono ?_;clear HD;rintro e w2 ⟨u2,e2,p2,rfl,⟨rfl,_,_,_,_⟩,hb⟩)
 replace nP:=nP.bel hb;replace rP:=rP.below hb;replace M:=Ja (M.out.trans (hb.mono M.out.size));clear hb;have H1:=Ja (fun (V:World) (h:Below w2.heap.size w2 V)=>Jh7 _ ps V (rP.below h).isPoly HQ.out HTL.out (Yg HT.out (M.out.trans (h.mono M.out.size))));rw [HT1.out] at H1;have hq:Below w2.heap.size w2 w2:=Below.refl _ _;have eP:=(nP.bel hq).cell;go_upto_region 4 with (go_at_call 13;refine (H1.out _ hq).mono ?_;clear H1;rintro e w3 ⟨rfl,hb⟩)
 replace hb:=Below.then hq hb
 clear hq eP;replace nP:=nP.bel hb;replace rP:=rP.below hb;replace M:=Ja (M.out.trans (hb.mono M.out.size));clear hb;go_upto_region 5 with (go_at_call 9;refine (HC2.out _).mono ?_;clear HC2;rintro e w4 ⟨u,e4,p4,rfl,⟨rfl,_,hu⟩,hb⟩;obtain ⟨a4,l4,c4,rfl⟩:=hu.form)
 replace nP:=nP.bel hb;replace rP:=rP.below hb;replace M:=Ja (M.out.trans (hb.mono M.out.size));clear hb;have hA:Below w4.heap.size w4 (w4.alloc (.cells #[.slice a4 l4 c4] 25)):=(Below.refl _ w4).alloc (Nat.le_refl _) _;have nQ:=Boxed.new w4 25 (.slice a4 l4 c4);have rQ:=hu.row.below hA;replace nP:=nP.bel hA;replace rP:=rP.below hA;replace M:=Ja (M.out.trans (hA.mono M.out.size));clear hA;obtain ⟨VQ,hV⟩:∃ V,w4.alloc (.cells #[.slice a4 l4 c4] 25)=V:=⟨_,rfl⟩;obtain ⟨BQ,hB⟩:∃ B,w4.heap.size=B:=⟨_,rfl⟩;rw [hV] at nP rP rQ M;rw [hV,hB] at nQ;rw [hV];rw [hB];clear hV hB;clear hu;go_upto_region 6 with (go_at_call 10;refine (HD2.out _).mono ?_;clear HD2;rintro e w5 ⟨u5,e5,p5,rfl,⟨rfl,_,_,_,_⟩,hb⟩)
 replace nP:=nP.bel hb;replace rP:=rP.below hb;replace nQ:=nQ.bel hb;replace rQ:=rQ.below hb;replace M:=Ja (M.out.trans (hb.mono M.out.size));clear hb;have HE:=Ja (fun (V:World) (e:Int)=>Jp5 e V);have hq:Below w5.heap.size w5 w5:=Below.refl _ _;go_upto_region 8 with (go_at_call 12;refine (HE.out _ _).mono ?_;rintro e x ⟨rfl,hb⟩;replace hq:=Below.then hq hb;clear hb)
 clear HE;replace nP:=nP.bel hq;replace rP:=rP.below hq;replace nQ:=nQ.bel hq;replace rQ:=rQ.below hq;replace M:=Ja (M.out.trans (hq.mono M.out.size));clear hq;have ST0:Abv x x.drew:=Abv.drew x;have H10:=Ja (fun (V:World) (h:Below x.heap.size x V)=>Jp6 V (Yg HT.out (M.out.trans (h.mono M.out.size))));rcases hGc with h0 | h0
 · have HQE:=Ja (HBK.out (by omega));rw [HQE.out] at rQ;rw [h0];clear h0 HBK HQE;have H2:=Ja (fun (V:World) (h:Below x.heap.size x V)=>Jh7 _ ps V (rQ.below h).isPoly HQ.out HTL.out (Yg HT.out (M.out.trans (h.mono M.out.size))));rw [HT1.out] at H2;have H3:=Ja (fun (V:World) (h:Below x.heap.size x V)=>Jdt _ ps V (rQ.below h).isPoly);rw [HN.out] at H3;have H4:=Ja (fun (V:World) (h:Below x.heap.size x V)=>Jdt _ ps V (rP.below h).isPoly);rw [HN.out] at H4;refine Jq hmx [[],[0],[1],[2],[3,2,2],[2],[4,5,2],[6,4,2],[7],[8,7,7],[7],[10,9,7],[9,11,7],[7,12,2],[2,13],[14,11],[15,15],[15,16],[17,16,0,1,2,3,4,5,6,7,8,9,10,11,12,13,14,15,16,17]] (by kernel_rfl) (by decide)
    (fun D act V=>∃ (t52x t53x t54x t55x t56x t57x t58x t59x t60x t61x t62x t63x t64x t65x t66x t67x t68x t69x t2x:Value),act={ tmps:=#[Value.string s,undef,t2x,.pointer (some ⟨BP,0,none⟩),Value.int IntKind.i64 ↑E,Value.int IntKind.i64 ↑(Js (Jc s)).snd.snd,u2,Value.int IntKind.i64 ↑E,Value.int IntKind.i64 ↑(Js (Jc s)).snd.snd,Value.string T1,.pointer (some ⟨BQ,0,none⟩),Value.int IntKind.i64 0,Value.int IntKind.i64 ↑(Js (Jc T1)).snd.snd,u5,Value.int IntKind.i64 0,Value.int IntKind.i64 ↑(Js (Jc T1)).snd.snd,Value.tuple #[Value.agg #[Value.slice a1 l1 c1],Value.int IntKind.i64 ↑E,Value.int IntKind.i64 ↑(Js (Jc s)).snd.snd],Value.string s,Value.tuple #[Value.agg #[Value.slice a1 l1 c1],Value.int IntKind.i64 ↑E,Value.int IntKind.i64 ↑(Js (Jc s)).snd.snd],Value.agg #[Value.slice a1 l1 c1],Value.int IntKind.i64 ↑E,Value.int IntKind.i64 ↑(Js (Jc s)).snd.snd,Value.tuple #[u2,Value.int IntKind.i64 ↑E,Value.int IntKind.i64 ↑(Js (Jc s)).snd.snd],Value.string s,Value.tuple #[u2,Value.int IntKind.i64 ↑E,Value.int IntKind.i64 ↑(Js (Jc s)).snd.snd],u2,Value.int IntKind.i64 ↑E,Value.int IntKind.i64 ↑(Js (Jc s)).snd.snd,Value.agg #[Value.slice a1 l1 c1],Value.string T1,Value.tuple #[Value.agg #[Value.slice a4 l4 c4],Value.int IntKind.i64 0,Value.int IntKind.i64 ↑(Js (Jc T1)).snd.snd],Value.string T1,Value.tuple #[Value.agg #[Value.slice a4 l4 c4],Value.int IntKind.i64 0,Value.int IntKind.i64 ↑(Js (Jc T1)).snd.snd],Value.agg #[Value.slice a4 l4 c4],Value.int IntKind.i64 0,Value.int IntKind.i64 ↑(Js (Jc T1)).snd.snd,Value.tuple #[u5,Value.int IntKind.i64 0,Value.int IntKind.i64 ↑(Js (Jc T1)).snd.snd],Value.string T1,Value.tuple #[u5,Value.int IntKind.i64 0,Value.int IntKind.i64 ↑(Js (Jc T1)).snd.snd],u5,Value.int IntKind.i64 0,Value.int IntKind.i64 ↑(Js (Jc T1)).snd.snd,Value.int IntKind.i64 ↑E,Value.int IntKind.i64 ↑E,Value.int IntKind.i64 ↑E,Value.bool false,Value.bool false,Value.int IntKind.i64 0,Value.int IntKind.i64 0,Value.int IntKind.i64 0,Value.bool false,Value.bool false,t52x,t53x,t54x,t55x,t56x,t57x,t58x,t59x,t60x,t61x,t62x,t63x,t64x,t65x,t66x,t67x,t68x,t69x],defers:=[] }∧Hid ((D 0=true→t52x=.int .i64 0)∧(D 1=true→t53x=.bool false)∧(D 2=true→t54x=.bool false)∧(D 3=true→t55x=.agg #[.slice a4 l4 c4])∧(D 4=true→t56x=.string T1)∧(D 5=true→t57x=.string T1)∧(D 6=true→t58x=.bool true)∧(D 7=true→t59x=.bool true)∧(D 8=true→t60x=.agg #[.slice a4 l4 c4])∧(D 9=true→t61x=.int .i64 ((n:Int) - 1))∧(D 10=true→t62x=.agg #[.slice a1 l1 c1])∧(D 11=true→t63x=.int .i64 ((n:Int) - 1))∧(D 12=true→t64x=.bool true)∧(D 13=true→t65x=.bool true)∧(D 14=true→t66x=.bool true)∧(D 15=true→t67x=.bool true)∧(D 16=true→t68x=.bool true)∧(D 17=true→t69x=.bool true)∧(D 18=true→t2x=.bool true))∧Hid (Abv x V))
    ⟨_,_,_,_,_,_,_,_,_,_,_,_,_,_,_,_,_,_,_,rfl,Ja ⟨by simp,by simp,by simp,by simp,by simp,by simp,by simp,by simp,by simp,by simp,by simp,by simp,by simp,by simp,by simp,by simp,by simp,by simp,by simp⟩,Ja ST0⟩ ?step1 ?fin1
   case step1=>
    rintro D act V i ds hcl hi hds hDi ⟨t52x,t53x,t54x,t55x,t56x,t57x,t58x,t59x,t60x,t61x,t62x,t63x,t64x,t65x,t66x,t67x,t68x,t69x,t2x,rfl,GG,SS0⟩;have hi6:i<19:=(List.getElem?_eq_some_iff.1 hi).1;obtain rfl | rfl | rfl | rfl | rfl | rfl | rfl | rfl | rfl | rfl | rfl | rfl | rfl | rfl | rfl | rfl | rfl | rfl | rfl:i=0∨i=1∨i=2∨i=3∨i=4∨i=5∨i=6∨i=7∨i=8∨i=9∨i=10∨i=11∨i=12∨i=13∨i=14∨i=15∨i=16∨i=17∨i=18:=by omega
    all_goals
     simp only [List.getElem?_cons_zero,List.getElem?_cons_succ,Option.some.injEq] at hi;subst hi
    · have hS0:=SS0.out;clear hds;refine Jd rfl rfl (fun K hK=>?_);go_simp;obtain ⟨_,G1,G2,G3,G4,G5,G6,G7,G8,G9,G10,G11,G12,G13,G14,G15,G16,G17,G18⟩:=GG.out;exact hK _ _ ⟨_,_,_,_,_,_,_,_,_,_,_,_,_,_,_,_,_,_,_,rfl,Ja ⟨fun _=>rfl,G1,G2,G3,G4,G5,G6,G7,G8,G9,G10,G11,G12,G13,G14,G15,G16,G17,G18⟩,Ja (SS0.out)⟩
    · have hS0:=SS0.out;obtain rfl:=GG.out.1 (hds 0 (by simp));clear hds;refine Jd rfl rfl (fun K hK=>?_);go_simp;obtain ⟨_,_,G2,G3,G4,G5,G6,G7,G8,G9,G10,G11,G12,G13,G14,G15,G16,G17,G18⟩:=GG.out;exact hK _ _ ⟨_,_,_,_,_,_,_,_,_,_,_,_,_,_,_,_,_,_,_,rfl,Ja ⟨fun _=>rfl,fun _=>rfl,G2,G3,G4,G5,G6,G7,G8,G9,G10,G11,G12,G13,G14,G15,G16,G17,G18⟩,Ja (SS0.out)⟩
    · have hS0:=SS0.out;obtain rfl:=GG.out.2.1 (hds 1 (by simp));clear hds;refine Jd rfl rfl (fun K hK=>?_);go_simp;obtain ⟨G0,_,_,G3,G4,G5,G6,G7,G8,G9,G10,G11,G12,G13,G14,G15,G16,G17,G18⟩:=GG.out;exact hK _ _ ⟨_,_,_,_,_,_,_,_,_,_,_,_,_,_,_,_,_,_,_,rfl,Ja ⟨G0,fun _=>rfl,fun _=>rfl,G3,G4,G5,G6,G7,G8,G9,G10,G11,G12,G13,G14,G15,G16,G17,G18⟩,Ja (SS0.out)⟩
    · have hS0:=SS0.out;obtain rfl:=GG.out.2.2.1 (hds 2 (by simp));have eQ:=(nQ.bel hS0).cell;clear hds;refine JF rfl rfl (fun K hK=>?_);go_simp;obtain ⟨G0,G1,_,_,G4,G5,G6,G7,G8,G9,G10,G11,G12,G13,G14,G15,G16,G17,G18⟩:=GG.out;exact hK _ _ ⟨_,_,_,_,_,_,_,_,_,_,_,_,_,_,_,_,_,_,_,rfl,Ja ⟨G0,G1,fun _=>rfl,fun _=>rfl,G4,G5,G6,G7,G8,G9,G10,G11,G12,G13,G14,G15,G16,G17,G18⟩,Ja (SS0.out)⟩
    · have hS0:=SS0.out;obtain rfl:=GG.out.2.2.2.1 (hds 3 (by simp));obtain rfl:=GG.out.2.2.1 (hds 2 (by simp));clear hds;have HC:=Ja (H2.out V hS0);refine JF rfl rfl (fun K hK=>?_);go_simp;go_wp2_with (go_at_call 13;refine HC.out.mono ?_;rintro e w5 ⟨rfl,hb5⟩)
      obtain ⟨G0,G1,_,_,_,G5,G6,G7,G8,G9,G10,G11,G12,G13,G14,G15,G16,G17,G18⟩:=GG.out;exact ⟨_,_,_,_,_,_,_,_,_,_,_,_,_,_,_,_,_,_,_,rfl,Ja ⟨G0,G1,fun _=>rfl,fun _=>rfl,fun _=>rfl,G5,G6,G7,G8,G9,G10,G11,G12,G13,G14,G15,G16,G17,G18⟩,Ja (SS0.out.below hb5)⟩
    · have hS0:=SS0.out;obtain rfl:=GG.out.2.2.1 (hds 2 (by simp));clear hds;refine JF rfl rfl (fun K hK=>?_);go_simp;obtain ⟨G0,G1,_,G3,G4,_,G6,G7,G8,G9,G10,G11,G12,G13,G14,G15,G16,G17,G18⟩:=GG.out;exact hK _ _ ⟨_,_,_,_,_,_,_,_,_,_,_,_,_,_,_,_,_,_,_,rfl,Ja ⟨G0,G1,fun _=>rfl,G3,G4,fun _=>rfl,G6,G7,G8,G9,G10,G11,G12,G13,G14,G15,G16,G17,G18⟩,Ja (SS0.out)⟩
    · have hS0:=SS0.out;obtain rfl:=GG.out.2.2.2.2.1 (hds 4 (by simp));obtain rfl:=GG.out.2.2.2.2.2.1 (hds 5 (by simp));obtain rfl:=GG.out.2.2.1 (hds 2 (by simp));clear hds;refine JF rfl rfl (fun K hK=>?_);go_simp;obtain ⟨G0,G1,_,G3,_,_,_,G7,G8,G9,G10,G11,G12,G13,G14,G15,G16,G17,G18⟩:=GG.out;exact hK _ _ ⟨_,_,_,_,_,_,_,_,_,_,_,_,_,_,_,_,_,_,_,rfl,Ja ⟨G0,G1,fun _=>rfl,G3,fun _=>rfl,fun _=>rfl,fun _=>rfl,G7,G8,G9,G10,G11,G12,G13,G14,G15,G16,G17,G18⟩,Ja (SS0.out)⟩
    · have hS0:=SS0.out;obtain rfl:=GG.out.2.2.2.2.2.2.1 (hds 6 (by simp));obtain rfl:=GG.out.2.2.1 (hds 2 (by simp));clear hds;refine JF rfl rfl (fun K hK=>?_);go_simp;obtain ⟨G0,G1,_,G3,G4,G5,_,_,G8,G9,G10,G11,G12,G13,G14,G15,G16,G17,G18⟩:=GG.out;exact hK _ _ ⟨_,_,_,_,_,_,_,_,_,_,_,_,_,_,_,_,_,_,_,rfl,Ja ⟨G0,G1,fun _=>rfl,G3,G4,G5,fun _=>rfl,fun _=>rfl,G8,G9,G10,G11,G12,G13,G14,G15,G16,G17,G18⟩,Ja (SS0.out)⟩
    · have hS0:=SS0.out;obtain rfl:=GG.out.2.2.2.2.2.2.2.1 (hds 7 (by simp));have eQ:=(nQ.bel hS0).cell;clear hds;refine JF rfl rfl (fun K hK=>?_);go_simp;obtain ⟨G0,G1,G2,G3,G4,G5,G6,_,_,G9,G10,G11,G12,G13,G14,G15,G16,G17,G18⟩:=GG.out;exact hK _ _ ⟨_,_,_,_,_,_,_,_,_,_,_,_,_,_,_,_,_,_,_,rfl,Ja ⟨G0,G1,G2,G3,G4,G5,G6,fun _=>rfl,fun _=>rfl,G9,G10,G11,G12,G13,G14,G15,G16,G17,G18⟩,Ja (SS0.out)⟩
    · have hS0:=SS0.out;obtain rfl:=GG.out.2.2.2.2.2.2.2.2.1 (hds 8 (by simp));obtain rfl:=GG.out.2.2.2.2.2.2.2.1 (hds 7 (by simp));clear hds;have HC:=Ja (H3.out V hS0);refine JF rfl rfl (fun K hK=>?_);go_simp;go_wp2_with (go_at_call 15;refine HC.out.mono ?_;rintro e w5 ⟨rfl,hb5⟩)
      obtain ⟨G0,G1,G2,G3,G4,G5,G6,_,_,_,G10,G11,G12,G13,G14,G15,G16,G17,G18⟩:=GG.out;exact ⟨_,_,_,_,_,_,_,_,_,_,_,_,_,_,_,_,_,_,_,rfl,Ja ⟨G0,G1,G2,G3,G4,G5,G6,fun _=>rfl,fun _=>rfl,fun _=>rfl,G10,G11,G12,G13,G14,G15,G16,G17,G18⟩,Ja (SS0.out.below hb5)⟩
    · have hS0:=SS0.out;obtain rfl:=GG.out.2.2.2.2.2.2.2.1 (hds 7 (by simp));have eP:=(nP.bel hS0).cell;clear hds;refine JF rfl rfl (fun K hK=>?_);go_simp;obtain ⟨G0,G1,G2,G3,G4,G5,G6,_,G8,G9,_,G11,G12,G13,G14,G15,G16,G17,G18⟩:=GG.out;exact hK _ _ ⟨_,_,_,_,_,_,_,_,_,_,_,_,_,_,_,_,_,_,_,rfl,Ja ⟨G0,G1,G2,G3,G4,G5,G6,fun _=>rfl,G8,G9,fun _=>rfl,G11,G12,G13,G14,G15,G16,G17,G18⟩,Ja (SS0.out)⟩
    · have hS0:=SS0.out;obtain rfl:=GG.out.2.2.2.2.2.2.2.2.2.2.1 (hds 10 (by simp));obtain rfl:=GG.out.2.2.2.2.2.2.2.1 (hds 7 (by simp));clear hds;have HC:=Ja (H4.out V hS0);refine JF rfl rfl (fun K hK=>?_);go_simp;go_wp2_with (go_at_call 15;refine HC.out.mono ?_;rintro e w5 ⟨rfl,hb5⟩)
      obtain ⟨G0,G1,G2,G3,G4,G5,G6,_,G8,G9,_,_,G12,G13,G14,G15,G16,G17,G18⟩:=GG.out;exact ⟨_,_,_,_,_,_,_,_,_,_,_,_,_,_,_,_,_,_,_,rfl,Ja ⟨G0,G1,G2,G3,G4,G5,G6,fun _=>rfl,G8,G9,fun _=>rfl,fun _=>rfl,G12,G13,G14,G15,G16,G17,G18⟩,Ja (SS0.out.below hb5)⟩
    · have hS0:=SS0.out;obtain rfl:=GG.out.2.2.2.2.2.2.2.2.2.1 (hds 9 (by simp));obtain rfl:=GG.out.2.2.2.2.2.2.2.2.2.2.2.1 (hds 11 (by simp));obtain rfl:=GG.out.2.2.2.2.2.2.2.1 (hds 7 (by simp));clear hds;refine JF rfl rfl (fun K hK=>?_);go_simp;obtain ⟨G0,G1,G2,G3,G4,G5,G6,_,G8,_,G10,_,_,G13,G14,G15,G16,G17,G18⟩:=GG.out;exact hK _ _ ⟨_,_,_,_,_,_,_,_,_,_,_,_,_,_,_,_,_,_,_,rfl,Ja ⟨G0,G1,G2,G3,G4,G5,G6,fun _=>rfl,G8,fun _=>rfl,G10,fun _=>rfl,fun _=>rfl,G13,G14,G15,G16,G17,G18⟩,Ja (SS0.out)⟩
    · have hS0:=SS0.out;obtain rfl:=GG.out.2.2.2.2.2.2.2.1 (hds 7 (by simp));obtain rfl:=GG.out.2.2.2.2.2.2.2.2.2.2.2.2.1 (hds 12 (by simp));obtain rfl:=GG.out.2.2.1 (hds 2 (by simp));clear hds;refine JF rfl rfl (fun K hK=>?_);go_simp;obtain ⟨G0,G1,_,G3,G4,G5,G6,_,G8,G9,G10,G11,_,_,G14,G15,G16,G17,G18⟩:=GG.out;exact hK _ _ ⟨_,_,_,_,_,_,_,_,_,_,_,_,_,_,_,_,_,_,_,rfl,Ja ⟨G0,G1,fun _=>rfl,G3,G4,G5,G6,fun _=>rfl,G8,G9,G10,G11,fun _=>rfl,fun _=>rfl,G14,G15,G16,G17,G18⟩,Ja (SS0.out)⟩
    · have hS0:=SS0.out;obtain rfl:=GG.out.2.2.1 (hds 2 (by simp));obtain rfl:=GG.out.2.2.2.2.2.2.2.2.2.2.2.2.2.1 (hds 13 (by simp));clear hds;refine Jd rfl rfl (fun K hK=>?_);go_simp;obtain ⟨G0,G1,_,G3,G4,G5,G6,G7,G8,G9,G10,G11,G12,_,_,G15,G16,G17,G18⟩:=GG.out;exact hK _ _ ⟨_,_,_,_,_,_,_,_,_,_,_,_,_,_,_,_,_,_,_,rfl,Ja ⟨G0,G1,fun _=>rfl,G3,G4,G5,G6,G7,G8,G9,G10,G11,G12,fun _=>rfl,fun _=>rfl,G15,G16,G17,G18⟩,Ja (SS0.out)⟩
    · have hS0:=SS0.out;obtain rfl:=GG.out.2.2.2.2.2.2.2.2.2.2.2.2.2.2.1 (hds 14 (by simp));clear hds;refine Jd rfl rfl (fun K hK=>?_);go_simp;obtain ⟨G0,G1,G2,G3,G4,G5,G6,G7,G8,G9,G10,G11,G12,G13,_,_,G16,G17,G18⟩:=GG.out;exact hK _ _ ⟨_,_,_,_,_,_,_,_,_,_,_,_,_,_,_,_,_,_,_,rfl,Ja ⟨G0,G1,G2,G3,G4,G5,G6,G7,G8,G9,G10,G11,G12,G13,fun _=>rfl,fun _=>rfl,G16,G17,G18⟩,Ja (SS0.out)⟩
    · have hS0:=SS0.out;obtain rfl:=GG.out.2.2.2.2.2.2.2.2.2.2.2.2.2.2.2.1 (hds 15 (by simp));clear hds;have HC:=Ja (H10.out V hS0);refine JF rfl rfl (fun K hK=>?_);go_simp;go_wp2_with (go_at_call 19;refine HC.out.mono ?_;rintro e w5 ⟨rfl,hb5⟩)
      obtain ⟨G0,G1,G2,G3,G4,G5,G6,G7,G8,G9,G10,G11,G12,G13,G14,_,_,G17,G18⟩:=GG.out;exact ⟨_,_,_,_,_,_,_,_,_,_,_,_,_,_,_,_,_,_,_,rfl,Ja ⟨G0,G1,G2,G3,G4,G5,G6,G7,G8,G9,G10,G11,G12,G13,G14,fun _=>rfl,fun _=>rfl,G17,G18⟩,Ja (SS0.out.below hb5)⟩
    · have hS0:=SS0.out;obtain rfl:=GG.out.2.2.2.2.2.2.2.2.2.2.2.2.2.2.2.1 (hds 15 (by simp));obtain rfl:=GG.out.2.2.2.2.2.2.2.2.2.2.2.2.2.2.2.2.1 (hds 16 (by simp));clear hds;refine Jd rfl rfl (fun K hK=>?_);go_simp;obtain ⟨G0,G1,G2,G3,G4,G5,G6,G7,G8,G9,G10,G11,G12,G13,G14,_,_,_,G18⟩:=GG.out;exact hK _ _ ⟨_,_,_,_,_,_,_,_,_,_,_,_,_,_,_,_,_,_,_,rfl,Ja ⟨G0,G1,G2,G3,G4,G5,G6,G7,G8,G9,G10,G11,G12,G13,G14,fun _=>rfl,fun _=>rfl,fun _=>rfl,G18⟩,Ja (SS0.out)⟩
    · have hS0:=SS0.out;obtain rfl:=GG.out.2.2.2.2.2.2.2.2.2.2.2.2.2.2.2.2.2.1 (hds 17 (by simp));clear hds;refine Jd rfl rfl (fun K hK=>?_);go_simp;obtain ⟨G0,G1,G2,G3,G4,G5,G6,G7,G8,G9,G10,G11,G12,G13,G14,G15,G16,_,_⟩:=GG.out;exact hK _ _ ⟨_,_,_,_,_,_,_,_,_,_,_,_,_,_,_,_,_,_,_,rfl,Ja ⟨G0,G1,G2,G3,G4,G5,G6,G7,G8,G9,G10,G11,G12,G13,G14,G15,G16,fun _=>rfl,fun _=>rfl⟩,Ja (SS0.out)⟩
   case fin1=>
    rintro D act V hDD ⟨t52x,t53x,t54x,t55x,t56x,t57x,t58x,t59x,t60x,t61x,t62x,t63x,t64x,t65x,t66x,t67x,t68x,t69x,t2x,rfl,GG,SS0⟩;obtain rfl:=GG.out.2.2.2.2.2.2.2.2.2.2.2.2.2.2.2.2.2.2 (hDD 18 (by decide));have hq:=SS0.out;clear GG SS0 hDD;go_wp2_with fail
    go_ret;exact ⟨rfl,M.out.trans (Below.mono hq M.out.size)⟩
 · have h1:((G:Int) != 0)=true:=by simpa using h0
   clear h0 HBK;refine Jq hmx [[],[0],[1],[2],[3,2,2],[2],[4,5,2],[6,4,2],[7],[8,7,7],[7],[10,9,7],[9,11,7],[7,12,2],[2,13],[14,11],[15,15],[15,16],[17,16,0,1,2,3,4,5,6,7,8,9,10,11,12,13,14,15,16,17]] (by kernel_rfl) (by decide)
    (fun D act V=>∃ (t52x t53x t54x t66x t67x t68x t69x t2x:Value),act={ tmps:=#[Value.string s,undef,t2x,.pointer (some ⟨BP,0,none⟩),Value.int IntKind.i64 ↑E,Value.int IntKind.i64 ↑(Js (Jc s)).snd.snd,u2,Value.int IntKind.i64 ↑E,Value.int IntKind.i64 ↑(Js (Jc s)).snd.snd,Value.string T1,.pointer (some ⟨BQ,0,none⟩),Value.int IntKind.i64 ↑G,Value.int IntKind.i64 ↑(Js (Jc T1)).snd.snd,u5,Value.int IntKind.i64 ↑G,Value.int IntKind.i64 ↑(Js (Jc T1)).snd.snd,Value.tuple #[Value.agg #[Value.slice a1 l1 c1],Value.int IntKind.i64 ↑E,Value.int IntKind.i64 ↑(Js (Jc s)).snd.snd],Value.string s,Value.tuple #[Value.agg #[Value.slice a1 l1 c1],Value.int IntKind.i64 ↑E,Value.int IntKind.i64 ↑(Js (Jc s)).snd.snd],Value.agg #[Value.slice a1 l1 c1],Value.int IntKind.i64 ↑E,Value.int IntKind.i64 ↑(Js (Jc s)).snd.snd,Value.tuple #[u2,Value.int IntKind.i64 ↑E,Value.int IntKind.i64 ↑(Js (Jc s)).snd.snd],Value.string s,Value.tuple #[u2,Value.int IntKind.i64 ↑E,Value.int IntKind.i64 ↑(Js (Jc s)).snd.snd],u2,Value.int IntKind.i64 ↑E,Value.int IntKind.i64 ↑(Js (Jc s)).snd.snd,Value.agg #[Value.slice a1 l1 c1],Value.string T1,Value.tuple #[Value.agg #[Value.slice a4 l4 c4],Value.int IntKind.i64 ↑G,Value.int IntKind.i64 ↑(Js (Jc T1)).snd.snd],Value.string T1,Value.tuple #[Value.agg #[Value.slice a4 l4 c4],Value.int IntKind.i64 ↑G,Value.int IntKind.i64 ↑(Js (Jc T1)).snd.snd],Value.agg #[Value.slice a4 l4 c4],Value.int IntKind.i64 ↑G,Value.int IntKind.i64 ↑(Js (Jc T1)).snd.snd,Value.tuple #[u5,Value.int IntKind.i64 ↑G,Value.int IntKind.i64 ↑(Js (Jc T1)).snd.snd],Value.string T1,Value.tuple #[u5,Value.int IntKind.i64 ↑G,Value.int IntKind.i64 ↑(Js (Jc T1)).snd.snd],u5,Value.int IntKind.i64 ↑G,Value.int IntKind.i64 ↑(Js (Jc T1)).snd.snd,Value.int IntKind.i64 ↑E,Value.int IntKind.i64 ↑E,Value.int IntKind.i64 ↑E,Value.bool false,Value.bool false,Value.int IntKind.i64 ↑G,Value.int IntKind.i64 ↑G,Value.int IntKind.i64 ↑G,Value.bool false,Value.bool false,t52x,t53x,t54x,undef,undef,undef,undef,undef,undef,undef,undef,undef,undef,undef,t66x,t67x,t68x,t69x],defers:=[] }∧Hid ((D 0=true→t52x=.int .i64 (G:Int))∧(D 1=true→t53x=.bool true)∧(D 2=true→t54x=.bool true)∧(D 14=true→t66x=.bool true)∧(D 15=true→t67x=.bool true)∧(D 16=true→t68x=.bool true)∧(D 17=true→t69x=.bool true)∧(D 18=true→t2x=.bool true))∧Hid (Abv x V))
    ⟨_,_,_,_,_,_,_,_,rfl,Ja ⟨by simp,by simp,by simp,by simp,by simp,by simp,by simp,by simp⟩,Ja ST0⟩ ?step2 ?fin2
   case step2=>
    rintro D act V i ds hcl hi hds hDi ⟨t52x,t53x,t54x,t66x,t67x,t68x,t69x,t2x,rfl,GG,SS0⟩;have hi6:i<19:=(List.getElem?_eq_some_iff.1 hi).1;obtain rfl | rfl | rfl | rfl | rfl | rfl | rfl | rfl | rfl | rfl | rfl | rfl | rfl | rfl | rfl | rfl | rfl | rfl | rfl:i=0∨i=1∨i=2∨i=3∨i=4∨i=5∨i=6∨i=7∨i=8∨i=9∨i=10∨i=11∨i=12∨i=13∨i=14∨i=15∨i=16∨i=17∨i=18:=by omega
    all_goals
     simp only [List.getElem?_cons_zero,List.getElem?_cons_succ,Option.some.injEq] at hi;subst hi
    · have hS0:=SS0.out;clear hds;refine Jd rfl rfl (fun K hK=>?_);go_simp;obtain ⟨_,G1,G2,G3,G4,G5,G6,G7⟩:=GG.out;exact hK _ _ ⟨_,_,_,_,_,_,_,_,rfl,Ja ⟨fun _=>rfl,G1,G2,G3,G4,G5,G6,G7⟩,Ja (SS0.out)⟩
    · have hS0:=SS0.out;obtain rfl:=GG.out.1 (hds 0 (by simp));clear hds;refine Jd rfl rfl (fun K hK=>?_);go_simp;obtain ⟨_,_,G2,G3,G4,G5,G6,G7⟩:=GG.out;exact hK _ _ ⟨_,_,_,_,_,_,_,_,rfl,Ja ⟨fun _=>rfl,fun _=>rfl,G2,G3,G4,G5,G6,G7⟩,Ja (SS0.out)⟩
    · have hS0:=SS0.out;obtain rfl:=GG.out.2.1 (hds 1 (by simp));clear hds;refine Jd rfl rfl (fun K hK=>?_);go_simp;obtain ⟨G0,_,_,G3,G4,G5,G6,G7⟩:=GG.out;exact hK _ _ ⟨_,_,_,_,_,_,_,_,rfl,Ja ⟨G0,fun _=>rfl,fun _=>rfl,G3,G4,G5,G6,G7⟩,Ja (SS0.out)⟩
    · have hS0:=SS0.out;obtain rfl:=GG.out.2.2.1 (hds 2 (by simp));clear hds;refine JM rfl rfl ?_;obtain ⟨G0,G1,_,G3,G4,G5,G6,G7⟩:=GG.out;exact ⟨_,_,_,_,_,_,_,_,rfl,Ja ⟨G0,G1,fun _=>rfl,G3,G4,G5,G6,G7⟩,Ja (SS0.out)⟩
    · have hS0:=SS0.out;obtain rfl:=GG.out.2.2.1 (hds 2 (by simp));clear hds;refine JM rfl rfl ?_;obtain ⟨G0,G1,_,G3,G4,G5,G6,G7⟩:=GG.out;exact ⟨_,_,_,_,_,_,_,_,rfl,Ja ⟨G0,G1,fun _=>rfl,G3,G4,G5,G6,G7⟩,Ja (SS0.out)⟩
    · have hS0:=SS0.out;obtain rfl:=GG.out.2.2.1 (hds 2 (by simp));clear hds;refine JM rfl rfl ?_;obtain ⟨G0,G1,_,G3,G4,G5,G6,G7⟩:=GG.out;exact ⟨_,_,_,_,_,_,_,_,rfl,Ja ⟨G0,G1,fun _=>rfl,G3,G4,G5,G6,G7⟩,Ja (SS0.out)⟩
    · have hS0:=SS0.out;obtain rfl:=GG.out.2.2.1 (hds 2 (by simp));clear hds;refine JM rfl rfl ?_;obtain ⟨G0,G1,_,G3,G4,G5,G6,G7⟩:=GG.out;exact ⟨_,_,_,_,_,_,_,_,rfl,Ja ⟨G0,G1,fun _=>rfl,G3,G4,G5,G6,G7⟩,Ja (SS0.out)⟩
    · have hS0:=SS0.out;obtain rfl:=GG.out.2.2.1 (hds 2 (by simp));clear hds;refine JM rfl rfl ?_;obtain ⟨G0,G1,_,G3,G4,G5,G6,G7⟩:=GG.out;exact ⟨_,_,_,_,_,_,_,_,rfl,Ja ⟨G0,G1,fun _=>rfl,G3,G4,G5,G6,G7⟩,Ja (SS0.out)⟩
    · have hS0:=SS0.out;clear hds;refine JM rfl rfl ?_;obtain ⟨G0,G1,G2,G3,G4,G5,G6,G7⟩:=GG.out;exact ⟨_,_,_,_,_,_,_,_,rfl,Ja ⟨G0,G1,G2,G3,G4,G5,G6,G7⟩,Ja (SS0.out)⟩
    · have hS0:=SS0.out;clear hds;refine JM rfl rfl ?_;obtain ⟨G0,G1,G2,G3,G4,G5,G6,G7⟩:=GG.out;exact ⟨_,_,_,_,_,_,_,_,rfl,Ja ⟨G0,G1,G2,G3,G4,G5,G6,G7⟩,Ja (SS0.out)⟩
    · have hS0:=SS0.out;clear hds;refine JM rfl rfl ?_;obtain ⟨G0,G1,G2,G3,G4,G5,G6,G7⟩:=GG.out;exact ⟨_,_,_,_,_,_,_,_,rfl,Ja ⟨G0,G1,G2,G3,G4,G5,G6,G7⟩,Ja (SS0.out)⟩
    · have hS0:=SS0.out;clear hds;refine JM rfl rfl ?_;obtain ⟨G0,G1,G2,G3,G4,G5,G6,G7⟩:=GG.out;exact ⟨_,_,_,_,_,_,_,_,rfl,Ja ⟨G0,G1,G2,G3,G4,G5,G6,G7⟩,Ja (SS0.out)⟩
    · have hS0:=SS0.out;clear hds;refine JM rfl rfl ?_;obtain ⟨G0,G1,G2,G3,G4,G5,G6,G7⟩:=GG.out;exact ⟨_,_,_,_,_,_,_,_,rfl,Ja ⟨G0,G1,G2,G3,G4,G5,G6,G7⟩,Ja (SS0.out)⟩
    · have hS0:=SS0.out;obtain rfl:=GG.out.2.2.1 (hds 2 (by simp));clear hds;refine JM rfl rfl ?_;obtain ⟨G0,G1,_,G3,G4,G5,G6,G7⟩:=GG.out;exact ⟨_,_,_,_,_,_,_,_,rfl,Ja ⟨G0,G1,fun _=>rfl,G3,G4,G5,G6,G7⟩,Ja (SS0.out)⟩
    · have hS0:=SS0.out;obtain rfl:=GG.out.2.2.1 (hds 2 (by simp));clear hds;refine Jd rfl rfl (fun K hK=>?_);go_simp;obtain ⟨G0,G1,_,_,G4,G5,G6,G7⟩:=GG.out;exact hK _ _ ⟨_,_,_,_,_,_,_,_,rfl,Ja ⟨G0,G1,fun _=>rfl,fun _=>rfl,G4,G5,G6,G7⟩,Ja (SS0.out)⟩
    · have hS0:=SS0.out;obtain rfl:=GG.out.2.2.2.1 (hds 14 (by simp));clear hds;refine Jd rfl rfl (fun K hK=>?_);go_simp;obtain ⟨G0,G1,G2,_,_,G5,G6,G7⟩:=GG.out;exact hK _ _ ⟨_,_,_,_,_,_,_,_,rfl,Ja ⟨G0,G1,G2,fun _=>rfl,fun _=>rfl,G5,G6,G7⟩,Ja (SS0.out)⟩
    · have hS0:=SS0.out;obtain rfl:=GG.out.2.2.2.2.1 (hds 15 (by simp));clear hds;have HC:=Ja (H10.out V hS0);refine JF rfl rfl (fun K hK=>?_);go_simp;go_wp2_with (go_at_call 19;refine HC.out.mono ?_;rintro e w5 ⟨rfl,hb5⟩)
      obtain ⟨G0,G1,G2,G3,_,_,G6,G7⟩:=GG.out;exact ⟨_,_,_,_,_,_,_,_,rfl,Ja ⟨G0,G1,G2,G3,fun _=>rfl,fun _=>rfl,G6,G7⟩,Ja (SS0.out.below hb5)⟩
    · have hS0:=SS0.out;obtain rfl:=GG.out.2.2.2.2.1 (hds 15 (by simp));obtain rfl:=GG.out.2.2.2.2.2.1 (hds 16 (by simp));clear hds;refine Jd rfl rfl (fun K hK=>?_);go_simp;obtain ⟨G0,G1,G2,G3,_,_,_,G7⟩:=GG.out;exact hK _ _ ⟨_,_,_,_,_,_,_,_,rfl,Ja ⟨G0,G1,G2,G3,fun _=>rfl,fun _=>rfl,fun _=>rfl,G7⟩,Ja (SS0.out)⟩
    · have hS0:=SS0.out;obtain rfl:=GG.out.2.2.2.2.2.2.1 (hds 17 (by simp));clear hds;refine Jd rfl rfl (fun K hK=>?_);go_simp;obtain ⟨G0,G1,G2,G3,G4,G5,_,_⟩:=GG.out;exact hK _ _ ⟨_,_,_,_,_,_,_,_,rfl,Ja ⟨G0,G1,G2,G3,G4,G5,fun _=>rfl,fun _=>rfl⟩,Ja (SS0.out)⟩
   case fin2=>
    rintro D act V hDD ⟨t52x,t53x,t54x,t66x,t67x,t68x,t69x,t2x,rfl,GG,SS0⟩;obtain rfl:=GG.out.2.2.2.2.2.2.2 (hDD 18 (by decide));have hq:=SS0.out;clear GG SS0 hDD;go_wp2_with fail
    go_ret;exact ⟨rfl,M.out.trans (Below.mono hq M.out.size)⟩
end Go.Proofs.YtcahejkcdcjjgaaGreatDoor
