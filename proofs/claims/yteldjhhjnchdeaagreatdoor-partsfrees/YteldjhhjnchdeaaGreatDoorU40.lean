import Derived.Test.YteldjhhjnchdeaaGreatDoorU39
import Derived.Defers
import Derived.Recover
import Derived.Test.YteldjhhjnchdeaaGreatDoorU35
open Go.Value renaming int->C,slice->F,string->D,pointer->B
open Go.IntKind renaming i64->E
open Go.Obj renaming cells->G
set_option maxRecDepth 100000
set_option maxHeartbeats 16000000
namespace Go.Proofs.YteldjhhjnchdeaaGreatDoor
open Go.RowKit Go.Shelf
section
variable{cs:Array Value}{l:List UInt8}{m:Nat × Nat}{t:TypeId}{W W':World}
theorem dB(p q:Addr)(w:World):
 CallsD Tryz.prog 93 #[B (some p),B (some q)] .returning w λe d f=>e=.returned (.tuple #[])/\d=.returning/\f=w.alloc (G #[C E 0,C E 0] 97):=by
 have a:∀w:World,(Instr.typeAssert Value.nilIface 20 97 true).run Tryz.prog w=.ok (.tuple #[.agg #[C E 0,C E 0],.bool false]) w:=λ_=>by kernel_rfl
 refine callsD_of_wpS Tryz.func93 rfl λb cs c=>?_;apply wpS_seq;apply wpS_region;simp[wpOpsS,go_sem,recoverD,c,Tryz.ntmps93,Exit.thenS,a];apply wpS_seq;apply wpS_region;simp[wpOpsS,go_sem,Exit.thenS];refine wpS_cond (t:=false) (by simp[Act.eval,Array.replicate]) ?_;simp only[Ck,if_false];refine wpS_of_wp (wp_skip ?_);cases b;simp_all [bodyPostS,results,Tryz.results93]
theorem dC(p q:Nat)(a b:Int)(w:World)(i:Boxed w p 25 (F none 0 0))(j:Jm w q 97 (C E 0) (C E 0))(m:p≠q):
 CallsD Tryz.prog 93 #[B (some ⟨p,0,none⟩),B (some ⟨q,0,none⟩)] (.panicking [{ v:=Gq a b,recovered:=false }]) w λe M o=>e=.returned (.tuple #[])/\M=.panicking [{ v:=Gq a b,recovered:=true }]/\Boxed o p 25 (F none 0 0)/\Jm o q 97 (C E a) (C E b)/\∀n w0,Below n w0 w->n<=w.heap.size->n<=p->n<=q->Below n w0 o:=by
 unfold Gq;have r:∀w:World,(Instr.typeAssert (.iface 97 (.agg #[C E a,C E b])) 20 97 true).run Tryz.prog w=.ok (.tuple #[.agg #[C E a,C E b],.bool true]) w:=λ_=>by kernel_rfl
 refine callsD_of_wpS Tryz.func93 rfl λN cs z=>?_;apply wpS_seq;apply wpS_region;simp[wpOpsS,go_sem,recoverD,z,Tryz.ntmps93,Exit.thenS,r];apply wpS_seq;apply wpS_region;simp[wpOpsS,go_sem,Exit.thenS];refine wpS_cond (t:=true) (by simp[Act.eval,Array.replicate]) ?_;simp only[if_true];refine wpS_of_wp ?_;simp[Array.replicate];have f:=Jm.new w 97 (C E a) (C E b);have d:=i.alloc (G #[C E a,C E b] 97);have c:=j.alloc (G #[C E a,C E b] 97);have I:p≠w.heap.size:=by have:=i.lt;omega
 have K:q≠w.heap.size:=by have:=j.lt;omega
 have g:=O λ(n:Nat) (w0:World) (h:Below n w0 w) (l:n<=w.heap.size)=>h.alloc l (G #[C E a,C E b] 97);obtain⟨W,k⟩:=ex (w.alloc (G #[C E a,C E b] 97));rw[k]at f d c g;rw[k];obtain⟨D,hD⟩:=ex (w.heap.size);rw[hD]at f I K g;rw[hD];clear k i j r z;obtain⟨d0,d1⟩:=f.cp;have x0:=d.cell;have x1:=d.frozen;obtain⟨P,Q⟩:=c.cp;obtain⟨R,S⟩:=c.fp;have A:=O d;have H:=O c;clear d c f;go_region
 have u:Boxed (((W.setCell ⟨p,0,none⟩ (F none 0 0)).setCell ⟨q,0,none⟩ (C E a)).setCell ⟨q,1,none⟩ (C E b)).drew p 25 (F none 0 0):=
  (BC _ ⟨q,1,none⟩ (C E b) p m).trans ((BC _ ⟨q,0,none⟩ (C E a) p m).trans (A.o.set (F none 0 0)))
 have x:Jm (((W.setCell ⟨p,0,none⟩ (F none 0 0)).setCell ⟨q,0,none⟩ (C E a)).setCell ⟨q,1,none⟩ (C E b)).drew q 97 (C E a) (C E b):=
  (((H.o.far (p:=⟨p,0,none⟩) (λe=>m e.symm) _).set0 _).set1 _).drew
 have y:∀n w0,Below n w0 w->n<=D->n<=p->n<=q->Below n w0 (((W.setCell ⟨p,0,none⟩ (F none 0 0)).setCell ⟨q,0,none⟩ (C E a)).setCell ⟨q,1,none⟩ (C E b)).drew:=
  λn w0 h l L s=>((((g.o n w0 h l).setCell (p:=⟨p,0,none⟩) L _).setCell (p:=⟨q,0,none⟩) s _).setCell (p:=⟨q,1,none⟩) s _).drew
 generalize (((W.setCell ⟨p,0,none⟩ (F none 0 0)).setCell ⟨q,0,none⟩ (C E a)).setCell ⟨q,1,none⟩ (C E b)).drew=V at u x y ⊢;simp[bodyPostS,results,Tryz.results93];exact⟨u,x,y⟩
theorem dD(s:ByteArray)(g q0:Int)(w:World)(t:∀V R,Dc V R s 0->Calls Tryz.prog 94 #[B (some ⟨R,0,none⟩)] V λr l=>V.grownBy l (some R)/\r=.panicked [{ v:=Gq g q0,recovered:=false }]):
 Calls Tryz.prog 53 #[D s] w λr l=>r=.returned (.tuple #[.agg #[F none 0 0],.agg #[C E g,C E q0]])/\Bl w l:=by
 have p:=O t;clear t;go_enter_defers Tryz.func53,Tryz.ntmps53
 go_upto_region 3 with fail
 have b:=BM w 25 (F none 0 0);have a:=Jm.new (w.alloc (G #[F none 0 0] 25)) 97 (C E 0) (C E 0);have c:Dc (((w.alloc (G #[F none 0 0] 25)).alloc (G #[C E 0,C E 0] 97)).alloc (G #[D s,C E 0] 130)) ((w.alloc (G #[F none 0 0] 25)).alloc (G #[C E 0,C E 0] 97)).heap.size s 0:=BD _ _;rw[A1,A1]at c;rw[A1]at a;replace b:=(b.alloc (G #[C E 0,C E 0] 97)).alloc (G #[D s,C E 0] 130);replace a:=a.alloc (G #[D s,C E 0] 130);have j:Bl w (((w.alloc (G #[F none 0 0] 25)).alloc (G #[C E 0,C E 0] 97)).alloc (G #[D s,C E 0] 130)):=((Ba w _).alloc (by rw[A1];omega) _).alloc (by rw[A1,A1];omega) _;have x:(((w.alloc (G #[F none 0 0] 25)).alloc (G #[C E 0,C E 0] 97)).alloc (G #[D s,C E 0] 130)).heap.size=w.heap.size+1+1+1:=by rw[A1,A1,A1]
 obtain⟨V,i⟩:=ex (((w.alloc (G #[F none 0 0] 25)).alloc (G #[C E 0,C E 0] 97)).alloc (G #[D s,C E 0] 130));rw[i]at b a c j x;rw[i];obtain⟨y,n,o,z⟩:=D0 b a j (p.o _ _ c);clear b a c j i p x;go_wp2_with(go_at_call 94;refine z.o.mono ?_;rintro e m ⟨u,rfl⟩;have d:=O u;clear u)
 have H:Boxed m w.heap.size 25 (F none 0 0):=y.o.kept d.o (λe=>by have:=Cg e;omega);have A:Jm m (w.heap.size+1) 97 (C E 0) (C E 0):=(d.o.block _ n.o.lt λe=>by have:=Cg e;omega).trans n.o;have q:Bl w m:=o.o.grown d.o o.o.size (λk e=>by have:=Cg e;omega);refine leaves_cons (f:=93) (args:=#[B (some ⟨w.heap.size,0,none⟩),B (some ⟨w.heap.size+1,0,none⟩)]) Y (by simp[go_sem]) ?_;refine(dC w.heap.size (w.heap.size+1) g q0 _ H A J).mono ?_;rintro e Q S ⟨rfl,rfl,I,K,L⟩;have M:=L _ _ q q.size (Aa _) J;have x0:=I.cell;obtain⟨N,P⟩:=K.cp;simp[Leaves,settle,results,Tryz.results53,go_sem,x0,N,P];exact M
theorem dE{F:Nat}(hF:W.heap[F]?=some (G cs t m))(l:t=97)(j:W.grownBy W' (some F)):∀k v ds,Row k W v ds->Row k W' v ds:=by
 intro k v ds c;obtain⟨a,cap,e,_⟩:=id c;subst e;refine c.grown j λp d hl=>?_;obtain⟨b,off,f,n,o,i⟩:=c.typ hl;rw[f]at d;cases d;intro e;subst e;have:=i.symm.trans hF;simp only[Ah,Bu]at this;subst l;have g:=this.2.1;revert g;cases k<;>(show ¬(_=_);decide)
theorem R5{F:Nat}(hF:W.heap[F]?=some (G cs t m))(i:t=97)(g:W.grownBy W' (some F)){r:Bool}{v:Value}{qs:List Rat}(h:RowK r W v qs):RowK r W' v qs:=by
 obtain⟨a,cap,e,l,c,n,d⟩:=h;refine⟨a,cap,e,l,c,n,?_⟩;rcases d with d|⟨b,j,f⟩
 . exact Or.inl d
 . refine Or.inr ⟨b,j,f.keep (g.block b f.lt λe=>?_) (dE hF i g)⟩;obtain⟨o,k,_⟩:=f;have e:=Cg e;subst e;have:=k.symm.trans hF;simp only[Ah,Bu]at this;subst i;have c:=this.2.1;revert c;cases r<;>(show ¬(_=_);decide)
theorem dF(s:ByteArray)(ps:List Rat)(w:World)(hP:∀V R,Dc V R s 0->Calls Tryz.prog 94 #[B (some ⟨R,0,none⟩)] V λr i=>V.grownBy i (some R)/\∃u,r=.returned u/\Jf i u ps):
 Calls Tryz.prog 53 #[D s] w λr i=>∃u,r=.returned (.tuple #[u,.agg #[C E 0,C E 0]])/\Jf i u ps/\Bl w i:=by
 have Q:=O hP;clear hP;go_enter_defers Tryz.func53,Tryz.ntmps53
 go_upto_region 3 with fail
 have g:=BM w 25 (F none 0 0);have c:=Jm.new (w.alloc (G #[F none 0 0] 25)) 97 (C E 0) (C E 0);have m:Dc (((w.alloc (G #[F none 0 0] 25)).alloc (G #[C E 0,C E 0] 97)).alloc (G #[D s,C E 0] 130)) ((w.alloc (G #[F none 0 0] 25)).alloc (G #[C E 0,C E 0] 97)).heap.size s 0:=BD _ _;rw[A1,A1]at m;rw[A1]at c;replace g:=(g.alloc (G #[C E 0,C E 0] 97)).alloc (G #[D s,C E 0] 130);replace c:=c.alloc (G #[D s,C E 0] 130);have K:Bl w (((w.alloc (G #[F none 0 0] 25)).alloc (G #[C E 0,C E 0] 97)).alloc (G #[D s,C E 0] 130)):=((Ba w _).alloc (by rw[A1];omega) _).alloc (by rw[A1,A1];omega) _;have hz:(((w.alloc (G #[F none 0 0] 25)).alloc (G #[C E 0,C E 0] 97)).alloc (G #[D s,C E 0] 130)).heap.size=w.heap.size+1+1+1:=by rw[A1,A1,A1]
 obtain⟨V,I⟩:=ex (((w.alloc (G #[F none 0 0] 25)).alloc (G #[C E 0,C E 0] 97)).alloc (G #[D s,C E 0] 130));rw[I]at g c m K hz;rw[I];obtain⟨H0,M,P,HC⟩:=D0 g c K (Q.o _ _ m);clear g c m K I Q hz;go_wp2_with(go_at_call 94;refine HC.o.mono ?_;rintro e n ⟨ad,u1,rfl,L⟩;have o:=O ad;obtain⟨a,d,b,rfl⟩:=L.form;have HU:=O L.row;have l:Boxed n w.heap.size 25 (F none 0 0):=H0.o.kept o.o (λe=>by have:=Cg e;omega);have j:Jm n (w.heap.size+1) 97 (C E 0) (C E 0):=(o.o.block _ M.o.lt λe=>by have:=Cg e;omega).trans M.o;have x0:=l.cell;have x1:=l.frozen;obtain⟨y0,y1⟩:=j.cp;obtain⟨z0,z1⟩:=j.fp;have N:=O l;have H3:=O j;clear ad L l j)
 have q:w.heap.size+1≠w.heap.size:=J
 have Qd:Bl w n:=P.o.grown o.o P.o.size (λk e=>by have:=Cg e;omega);have S:=N.o.set (F a d b);have T:=FZ N.o (F a d b) HU.o;have y:=H3.o.far (p:=⟨w.heap.size,0,none⟩) q (F a d b);have U:=Qd.setCell (p:=⟨w.heap.size,0,none⟩) (Aa _) (F a d b);generalize n.setCell ⟨w.heap.size,0,none⟩ (F a d b)=t at S T y U ⊢;have W:=(BC t ⟨w.heap.size+1,0,none⟩ (C E 0) w.heap.size λe=>q e.symm).trans S;have X:=R5 y rfl (JE t (w.heap.size+1) 0 (C E 0)) T;have z:=y.set0 (C E 0);have b4:=U.setCell (p:=⟨w.heap.size+1,0,none⟩) (by show _<=w.heap.size+1;omega) (C E 0);generalize t.setCell ⟨w.heap.size+1,0,none⟩ (C E 0)=v at W X z b4 ⊢;have d1:=(BC v ⟨w.heap.size+1,1,none⟩ (C E 0) w.heap.size λe=>q e.symm).trans W;have d2:=R5 z rfl (JE v (w.heap.size+1) 1 (C E 0)) X;have A:=z.set1 (C E 0);have H:=b4.setCell (p:=⟨w.heap.size+1,1,none⟩) (by show _<=w.heap.size+1;omega) (C E 0);generalize v.setCell ⟨w.heap.size+1,1,none⟩ (C E 0)=x at d1 d2 A H ⊢;refine leaves_cons (f:=93) (args:=#[B (some ⟨w.heap.size,0,none⟩),B (some ⟨w.heap.size+1,0,none⟩)]) Y (by simp[go_sem]) ?_;refine(dB ⟨w.heap.size,0,none⟩ ⟨w.heap.size+1,0,none⟩ _).mono ?_;rintro e u' w2 ⟨rfl,rfl,rfl⟩;have e1:Boxed x w.heap.size 25 (F a d b):=d1;have f1:=(e1.alloc (G #[C E 0,C E 0] 97)).cell;have f2:=(A.alloc (G #[C E 0,C E 0] 97)).c0;have f3:=(A.alloc (G #[C E 0,C E 0] 97)).c1;have f4:=H.alloc H.size (G #[C E 0,C E 0] 97);have f5:=d2.below (Ba x (G #[C E 0,C E 0] 97));generalize x.alloc (G #[C E 0,C E 0] 97)=W5 at f1 f2 f3 f4 f5 ⊢;simp[Leaves,settle,results,Tryz.results53,go_sem,f1,f2,f3];exact⟨⟨_,rfl,f5⟩,f4⟩
attribute [local go_sem] Oper.semAt_some
theorem R6:∀(f:Nat) (b:Bool) (I m:Nat) (S d:List Rat) (k:Nat),I<=l.length->m<=I->Xg S m->Ek l f b I S=.ok d k->∃r,r<=l.length/\Xg d r:=by
 intro f;induction f with
 |zero=>intro b I m S d k _ _ _ h;cases h
 |succ f q=>
  intro b I m S d k o w t h;cases g:Yd l I with
  |error e p=>rw[MO g]at h;cases h
  |ok a u=>
   obtain⟨c,n⟩:=a;have s:=LV o g;have i:=t.next (R2 o g) s.2.2 b;have v:=Gi l u;rw[MP g]at h;split at h
   . rename_i j;have:=Yb j;exact q _ _ (m+1) _ _ _ J J i h
   . split at h
     . rename_i j;have:=Yb j;exact q _ _ (m+1) _ _ _ J J i h
     . split at h
       . cases h;exact⟨m+1,J,i⟩
       . cases h
theorem dG{S:List Rat}{k:Nat}(h:EY l=.ok S k):∃m,m<=l.length/\Xg S m:=by
 unfold EY at h;have a:=YO (l:=l) (i:=0) J;split at h
 . rename_i b;have:=Yb b;exact R6 _ _ _ 0 _ _ _ J J Xg.start h
 . exact R6 _ _ _ 0 _ _ _ a J Xg.start h
theorem R7(l:List UInt8):(J0 l).1.length<=9/\∀i,Da 601 (cf (J0 l).1 i):=by
 by_cases h:300<l.length
 . rw[show J0 l=([],1,0)by unfold J0;rw[BG h]];exact⟨Y,λi=>by rw[Yw];exact Da.zero _ J⟩
 . rw[K7 h];cases a:EY l with
   |error e p=>exact⟨by simp[KO],λi=>by rw[show(KO (EStateM.Result.error (α:=List Rat) e p)).1=[]from rfl,Yw];exact Da.zero _ J⟩
   |ok S k=>
    obtain⟨m,b,hs⟩:=dG a;rw[show(KO (EStateM.Result.ok S k)).1=Jd S from rfl];exact⟨Ar (J3 _) (by rw[hs.1];exact Aa _),λi=>by rw[JR];exact(hs.2 i).mono J⟩
def KR(l:List UInt8)(a:World)(u:Value)(e p:Int):Prop:=e=((J0 l).2.1:Int)/\p=((J0 l).2.2:Int)/\Jf a u (J0 l).1
theorem dH(s:ByteArray)(hs:s.size<=300)(w:World):
 Calls Tryz.prog 53 #[D s] w λr a=>∃u e p,r=.returned (.tuple #[u,.agg #[C E e,C E p]])/\KR (Jg s) a u e p/\Bl w a:=by
 have b:=K7 (l:=Jg s) (by rw[Jl];omega);cases c:EY (Jg s)with
 |error g q0=>
  rw[c]at b;refine(dD s g q0 w λV R d=>(R3 R s V d hs).mono λr a h=>⟨h.1,h.2.1 _ _ c⟩).mono ?_;rintro r a ⟨rfl,f⟩;refine⟨_,_,_,rfl,?_,f⟩;rw[KR,b];exact⟨rfl,rfl,_,rfl,RowK.nil _ _⟩
 |ok S k=>
  rw[c]at b;refine(dF s (Jd S) w λV R d=>(R3 R s V d hs).mono λr a h=>⟨h.1,by obtain⟨u,i,j,_⟩:=h.2.2 _ _ c;exact⟨u,i,j⟩⟩).mono ?_;rintro r a ⟨u,rfl,m,f⟩;refine⟨_,_,_,rfl,?_,f⟩;rw[KR,b];exact⟨rfl,rfl,m⟩
theorem R8(s:ByteArray)(w:World):
 Calls Tryz.prog 23 #[D s] w λr K=>∃u e p,r=.returned (.tuple #[u,C E e,C E p])/\KR (Jg s) K u e p/\Bl w K:=by
 by_cases x:300<s.size
 . have U:(300:Int)<(s.size:Int):=J
   have L:=O (show J0 (Jg s)=([],1,0)by unfold J0;rw[BG (by rw[Jl];exact x)]);clear x;go_enter Tryz.func23,Tryz.ntmps23
   go_wp2;exact BA (v:=.tuple #[.agg #[F none 0 0],C E 1,C E 0]) (by simp[results,Tryz.results23,go_sem]) rfl ⟨_,_,_,rfl,by rw[KR,L.o];exact⟨rfl,rfl,_,rfl,RowK.nil _ _⟩,Ba w _⟩
 . have U:¬(300:Int)<(s.size:Int):=J
   have y:=O λ(V:World)=>dH s J V;clear x;go_enter Tryz.func23,Tryz.ntmps23
   go_upto_region 4 with(go_at_call 53;refine(y.o _).mono ?_;clear y;rintro e a ⟨u1,g,k,rfl,b,c⟩;obtain⟨d,j,f,rfl⟩:=b.2.2.form;have o:=O b;have n:=O c;clear b c)
   have R:w.heap.size<a.heap.size:=by have:=n.o.size;rw[A1]at this;omega
   have q0:Boxed a w.heap.size 25 (F none 0 0):=(n.o.block _ (by rw[A1];omega)).trans (BM w 25 (F none 0 0));have H:Bl w a:=(Ba w _).trans (n.o.mono (by rw[A1];omega));have i:=BM a 25 (F d j f);have l:=Jm.new (a.alloc (G #[F d j f] 25)) 97 (C E g) (C E k);rw[A1]at l;replace i:=i.alloc (G #[C E g,C E k] 97);have m:Bl a ((a.alloc (G #[F d j f] 25)).alloc (G #[C E g,C E k] 97)):=(Ba a _).alloc (by rw[A1];omega) _;have q1:=(m.block _ q0.lt).trans q0;have c:=Bt H m;have b:=o.o.2.2.row.below m;have I:=O (⟨o.o.1,o.o.2.1⟩:g=_/\k=_);have z:w.heap.size≠a.heap.size:=J
   have A:w.heap.size≠a.heap.size+1:=J
   generalize (a.alloc (G #[F d j f] 25)).alloc (G #[C E g,C E k] 97)=T at i l m q1 c b ⊢;clear m q0 H n o R;obtain⟨Q,q⟩:=ex (w.heap.size);obtain⟨B,t⟩:=ex (a.heap.size);rw[t]at i l z A;rw[q]at q1 z A;rw[t,q];have q2:Boxed T Q 25 (F none 0 0):=q1;have x0:=i.cell;obtain⟨X,y1⟩:=l.cp;have W:=q2.cell;have z1:=q2.frozen;obtain⟨P,N,S,M⟩:=D0 q2 q c b;clear i l q1 q2 q t c b;go_region
   go_wp2_with fail
   have r0:=W;refine BA (v:=.tuple #[.agg #[F d j f],C E g,C E k]) (by simp[results,Tryz.results23,go_sem,r0]) rfl ⟨_,_,_,rfl,⟨I.o.1,I.o.2,_,rfl,?_⟩,?_⟩
   . exact(FZ P.o (F d j f) M.o).below ((BB _ _).drew)
   . exact(S.o.setCell (p:=⟨Q,0,none⟩) (by rw[N.o];exact Aa _) _).drew
end
variable{M ps qs:List Rat}{k m n:Nat}{p q:Rat}
theorem dI(h:Da k q):(J6 q).length<=40*k+5:=by
 have a:=Iy q.num;have b:=Iy (q.den:Int);have c:=h.1.words;have d:=h.2.words;unfold J6;split
 . omega
 . rw[Ai,An];omega
theorem Da.abs(h:Da k q):Da k (Yz q):=by
 have:=K1 q;unfold Da Sm at h ⊢;rw[this.1,this.2];exact⟨by have:=h.1;omega,h.2⟩
theorem dJ{c:Rat}(h:Da k c){i:Nat}(b:i<Z)(f:Bool):(X8 c i f).length<=40*k+40:=by
 have a:=dI h.abs;have d:=Iv i;have e:(Jc Z i).length<=1:=JK Je (by rw[Nat.pow_one];exact b);have g:(Et c f).length<=1:=by
  unfold Et;split
  . simp
  . split<;>simp
 have j:(Y7 c i).length<=40*k+5:=by
  unfold Y7;split
  . simp
  . exact a
 have l:(ER i).length<=23:=by
  unfold ER;split
  . simp
  . split
    . simp
    . rw[An,An];omega
 unfold X8;rw[Ai,Ai];omega
theorem dK(h:∀i,Da k (cf ps i))(hl:ps.length<=Z):∀(d m:Nat),ps.length-m=d->(J7 (ps.drop m) m).length<=d*(40*k+40):=by
 intro d;induction d with
 |zero=>
  intro m b;rw[List.drop_of_length_le J];simp[J7]
 |succ d a=>
  intro m b;have a:=a (m+1) J;rw[KH ps (by omega:m<ps.length)];have c:=dJ (h m) (by omega:m<Z) (J7 (ps.drop (m+1)) (m+1)).isEmpty;rw[Ay];split
  . omega
  . rw[Ai];omega
theorem KS(h:Sqs ps)(hl:ps.length<=3000)(m:Nat):(J7 (ps.drop m) m).length<=140737488355328:=by
 have a:=dK (λi=>(h.at i).sm) uo _ m rfl;refine Ar a (Ar (Ak _ (Nat.sub_le _ _)) (Ar (Ak _ hl) ?_));decide
theorem dL(z:List Rat)(i:Nat)(a:Rat)(q:List Rat):∀(j k:Nat),i+j<=k->cf (YI z i a q j) k=cf z k:=by
 intro j;induction j with
 |zero=>intro k _;rfl
 |succ j b=>
  intro k c;rw[YI];by_cases h:i+j<z.length
  . rw[XG _ _ _ _ (by rw[Yx];exact h),BE J,b k J]
  . rw[CZ (by rw[Yx];omega),b k J]
theorem Xq(z:List Rat)(i:Nat)(a:Rat)(q:List Rat):∀(j k:Nat),cf (YI z i a q j) k=cf z k\/cf (YI z i a q j) k=cf z k+a*cf q (k-i):=by
 intro j;induction j with
 |zero=>intro k;exact Or.inl rfl
 |succ j b=>
  intro k;rw[YI];by_cases h:i+j<z.length
  . rw[XG _ _ _ _ (by rw[Yx];exact h)];by_cases e:k=i+j
    . subst e;rw[BG rfl,dL z i a q j (i+j) (Aa _)];exact Or.inr (by rw[Nat.add_sub_cancel_left])
    . rw[BE e];exact b k
  . rw[CZ (by rw[Yx];omega)];exact b k
theorem Da.mul2(hp:Da k p)(hq:Da m q):Da (k+m) (p*q):=by
 rw[<-PR];refine Da.divInt ?_ (hp.1.mul hq.1) (hp.2.mul hq.2);exact Co (by have:=p.den_nz;omega) (by have:=q.den_nz;omega)
theorem Da.inv(hq:Da m q)(a:q≠0):Da m q⁻¹:=by
 rw[Rat.inv_def];exact Da.divInt (λe=>a (Fy.1 e)) hq.2 hq.1
theorem Da.div2(hp:Da k p)(hq:Da m q)(a:q≠0):Da (k+m) (p/q):=by
 rw[Fm];exact hp.mul2 (hq.inv a)
theorem Xc{p:List Rat}(hp:Jd p=p)(h:∀i,m<=i->cf p i=0):p.length<=m:=by
 by_cases hl:p.length<=m
 . exact hl
 . exfalso
   exact JA hp (by intro e;rw[e]at hl;simp at hl) (h _ J)
theorem MQ(n:Nat)(a:Rat)(i:Nat):cf (Jd (Dp n [a])) i=if i=n then a else 0:=by rw[JR,MN]
theorem dM(n:Nat)(a:Rat):(Jd (Dp n [a])).length<=n+1:=OJ n a
theorem R9(n:Nat)(a:Rat)(x:Rat):ev (Jd (Dp n [a])) x=x^n*a:=by
 rw[XE,LN];show x^n*(a+x*0)=_;grind
theorem MR(n:Nat)(a:Rat)(q:List Rat)(i:Nat):cf (Jv (Jd (Dp n [a])) q) i=if n<=i then a*cf q (i-n)else 0:=by
 have e:Jv (Jd (Dp n [a])) q=Jd (Yp a (Dp n q)):=by
  rw[<-Yt];refine Kf λx=>?_;rw[Jo,R9,Xs,LN];grind
 rw[e,JR,Xd,Id];split
 . exact Rat.mul_comm _ _
 . exact CE _
theorem SC(d:∀i,i≠n->cf M i=0)(N:Nat):∀i k,cf (YA M qs N i) k=0\/cf (YA M qs N i) k=cf M n*cf qs (k-n)/\n<i:=by
 intro i;induction i with
 |zero=>intro k;left;rw[YA,JQ]
 |succ i c=>
  intro k;rw[YA];by_cases b:i=n
  . subst b;have a:cf (YA M qs N i) k=0:=by
     rcases c k with h|⟨_,h⟩
     . exact h
     . omega
    rcases Xq (YA M qs N i) i (cf M i) qs qs.length k with e|e
    . left;rw[e,a]
    . right;exact⟨by rw[e,a,Rat.zero_add],J⟩
  . have f:cf (YI (YA M qs N i) i (cf M i) qs qs.length) k=cf (YA M qs N i) k:=by
     rcases Xq (YA M qs N i) i (cf M i) qs qs.length k with e|e
     . exact e
     . rw[e,d i b,CE,FN]
    rw[f];rcases c k with h|⟨h,g⟩
    . exact Or.inl h
    . exact Or.inr ⟨h,J⟩
theorem dN(b:∀i,i≠n->cf M i=0)(hs:∀j,Sq (cf M n*cf qs j)):M3.X9 M qs:=by
 have c:Sq 0:=Sq.of (k:=1) (Da.zero 1 J) J;refine⟨λi j=>?_,λN i j k=>?_⟩
 . by_cases a:i=n
   . rw[a];exact hs j
   . rw[b i a,CE];exact c
 . have d:Sq (cf (YA M qs N i) k):=by
    rcases SC b N i k with h|⟨h,_⟩
    . rw[h];exact c
    . rw[h];exact hs _
   rcases Xq (YA M qs N i) i (cf M i) qs j k with e|e
   . rw[e];exact d
   . by_cases a:i=n
     . have f:cf (YA M qs N i) k=0:=by
        rcases SC b N i k with h|⟨_,h⟩
        . exact h
        . omega
       rw[e,f,a,Rat.zero_add];exact hs _
     . rw[e,b i a,CE,FN];exact d
theorem SF{R:List Rat}{a:Rat}(f:Jd qs=qs)(b:qs≠[])(hl:qs.length<=R.length)(j:n=R.length-qs.length)
(d:a=cf R (R.length-1)/cf qs (qs.length-1)):(JP R (Jv (Jd (Dp n [a])) qs)).length<=R.length-1:=by
 have k:0<qs.length:=Al.2 b;have c:=JA f b;refine Xc (XQ _ _) λi g=>?_;rw[Kg,MR];by_cases e:i=R.length-1
 . rw[BG J,e,show R.length-1-n=qs.length-1 from by omega,d,Cq c,Rat.sub_self]
 . rw[J1 (p:=R) J,BG J,J1 (p:=qs) J,FW,Rat.sub_self]

