import Derived.Test.YtakpoihdghihmaaGreatDoorR39
import Derived.Defers
import Derived.Recover
import Derived.Test.YtakpoihdghihmaaGreatDoorR35
open Go.Value renaming int->C,slice->F,string->D,pointer->B
open Go.IntKind renaming i64->E
open Go.Obj renaming cells->G
set_option maxRecDepth 100000
set_option maxHeartbeats 16000000
namespace Go.Proofs.YtakpoihdghihmaaGreatDoor
open Go.RowKit Go.Shelf
section
variable{cs:Array Value}{l:List UInt8}{m:Nat × Nat}{t:TypeId}{W W':World}
theorem aT(p q:Addr)(w:World):
 CallsD Tryz.prog 119 #[B (some p),B (some q)] .returning w λe d f=>e=.returned (.tuple #[])/\d=.returning/\f=w.alloc (G #[C E 0,C E 0] 101):=by
 have a:∀w:World,(Instr.typeAssert Value.nilIface 20 101 true).run Tryz.prog w=.ok (.tuple #[.agg #[C E 0,C E 0],.bool false]) w:=λ_=>by kernel_rfl
 refine callsD_of_wpS Tryz.func119 rfl λb cs c=>?_;apply wpS_seq;apply wpS_region;simp[wpOpsS,go_sem,recoverD,c,Tryz.ntmps119,Exit.thenS,a];apply wpS_seq;apply wpS_region;simp[wpOpsS,go_sem,Exit.thenS];refine wpS_cond (t:=false) (by simp[Act.eval,Array.replicate]) ?_;simp only[CB,if_false];refine wpS_of_wp (wp_skip ?_);cases b;simp_all [bodyPostS,results,Tryz.results119]
theorem aU(p q:Nat)(a p0:Int)(w:World)(g:Boxed w p 25 (F none 0 0))(i:Jt w q 101 (C E 0) (C E 0))(l:p≠q):
 CallsD Tryz.prog 119 #[B (some ⟨p,0,none⟩),B (some ⟨q,0,none⟩)] (.panicking [{ v:=GM a p0,recovered:=false }]) w λe L m=>e=.returned (.tuple #[])/\L=.panicking [{ v:=GM a p0,recovered:=true }]/\Boxed m p 25 (F none 0 0)/\Jt m q 101 (C E a) (C E p0)/\∀n w0,Below n w0 w->n<=w.heap.size->n<=p->n<=q->Below n w0 m:=by
 unfold GM;have o:∀w:World,(Instr.typeAssert (.iface 101 (.agg #[C E a,C E p0])) 20 101 true).run Tryz.prog w=.ok (.tuple #[.agg #[C E a,C E p0],.bool true]) w:=λ_=>by kernel_rfl
 refine callsD_of_wpS Tryz.func119 rfl λM cs y=>?_;apply wpS_seq;apply wpS_region;simp[wpOpsS,go_sem,recoverD,y,Tryz.ntmps119,Exit.thenS,o];apply wpS_seq;apply wpS_region;simp[wpOpsS,go_sem,Exit.thenS];refine wpS_cond (t:=true) (by simp[Act.eval,Array.replicate]) ?_;simp only[if_true];refine wpS_of_wp ?_;simp[Array.replicate];have d:=Jt.new w 101 (C E a) (C E p0);have c:=g.alloc (G #[C E a,C E p0] 101);have b:=i.alloc (G #[C E a,C E p0] 101);have H:p≠w.heap.size:=by have:=g.lt;omega
 have I:q≠w.heap.size:=by have:=i.lt;omega
 have f:=Ja λ(n:Nat) (w0:World) (h:Below n w0 w) (k:n<=w.heap.size)=>h.alloc k (G #[C E a,C E p0] 101);obtain⟨W,j⟩:=ex (w.alloc (G #[C E a,C E p0] 101));rw[j]at d c b f;rw[j];obtain⟨D,hD⟩:=ex (w.heap.size);rw[hD]at d H I f;rw[hD];clear j g i o y;obtain⟨d0,d1⟩:=d.cp;have x0:=c.cell;have x1:=c.frozen;obtain⟨N,P⟩:=b.cp;obtain⟨z0,Q⟩:=b.fp;have z:=Ja c;have A:=Ja b;clear c b d;go_region
 have s:Boxed (((W.setCell ⟨p,0,none⟩ (F none 0 0)).setCell ⟨q,0,none⟩ (C E a)).setCell ⟨q,1,none⟩ (C E p0)).drew p 25 (F none 0 0):=
  (BD _ ⟨q,1,none⟩ (C E p0) p l).trans ((BD _ ⟨q,0,none⟩ (C E a) p l).trans (z.o.set (F none 0 0)))
 have u:Jt (((W.setCell ⟨p,0,none⟩ (F none 0 0)).setCell ⟨q,0,none⟩ (C E a)).setCell ⟨q,1,none⟩ (C E p0)).drew q 101 (C E a) (C E p0):=
  (((A.o.far (p:=⟨p,0,none⟩) (λe=>l e.symm) _).set0 _).set1 _).drew
 have x:∀n w0,Below n w0 w->n<=D->n<=p->n<=q->Below n w0 (((W.setCell ⟨p,0,none⟩ (F none 0 0)).setCell ⟨q,0,none⟩ (C E a)).setCell ⟨q,1,none⟩ (C E p0)).drew:=
  λn w0 h k K r=>((((f.o n w0 h k).setCell (p:=⟨p,0,none⟩) K _).setCell (p:=⟨q,0,none⟩) r _).setCell (p:=⟨q,1,none⟩) r _).drew
 generalize (((W.setCell ⟨p,0,none⟩ (F none 0 0)).setCell ⟨q,0,none⟩ (C E a)).setCell ⟨q,1,none⟩ (C E p0)).drew=V at s u x ⊢;simp[bodyPostS,results,Tryz.results119];exact⟨s,u,x⟩
theorem aV(s:ByteArray)(g q0:Int)(w:World)(t:∀V R,DT V R s 0->Calls Tryz.prog 120 #[B (some ⟨R,0,none⟩)] V λr l=>V.grownBy l (some R)/\r=.panicked [{ v:=GM g q0,recovered:=false }]):
 Calls Tryz.prog 61 #[D s] w λr l=>r=.returned (.tuple #[.agg #[F none 0 0],.agg #[C E g,C E q0]])/\Bl w l:=by
 have p:=Ja t;clear t;go_enter_defers Tryz.func61,Tryz.ntmps61
 go_upto_region 3 with fail
 have b:=BG w 25 (F none 0 0);have a:=Jt.new (w.alloc (G #[F none 0 0] 25)) 101 (C E 0) (C E 0);have c:DT (((w.alloc (G #[F none 0 0] 25)).alloc (G #[C E 0,C E 0] 101)).alloc (G #[D s,C E 0] 151)) ((w.alloc (G #[F none 0 0] 25)).alloc (G #[C E 0,C E 0] 101)).heap.size s 0:=BE _ _;rw[Ax,Ax]at c;rw[Ax]at a;replace b:=(b.alloc (G #[C E 0,C E 0] 101)).alloc (G #[D s,C E 0] 151);replace a:=a.alloc (G #[D s,C E 0] 151);have j:Bl w (((w.alloc (G #[F none 0 0] 25)).alloc (G #[C E 0,C E 0] 101)).alloc (G #[D s,C E 0] 151)):=((Ba w _).alloc (by rw[Ax];omega) _).alloc (by rw[Ax,Ax];omega) _;have x:(((w.alloc (G #[F none 0 0] 25)).alloc (G #[C E 0,C E 0] 101)).alloc (G #[D s,C E 0] 151)).heap.size=w.heap.size+1+1+1:=by rw[Ax,Ax,Ax]
 obtain⟨V,i⟩:=ex (((w.alloc (G #[F none 0 0] 25)).alloc (G #[C E 0,C E 0] 101)).alloc (G #[D s,C E 0] 151));rw[i]at b a c j x;rw[i];obtain⟨y,n,o,z⟩:=Dr b a j (p.o _ _ c);clear b a c j i p x;go_wp2_with(go_at_call 120;refine z.o.mono ?_;rintro e m ⟨u,rfl⟩;have d:=Ja u;clear u)
 have H:Boxed m w.heap.size 25 (F none 0 0):=y.o.kept d.o (λe=>by have:=Cv e;omega);have A:Jt m (w.heap.size+1) 101 (C E 0) (C E 0):=(d.o.block _ n.o.lt λe=>by have:=Cv e;omega).trans n.o;have q:Bl w m:=o.o.grown d.o o.o.size (λk e=>by have:=Cv e;omega);refine leaves_cons (f:=119) (args:=#[B (some ⟨w.heap.size,0,none⟩),B (some ⟨w.heap.size+1,0,none⟩)]) Z (by simp[go_sem]) ?_;refine(aU w.heap.size (w.heap.size+1) g q0 _ H A O).mono ?_;rintro e Q S ⟨rfl,rfl,I,K,L⟩;have M:=L _ _ q q.size (Aa _) O;have x0:=I.cell;obtain⟨N,P⟩:=K.cp;simp[Leaves,settle,results,Tryz.results61,go_sem,x0,N,P];exact M
theorem aW{F:Nat}(hF:W.heap[F]?=some (G cs t m))(l:t=101)(j:W.grownBy W' (some F)):∀k v ds,Row k W v ds->Row k W' v ds:=by
 intro k v ds c;obtain⟨a,cap,e,_⟩:=id c;subst e;refine c.grown j λp d hl=>?_;obtain⟨b,off,f,n,o,i⟩:=c.typ hl;rw[f]at d;cases d;intro e;subst e;have:=i.symm.trans hF;simp only[Ak,Bo]at this;subst l;have g:=this.2.1;revert g;cases k<;>(show ¬(_=_);decide)
theorem RH{F:Nat}(hF:W.heap[F]?=some (G cs t m))(i:t=101)(g:W.grownBy W' (some F)){r:Bool}{v:Value}{qs:List Rat}(h:RowK r W v qs):RowK r W' v qs:=by
 obtain⟨a,cap,e,l,c,n,d⟩:=h;refine⟨a,cap,e,l,c,n,?_⟩;rcases d with d|⟨b,j,f⟩
 . exact Or.inl d
 . refine Or.inr ⟨b,j,f.keep (g.block b f.lt λe=>?_) (aW hF i g)⟩;obtain⟨o,k,_⟩:=f;have e:=Cv e;subst e;have:=k.symm.trans hF;simp only[Ak,Bo]at this;subst i;have c:=this.2.1;revert c;cases r<;>(show ¬(_=_);decide)
theorem aZ(s:ByteArray)(ps:List Rat)(w:World)(hP:∀V R,DT V R s 0->Calls Tryz.prog 120 #[B (some ⟨R,0,none⟩)] V λr i=>V.grownBy i (some R)/\∃u,r=.returned u/\Je i u ps):
 Calls Tryz.prog 61 #[D s] w λr i=>∃u,r=.returned (.tuple #[u,.agg #[C E 0,C E 0]])/\Je i u ps/\Bl w i:=by
 have Q:=Ja hP;clear hP;go_enter_defers Tryz.func61,Tryz.ntmps61
 go_upto_region 3 with fail
 have g:=BG w 25 (F none 0 0);have c:=Jt.new (w.alloc (G #[F none 0 0] 25)) 101 (C E 0) (C E 0);have m:DT (((w.alloc (G #[F none 0 0] 25)).alloc (G #[C E 0,C E 0] 101)).alloc (G #[D s,C E 0] 151)) ((w.alloc (G #[F none 0 0] 25)).alloc (G #[C E 0,C E 0] 101)).heap.size s 0:=BE _ _;rw[Ax,Ax]at m;rw[Ax]at c;replace g:=(g.alloc (G #[C E 0,C E 0] 101)).alloc (G #[D s,C E 0] 151);replace c:=c.alloc (G #[D s,C E 0] 151);have K:Bl w (((w.alloc (G #[F none 0 0] 25)).alloc (G #[C E 0,C E 0] 101)).alloc (G #[D s,C E 0] 151)):=((Ba w _).alloc (by rw[Ax];omega) _).alloc (by rw[Ax,Ax];omega) _;have hz:(((w.alloc (G #[F none 0 0] 25)).alloc (G #[C E 0,C E 0] 101)).alloc (G #[D s,C E 0] 151)).heap.size=w.heap.size+1+1+1:=by rw[Ax,Ax,Ax]
 obtain⟨V,I⟩:=ex (((w.alloc (G #[F none 0 0] 25)).alloc (G #[C E 0,C E 0] 101)).alloc (G #[D s,C E 0] 151));rw[I]at g c m K hz;rw[I];obtain⟨H0,M,P,HC⟩:=Dr g c K (Q.o _ _ m);clear g c m K I Q hz;go_wp2_with(go_at_call 120;refine HC.o.mono ?_;rintro e n ⟨ad,u1,rfl,L⟩;have o:=Ja ad;obtain⟨a,d,b,rfl⟩:=L.form;have HU:=Ja L.row;have l:Boxed n w.heap.size 25 (F none 0 0):=H0.o.kept o.o (λe=>by have:=Cv e;omega);have j:Jt n (w.heap.size+1) 101 (C E 0) (C E 0):=(o.o.block _ M.o.lt λe=>by have:=Cv e;omega).trans M.o;have x0:=l.cell;have x1:=l.frozen;obtain⟨y0,y1⟩:=j.cp;obtain⟨z0,z1⟩:=j.fp;have N:=Ja l;have H3:=Ja j;clear ad L l j)
 have q:w.heap.size+1≠w.heap.size:=O
 have Qd:Bl w n:=P.o.grown o.o P.o.size (λk e=>by have:=Cv e;omega);have S:=N.o.set (F a d b);have T:=Eo N.o (F a d b) HU.o;have y:=H3.o.far (p:=⟨w.heap.size,0,none⟩) q (F a d b);have U:=Qd.setCell (p:=⟨w.heap.size,0,none⟩) (Aa _) (F a d b);generalize n.setCell ⟨w.heap.size,0,none⟩ (F a d b)=t at S T y U ⊢;have W:=(BD t ⟨w.heap.size+1,0,none⟩ (C E 0) w.heap.size λe=>q e.symm).trans S;have X:=RH y rfl (JT t (w.heap.size+1) 0 (C E 0)) T;have z:=y.set0 (C E 0);have b4:=U.setCell (p:=⟨w.heap.size+1,0,none⟩) (by show _<=w.heap.size+1;omega) (C E 0);generalize t.setCell ⟨w.heap.size+1,0,none⟩ (C E 0)=v at W X z b4 ⊢;have d1:=(BD v ⟨w.heap.size+1,1,none⟩ (C E 0) w.heap.size λe=>q e.symm).trans W;have d2:=RH z rfl (JT v (w.heap.size+1) 1 (C E 0)) X;have A:=z.set1 (C E 0);have H:=b4.setCell (p:=⟨w.heap.size+1,1,none⟩) (by show _<=w.heap.size+1;omega) (C E 0);generalize v.setCell ⟨w.heap.size+1,1,none⟩ (C E 0)=x at d1 d2 A H ⊢;refine leaves_cons (f:=119) (args:=#[B (some ⟨w.heap.size,0,none⟩),B (some ⟨w.heap.size+1,0,none⟩)]) Z (by simp[go_sem]) ?_;refine(aT ⟨w.heap.size,0,none⟩ ⟨w.heap.size+1,0,none⟩ _).mono ?_;rintro e u' w2 ⟨rfl,rfl,rfl⟩;have e1:Boxed x w.heap.size 25 (F a d b):=d1;have f1:=(e1.alloc (G #[C E 0,C E 0] 101)).cell;have f2:=(A.alloc (G #[C E 0,C E 0] 101)).c0;have f3:=(A.alloc (G #[C E 0,C E 0] 101)).c1;have f4:=H.alloc H.size (G #[C E 0,C E 0] 101);have f5:=d2.below (Ba x (G #[C E 0,C E 0] 101));generalize x.alloc (G #[C E 0,C E 0] 101)=W5 at f1 f2 f3 f4 f5 ⊢;simp[Leaves,settle,results,Tryz.results61,go_sem,f1,f2,f3];exact⟨⟨_,rfl,f5⟩,f4⟩
attribute [local go_sem] Oper.semAt_some
theorem RI:∀(f:Nat) (b:Bool) (I m:Nat) (S d:List Rat) (k:Nat),I<=l.length->m<=I->X0 S m->EX l f b I S=.ok d k->∃r,r<=l.length/\X0 d r:=by
 intro f;induction f with
 |zero=>intro b I m S d k _ _ _ h;cases h
 |succ f q=>
  intro b I m S d k o w t h;cases g:Xa l I with
  |error e p=>rw[Nm g]at h;cases h
  |ok a u=>
   obtain⟨c,n⟩:=a;have s:=Mq o g;have i:=t.next (RE o g) s.2.2 b;have v:=Ga l u;rw[Nn g]at h;split at h
   . rename_i j;have:=YA j;exact q _ _ (m+1) _ _ _ O O i h
   . split at h
     . rename_i j;have:=YA j;exact q _ _ (m+1) _ _ _ O O i h
     . split at h
       . cases h;exact⟨m+1,O,i⟩
       . cases h
theorem ar{S:List Rat}{k:Nat}(h:ER l=.ok S k):∃m,m<=l.length/\X0 S m:=by
 unfold ER at h;have a:=XU (l:=l) (i:=0) O;split at h
 . rename_i b;have:=YA b;exact RI _ _ _ 0 _ _ _ O O X0.start h
 . exact RI _ _ _ 0 _ _ _ a O X0.start h
theorem RJ(l:List UInt8):(YG l).1.length<=9/\∀i,DQ 601 (cf (YG l).1 i):=by
 by_cases h:300<l.length
 . rw[show YG l=([],1,0)by unfold YG;rw[BC h]];exact⟨Z,λi=>by rw[YH];exact DQ.zero _ O⟩
 . rw[Li h];cases b:ER l with
   |error e p=>exact⟨by simp[I5],λi=>by rw[show(I5 (EStateM.Result.error (α:=List Rat) e p)).1=[]from rfl,YH];exact DQ.zero _ O⟩
   |ok S k=>
    obtain⟨m,c,a⟩:=ar b;rw[show(I5 (EStateM.Result.ok S k)).1=Jd S from rfl];exact⟨An (YR _) (by rw[a.1];exact Aa _),λi=>by rw[Yf];exact(a.2 i).mono O⟩
def I8(l:List UInt8)(a:World)(u:Value)(e p:Int):Prop:=e=((YG l).2.1:Int)/\p=((YG l).2.2:Int)/\Je a u (YG l).1
theorem bA(s:ByteArray)(g:s.size<=300)(w:World):
 Calls Tryz.prog 61 #[D s] w λr a=>∃u e p,r=.returned (.tuple #[u,.agg #[C E e,C E p]])/\I8 (Jj s) a u e p/\Bl w a:=by
 have b:=Li (l:=Jj s) (by rw[Ju];omega);cases c:ER (Jj s)with
 |error i q0=>
  rw[c]at b;refine(aV s i q0 w λV R d=>(RF R s V d g).mono λr a h=>⟨h.1,h.2.1 _ _ c⟩).mono ?_;rintro r a ⟨rfl,f⟩;refine⟨_,_,_,rfl,?_,f⟩;rw[I8,b];exact⟨rfl,rfl,_,rfl,RowK.nil _ _⟩
 |ok S k=>
  rw[c]at b;refine(aZ s (Jd S) w λV R d=>(RF R s V d g).mono λr a h=>⟨h.1,by obtain⟨u,j,m,_⟩:=h.2.2 _ _ c;exact⟨u,j,m⟩⟩).mono ?_;rintro r a ⟨u,rfl,n,f⟩;refine⟨_,_,_,rfl,?_,f⟩;rw[I8,b];exact⟨rfl,rfl,n⟩
theorem RK(s:ByteArray)(w:World):
 Calls Tryz.prog 23 #[D s] w λr L=>∃u e p,r=.returned (.tuple #[u,C E e,C E p])/\I8 (Jj s) L u e p/\Bl w L:=by
 by_cases y:300<s.size
 . have W:(300:Int)<(s.size:Int):=O
   have M:=Ja (show YG (Jj s)=([],1,0)by unfold YG;rw[BC (by rw[Ju];exact y)]);clear y;go_enter Tryz.func23,Tryz.ntmps23
   go_wp2;exact BB (v:=.tuple #[.agg #[F none 0 0],C E 1,C E 0]) (by simp[results,Tryz.results23,go_sem]) rfl ⟨_,_,_,rfl,by rw[I8,M.o];exact⟨rfl,rfl,_,rfl,RowK.nil _ _⟩,Ba w _⟩
 . have W:¬(300:Int)<(s.size:Int):=O
   have z:=Ja λ(V:World)=>bA s O V;clear y;go_enter Tryz.func23,Tryz.ntmps23
   go_upto_region 4 with(go_at_call 61;refine(z.o _).mono ?_;clear z;rintro e a ⟨u1,g,k,rfl,b,c⟩;obtain⟨d,j,f,rfl⟩:=b.2.2.form;have o:=Ja b;have n:=Ja c;clear b c)
   have S:w.heap.size<a.heap.size:=by have:=n.o.size;rw[Ax]at this;omega
   have q0:Boxed a w.heap.size 25 (F none 0 0):=(n.o.block _ (by rw[Ax];omega)).trans (BG w 25 (F none 0 0));have I:Bl w a:=(Ba w _).trans (n.o.mono (by rw[Ax];omega));have i:=BG a 25 (F d j f);have l:=Jt.new (a.alloc (G #[F d j f] 25)) 101 (C E g) (C E k);rw[Ax]at l;replace i:=i.alloc (G #[C E g,C E k] 101);have m:Bl a ((a.alloc (G #[F d j f] 25)).alloc (G #[C E g,C E k] 101)):=(Ba a _).alloc (by rw[Ax];omega) _;have t:=(m.block _ q0.lt).trans q0;have c:=Bt I m;have b:=o.o.2.2.row.below m;have K:=Ja (⟨o.o.1,o.o.2.1⟩:g=_/\k=_);have A:w.heap.size≠a.heap.size:=O
   have H:w.heap.size≠a.heap.size+1:=O
   generalize (a.alloc (G #[F d j f] 25)).alloc (G #[C E g,C E k] 101)=U at i l m t c b ⊢;clear m q0 I n o S;obtain⟨Q,q⟩:=ex (w.heap.size);obtain⟨B,x⟩:=ex (a.heap.size);rw[x]at i l A H;rw[q]at t A H;rw[x,q];have q2:Boxed U Q 25 (F none 0 0):=t;have x0:=i.cell;obtain⟨X,y1⟩:=l.cp;have z0:=q2.cell;have z1:=q2.frozen;obtain⟨R,P,T,N⟩:=Dr q2 q c b;clear i l t q2 q x c b;go_region
   go_wp2_with fail
   have r0:=z0;refine BB (v:=.tuple #[.agg #[F d j f],C E g,C E k]) (by simp[results,Tryz.results23,go_sem,r0]) rfl ⟨_,_,_,rfl,⟨K.o.1,K.o.2,_,rfl,?_⟩,?_⟩
   . exact(Eo R.o (F d j f) N.o).below ((BF _ _).drew)
   . exact(T.o.setCell (p:=⟨Q,0,none⟩) (by rw[P.o];exact Aa _) _).drew
end
variable{k m:Nat}{p q:Rat}
theorem bB(z:List Rat)(i:Nat)(a:Rat)(q:List Rat):∀(j k:Nat),i+j<=k->cf (YJ z i a q j) k=cf z k:=by
 intro j;induction j with
 |zero=>intro k _;rfl
 |succ j b=>
  intro k c;rw[YJ];by_cases h:i+j<z.length
  . rw[XS _ _ _ _ (by rw[Yx];exact h),BA O,b k O]
  . rw[C7 (by rw[Yx];omega),b k O]
theorem Ll(z:List Rat)(i:Nat)(a:Rat)(q:List Rat):∀(j k:Nat),cf (YJ z i a q j) k=cf z k\/cf (YJ z i a q j) k=cf z k+a*cf q (k-i):=by
 intro j;induction j with
 |zero=>intro k;exact Or.inl rfl
 |succ j b=>
  intro k;rw[YJ];by_cases h:i+j<z.length
  . rw[XS _ _ _ _ (by rw[Yx];exact h)];by_cases e:k=i+j
    . subst e;rw[BC rfl,bB z i a q j (i+j) (Aa _)];exact Or.inr (by rw[Nat.add_sub_cancel_left])
    . rw[BA e];exact b k
  . rw[C7 (by rw[Yx];omega)];exact b k
theorem DQ.mul2(hp:DQ k p)(hq:DQ m q):DQ (k+m) (p*q):=by
 rw[<-UB];refine DQ.divInt ?_ (hp.1.mul hq.1) (hp.2.mul hq.2);exact CI (by have:=p.den_nz;omega) (by have:=q.den_nz;omega)
theorem DQ.inv(hq:DQ m q)(a:q≠0):DQ m q⁻¹:=by
 rw[Rat.inv_def];exact DQ.divInt (λe=>a (FD.1 e)) hq.2 hq.1
theorem DQ.div2(hp:DQ k p)(hq:DQ m q)(a:q≠0):DQ (k+m) (p/q):=by
 rw[Fh];exact hp.mul2 (hq.inv a)
theorem XO{p:List Rat}(hp:Jd p=p)(h:∀i,m<=i->cf p i=0):p.length<=m:=by
 by_cases hl:p.length<=m
 . exact hl
 . exfalso
   exact Js hp (by intro e;rw[e]at hl;simp at hl) (h _ O)

