import Derived.Defers
import Derived.Recover
import Derived.Test.YtcahejkcdcjjgaaGreatDoorT41
import Derived.Test.YtcahejkcdcjjgaaGreatDoorT42
open Go.Value renaming int->C,slice->F,string->D
open Go.IntKind renaming i64->E
open Go.Obj renaming cells->G
open Go.Proofs.Tryz renaming prog->H
open Go renaming World->I
set_option maxRecDepth 100000
set_option maxHeartbeats 16000000
namespace Go.Proofs.YtcahejkcdcjjgaaGreatDoor
open Go.RowKit Go.Shelf
section
variable{cs:Array Value}{l:List UInt8}{m:Nat × Nat}{t:TypeId}{W W':I}
theorem Wf(p q:Addr)(w:I):
 CallsD H 89 #[.pointer (some p),.pointer (some q)] .returning w λe b d=>e=.returned (.tuple #[])/\b=.returning/\d=w.alloc (G #[C E 0,C E 0] 77):=by
 have a:∀w:I,(Instr.typeAssert Value.nilIface 20 77 true).run H w=.ok (.tuple #[.agg #[C E 0,C E 0],.bool false]) w:=λ_=>by kernel_rfl
 refine callsD_of_wpS Tryz.func89 rfl λc cs f=>?_;apply wpS_seq;apply wpS_region;simp[wpOpsS,go_sem,recoverD,f,Tryz.ntmps89,Exit.thenS,a];apply wpS_seq;apply wpS_region;simp[wpOpsS,go_sem,Exit.thenS];refine wpS_cond (t:=false) (by simp[Act.eval,Array.replicate]) ?_;simp only[Ca,if_false];refine wpS_of_wp (wp_skip ?_);cases c;simp_all [bodyPostS,results,Tryz.results89]
theorem Wz(p q:Nat)(b a:Int)(w:I)(g:Boxed w p 25 (F none 0 0))(m:Jj w q 77 (C E 0) (C E 0))(o:p≠q):
 CallsD H 89 #[.pointer (some ⟨p,0,none⟩),.pointer (some ⟨q,0,none⟩)] (.panicking [{ v:=X5 b a,recovered:=false }]) w λe N j=>e=.returned (.tuple #[])/\N=.panicking [{ v:=X5 b a,recovered:=true }]/\Boxed j p 25 (F none 0 0)/\Jj j q 77 (C E b) (C E a)/\∀n w0,Below n w0 w->n<=w.heap.size->n<=p->n<=q->Below n w0 j:=by
 unfold X5;have r:∀w:I,(Instr.typeAssert (.iface 77 (.agg #[C E b,C E a])) 20 77 true).run H w=.ok (.tuple #[.agg #[C E b,C E a],.bool true]) w:=λ_=>by kernel_rfl
 refine callsD_of_wpS Tryz.func89 rfl λP cs y=>?_;apply wpS_seq;apply wpS_region;simp[wpOpsS,go_sem,recoverD,y,Tryz.ntmps89,Exit.thenS,r];apply wpS_seq;apply wpS_region;simp[wpOpsS,go_sem,Exit.thenS];refine wpS_cond (t:=true) (by simp[Act.eval,Array.replicate]) ?_;simp only[if_true];refine wpS_of_wp ?_;simp[Array.replicate];have f:=Jj.new w 77 (C E b) (C E a);have c:=g.alloc (G #[C E b,C E a] 77);have d:=m.alloc (G #[C E b,C E a] 77);have K:p≠w.heap.size:=by have:=g.lt;omega
 have J:q≠w.heap.size:=by have:=m.lt;omega
 have i:=Ja (λ(n:Nat) (w0:I) (h:Below n w0 w) (k:n<=w.heap.size)=>h.alloc k (G #[C E b,C E a] 77));obtain⟨W,l⟩:=ex (w.alloc (G #[C E b,C E a] 77));rw[l]at f c d i;rw[l];obtain⟨D,u⟩:=ex (w.heap.size);rw[u]at f K J i;rw[u];clear l g m r y;obtain⟨d0,d1⟩:=f.cp;have x0:=c.cell;have x1:=c.frozen;obtain⟨O,Q⟩:=d.cp;obtain⟨S,R⟩:=d.fp;have B:=Ja c;have M:=Ja d;clear c d f;go_region
 have z:Boxed (((W.setCell ⟨p,0,none⟩ (F none 0 0)).setCell ⟨q,0,none⟩ (C E b)).setCell ⟨q,1,none⟩ (C E a)).drew p 25 (F none 0 0):=
  (BG _ ⟨q,1,none⟩ (C E a) p o).trans ((BG _ ⟨q,0,none⟩ (C E b) p o).trans (B.o.set (F none 0 0)))
 have A:Jj (((W.setCell ⟨p,0,none⟩ (F none 0 0)).setCell ⟨q,0,none⟩ (C E b)).setCell ⟨q,1,none⟩ (C E a)).drew q 77 (C E b) (C E a):=
  (((M.o.far (p:=⟨p,0,none⟩) (λe=>o e.symm) _).set0 _).set1 _).drew
 have s:∀n w0,Below n w0 w->n<=D->n<=p->n<=q->Below n w0 (((W.setCell ⟨p,0,none⟩ (F none 0 0)).setCell ⟨q,0,none⟩ (C E b)).setCell ⟨q,1,none⟩ (C E a)).drew:=
  λn w0 h k L x=>((((i.o n w0 h k).setCell (p:=⟨p,0,none⟩) L _).setCell (p:=⟨q,0,none⟩) x _).setCell (p:=⟨q,1,none⟩) x _).drew
 generalize (((W.setCell ⟨p,0,none⟩ (F none 0 0)).setCell ⟨q,0,none⟩ (C E b)).setCell ⟨q,1,none⟩ (C E a)).drew=V at z A s ⊢;simp[bodyPostS,results,Tryz.results89];exact⟨z,A,s⟩
theorem W2(s:ByteArray)(g q0:Int)(w:I)(n:∀V R,Db V R s 0->Calls H 90 #[.pointer (some ⟨R,0,none⟩)] V λr j=>V.grownBy j (some R)/\r=.panicked [{ v:=X5 g q0,recovered:=false }]):
 Calls H 44 #[D s] w λr j=>r=.returned (.tuple #[.agg #[F none 0 0],.agg #[C E g,C E q0]])/\Bl w j:=by
 have P:∀(fn:Fn) (first cap:Array Value) (w:I),(Instr.makeFunc fn first cap).run H w=.ok (.func fn first cap) w:=λ_ _ _ _=>rfl;have x:=Ja n;clear n;go_enter_defers Tryz.func44,Tryz.ntmps44
 go_upto_region 3 with fail
 have b:=BK w 25 (F none 0 0);have a:=Jj.new (w.alloc (G #[F none 0 0] 25)) 77 (C E 0) (C E 0);have c:Db (((w.alloc (G #[F none 0 0] 25)).alloc (G #[C E 0,C E 0] 77)).alloc (G #[D s,C E 0] 124)) ((w.alloc (G #[F none 0 0] 25)).alloc (G #[C E 0,C E 0] 77)).heap.size s 0:=BC _ _;rw[A1,A1]at c;rw[A1]at a;replace b:=(b.alloc (G #[C E 0,C E 0] 77)).alloc (G #[D s,C E 0] 124);replace a:=a.alloc (G #[D s,C E 0] 124);have d:Bl w (((w.alloc (G #[F none 0 0] 25)).alloc (G #[C E 0,C E 0] 77)).alloc (G #[D s,C E 0] 124)):=((Ba w _).alloc (by rw[A1];omega) _).alloc (by rw[A1,A1];omega) _;have t:(((w.alloc (G #[F none 0 0] 25)).alloc (G #[C E 0,C E 0] 77)).alloc (G #[D s,C E 0] 124)).heap.size=w.heap.size+1+1+1:=by rw[A1,A1,A1]
 obtain⟨V,m⟩:=ex (((w.alloc (G #[F none 0 0] 25)).alloc (G #[C E 0,C E 0] 77)).alloc (G #[D s,C E 0] 124));rw[m]at b a c d t;rw[m];obtain⟨L,o,q,B⟩:=D3 b a d (x.o _ _ c);clear b a c d m x t;go_wp2_with(go_at_call 90;refine B.o.mono ?_;rintro e i ⟨p,rfl⟩;have l:=Ja p;clear p)
 have z:Boxed i w.heap.size 25 (F none 0 0):=L.o.kept l.o (λe=>by have:=A6 e;omega);have y:Jj i (w.heap.size+1) 77 (C E 0) (C E 0):=(l.o.block _ o.o.lt (λe=>by have:=A6 e;omega)).trans o.o;have u:Bl w i:=q.o.grown l.o q.o.size (λk e=>by have:=A6 e;omega);refine leaves_cons (f:=89) (args:=#[.pointer (some ⟨w.heap.size,0,none⟩),.pointer (some ⟨w.heap.size+1,0,none⟩)]) DO (by simp[go_sem]) ?_;refine(Wz w.heap.size (w.heap.size+1) g q0 _ z y om).mono ?_;rintro e S Q ⟨rfl,rfl,A,J,N⟩;have M:=N _ _ u u.size (Aa _) om;have x0:=A.cell;obtain⟨O,K⟩:=J.cp;simp[Leaves,settle,results,Tryz.results44,go_sem,x0,O,K];exact M
theorem W7{F:Nat}(hF:W.heap[F]?=some (G cs t m))(j:t=77)(i:W.grownBy W' (some F)):∀k v ds,Row k W v ds->Row k W' v ds:=by
 intro k v ds c;obtain⟨a,cap,e,_⟩:=id c;subst e;refine c.grown i (λp d hl=>?_);obtain⟨b,off,l,n,o,g⟩:=c.typ hl;rw[l]at d;cases d;intro e;subst e;have:=g.symm.trans hF;simp only[Ak,DI]at this;subst j;have f:=this.2.1;revert f;cases k<;>(show ¬(_=_);decide)
theorem Pi{F:Nat}(hF:W.heap[F]?=some (G cs t m))(i:t=77)(g:W.grownBy W' (some F)){r:Bool}{v:Value}{qs:List Rat}(h:RowK r W v qs):RowK r W' v qs:=by
 obtain⟨a,cap,e,l,f,j,d⟩:=h;refine⟨a,cap,e,l,f,j,?_⟩;rcases d with d|⟨b,n,c⟩
 . exact Or.inl d
 . refine Or.inr ⟨b,n,c.keep (g.block b c.lt (λe=>?_)) (W7 hF i g)⟩;obtain⟨o,k,_⟩:=c;have e:=A6 e;subst e;have:=k.symm.trans hF;simp only[Ak,DI]at this;subst i;have f:=this.2.1;revert f;cases r<;>(show ¬(_=_);decide)
theorem W8(s:ByteArray)(ps:List Rat)(w:I)(O:∀V R,Db V R s 0->Calls H 90 #[.pointer (some ⟨R,0,none⟩)] V λr i=>V.grownBy i (some R)/\∃u,r=.returned u/\JC i u ps):
 Calls H 44 #[D s] w λr i=>∃u,r=.returned (.tuple #[u,.agg #[C E 0,C E 0]])/\JC i u ps/\Bl w i:=by
 have ad:∀(fn:Fn) (first cap:Array Value) (w:I),(Instr.makeFunc fn first cap).run H w=.ok (.func fn first cap) w:=λ_ _ _ _=>rfl;have T:=Ja O;clear O;go_enter_defers Tryz.func44,Tryz.ntmps44
 go_upto_region 3 with fail
 have g:=BK w 25 (F none 0 0);have d:=Jj.new (w.alloc (G #[F none 0 0] 25)) 77 (C E 0) (C E 0);have m:Db (((w.alloc (G #[F none 0 0] 25)).alloc (G #[C E 0,C E 0] 77)).alloc (G #[D s,C E 0] 124)) ((w.alloc (G #[F none 0 0] 25)).alloc (G #[C E 0,C E 0] 77)).heap.size s 0:=BC _ _;rw[A1,A1]at m;rw[A1]at d;replace g:=(g.alloc (G #[C E 0,C E 0] 77)).alloc (G #[D s,C E 0] 124);replace d:=d.alloc (G #[D s,C E 0] 124);have o:Bl w (((w.alloc (G #[F none 0 0] 25)).alloc (G #[C E 0,C E 0] 77)).alloc (G #[D s,C E 0] 124)):=((Ba w _).alloc (by rw[A1];omega) _).alloc (by rw[A1,A1];omega) _;have hz:(((w.alloc (G #[F none 0 0] 25)).alloc (G #[C E 0,C E 0] 77)).alloc (G #[D s,C E 0] 124)).heap.size=w.heap.size+1+1+1:=by rw[A1,A1,A1]
 obtain⟨V,x⟩:=ex (((w.alloc (G #[F none 0 0] 25)).alloc (G #[C E 0,C E 0] 77)).alloc (G #[D s,C E 0] 124));rw[x]at g d m o hz;rw[x];obtain⟨H0,P,Z,HC⟩:=D3 g d o (T.o _ _ m);clear g d m o x T hz;go_wp2_with(go_at_call 90;refine HC.o.mono ?_;rintro e l ⟨Q,u1,rfl,v⟩;have L:=Ja Q;obtain⟨a,c,b,rfl⟩:=v.form;have HU:=Ja v.row;have j:Boxed l w.heap.size 25 (F none 0 0):=H0.o.kept L.o (λe=>by have:=A6 e;omega);have n:Jj l (w.heap.size+1) 77 (C E 0) (C E 0):=(L.o.block _ P.o.lt (λe=>by have:=A6 e;omega)).trans P.o;have x0:=j.cell;have x1:=j.frozen;obtain⟨y0,y1⟩:=n.cp;obtain⟨z0,z1⟩:=n.fp;have H2:=Ja j;have H3:=Ja n;clear Q v j n)
 have y:w.heap.size+1≠w.heap.size:=om
 have Qd:Bl w l:=Z.o.grown L.o Z.o.size (λk e=>by have:=A6 e;omega);have U:=H2.o.set (F a c b);have W:=Ei H2.o (F a c b) HU.o;have q:=H3.o.far (p:=⟨w.heap.size,0,none⟩) y (F a c b);have M:=Qd.setCell (p:=⟨w.heap.size,0,none⟩) (Aa _) (F a c b);generalize l.setCell ⟨w.heap.size,0,none⟩ (F a c b)=z at U W q M ⊢;have b1:=(BG z ⟨w.heap.size+1,0,none⟩ (C E 0) w.heap.size (λe=>y e.symm)).trans U;have N:=Pi q rfl (JD z (w.heap.size+1) 0 (C E 0)) W;have J:=q.set0 (C E 0);have b4:=M.setCell (p:=⟨w.heap.size+1,0,none⟩) (by show _<=w.heap.size+1;omega) (C E 0);generalize z.setCell ⟨w.heap.size+1,0,none⟩ (C E 0)=t at b1 N J b4 ⊢;have d1:=(BG t ⟨w.heap.size+1,1,none⟩ (C E 0) w.heap.size (λe=>y e.symm)).trans b1;have Y:=Pi J rfl (JD t (w.heap.size+1) 1 (C E 0)) N;have B:=J.set1 (C E 0);have A:=b4.setCell (p:=⟨w.heap.size+1,1,none⟩) (by show _<=w.heap.size+1;omega) (C E 0);generalize t.setCell ⟨w.heap.size+1,1,none⟩ (C E 0)=K at d1 Y B A ⊢;refine leaves_cons (f:=89) (args:=#[.pointer (some ⟨w.heap.size,0,none⟩),.pointer (some ⟨w.heap.size+1,0,none⟩)]) DO (by simp[go_sem]) ?_;refine(Wf ⟨w.heap.size,0,none⟩ ⟨w.heap.size+1,0,none⟩ _).mono ?_;rintro e u' w2 ⟨rfl,rfl,rfl⟩;have e1:Boxed K w.heap.size 25 (F a c b):=d1;have f1:=(e1.alloc (G #[C E 0,C E 0] 77)).cell;have f2:=(B.alloc (G #[C E 0,C E 0] 77)).c0;have f3:=(B.alloc (G #[C E 0,C E 0] 77)).c1;have S:=A.alloc A.size (G #[C E 0,C E 0] 77);have X:=Y.below (Ba K (G #[C E 0,C E 0] 77));generalize K.alloc (G #[C E 0,C E 0] 77)=W5 at f1 f2 f3 S X ⊢;simp[Leaves,settle,results,Tryz.results44,go_sem,f1,f2,f3];exact⟨⟨_,rfl,X⟩,S⟩
attribute [local go_sem] Oper.semAt_some
theorem Pj:∀(f:Nat) (b:Bool) (I m:Nat) (S d:List Rat) (k:Nat),I<=l.length->m<=I->YA S m->X9 l f b I S=.ok d k->∃o,o<=l.length/\YA d o:=by
 intro f;induction f with
 |zero=>intro b I m S d k _ _ _ h;cases h
 |succ f q=>
  intro b I m S d k r w u h;cases g:JR l I with
  |bad e p=>rw[Il g]at h;cases h
  |ok a t=>
   obtain⟨c,n⟩:=a;have s:=IJ r g;have j:=u.next (Mh r g) s.2.2 b;have v:=F2 l t;have x:=Yp s.2.1;rw[Im g]at h;split at h
   . rename_i i;have:=JZ i;exact q _ _ (m+1) _ _ _ om om j h
   . split at h
     . rename_i i;have:=JZ i;exact q _ _ (m+1) _ _ _ om om j h
     . split at h
       . cases h;exact⟨m+1,om,j⟩
       . cases h
theorem W9{S:List Rat}{k:Nat}(h:XD l=.ok S k):∃m,m<=l.length/\YA S m:=by
 unfold XD at h;have a:=Yp (l:=l) (i:=0) om;split at h
 . rename_i b;have:=JZ b;exact Pj _ _ _ 0 _ _ _ om om YA.start h
 . exact Pj _ _ _ 0 _ _ _ a om YA.start h
theorem ZA(l:List UInt8):(JV l).1.length<=9/\∀i,DX 601 (cf (JV l).1 i):=by
 by_cases h:300<l.length
 . rw[show JV l=([],1,0)by unfold JV;rw[BI h]];exact⟨DO,λi=>by rw[Xb];exact DX.zero _ om⟩
 . rw[Kv h];cases a:XD l with
   |bad e p=>exact⟨by simp[Io],λi=>by rw[show(Io (Rd.bad (α:=List Rat) e p)).1=[]from rfl,Xb];exact DX.zero _ om⟩
   |ok S k=>
    obtain⟨m,b,hs⟩:=W9 a;rw[show(Io (Rd.ok S k)).1=Jh S from rfl];exact⟨AE (Jz _) (by rw[hs.1];exact Aa _),λi=>by rw[J9];exact(hs.2 i).mono om⟩
def Hx(l:List UInt8)(a:I)(u:Value)(e p:Int):Prop:=e=((JV l).2.1:Int)/\p=((JV l).2.2:Int)/\JC a u (JV l).1
theorem ZB(s:ByteArray)(hs:s.size<=300)(w:I):
 Calls H 44 #[D s] w λr a=>∃u e p,r=.returned (.tuple #[u,.agg #[C E e,C E p]])/\Hx (Jd s) a u e p/\Bl w a:=by
 have b:=Kv (l:=Jd s) (by rw[Jg];omega);cases c:XD (Jd s)with
 |bad i q0=>
  rw[c]at b;refine(W2 s i q0 w (λV R d=>(Pf R s V d hs).mono (λr a h=>⟨h.1,h.2.1 _ _ c⟩))).mono ?_;rintro r a ⟨rfl,f⟩;refine⟨_,_,_,rfl,?_,f⟩;rw[Hx,b];exact⟨rfl,rfl,_,rfl,RowK.nil _ _⟩
 |ok S k=>
  rw[c]at b;refine(W8 s (Jh S) w (λV R d=>(Pf R s V d hs).mono (λr a h=>⟨h.1,by obtain⟨u,j,m,_⟩:=h.2.2 _ _ c;exact⟨u,j,m⟩⟩))).mono ?_;rintro r a ⟨u,rfl,g,f⟩;refine⟨_,_,_,rfl,?_,f⟩;rw[Hx,b];exact⟨rfl,rfl,g⟩
theorem Pk(s:ByteArray)(w:I):
 Calls H 9 #[D s] w λr L=>∃u e p,r=.returned (.tuple #[u,C E e,C E p])/\Hx (Jd s) L u e p/\Bl w L:=by
 by_cases x:300<s.size
 . have S:(300:Int)<(s.size:Int):=om
   have R:=Ja (show JV (Jd s)=([],1,0)by unfold JV;rw[BI (by rw[Jg];exact x)]);clear x;go_enter Tryz.func9,Tryz.ntmps9
   go_wp2;exact BA (v:=.tuple #[.agg #[F none 0 0],C E 1,C E 0]) (by simp[results,Tryz.results9,go_sem]) rfl ⟨_,_,_,rfl,by rw[Hx,R.o];exact⟨rfl,rfl,_,rfl,RowK.nil _ _⟩,Ba w _⟩
 . have S:¬(300:Int)<(s.size:Int):=om
   have A:=Ja (λ(V:I)=>ZB s om V);clear x;go_enter Tryz.func9,Tryz.ntmps9
   go_upto_region 4 with(go_at_call 44;refine(A.o _).mono ?_;clear A;rintro e a ⟨u1,d,k,rfl,b,c⟩;obtain⟨f,i,g,rfl⟩:=b.2.2.form;have o:=Ja b;have q:=Ja c;clear b c)
   have N:w.heap.size<a.heap.size:=by have:=q.o.size;rw[A1]at this;omega
   have q0:Boxed a w.heap.size 25 (F none 0 0):=(q.o.block _ (by rw[A1];omega)).trans (BK w 25 (F none 0 0));have z:Bl w a:=(Ba w _).trans (q.o.mono (by rw[A1];omega));have j:=BK a 25 (F f i g);have m:=Jj.new (a.alloc (G #[F f i g] 25)) 77 (C E d) (C E k);rw[A1]at m;replace j:=j.alloc (G #[C E d,C E k] 77);have l:Bl a ((a.alloc (G #[F f i g] 25)).alloc (G #[C E d,C E k] 77)):=(Ba a _).alloc (by rw[A1];omega) _;have q1:=(l.block _ q0.lt).trans q0;have c:=Bt z l;have b:=o.o.2.2.row.below l;have K:=Ja (⟨o.o.1,o.o.2.1⟩:d=_/\k=_);have y:w.heap.size≠a.heap.size:=om
   have J:w.heap.size≠a.heap.size+1:=om
   generalize (a.alloc (G #[F f i g] 25)).alloc (G #[C E d,C E k] 77)=U at j m l q1 c b ⊢;clear l q0 z q o N;obtain⟨Q,n⟩:=ex (w.heap.size);obtain⟨B,t⟩:=ex (a.heap.size);rw[t]at j m y J;rw[n]at q1 y J;rw[t,n];have q2:Boxed U Q 25 (F none 0 0):=q1;have x0:=j.cell;obtain⟨Z,X⟩:=m.cp;have P:=q2.cell;have Y:=q2.frozen;obtain⟨W,M,O,T⟩:=D3 q2 n c b;clear j m q1 q2 n t c b;go_region
   go_wp2_with fail
   have r0:=P;refine BA (v:=.tuple #[.agg #[F f i g],C E d,C E k]) (by simp[results,Tryz.results9,go_sem,r0]) rfl ⟨_,_,_,rfl,⟨K.o.1,K.o.2,_,rfl,?_⟩,?_⟩
   . exact(Ei W.o (F f i g) T.o).below ((BB _ _).drew)
   . exact(O.o.setCell (p:=⟨Q,0,none⟩) (by rw[M.o];exact Aa _) _).drew
end
section
variable{ps qs:List Rat}{A k:Nat}{q:Rat}
theorem ZC(h:DX k q):(JT q).length<=40*k+5:=by
 have b:=Gm q.num;have c:=Gm (q.den:Int);have a:=h.1.words;have d:=h.2.words;unfold JT;split
 . omega
 . rw[Al,Aj];omega
theorem DX.abs(h:DX k q):DX k (Xc q):=by
 have:=Ig q;unfold DX Sm at h ⊢;rw[this.1,this.2];exact⟨by have:=h.1;omega,h.2⟩
theorem ZD{c:Rat}(h:DX k c){i:Nat}(b:i<DN)(f:Bool):(XB c i f).length<=40*k+40:=by
 have a:=ZC h.abs;have l:=Gh i;have g:(Jc DN i).length<=1:=JI Je (by rw[Nat.pow_one];exact b);have d:(XF c f).length<=1:=by
  unfold XF;split
  . simp
  . split<;>simp
 have j:(YM c i).length<=40*k+5:=by
  unfold YM;split
  . simp
  . exact a
 have e:(EE i).length<=23:=by
  unfold EE;split
  . simp
  . split
    . simp
    . rw[Aj,Aj];omega
 unfold XB;rw[Al,Al];omega
theorem ZE(h:∀i,DX k (cf ps i))(hl:ps.length<=DN):∀(d m:Nat),ps.length-m=d->(JY (ps.drop m) m).length<=d*(40*k+40):=by
 intro d;induction d with
 |zero=>
  intro m b;rw[List.drop_of_length_le om];simp[JY]
 |succ d a=>
  intro m b;have a:=a (m+1) om;rw[XO ps (by omega:m<ps.length)];have c:=ZD (h m) (by omega:m<DN) (JY (ps.drop (m+1)) (m+1)).isEmpty;rw[AV];split
  . omega
  . rw[Al];omega
theorem Mi(h:Dc ps)(hl:ps.length<=3000000)(m:Nat):(JY (ps.drop m) m).length<=140737488355328:=by
 have a:=ZE (λi=>(h.at i).sm) uo _ m rfl;refine AE a (AE (Ao _ (Nat.sub_le _ _)) (AE (Ao _ hl) ?_));decide
theorem ZF(z:List Rat)(i:Nat)(a:Rat)(q:List Rat):∀(j k:Nat),i+j<=k->cf (Y8 z i a q j) k=cf z k:=by
 intro j;induction j with
 |zero=>intro k _;rfl
 |succ j b=>
  intro k c;rw[Y8];by_cases h:i+j<z.length
  . rw[X1 _ _ _ _ (by rw[YE];exact h),BE om,b k om]
  . rw[CX (by rw[YE];omega),b k om]
theorem K3(z:List Rat)(i:Nat)(a:Rat)(q:List Rat):∀(j k:Nat),cf (Y8 z i a q j) k=cf z k\/cf (Y8 z i a q j) k=cf z k+a*cf q (k-i):=by
 intro j;induction j with
 |zero=>intro k;exact Or.inl rfl
 |succ j b=>
  intro k;rw[Y8];by_cases h:i+j<z.length
  . rw[X1 _ _ _ _ (by rw[YE];exact h)];by_cases e:k=i+j
    . subst e;rw[BI rfl,ZF z i a q j (i+j) (Aa _)];exact Or.inr (by rw[Nat.add_sub_cancel_left])
    . rw[BE e];exact b k
  . rw[CX (by rw[YE];omega)];exact b k
theorem Pl(c:∀i,DX A (cf ps i))(b:∀j,DX A (cf qs j))(n:Nat):∀(i k:Nat),DX (min i ps.length*(A+A+1)+1) (cf (YO ps qs n i) k):=by
 intro i;induction i with
 |zero=>intro k;rw[YO,J3];exact DX.zero _ om
 |succ i a=>
  intro k;rw[YO];rcases K3 (YO ps qs n i) i (cf ps i) qs qs.length k with e|e
  . rw[e];exact(a k).mono (by have:min i ps.length*(A+A+1)<=min (i+1) ps.length*(A+A+1):=Ao _ om;omega)
  . rw[e];by_cases d:i<ps.length
    . rw[show min (i+1) ps.length=min i ps.length+1 from by omega,AV];exact((a k).add2 ((c i).mul (b (k-i)))).mono om
    . rw[J4 (p:=ps) om,Fp,Fy,show min (i+1) ps.length=min i ps.length from by omega];exact a k
theorem ZG(b:∀i,DX A (cf ps i))(a:∀j,DX A (cf qs j))(d:(ps.length+1)*(A+A+1)+1<=1000000):M3.Gp ps qs:=by
 have hle:A+A+1<=(ps.length+1)*(A+A+1):=Cw _ om;refine⟨λi j=>Sq.of ((b i).mul (a j)) om,λn i j k=>?_⟩;have c:=Pl b a n i k;have f:min i ps.length*(A+A+1)<=ps.length*(A+A+1):=Ao _ om;rw[AV]at d;rcases K3 (YO ps qs n i) i (cf ps i) qs j k with e|e
 . rw[e];exact Sq.of c om
 . rw[e];exact Sq.of (c.add2 ((b i).mul (a (k-i)))) om
theorem ZH(b:∀i,DX A (cf ps i))(a:∀j,DX A (cf qs j))(k:Nat):DX (ps.length*(A+A+1)+1) (cf (Xh ps qs) k):=by
 unfold Xh;rw[J9,GQ];have h:=Pl b a (ps.length+qs.length) ps.length k;rwa[I4 _ _ _ _ _ (Or.inr om),Nat.min_self]at h
def X6:List Rat:=[Rat.divInt 1 2,1]
def Gt:List Rat:=[Rat.divInt 1 4,1,1]
theorem ZI:JV [120,32,43,32,49,47,50]=(X6,0,0):=IC
theorem Pm:Xh X6 X6=Gt:=IC
attribute [local go_sem] Oper.semAt_some
theorem _root_.Go.Boxed.bel{W W':I}{B:Nat}{t:TypeId}{v:Value}(h:Boxed W B t v)(a:Bl W W'):Boxed W' B t v:=(a.block B h.lt).trans h
theorem ZJ:FC Gt=[120,94,50,43,120,43,49,47,52]:=IC
theorem Is(i:Nat):DX 1 (cf X6 i):=by
 rcases i with _|_|i
 . exact⟨by show Sm 1 1;unfold Sm DN;decide,by show Sm 1 2;unfold Sm DN;decide⟩
 . exact⟨by show Sm 1 1;unfold Sm DN;decide,by show Sm 1 1;unfold Sm DN;decide⟩
 . rw[J4 (by simp[X6])];exact DX.zero 1 om
theorem Pn:Dc X6:=Dc.of λi=>Sq.of (Is i) om
theorem Po:Dc Gt:=Dc.of λi=>by rw[<-Pm];exact Sq.of (ZH Is Is i) (by simp[X6])
theorem ZK(e:Int)(w:I):Calls H 12 #[C E e] w λr a=>r=.returned (C E e)/\Bl w a:=by
 go_enter Tryz.func12,Tryz.ntmps12
 go_wp2;go_ret;exact⟨rfl,BB _ _⟩
theorem ZL(w:I)(N:Gq w):Calls H 19 #[] w λr t=>r=.returned (.bool true)/\Bl w t:=by
 have S:=Ja N;have O:=Ja (λ(V:I)=>show Calls H 9 #[D ⟨#[120,32,43,32,49,47,50]⟩] V λr t=>∃u,r=.returned (.tuple #[u,C E 0,C E 0])/\JC t u X6/\Bl V t from
  (Pk ⟨#[120,32,43,32,49,47,50]⟩ V).mono (λr t h=>by
   obtain⟨u,e,p,R,L,P⟩:=h;rw[Hx,show Jd ⟨#[120,32,43,32,49,47,50]⟩=[120,32,43,32,49,47,50]from rfl,ZI]at L;obtain⟨rfl,rfl,Q⟩:=L;exact⟨u,R,Q,P⟩))
 have M:=Ja (BB w.heap.size w);clear N;go_enter Tryz.func19,Tryz.ntmps19
 go_upto_region 2 with(go_at_call 9;refine(O.o _).mono ?_;clear O;rintro e l ⟨u,rfl,i,b⟩;obtain⟨y,B,c1,rfl⟩:=i.form)
 replace M:=Ja (Bt M.o b);have c:Bl l (l.alloc (G #[F y B c1] 25)):=Ba l _;have g:=BK l 25 (F y B c1);have f:=i.below c;replace M:=Ja (Bt M.o c);clear c;obtain⟨v,d⟩:=ex (l.alloc (G #[F y B c1] 25));obtain⟨U,j⟩:=ex (l.heap.size);rw[d]at f M;rw[d,j]at g;rw[d];rw[j];clear d j;clear i b;have k:=Ja (λ(V:I) (h:Bl v V)=>M3.O6 _ _ X6 X6 V (f.below h) (f.below h) Pn Pn (ZG Is Is (by simp[X6])) (by simp[X6]));rw[Pm]at k;have a:Bl v v:=BB _ _;have T:=(g.bel a).cell;go_upto_region 3 with(go_at_call 28;refine(k.o _ a).mono ?_;clear k;rintro e n ⟨u,rfl,i,_,b⟩;obtain⟨x,A,c2,rfl⟩:=i.form)
 replace b:=Bt a b
 clear a T;replace g:=g.bel b;replace f:=f.below b;replace M:=Ja (Bt M.o b);clear b;have c:Bl n (n.alloc (G #[F x A c2] 25)):=Ba n _;have q:=BK n 25 (F x A c2);have z:=i.below c;replace g:=g.bel c;replace f:=f.below c;replace M:=Ja (Bt M.o c);clear c;obtain⟨s,d⟩:=ex (n.alloc (G #[F x A c2] 25));obtain⟨X,j⟩:=ex (n.heap.size);rw[d]at g f z M;rw[d,j]at q;rw[d];rw[j];clear d j;clear i;have k:=Ja (λ(V:I) (h:Bl s V)=>ZK 0 V);have J:=Ja (λ(V:I) (h:Bl s V)=>MS _ Gt V (z.below h) Po (λm=>Mi Po (by simp[Gt]) m) (J6 S.o (Bt M.o h)));rw[ZJ]at J;have K:=Ja (λ(V:I) (h:Bl s V)=>Ot _ Gt V (z.below h));rw[show((Gt.length:Int)-1)=2 from rfl]at K;have a:Bl s s:=BB _ _;have o:=(q.bel a).cell;go_wp2_with(first
  |(go_at_call 12;refine(k.o _ a).mono ?_;clear k;rintro e x1 ⟨rfl,b⟩;replace a:=Bt a b;clear b o;have o:=(q.bel a).cell)
  |(go_at_call 13;refine(J.o _ a).mono ?_;clear J;rintro e Y ⟨rfl,b⟩;replace a:=Bt a b;clear b o;have o:=(q.bel a).cell)
  |(go_at_call 15;refine(K.o _ a).mono ?_;clear K;rintro e W ⟨rfl,b⟩;replace a:=Bt a b;clear b o;have o:=(q.bel a).cell))
 go_ret;exact⟨rfl,Bt M.o a⟩
theorem ZM(l:List UInt8):Jh (JV l).1=(JV l).1:=by
 by_cases h:300<l.length
 . rw[show JV l=([],1,0)by unfold JV;rw[BI h]];rfl
 . rw[Kv h];cases XD l with
   |bad e p=>rfl
   |ok S k=>exact Y2 _
theorem _root_.Go.Proofs.YtcahejkcdcjjgaaGreatDoor.RowK.isPoly{V:I}{a:Option Addr}{l c:Nat}(h:RowK true V (F a l c) ps):JC V (.agg #[F a l c]) ps:=⟨_,rfl,h⟩
end
variable{Q R ps qs:List Rat}{A b k m n:Nat}{a p q:Rat}
theorem DX.mul2(b:DX k p)(a:DX m q):DX (k+m) (p*q):=by
 rw[<-Le];refine DX.divInt ?_ (b.1.mul a.1) (b.2.mul a.2);exact Cs (by have:=p.den_nz;omega) (by have:=q.den_nz;omega)
theorem DX.inv(a:DX m q)(b:q≠0):DX m q⁻¹:=by
 rw[Rat.inv_def];exact DX.divInt (λe=>b (Rat.num_eq_zero.1 e)) a.2 a.1
theorem DX.div2(c:DX k p)(a:DX m q)(b:q≠0):DX (k+m) (p/q):=by
 rw[Rat.div_def];exact c.mul2 (a.inv b)
theorem DX.sub2(b:DX k p)(a:DX m q):DX (k+m+1) (p-q):=by
 rw[Rat.sub_eq_add_neg];exact b.add2 a.neg
theorem Mj{p:List Rat}(a:Jh p=p)(h:∀i,m<=i->cf p i=0):p.length<=m:=by
 by_cases hl:p.length<=m
 . exact hl
 . exfalso
   exact Y3 a (by intro e;rw[e]at hl;simp at hl) (h _ om)
theorem ZN(n:Nat)(a:Rat)(i:Nat):cf (Jh (Dg n [a])) i=if i=n then a else 0:=by rw[J9,Ku]
theorem ZO(n:Nat)(a:Rat):(Jh (Dg n [a])).length<=n+1:=YL n a
theorem Pp(n:Nat)(a:Rat)(x:Rat):ev (Jh (Dg n [a])) x=x^n*a:=by
 rw[GP,I2];show x^n*(a+x*0)=_;grind
theorem Pq(n:Nat)(a:Rat)(q:List Rat)(i:Nat):cf (Xh (Jh (Dg n [a])) q) i=if n<=i then a*cf q (i-n)else 0:=by
 have e:Xh (Jh (Dg n [a])) q=Jh (YJ a (Dg n q)):=by
  rw[<-Mz];refine I0 λx=>?_;rw[M7,Pp,XG,I2];grind
 rw[e,J9,Y4,GR];split
 . exact Rat.mul_comm _ _
 . exact Fp _
def Gu(A a:Nat)(ps qs R Q:List Rat)(k:Nat):Prop:=
 Jh R=R/\Jh Q=Q/\k+R.length<=a/\Q.length<=a/\(∀x,ev ps x=ev qs x*ev Q x+ev R x)/\(∀i,i+qs.length<=R.length->cf Q i=0)/\
  ∃z,z+(2*A+1)<=2^k*(3*A+1)/\(∀i,DX z (cf R i))/\∀i,DX (z+A) (cf Q i)
theorem Gu.start(c:1<=A)(b:Jh ps=ps)(a:∀i,DX A (cf ps i)):Gu A ps.length ps qs ps [] 0:=by
 refine⟨b,rfl,om,DO,λx=>?_,λi _=>Xb i,A,om,a,λi=>?_⟩
 . show _=ev qs x*0+_;grind
 . rw[Xb];exact DX.zero _ om
theorem ZP(f:Jh qs=qs)(b:qs≠[])(hl:qs.length<=R.length)(g:n=R.length-qs.length)
(d:a=cf R (R.length-1)/cf qs (qs.length-1)):(Ew R (Xh (Jh (Dg n [a])) qs)).length<=R.length-1:=by
 have j:0<qs.length:=A3.2 b;have c:=Y3 f b;refine Mj (My _ _) λi k=>?_;rw[M8,Pq];by_cases e:i=R.length-1
 . rw[BI om,e,show R.length-1-n=qs.length-1 from by omega,d,Rat.div_mul_cancel c,Rat.sub_self]
 . rw[J4 (p:=R) om,BI om,J4 (p:=qs) om,Rat.mul_zero,Rat.sub_self]
theorem Gu.next(h:Gu A b ps qs R Q k)(j:∀i,DX A (cf qs i))(l:Jh qs=qs)(d:qs≠[])(hl:qs.length<=R.length)(u:n=R.length-qs.length)
(m:a=cf R (R.length-1)/cf qs (qs.length-1)):Gu A b ps qs (Ew R (Xh (Jh (Dg n [a])) qs)) (EP Q (Jh (Dg n [a]))) (k+1):=by
 obtain⟨B,L,w,y,t,o,z,K,f,r⟩:=h;have J:0<qs.length:=A3.2 d;have s:=Y3 l d;have p:∀i,cf (Ew R (Xh (Jh (Dg n [a])) qs)) i=cf R i-(if n<=i then a*cf qs (i-n)else 0):=λi=>by rw[M8,Pq]
 have c:∀i,cf (EP Q (Jh (Dg n [a]))) i=if i=n then a else cf Q i:=λi=>by
  rw[I6,ZN];split
  . rename_i e;rw[e,o n om,Rat.zero_add]
  . exact Fy _
 have v:=ZP l d hl u m;have g:DX (z+A) a:=by rw[m];exact(f _).div2 (j _) s
 refine⟨My _ _,I5 _ _,om,Mj (I5 _ _) (λi q=>?_),λx=>?_,λi q=>?_,2*z+(2*A+1),?_,λi=>?_,λi=>?_⟩
 . rw[c,BE om,J4 om]
 . rw[QJ,QK,M7,Pp,t x];grind
 . rw[c,BE om];exact o i om
 . rw[AR,As (2^k) 2,Aw];omega
 . rw[p];split
   . exact((f i).sub2 (g.mul2 (j _))).mono om
   . rw[Rat.sub_eq_add_neg,Rat.neg_zero,Fy];exact(f i).mono om
 . rw[c];split
   . exact g.mono om
   . exact(r i).mono om
theorem Gu.done(h:Gu A b ps qs R Q k)(c:Jh qs=qs)(a:qs≠[])(hl:R.length<qs.length):Q=IG ps qs/\R=GS ps qs:=by
 obtain⟨i,l,_,_,f,_⟩:=h;obtain⟨g,e,d,j⟩:=QH ps qs c a;exact QC c a l d i j hl e (λx=>by rw[<-f x,<-g x])

