import Derived.Test.YtakpoihdghihmaaGreatDoorU34
set_option linter.all false
open Go.Value renaming slice->C,int->G,pointer->P,bool->T,string->U
open Go.IntKind renaming i64->F
open Go.Obj renaming cells->H
open Go renaming undef->I,World->L,Value->o
open Go.Proofs.Tryz renaming prog->g
set_option maxRecDepth 99999
set_option maxHeartbeats 0
namespace Go.Proofs.YtakpoihdghihmaaGreatDoor
open Rat renaming divInt->nM
open List renaming replicate->nL
open Proofs.Tryz
open Go.RowKit Go.Shelf
attribute [local go_sem] Oper.semAt_some
section
variable{cs:Array o}{m:Nat × Nat}{t:TypeId}{W W':L}
def iT(p q:Addr)(w:L):
 CallsD g 119 #[P (some p),P (some q)] .returning w λe d f=>e=.returned (.tuple #[])/\d=.returning/\f=w.alloc (H #[G F 0,G F 0] 101):=by
 have a:∀w:L,(Instr.typeAssert Value.nilIface 20 101 true).run g w=.ok (.tuple #[.agg #[G F 0,G F 0],T false]) w:=λ_=>by kernel_rfl
 refine callsD_of_wpS func119 J λb cs c=>?_;apply wpS_seq;apply wpS_region;simp[wpOpsS,go_sem,recoverD,c,ntmps119,Exit.thenS,a];apply wpS_seq;apply wpS_region;simp[wpOpsS,go_sem,Exit.thenS];refine wpS_cond (t:=false) (by simp[Act.eval,Array.replicate]) ?_;simp only[C7,if_false];refine wpS_of_wp (wp_skip ?_);cases b;simp_all [bodyPostS,results,results119]
def iU(p q:Nat)(a p0:Int)(w:L)(i:Boxed w p 25 (C none 0 0))(j:Jp w q 101 (G F 0) (G F 0))(m:p≠q):
 CallsD g 119 #[P (some ⟨p,0,none⟩),P (some ⟨q,0,none⟩)] (.panicking [{ v:=Gu a p0,recovered:=false }]) w λe Q r=>e=.returned (.tuple #[])/\Q=.panicking [{ v:=Gu a p0,recovered:=true }]/\Boxed r p 25 (C none 0 0)/\Jp r q 101 (G F a) (G F p0)/\∀n w0,Below n w0 w->n<=w.heap.size->n<=p->n<=q->Below n w0 r:=by
 unfold Gu;have s:∀w:L,(Instr.typeAssert (.iface 101 (.agg #[G F a,G F p0])) 20 101 true).run g w=.ok (.tuple #[.agg #[G F a,G F p0],T true]) w:=λ_=>by kernel_rfl
 refine callsD_of_wpS func119 J λR cs A=>?_;apply wpS_seq;apply wpS_region;simp[wpOpsS,go_sem,recoverD,A,ntmps119,Exit.thenS,s];apply wpS_seq;apply wpS_region;simp[wpOpsS,go_sem,Exit.thenS];refine wpS_cond (t:=true) (by simp[Act.eval,Array.replicate]) ?_;simp only[if_true];refine wpS_of_wp ?_;simp[Array.replicate];have d:=Jp.new w 101 (G F a) (G F p0);have c:=i.alloc (H #[G F a,G F p0] 101);have b:=j.alloc (H #[G F a,G F p0] 101);have K:p≠w.heap.size:=by have:=i.lt;omega
 have M:q≠w.heap.size:=by have:=j.lt;omega
 have f:=Y λ(n:Nat) (w0:L) (h:Below n w0 w) (l:n<=w.heap.size)=>h.alloc l (H #[G F a,G F p0] 101);obtain⟨W,k⟩:=ex (w.alloc (H #[G F a,G F p0] 101));rw[k]at d c b f;rw[k];obtain⟨D,hD⟩:=ex (w.heap.size);rw[hD]at d K M f;rw[hD];clear k i j s A;obtain⟨d0,d1⟩:=d.cp;have x0:=c.cell;have x1:=c.frozen;obtain⟨S,X⟩:=b.cp;obtain⟨z0,z1⟩:=b.fp;have B:=Y c;have E:=Y b;clear c b d;go_region
 have x:Boxed (((W.setCell ⟨p,0,none⟩ (C none 0 0)).setCell ⟨q,0,none⟩ (G F a)).setCell ⟨q,1,none⟩ (G F p0)).drew p 25 (C none 0 0):=
  (BC _ ⟨q,1,none⟩ (G F p0) p m).trans ((BC _ ⟨q,0,none⟩ (G F a) p m).trans (B.o.set (C none 0 0)))
 have y:Jp (((W.setCell ⟨p,0,none⟩ (C none 0 0)).setCell ⟨q,0,none⟩ (G F a)).setCell ⟨q,1,none⟩ (G F p0)).drew q 101 (G F a) (G F p0):=
  (((E.o.far (p:=⟨p,0,none⟩) (λe=>m e.symm) _).set0 _).set1 _).drew
 have z:∀n w0,Below n w0 w->n<=D->n<=p->n<=q->Below n w0 (((W.setCell ⟨p,0,none⟩ (C none 0 0)).setCell ⟨q,0,none⟩ (G F a)).setCell ⟨q,1,none⟩ (G F p0)).drew:=
  λn w0 h l N u=>((((f.o n w0 h l).setCell (p:=⟨p,0,none⟩) N _).setCell (p:=⟨q,0,none⟩) u _).setCell (p:=⟨q,1,none⟩) u _).drew
 generalize (((W.setCell ⟨p,0,none⟩ (C none 0 0)).setCell ⟨q,0,none⟩ (G F a)).setCell ⟨q,1,none⟩ (G F p0)).drew=V at x y z ⊢;simp[bodyPostS,results,results119];exact⟨x,y,z⟩
theorem iV(s:ByteArray)(i q0:Int)(w:L)(u:∀V R,DY V R s 0->Calls g 120 #[P (some ⟨R,0,none⟩)] V λr m=>V.grownBy m (some R)/\r=.panicked [{ v:=Gu i q0,recovered:=false }]):
 Calls g 61 #[U s] w λr m=>r=.returned (.tuple #[.agg #[C none 0 0],.agg #[G F i,G F q0]])/\Bl w m:=by
 have X:∀(fn:Fn) (first cap:Array o) (w:L),(Instr.makeFunc fn first cap).run g w=.ok (.func fn first cap) w:=λ_ _ _ _=>rfl;have q:=Y u;clear u;go_enter_defers func61,ntmps61
 go_upto_region 3 with fail
 have b:=BF w 25 (C none 0 0);have a:=Jp.new (w.alloc (H #[C none 0 0] 25)) 101 (G F 0) (G F 0);have c:DY (((w.alloc (H #[C none 0 0] 25)).alloc (H #[G F 0,G F 0] 101)).alloc (H #[U s,G F 0] 151)) ((w.alloc (H #[C none 0 0] 25)).alloc (H #[G F 0,G F 0] 101)).heap.size s 0:=BB _ _;rw[Ax,Ax]at c;rw[Ax]at a;replace b:=(b.alloc (H #[G F 0,G F 0] 101)).alloc (H #[U s,G F 0] 151);replace a:=a.alloc (H #[U s,G F 0] 151);have l:Bl w (((w.alloc (H #[C none 0 0] 25)).alloc (H #[G F 0,G F 0] 101)).alloc (H #[U s,G F 0] 151)):=((Ba w _).alloc (by rw[Ax];omega) _).alloc (by rw[Ax,Ax];omega) _;have y:(((w.alloc (H #[C none 0 0] 25)).alloc (H #[G F 0,G F 0] 101)).alloc (H #[U s,G F 0] 151)).heap.size=w.heap.size+1+1+1:=by rw[Ax,Ax,Ax]
 obtain⟨V,j⟩:=ex (((w.alloc (H #[C none 0 0] 25)).alloc (H #[G F 0,G F 0] 101)).alloc (H #[U s,G F 0] 151));rw[j]at b a c l y;rw[j];obtain⟨A,n,p,B⟩:=Di b a l (q.o _ _ c);clear b a c l j q y;go_wp2_with(go_at_call 120;refine B.o.mono ?_;rintro e z ⟨x,rfl⟩;have d:=Y x;clear x)
 have E:Boxed z w.heap.size 25 (C none 0 0):=A.o.kept d.o (λe=>by have:=Ck e;omega);have D:Jp z (w.heap.size+1) 101 (G F 0) (G F 0):=(d.o.block _ n.o.lt λe=>by have:=Ck e;omega).trans n.o;have t:=p.o.grown d.o p.o.size (λk e=>by grind);refine leaves_cons (f:=119) (args:=#[P (some ⟨w.heap.size,0,none⟩),P (some ⟨w.heap.size+1,0,none⟩)]) DG (by simp[go_sem]) ?_;refine(iU w.heap.size (w.heap.size+1) i q0 _ E D O).mono ?_;rintro e u' w2 ⟨rfl,rfl,K,M,N⟩;have Q:=N _ _ t t.size (Aa _) O;have x0:=K.cell;obtain⟨S,W⟩:=M.cp;simp[Leaves,settle,results,results61,go_sem,x0,S,W];exact Q
theorem iW{F:Nat}(hF:W.heap[F]?=some (H cs t m))(l:t=101)(hg:W.grownBy W' (some F)):∀k v ds,Row k W v ds->Row k W' v ds:=by
 intro k v ds c;obtain⟨a,cap,e,_⟩:=id c;subst e;refine c.grown hg λp i hl=>?_;obtain⟨b,q,f,d,n,j⟩:=c.typ hl;grind
def UC{F:Nat}(hF:W.heap[F]?=some (H cs t m))(i:t=101)(hg:W.grownBy W' (some F)){r:Bool}{v:o}{qs:Ja}(h:RowK r W v qs):RowK r W' v qs:=by
 obtain⟨a,cap,e,l,c,n,d⟩:=h;refine⟨a,cap,e,l,c,n,?_⟩;rcases d with d|⟨b,j,f⟩
 . exact An d
 . refine Au ⟨b,j,f.keep (hg.block b f.lt λe=>?_) (iW hF i hg)⟩;obtain⟨p,k,_⟩:=f;have e:=Ck e;subst e;have:=k.symm.trans hF;simp only[AX,Obj.cells.injEq]at this;subst i;have c:=this.2.1;revert c;cases r<;>(show ¬(_=_);decide)
theorem iX(s:ByteArray)(ps:Ja)(w:L)(hP:∀V R,DY V R s 0->Calls g 120 #[P (some ⟨R,0,none⟩)] V λr j=>V.grownBy j (some R)/\∃u,r=.returned u/\Jh j u ps):
 Calls g 61 #[U s] w λr j=>∃u,r=.returned (.tuple #[u,.agg #[G F 0,G F 0]])/\Jh j u ps/\Bl w j:=by
 have ae:∀(fn:Fn) (first cap:Array o) (w:L),(Instr.makeFunc fn first cap).run g w=.ok (.func fn first cap) w:=λ_ _ _ _=>rfl;have X:=Y hP;clear hP;go_enter_defers func61,ntmps61
 go_upto_region 3 with fail
 have i:=BF w 25 (C none 0 0);have c:=Jp.new (w.alloc (H #[C none 0 0] 25)) 101 (G F 0) (G F 0);have n:DY (((w.alloc (H #[C none 0 0] 25)).alloc (H #[G F 0,G F 0] 101)).alloc (H #[U s,G F 0] 151)) ((w.alloc (H #[C none 0 0] 25)).alloc (H #[G F 0,G F 0] 101)).heap.size s 0:=BB _ _;rw[Ax,Ax]at n;rw[Ax]at c;replace i:=(i.alloc (H #[G F 0,G F 0] 101)).alloc (H #[U s,G F 0] 151);replace c:=c.alloc (H #[U s,G F 0] 151);have K:Bl w (((w.alloc (H #[C none 0 0] 25)).alloc (H #[G F 0,G F 0] 101)).alloc (H #[U s,G F 0] 151)):=((Ba w _).alloc (by rw[Ax];omega) _).alloc (by rw[Ax,Ax];omega) _;have hz:(((w.alloc (H #[C none 0 0] 25)).alloc (H #[G F 0,G F 0] 101)).alloc (H #[U s,G F 0] 151)).heap.size=w.heap.size+1+1+1:=by rw[Ax,Ax,Ax]
 obtain⟨V,E⟩:=ex (((w.alloc (H #[C none 0 0] 25)).alloc (H #[G F 0,G F 0] 101)).alloc (H #[U s,G F 0] 151));rw[E]at i c n K hz;rw[E];obtain⟨H0,Q,W,HC⟩:=Di i c K (X.o _ _ n);clear i c n K E X hz;go_wp2_with(go_at_call 120;refine HC.o.mono ?_;rintro e N ⟨ad,u1,rfl,M⟩;have q:=Y ad;obtain⟨a,d,b,rfl⟩:=M.form;have HU:=Y M.row;have m:Boxed N w.heap.size 25 (C none 0 0):=H0.o.kept q.o (λe=>by have:=Ck e;omega);have l:Jp N (w.heap.size+1) 101 (G F 0) (G F 0):=(q.o.block _ Q.o.lt λe=>by have:=Ck e;omega).trans Q.o;have x0:=m.cell;have x1:=m.frozen;obtain⟨y0,y1⟩:=l.cp;obtain⟨z0,z1⟩:=l.fp;have S:=Y m;have H3:=Y l;clear ad M m l)
 have t:w.heap.size+1≠w.heap.size:=O
 have Qd:=W.o.grown q.o W.o.size (λk e=>by grind);have a1:=S.o.set (C a d b);have a2:=Ez S.o (C a d b) HU.o;have z:=H3.o.far (p:=⟨w.heap.size,0,none⟩) t (C a d b);have a4:=Qd.setCell (p:=⟨w.heap.size,0,none⟩) (Aa _) (C a d b);generalize N.setCell ⟨w.heap.size,0,none⟩ (C a d b)=v at a1 a2 z a4 ⊢;have b1:=(BC v ⟨w.heap.size+1,0,none⟩ (G F 0) w.heap.size λe=>t e.symm).trans a1;have b2:=UC z J (JH v (w.heap.size+1) 0 (G F 0)) a2;have A:=z.set0 (G F 0);have b4:=a4.setCell (p:=⟨w.heap.size+1,0,none⟩) DI (G F 0);generalize v.setCell ⟨w.heap.size+1,0,none⟩ (G F 0)=x at b1 b2 A b4 ⊢;have d1:=(BC x ⟨w.heap.size+1,1,none⟩ (G F 0) w.heap.size λe=>t e.symm).trans b1;have d2:=UC A J (JH x (w.heap.size+1) 1 (G F 0)) b2;have B:=A.set1 (G F 0);have D:=b4.setCell (p:=⟨w.heap.size+1,1,none⟩) DI (G F 0);generalize x.setCell ⟨w.heap.size+1,1,none⟩ (G F 0)=y at d1 d2 B D ⊢;refine leaves_cons (f:=119) (args:=#[P (some ⟨w.heap.size,0,none⟩),P (some ⟨w.heap.size+1,0,none⟩)]) DG (by simp[go_sem]) ?_;refine(iT ⟨w.heap.size,0,none⟩ ⟨w.heap.size+1,0,none⟩ _).mono ?_;rintro e u' w2 ⟨rfl,rfl,rfl⟩;have e1:Boxed y w.heap.size 25 (C a d b):=d1;have f1:=(e1.alloc (H #[G F 0,G F 0] 101)).cell;have f2:=(B.alloc (H #[G F 0,G F 0] 101)).c0;have f3:=(B.alloc (H #[G F 0,G F 0] 101)).c1;have f4:=D.alloc D.size (H #[G F 0,G F 0] 101);have f5:=d2.below (Ba y (H #[G F 0,G F 0] 101));generalize y.alloc (H #[G F 0,G F 0] 101)=W5 at f1 f2 f3 f4 f5 ⊢;simp[Leaves,settle,results,results61,go_sem,f1,f2,f3];exact⟨⟨_,J,f5⟩,f4⟩
def UD{l:List UInt8}:∀(f:Nat) (b:Bool) (I m:Nat) (S d:Ja) (k:Nat),I<=l.length->m<=I->Xu S m->EL l f b I S=.ok d k->∃u,u<=l.length/\Xu d u:=by
 intro f;induction f with
 |zero=>intro b I m S d k _ _ _ h;cases h
 |succ f t=>
  intro b I m S d k s z v h;cases i:Yh l I with
  |error e p=>rw[NW i]at h;cases h
  |ok a w=>
   obtain⟨c,n⟩:=a;have r:=MT s i;have j:=v.next (Ty s i) r.2.2 b;have x:=Gg l w;have y:=Yx r.2.1;rw[NX i]at h;split at h
   . rename_i q;have:=Yg q;exact t _ _ (m+1) _ _ _ O O j h
   . split at h
     . rename_i q;have:=Yg q;exact t _ _ (m+1) _ _ _ O O j h
     . split at h
       . cases h;exact⟨m+1,O,j⟩
       . cases h
def iY{l:List UInt8}{S:Ja}{k:Nat}(h:ED l=.ok S k):∃m,m<=l.length/\Xu S m:=by
 unfold ED at h;have a:=Yx (l:=l) (i:=0) O;split at h
 . rename_i b;have:=Yg b;exact UD _ _ _ 0 _ _ _ O O Xu.start h
 . exact UD _ _ _ 0 _ _ _ a O Xu.start h
theorem UE(l:List UInt8):(J7 l).1.length<=9/\∀i,DP 601 (cf (J7 l).1 i):=by
 by_cases h:300<l.length
 . grind[J7,YB,DP.zero]
 . rw[Lo h];cases b:ED l with
   |error e p=>grind[Lm,YB,DP.zero]
   |ok S k=>
    obtain⟨m,c,a⟩:=iY b;rw[show(Lm (EStateM.Result.ok S k)).1=Jc S from J];exact⟨Af (JV _) (by rw[a.1];exact Aa _),λi=>by rw[JT];exact(a.2 i).mono O⟩
def Kv(l:List UInt8)(a:L)(u:o)(e p:Int):Prop:=e=((J7 l).2.1:Int)/\p=((J7 l).2.2:Int)/\Jh a u (J7 l).1
def iZ(s:ByteArray)(i:s.size<=300)(w:L):
 Calls g 61 #[U s] w λr a=>∃u e p,r=.returned (.tuple #[u,.agg #[G F e,G F p]])/\Kv (Je s) a u e p/\Bl w a:=by
 have b:=Lo (l:=Je s) (by rw[Jl];omega);cases c:ED (Je s)with
 |error j q0=>
  rw[c]at b;refine(iV s j q0 w λV R d=>(Tz R s V d i).mono λr a h=>⟨h.1,h.2.1 _ _ c⟩).mono ?_;rintro r a ⟨rfl,f⟩;refine⟨_,_,_,J,?_,f⟩;rw[Kv,b];exact⟨J,J,_,J,RowK.nil _ _⟩
 |ok S k=>
  rw[c]at b;refine(iX s (Jc S) w λV R d=>(Tz R s V d i).mono λr a h=>⟨h.1,by obtain⟨u,m,n,_⟩:=h.2.2 _ _ c;exact⟨u,m,n⟩⟩).mono ?_;rintro r a ⟨u,rfl,q,f⟩;refine⟨_,_,_,J,?_,f⟩;rw[Kv,b];exact⟨J,J,q⟩
def UF(s:ByteArray)(w:L):
 Calls g 23 #[U s] w λr N=>∃u e p,r=.returned (.tuple #[u,G F e,G F p])/\Kv (Je s) N u e p/\Bl w N:=by
 by_cases z:300<s.size
 . have ad:(300:Int)<(s.size:Int):=O
   have R:=Y (show J7 (Je s)=([],1,0)by unfold J7;rw[BG (by rw[Jl];exact z)]);clear z;go_enter func23,ntmps23
   go_wp2;exact A0 (v:=.tuple #[.agg #[C none 0 0],G F 1,G F 0]) (by simp[results,results23,go_sem]) J ⟨_,_,_,J,by rw[Kv,R.o];exact⟨J,J,_,J,RowK.nil _ _⟩,Ba w _⟩
 . have ad:¬(300:Int)<(s.size:Int):=O
   have A:=Y λ(V:L)=>iZ s O V;clear z;go_enter func23,ntmps23
   go_upto_region 4 with(go_at_call 61;refine(A.o _).mono ?_;clear A;rintro e a ⟨u1,i,p1,rfl,b,c⟩;obtain⟨d,k,f,rfl⟩:=b.2.2.form;have q:=Y b;have n:=Y c;clear b c)
   have Qj:w.heap.size<a.heap.size:=by have:=n.o.size;rw[Ax]at this;omega
   have q0:Boxed a w.heap.size 25 (C none 0 0):=(n.o.block _ (by rw[Ax];omega)).trans (BF w 25 (C none 0 0));have K:=(Ba w _).trans (n.o.mono (by rw[Ax];omega));have j:=BF a 25 (C d k f);have l:=Jp.new (a.alloc (H #[C d k f] 25)) 101 (G F i) (G F p1);rw[Ax]at l;replace j:=j.alloc (H #[G F i,G F p1] 101);have m:Bl a ((a.alloc (H #[C d k f] 25)).alloc (H #[G F i,G F p1] 101)):=(Ba a _).alloc (by rw[Ax];omega) _;have x:=(m.block _ q0.lt).trans q0;have c:=Bt K m;have b:=q.o.2.2.row.below m;have M:=Y (⟨q.o.1,q.o.2.1⟩:i=_/\p1=_);have D:w.heap.size≠a.heap.size:=O
   have E:w.heap.size≠a.heap.size+1:=O
   generalize (a.alloc (H #[C d k f] 25)).alloc (H #[G F i,G F p1] 101)=W2 at j l m x c b ⊢;clear m q0 K n q Qj;obtain⟨Q,t⟩:=ex (w.heap.size);obtain⟨B,y⟩:=ex (a.heap.size);rw[y]at j l D E;rw[t]at x D E;rw[y,t];have q2:Boxed W2 Q 25 (C none 0 0):=x;have x0:=j.cell;obtain⟨y0,y1⟩:=l.cp;have z0:=q2.cell;have z1:=q2.frozen;obtain⟨X,W,Qk,S⟩:=Di q2 t c b;clear j l x q2 t y c b;go_region
   go_wp2_with fail
   have r0:=z0;refine A0 (v:=.tuple #[.agg #[C d k f],G F i,G F p1]) (by simp[results,results23,go_sem,r0]) J ⟨_,_,_,J,⟨M.o.1,M.o.2,_,J,?_⟩,?_⟩
   . exact(Ez X.o (C d k f) S.o).below ((BA _ _).drew)
   . exact(Qk.o.setCell (p:=⟨Q,0,none⟩) (by rw[W.o];exact Aa _) _).drew
end
section
variable{Q R:Ja}{k la m n:Nat}
theorem ik(z:Ja)(i:Nat)(a:Rat)(q:Ja):∀(j k:Nat),i+j<=k->cf (YZ z i a q j) k=cf z k:=by
 intro j;induction j with
 |zero=>intro k _;rfl
 |succ j c=>
  intro k b;grind[YZ,XY,C9]
theorem Kw(z:Ja)(i:Nat)(a:Rat)(q:Ja):∀(j k:Nat),cf (YZ z i a q j) k=cf z k\/cf (YZ z i a q j) k=cf z k+a*cf q (k-i):=by
 intro j;induction j with
 |zero=>intro k;exact An J
 |succ j b=>
  intro k;grind[YZ,XY,ik,C9]
def DP.mul2{p q:Rat}(hp:DP k p)(hq:DP m q):DP (k+m) (p*q):=by
 rw[<-Of];refine DP.divInt ?_ (hp.1.mul hq.1) (hp.2.mul hq.2);exact AV (by have:=p.den_nz;omega) (by have:=q.den_nz;omega)
def DP.inv{q:Rat}(hq:DP m q)(a:q≠0):DP m q⁻¹:=by
 rw[Rat.inv_def];exact DP.divInt (λe=>a (C4.1 e)) hq.2 hq.1
def DP.div2{p q:Rat}(hp:DP k p)(hq:DP m q)(a:q≠0):DP (k+m) (p/q):=by
 rw[Rat.div_def];exact hp.mul2 (hq.inv a)
def DP.sub2{p q:Rat}(hp:DP k p)(hq:DP m q):DP (k+m+1) (p-q):=by
 rw[Fq];exact hp.add2 hq.neg
def Xf{p:Ja}(hp:Jc p=p)(h:∀i,m<=i->cf p i=0):p.length<=m:=by
 by_cases hl:p.length<=m
 . exact hl
 . exfalso
   exact Jt hp DI (h _ O)
theorem Lr(n:Nat)(a:Rat)(i:Nat):cf (Jc (Df n [a])) i=if i=n then a else 0:=by rw[JT,NU]
def jA(n:Nat)(a:Rat):(Jc (Df n [a])).length<=n+1:=Pg n a
theorem UG(n:Nat)(a:Rat)(x:Rat):ev (Jc (Df n [a])) x=x^n*a:=by
 rw[XW,MI];show x^n*(a+x*0)=_;grind
theorem Ls(n:Nat)(a:Rat)(q:Ja)(i:Nat):cf (Jv (Jc (Df n [a])) q) i=if n<=i then a*cf q (i-n)else 0:=by
 have e:Jv (Jc (Df n [a])) q=Jc (Yv a (Df n q)):=by
  rw[<-Yq];refine MH λx=>?_;rw[Ji,UG,XM,MI];grind
 grind[JT,Xq,Ir]
theorem jB{M qs:Ja}(a:∀i,i≠n->cf M i=0)(N:Nat):∀i k,cf (Xx M qs N i) k=0\/cf (Xx M qs N i) k=cf M n*cf qs (k-n)/\n<i:=by
 intro i;induction i with
 |zero=>intro k;left;rw[Xx,J1]
 |succ i b=>
  intro k;grind[Xx,Kw]
theorem jC{M qs:Ja}(b:∀i,i≠n->cf M i=0)(c:∀j,Sq (cf M n*cf qs j)):M3.Hk M qs:=by
 have a:Sq 0:=Sq.of (k:=1) (DP.zero 1 O) O;refine⟨λi j=>?_,λN i j k=>?_⟩
 . grind
 grind[jB,Kw]
def IC(A la:Nat)(ps qs R Q:Ja)(k:Nat):Prop:=
 Jc R=R/\Jc Q=Q/\k+R.length<=la/\Q.length<=la/\(∀x,ev ps x=ev qs x*ev Q x+ev R x)/\(∀i,i+qs.length<=R.length->cf Q i=0)/\
  ∃z,z+(2*A+1)<=2^k*(3*A+1)/\(∀i,DP z (cf R i))/\∀i,DP (z+A) (cf Q i)
theorem IC.start{A:Nat}{ps qs:Ja}(b:1<=A)(a:Jc ps=ps)(hp:∀i,DP A (cf ps i)):IC A ps.length ps qs ps [] 0:=by
 refine⟨a,J,O,DG,λx=>?_,λi _=>YB i,A,O,hp,λi=>?_⟩
 . show _=ev qs x*0+_;grind
 . rw[YB];exact DP.zero _ O
def IC.sizes{A:Nat}{ps qs:Ja}(h:IC A la ps qs R Q k)(f:2^la*(3*A+1)<=1000000000):Sqs R/\Sqs Q/\∃z,z+(2*A+1)<=1000000000/\(∀i,DP z (cf R i)):=by
 obtain⟨_,_,d,_,_,_,z,e,a,b⟩:=h;have c:2^k*(3*A+1)<=2^la*(3*A+1):=Ae _ (Ak O O);exact⟨Sqs.of λi=>Sq.of (a i) O,Sqs.of λi=>Sq.of (b i) O,z,O,a⟩
theorem Pr{qs:Ja}{a:Rat}(c:Jc qs=qs)(b:qs≠[])(hl:qs.length<=R.length)(j:n=R.length-qs.length)
(d:a=cf R (R.length-1)/cf qs (qs.length-1)):(Ys R (Jv (Jc (Df n [a])) qs)).length<=R.length-1:=by
 have k:0<qs.length:=Ac.2 b;have f:=Jt c b;refine Xf (Xd _ _) λi e=>?_;grind[KR,Ls,JZ]
theorem IC.next{A:Nat}{ps qs:Ja}{a:Rat}(h:IC A la ps qs R Q k)(hq:∀i,DP A (cf qs i))(j:Jc qs=qs)(c:qs≠[])(hl:qs.length<=R.length)(r:n=R.length-qs.length)
(f:a=cf R (R.length-1)/cf qs (qs.length-1)):IC A la ps qs (Ys R (Jv (Jc (Df n [a])) qs)) (Xc Q (Jc (Df n [a]))) (k+1):=by
 obtain⟨s,t,u,v,w,y,z,B,b,p⟩:=h;have E:0<qs.length:=Ac.2 c;have l:=Jt j c;have m:∀i,cf (Ys R (Jv (Jc (Df n [a])) qs)) i=cf R i-(if n<=i then a*cf qs (i-n)else 0):=λi=>by rw[KR,Ls]
 have e:∀i,cf (Xc Q (Jc (Df n [a]))) i=if i=n then a else cf Q i:=λi=>by
  grind[OE,Lr]
 have D:=Pr j c hl r f;have d:DP (z+A) a:=by rw[f];exact(b _).div2 (hq _) l
 refine⟨Xd _ _,Xr _ _,O,Xf (Xr _ _) λi q=>?_,λx=>?_,λi q=>?_,2*z+(2*A+1),?_,λi=>?_,λi=>?_⟩
 . rw[e,BD O,JZ O]
 . grind[YF,Xb,Ji]
 . grind
 . grind[Cp]
 . rw[m];split
   . exact((b i).sub2 (d.mul2 (hq _))).mono O
   . rw[Fq,Rat.neg_zero,Rat.add_zero];exact(b i).mono O
 . rw[e];split
   . exact d.mono O
   . exact(p i).mono O
def IC.done{A:Nat}{ps qs:Ja}(h:IC A la ps qs R Q k)(b:Jc qs=qs)(a:qs≠[])(hl:R.length<qs.length):Q=JA ps qs/\R=JI ps qs:=by
 obtain⟨f,i,_,_,j,_⟩:=h;obtain⟨c,d,e,g4⟩:=J8 ps qs b a;exact OA b a i e f g4 hl d (λx=>by rw[<-j x,<-c x])
end
namespace M3
def ZQ(V:L)(g r:Nat):Prop:=∀j,j<r->V.cell? ⟨g,j*4,none⟩=some (T false)/\V.cell? ⟨g,j*4+1,none⟩=some (C none 0 0)/\V.cell? ⟨g,j*4+2,none⟩=some (T false)/\V.cell? ⟨g,j*4+3,none⟩=some (C none 0 0)
variable{cs:Array o}{n:Int}{bs:List (Option (Nat × Dat))}{S:Ja}{B B4 X gQ i r:Nat}{t:TypeId}{v:o}{V V' W w:L}
theorem ZQ.of{g:Nat}(h:ZQ V g r)(e:V'.heap[g]?=V.heap[g]?):ZQ V' g r:=λj a=>by
 obtain⟨b,c,d,f⟩:=h j a;grind[BQ]
def GO(w V:L)(bs:List (Option (Nat × Dat)))(B4:Nat)(n:Int)(gQ r:Nat):Prop:=DH w V bs/\Boxed V B4 3 (.int F n)/\ZQ V gQ r/\gQ<V.heap.size
def GO.below{w V V':L}{bs:List (Option (Nat × Dat))}{B4:Nat}{n:Int}{gQ r:Nat}(h:GO w V bs B4 n gQ r)(a:Bl V V'):GO w V' bs B4 n gQ r:=
 ⟨h.1.below a,(a.block B4 h.2.1.lt).trans h.2.1,h.2.2.1.of (a.block gQ h.2.2.2),Aw h.2.2.2 a.size⟩
def GO.own{w V V':L}{bs:List (Option (Nat × Dat))}{B4:Nat}{n:Int}{gQ r:Nat}{row:Option Nat}(h:GO w V bs B4 n gQ r)(f:∃cs t m,V.heap[gQ]?=some (H cs t m))(hg:V.grownBy V' row)(c:∀x,row=some x->w.heap.size<=x/\∃o:Obj,V.heap[x]?=some o/\o.isCells=false):GO w V' bs B4 n gQ r:=by
 have a:∀r,row=some r->∃o:Obj,V.heap[r]?=some o/\o.isCells=false:=λr e=>(c r e).2;refine⟨h.1.own hg c,YJ hg a (show Bx V B4 3 #[G F n]from h.2.1),h.2.2.1.of ?_,Aw h.2.2.2 hg.size⟩;obtain⟨cs,t,m,e⟩:=f;refine hg.block gQ h.2.2.2 λd=>?_;obtain⟨o,b,i⟩:=a gQ d.symm;rw[e]at b;cases b;cases i
def Ps(V:L)(m:Nat):Has V (.agg (Y0 m)) (.rats (nL m 0)):=by
 refine⟨Y0 m,J,λj a=>?_⟩;rw[AW]at a;obtain⟨b,c,d,e⟩:=NG a;exact⟨_,_,_,_,b,c,d,e,by rw[J1];exact D8 _⟩
def Gb(w:L)(a c:nJ)(la b lb d m:Nat)(e:nJ)(rc B5 gQ:Nat)(x:Option (Nat × Dat))(Q:Ja):List (Option (Nat × Dat)):=
 [some (w.heap.size,.cell 25 (C a la b)),some (w.heap.size+1,.cell 25 (C c lb d)),some (w.heap.size+1+1,.cell 25 (C Option.none 0 0)),some (w.heap.size+1+1+1,.cell 25 (C Option.none 0 0)),
  x,some (B5,.cell 23 (C e la rc)),some (gQ,.rats Q),some (gQ+1,.cell 23 (C (some ⟨gQ,0,Option.none⟩) m m)),some (gQ+1+1,.cell 23 (C (some ⟨gQ,0,Option.none⟩) m m))]
def g4(la g:Nat)(R:Ja):Option (Nat × Dat):=if la=0 then none else some (g,.rats R)
theorem jD(p:Ja)(i:Nat)(c:Rat)(j:Nat):cf (p.set i c) j=c\/cf (p.set i c) j=cf p j:=by
 grind[XY,C9]
def GO.upd{a:List (Option (Nat × Dat))}(h:GO w V bs B4 n gQ r)(i:DH w V' a)(c:∀B,B≠X->V'.heap[B]?=V.heap[B]?)(d:B4≠X)(f:gQ≠X):GO w V' a B4 n gQ r:=by
 have e:=c gQ f;refine⟨i,(c B4 d).trans h.2.1,h.2.2.1.of e,?_⟩;refine Nat.lt_of_not_le λhle=>?_;have b:=Array.getElem?_eq_none_iff.2 hle;rw[e]at b;exact absurd (Array.getElem?_eq_none_iff.1 b) (by have:=h.2.2.2;omega)
def Ew(w W V:L)(bs:List (Option (Nat × Dat)))(B4:Nat)(n:Int)(gQ r:Nat):Prop:=GO w V bs B4 n gQ r/\KeepsOthers W V
def Ew.below{w W V V':L}{bs:List (Option (Nat × Dat))}{B4:Nat}{n:Int}{gQ r:Nat}(h:Ew w W V bs B4 n gQ r)(a:Bl V V'):Ew w W V' bs B4 n gQ r:=⟨h.1.below a,h.2.trans (Ke a)⟩
theorem UH{m:Nat × Nat}(h:Boxed V B4 3 v)(a:V.heap[X]?=some (H cs 37 m)):B4≠X:=λe=>by
 subst e;have:=a.symm.trans h;grind
def jE(V:L)(C:Nat)(x y z u:o)(B:Nat)(h:B≠C):(put4 V C x y z u).heap[B]?=V.heap[B]?:=
 (BC _ ⟨C,3,none⟩ u B h).trans ((BC _ ⟨C,2,none⟩ z B h).trans ((BC _ ⟨C,1,none⟩ y B h).trans (BC V ⟨C,0,none⟩ x B h)))
def Ew.al{a:List (Option (Nat × Dat))}(h:Ew w W V bs B4 n gQ r){o:Obj}(m:DH w (V.alloc o) a):Ew w W (V.alloc o) a B4 n gQ r:=
 have k:=h.below (Ba V o)
 ⟨⟨m,k.1.2⟩,k.2⟩
def Ew.up{a:List (Option (Nat × Dat))}{p:Nat × Nat}(h:Ew w W V bs B4 n gQ r)(m:DH w V' a)(d:V.heap[X]?=some (H cs 37 p))(c:∀B,B≠X->V'.heap[B]?=V.heap[B]?)(b:gQ≠X)(k:KeepsOthers V V'):Ew w W V' a B4 n gQ r:=
 ⟨h.1.upd m c (UH h.1.2.1 d) b,h.2.trans k⟩
theorem jF{g o a:Nat}{x:Value}(h:o≠a):(V.setCell ⟨g,a,none⟩ x).cell? ⟨g,o,none⟩=V.cell? ⟨g,o,none⟩:=World.cell?_setCell_other _ _ _ _ DI
theorem ZQ.put{g:Nat}(h:ZQ V g (i+1))(x y z u:o):ZQ (putAt V g (i*4) x y z u) g i:=λj e=>by
 obtain⟨a,b,c,d⟩:=h j O;grind[putAt,jF]
def boxed_below(h:Boxed V B t v)(a:Bl V V'):Boxed V' B t v:=(a.block B h.lt).trans h
def ID(V:L)(D:Nat)(rs a:o)(R Q:Ja):Prop:=RowK true V rs R/\RowK true V a Q/\V.heap[D]?=some (.deferred (some []))
def ID.below{V V':L}{D:Nat}{rs b:o}{R Q:Ja}(h:ID V D rs b R Q)(a:Bl V V'):ID V' D rs b R Q:=⟨h.1.below a,h.2.1.below a,(a.block D (Ab.1 h.2.2).1).trans h.2.2⟩
def ID.set{D:Nat}{rs f:o}{R Q:Ja}(h:ID V D rs f R Q){a:nJ}{l c:Nat}(b:Boxed V B 25 (C a l c))(x:o):ID (V.setCell ⟨B,0,none⟩ x) D rs f R Q:=
 ⟨Ez b x h.1,Ez b x h.2.1,(BC _ ⟨B,0,none⟩ x D λe=>by
  have e:D=B:=e;have d:=h.2.2;rw[e,show V.heap[B]?=_ from b]at d;cases d).trans h.2.2⟩
def DH.asPoly(M:DH w V bs)(h:bs[i]?=some (some (B,.cell 25 (C Option.none 0 0)))):DH w V (bs.set i (some (B,.poly []))):=by
 have b:∀j B' d,(bs.set i (some (B,.poly [])))[j]?=some (some (B',d))->(∃a,bs[j]?=some (some (B',a)))/\((∃cs,Bx V B' d.ty cs/\Has V (.agg cs) d)/\w.heap.size<=B'):=λj B' d e=>by
  rw[List.getElem?_set]at e;split at e
  . rename_i n;subst n;split at e
    . cases e;exact⟨⟨_,h⟩,⟨_,(M.cell h).1,TJ V⟩,(M.1 i _ _ h).2⟩
    . cases e
  . exact⟨⟨_,e⟩,M.1 j _ _ e⟩
 exact⟨λj B' d e=>(b j B' d e).2,λj k B' d a c f=>by
  obtain⟨⟨_,l⟩,_⟩:=b j B' d c;obtain⟨⟨_,m⟩,_⟩:=b k B' a f;exact M.2.1 j k B' _ _ l m,M.2.2⟩
def Lt(a:L)(b:nJ)(la rc m:Nat):L:=(((a.alloc (H #[C b la rc] 23)).alloc (H (Y0 m) 37)).alloc (H #[C (some ⟨a.heap.size+1,0,none⟩) m m] 23)).alloc (H #[C (some ⟨a.heap.size+1,0,none⟩) m m] 23)
theorem jG(A:Nat)(E qa:nJ)(la M lb y n m:Nat)(ps qs:Ja)(w:L)(ha:RowK true w (C E la M) ps)(hb:RowK true w (C qa lb y) qs)(hq:∀i,DP A (cf qs i))(di:Jc qs=qs)(ck:qs≠[])(hL:∀k,k<=m->∃z,z+(2*A+1)<=1000000000/\(k<m->2*z+2*(2*A+1)<=1000000000)/\(∀i,DP z (cf (JJ ps qs n m k).2 i))/\∀i,DP (z+A) (cf (JJ ps qs n m k).1 i))(hn:lb=n+1)(hm:la-n=m):
 Calls g 139 #[.agg #[C E la M],.agg #[C qa lb y]] w λe w'=>∃u v,e=.returned (.tuple #[u,v,T true])/\Jh w' u (JA ps qs)/\Jh w' v (JI ps qs)/\Bl w w':=by
 obtain⟨ce,dw,dz,f7,s,t,aa,bb,ll,cc,kk,dd,bt⟩:=ha.forms;obtain⟨Qf,dx,ed,fl,s',t',ae,ah,ap,ai,an,aj,bu⟩:=hb.forms;obtain⟨V0,dm,az⟩:=cX 25 (.cell 25 (C E la M)) Eh 25 (.cell 25 (C qa lb y)) Eh 25 (.cell 25 (C none 0 0)) Eh 25 (.cell 25 (C none 0 0)) Eh (w:=w);have M1:=az.o;have Wj:=Y (show Calls g 30 #[.agg #[C qa lb y]] V0 λe w'=>e=.returned (G F (n:Int))/\Bl V0 w' by
  have h:=YI (.agg #[C qa lb y]) qs V0 ⟨_,J,hb.below M1.2.2⟩;rwa[show((qs.length:Int)-1)=(n:Int)by omega]at h)
 have Wg:=Y λ(V:L) (h:Bl w V)=>eV (C E la M) ps V (ha.below h);have fo:∀W:L,(Instr.makeSlice 23 (G F (m:Int)) (G F (m:Int))).run g W=.ok (C (some ⟨W.heap.size,0,none⟩) m m) (W.alloc (H (Y0 m) 37)):=λW=>Le m O W;obtain⟨d,fv⟩:=ex ((la:Int)-(n:Int):Int);have gb:F.wrap d=d:=by rw[BJ];omega
 have fm:max (0:Int) d=(m:Int):=O
 have ft:¬(n:Int)<0:=O
 obtain⟨HP,HQ,Qb,Qe,HN,Qr,Ug,Ui⟩:=FZ bt bu ce Qf (show lb=n+1/\la-n=m from⟨hn,hm⟩) hq di ck;have HL:=Y hL;have Ql:m<=1099511627776:=O
 clear ha hb bt bu ce Qf dw dz dx ed hq di ck hL hn hm M1;have c1:=(az.o.cell (i:=1) J).1.cell;refine(BM (n:=3)).1 ?_;refine BN func139 J trivial ?_ J;simp only[ntmps139,AF,Ah,AK,Nat.reduceAdd,Nat.reduceSub,As,At,AE,Ay,Ar,AC];gi_wp2_with fail
 rw[dm.o];refine⟨trivial,?_⟩;refine((BM (n:=_)).2 Wj.o).mono ?_;rintro e w1 ⟨rfl,bn⟩;have Ue:Bl w1 (w1.alloc (H #[G F (n:Int)] 3)):=Ba w1 _;have Qo:=(az.o.below bn).below Ue;have h4:=BF w1 3 (G F (n:Int));have c0:=(Qo.cell (i:=0) J).1.cell;obtain⟨Qh,Qt,H4⟩:=DX (Wg.o _ Qo.2.2) Qo h4;clear Ue Qo h4 bn c1;gi_wp2_with fail
 obtain⟨V1,bj⟩:=ex (w1.alloc (H #[G F (n:Int)] 3));obtain⟨B4,bc⟩:=ex (w1.heap.size);rw[bj]at Qh Qt H4 c0;rw[bc]at H4;rw[bj,bc];clear bj bc;refine⟨trivial,?_⟩;refine((BM (n:=_)).2 Qh.o).mono ?_;rintro e N ⟨u2,rfl,dj,_,ay,cj⟩;have ei:∃a gR rc,u2=C a la rc/\(la≠0->a=some ⟨gR,0,none⟩)/\(la≠0->V1.heap.size<=gR/\Dh true N gR ps)/\la<=rc/\rc<=9223372036854775807:=by
  obtain⟨a7,dt,e7,h7,h8,_⟩:=id dj;rcases cj with rfl|⟨g',cap,e1,e2,e3⟩
  . injection e7 with _ e7
    have h0:=Qb.o.trans e7.symm;exact⟨_,0,_,by rw[h0],λh=>absurd h0 h,λh=>absurd h0 h,O,O⟩
  . rw[e1]at e7;have e8:cap=dt:=by injection e7
    exact⟨_,g',cap,by rw[e1,Qb.o],λ_=>rfl,λ_=>⟨e2,e3⟩,by rw[Qb.o,e8];exact h7,by rw[e8];exact h8⟩
 obtain⟨a,gR,rc,rfl,cn,bi,co,de⟩:=ei;have Qk:=Y (show(la≠0->a=some ⟨gR,0,none⟩)/\la<=rc/\rc<=9223372036854775807 from⟨cn,co,de⟩);clear co de cn;have Uf:DH w N ([some (w.heap.size,.cell 25 (C E la M)),some (w.heap.size+1,.cell 25 (C qa lb y)),some (w.heap.size+1+1,.cell 25 (C Option.none 0 0)),some (w.heap.size+1+1+1,.cell 25 (C Option.none 0 0))]++[g4 la gR ps]):=by
  unfold g4;split
  . exact(Qt.o.below ay).none
  . exact Qt.o.adopt ay (bi (by assumption)).1 (bi (by assumption)).2
 have h4:Boxed N B4 3 (G F (n:Int)):=(ay.block B4 H4.o.lt).trans H4.o;have Uk:=Ba N (H #[C a la rc] 23);have h5:=boxed_below h4 Uk;have c4:=h5.cell;have Uv:=Y (Uf.push (.cell 23 (C a la rc)) (cs:=#[C a la rc]) ⟨J,J⟩);have H5:=Y h5;clear cj dj ay bi Uf h4 Uk h5 c0;gi_wp2_with fail
 refine⟨trivial,?_⟩;refine(PL Fence.wide _ trivial J _ _ _ _).mono ?_;rintro e w3 ⟨rfl,rfl⟩;have Qm:=Y (show GO w (Lt N a la rc m) (Gb w E qa la M lb y m a rc N.heap.size (N.heap.size+1) (g4 la gR ps) (nL m 0)) B4 (n:Int) (N.heap.size+1) m by
  have Uo:=((Uv.o.push (.rats (nL m 0)) (Ps _ m)).push (.cell 23 (C (some ⟨N.heap.size+1,0,none⟩) m m)) (cs:=#[C (some ⟨N.heap.size+1,0,none⟩) m m]) ⟨J,J⟩).push (.cell 23 (C (some ⟨N.heap.size+1,0,none⟩) m m)) (cs:=#[C (some ⟨N.heap.size+1,0,none⟩) m m]) ⟨J,J⟩;simp only[Ax]at Uo;have hz:(Lt N a la rc m).heap[N.heap.size+1]?=some (H (Y0 m) 37 (0,0)):=by
   have e:=BB (N.alloc (H #[C a la rc] 23)) (H (Y0 m) 37);rw[Ax]at e;exact(Bh _ _ _ (by simp only[Ax];omega)).trans ((Bh _ _ _ DI).trans e)
  exact⟨Uo,boxed_below (boxed_below (boxed_below H5.o (Ba _ _)) (Ba _ _)) (Ba _ _),λj hj=>by
   obtain⟨h0,h1,h2,h3⟩:=NG hj;exact⟨cell_of hz h0,cell_of hz h1,cell_of hz h2,cell_of hz h3⟩,(Ab.1 hz).1⟩)
 obtain⟨W3,ak⟩:=ex (Lt N a la rc m);rw[ak]at Qm;have Qj:W3.heap.size=N.heap.size+1+1+1+1:=by rw[<-ak];simp only[Lt,Ax]
 unfold Lt at ak;rw[ak];simp only[Ax];obtain⟨B5,bf⟩:=ex (N.heap.size);rw[bf]at Qm Qj;rw[bf];have fg:=Y Qj;clear Qj ak bf c4;gi_wp2_with fail
 have Ul:=Y (show w.heap.size<=W3.heap.size from Qm.o.1.2.2.size);refine X9 J O (gf:=170) (lb:=#[P (some ⟨B5+1+1+1,0,none⟩)]) J trivial (Bi func170 nK J)
  (PK Fence.wide _ trivial J O (B5+1+1+1) (some ⟨B5+1,0,none⟩) m m (λ_=>T false) (λ_=>C none 0 0) (λ_=>T false) (λ_=>C none 0 0) Ql) (λ_=>rfl)
  (λk W=>GO w W (Gb w E qa la M lb y m a rc B5 (B5+1) (g4 la gR (JJ ps qs n m k).2) (JJ ps qs n m k).1) B4 (n:Int) (B5+1) (m-k)) (λ_ _ _=>False)
  (λk W W' row h hg hr=>h.own (by obtain⟨cs,h1,_⟩:=h.1.rats (i:=6) J;exact⟨cs,_,_,h1⟩) hg λr e=>⟨Af Ul.o (hr r e).1,(hr r e).2⟩)
  (λc s W W' row h=>h.elim) Qm.o ?rd
  (λk=>{ tmps:=#[.agg #[C E la M],.agg #[C qa lb y],P (some ⟨w.heap.size,0,none⟩),P (some ⟨w.heap.size+1,0,none⟩),P (some ⟨w.heap.size+1+1,0,none⟩),P (some ⟨w.heap.size+1+1+1,0,none⟩),T false,P (some ⟨B4,0,none⟩),P (some ⟨B5,0,none⟩),P (some ⟨B5+1+1,0,none⟩),G F ((m:Int)-1-k),I,I,I,I,.agg #[C qa lb y],G F ↑n,G F ↑n,T (decide ((n:Int)<0)),I,I,P (some ⟨w.heap.size,0,none⟩),C E la M,C a la rc,C a la rc,G F ↑la,G F ↑n,G F d,G F ↑m,C (some ⟨B5+1,0,none⟩) m m,C (some ⟨B5+1,0,none⟩) m m,.func (.func 170) #[] #[P (some ⟨B5+1+1+1,0,none⟩)],G F ((m:Int)-1-k),.agg #[T false,C none 0 0,T false,C none 0 0],I,I,I,I,I,I,I,I,I,I,I,I,I,I,I,I,I,I,I,I,I,I,I,I,I,I,I,I,I,I,I,I,I,I,I,I,I,I,I,I,I,I,I,I,I,I,I],defers:=[] }) ?assign ?body ?done ?stop
 case stop=>intro D c k W _ _ h;exact h.elim
 case rd=>
  intro k W h;refine⟨(h.1.cell (i:=8) J).1.cell,λhk=>?_⟩;obtain⟨h0,h1,h2,h3⟩:=h.2.2.1 (m-1-k) O;exact⟨B5+1,J,h0,h1,h2,h3⟩
 case assign=>
  intro l k W K hK;unfold Lc;gi_wp2;exact hK
 case body=>
  intro l k W hS hk Qj;have Ud:la≠0:=by have:=HN.o;omega
  obtain rfl:=Qk.o.1 Ud;have HG:=Y (show ∀X,g4 la gR X=some (gR,.rats X)from λ_=>BD Ud);rw[HG.o]at hS;obtain⟨ew,S,rfl,du,q0,q1,q2,q3⟩:=HQ.o n (by have:=HN.o;omega);have Ur:=Y (show ∀j,j<lb->∀V,Bl w V->(V.cell? ⟨S,j*4,none⟩=some (T (s' j))/\V.cell? ⟨S,j*4+1,none⟩=some (C (ae j) (ap j) (ai j))/\V.cell? ⟨S,j*4+2,none⟩=some (T (t' j))/\V.cell? ⟨S,j*4+3,none⟩=some (C (ah j) (an j) (aj j)))/\Jj V (.agg #[T (s' j),C (ae j) (ap j) (ai j),T (t' j),C (ah j) (an j) (aj j)]) (cf qs j)from λj hj V hB=>by
   obtain⟨hi,b,e,hb,c0,c1,c2,c3⟩:=HQ.o j hj;cases e;exact⟨⟨(hB.cell (p:=⟨S,_,none⟩) hb).trans c0,(hB.cell (p:=⟨S,_,none⟩) hb).trans c1,(hB.cell (p:=⟨S,_,none⟩) hb).trans c2,(hB.cell (p:=⟨S,_,none⟩) hb).trans c3⟩,hi.below hB⟩)
  clear ew du q0 q1 q2 q3;have Qa:cf qs n≠0:=by
   have:=Jt Ug.o Ui.o;rwa[show qs.length-1=n by have:=HN.o;have:=Qe.o;omega]at this
  obtain⟨z,fc,bm,ad,am⟩:=HL.o k O;have Qv:z+(2*A+1)+(z+(2*A+1))<=1000000000:=O
  clear fc;obtain⟨i,hi⟩:=ex (m-(k+1):Nat);obtain⟨R,hR⟩:=ex ((JJ ps qs n m k).2);obtain⟨Q,hQ⟩:=ex ((JJ ps qs n m k).1);have Uy:R.length=la:=by rw[<-hR,(YU ps qs n m k).2];exact Qb.o.symm
  have Wh:Q.length=m:=by rw[<-hQ];exact(YU ps qs n m k).1
  rw[hR,hQ]at hS;rw[hR]at ad;obtain⟨t0,f8⟩:=ex (i+n:Nat);obtain⟨c,hc⟩:=ex (cf R t0/cf qs n);have Up:JJ ps qs n m (k+1)=(Q.set i c,YZ R i (-c) qs qs.length):=by rw[JJ];grind
  have Qd:DP (z+A) c:=by rw[<-hc];exact(ad t0).div2 (Qr.o n) Qa
  obtain⟨Wb,Qi,Ub⟩:=DX (show Sq c from Sq.of Qd O) (show ∀j,Sq (cf qs j)from λj=>Sq.of (Qr.o j) O) (show ∀j,Sq (c*cf qs j)from λj=>Sq.of (Qd.mul2 (Qr.o j)) O);have Wa:=Y (show ∀j t,Sq (cf (YZ R i (-c) qs j) t)from λj t=>by
   rcases Kw R i (-c) qs j t with e|e
   . rw[e];exact Sq.of (ad t) O
   . rw[e];exact Sq.of ((ad t).add2 (Qd.neg.mul2 (Qr.o _))) O)
  obtain⟨Qu,Uu,fe,Qw,Qy,Qc⟩:=IU (show Sq (cf R t0)from Sq.of (ad t0) O) hc Qa (show decide (cf qs n≠0)=true from BH Qa) Up (show R.length=la/\Q.length=m/\t0<la/\i<m/\m-k=i+1/\m-(k+1)=i by have:=HN.o;omega);have Un:(m:Int)-1-(k:Int)=(i:Int):=O
  have fh:(i:Int)+(n:Int)=(t0:Int):=O
  have gg:F.wrap (t0:Int)=(t0:Int):=by rw[BJ];have:=HN.o;omega
  have fx:(t0:Int)<(la:Int):=by have:=Qc.o;omega
  have fs:(n:Int)<(lb:Int):=by have:=HN.o;omega
  have fj:(i:Int)<(m:Int):=by have:=Qc.o;omega
  rw[Un];have Qg:Ew w W W.drew (Gb w E (some ⟨S,0,none⟩) la M lb y m (some ⟨gR,0,none⟩) rc B5 (B5+1) (some (gR,.rats R)) Q++[Option.none]) B4 (n:Int) (B5+1) (m-k):=⟨⟨(hS.1.below ((BA _ W).drew)).none,(hS.below ((BA _ W).drew)).2⟩,Ke ((BA _ W).drew)⟩;clear hS hi hR hQ Uy Wh f8 hc Qd bm ad am Qv Qa Up Un Qj;gi_wp2_with fail
  refine Ki (Au ⟨l,J⟩) Dl [[],[],[],[1,2],[0,3],[4],[],[6],[],[7,8],[9],[5,10],[11],[12],[12],[],[15,13,11,0,1,2,3,4,5,6,7,8,9,10,11,12,13,15],[14,16,0,1,2,3,4,5,6,7,8,9,10,11,12,13,14,15,16]] [.eq (C (some ⟨gR,0,none⟩) la rc),.eq (G F (i:Int)),.eq (G F (n:Int)),.eq (G F (t0:Int)),.eq (P (some ⟨gR,t0*4,none⟩)),.rat (cf R t0),.eq (P (some ⟨w.heap.size+1,0,none⟩)),.eq (C (some ⟨S,0,none⟩) lb y),.eq (G F (n:Int)),.eq (P (some ⟨S,n*4,none⟩)),.rat (cf qs n),.tup1 (.rat c),.tup1 (.rat c),.rat c,.eq (T true),.ptr,.eq I,.eq (T true)] [15,16] (λb v V=>Ew w W V (Gb w E (some ⟨S,0,none⟩) la M lb y m (some ⟨gR,0,none⟩) rc B5 (B5+1) (some (gR,.rats R)) Q++[nb b v 0 1 (.rat 0) (.rat c)]) B4 (n:Int) (B5+1) (m-k)) Qg (No (.vl J λ_ j=>Lb 5 j.1.1)<|No (.vl J λ_ _=>mv)<|No (.vl J λ_ j=>⟨_,by have e0:=j.1.2.1.cell;refine DT ?_;go_simp,J⟩)<|No (.vl J λh _=>⟨_,by refine DT ?_;rw[h.e 1,h.e 2];go_simp,J⟩)<|No (.vl J λh _=>⟨_,by refine DT ?_;rw[h.e 0,h.e 3];go_simp,J⟩)<|No (.vl J λh j=>PF 4 j.1.1 (by have:=Qc.o;omega) (h.e 4))<|No (.vl J λ_ _=>⟨_,by refine DT ?_;go_simp,J⟩)<|No (.vl J λh j=>⟨_,by have e0:=(j.1.1.cell (i:=1) J).1.cell;refine DT ?_;rw[h.e 6];go_simp,J⟩)<|No (.vl J λ_ j=>⟨_,by have e0:=j.1.2.1.cell;refine DT ?_;go_simp,J⟩)<|No (.vl J λh _=>⟨_,by refine DT ?_;rw[h.e 7,h.e 8];go_simp,J⟩)<|No (.vl J λh j=>by
     obtain⟨⟨e0,e1,e2,e3⟩,hr⟩:=Ur.o n (by have:=HN.o;omega) _ j.1.1.2.2;exact⟨_,by refine DT ?_;rw[h.e 9];go_simp,hr⟩)<|No (.cl λh _=>cY (by
     have q:=dR _ _ (cf R t0) (cf qs n) _ (h.g 5) (h.g 10) Qu.o (Qi.o n);rw[Qw.o,Uu.o]at q;exact q))<|No (.vl J λh _=>mw (h.g 11))<|No (.vl J λh _=>ct (h.g 12))<|No (.vl J λh _=>cx (h.g 12))<|No (.wr J λ_ j=>Sk 9 j.1.1 (hT:=λm=>j.al m))<|No (.wr J λh j=>PG 9 j.1.1 (h.g 13) (hp:=h.g 15) (hT:=λn m=>j.up m n (jE _ _ _ _ _ _) (j.1.1.ne 6 9 J J DK) (PO _ _ _ _ _ _)))<|No (.vl J λh _=>aw (h.g 14)) Stp.end_)
   λf V hF MM=>?_
  refine DT ?_;obtain⟨Bc,bg⟩:=hF.p 15;rw[hF.e 0,hF.e 1,hF.e 2,hF.e 3,hF.e 4,hF.e 6,hF.e 7,hF.e 8,hF.e 9,hF.e 14,hF.e 17,bg];have MM:=Ei MM;simp only[bg]at MM;have HM:=Y MM;clear hF bg MM;obtain⟨s8,a8,l8,c8,t8,b8,k8,d8,n8,r8,i8,j8⟩:=HM.o.1.1.rat (i:=9) J;obtain⟨e0,e1,e2,e3⟩:=n8.cq;have e6:=(HM.o.1.1.cell (i:=7) J).1.cell;have hE:=HM.o.1.1.rats (i:=6) J;obtain⟨z0,z1,z2,z3⟩:=HM.o.1.2.2.1 i (by have:=Qc.o;omega);have f0:=hE.frozen (i*4);have f1:=hE.frozen (i*4+1);have f2:=hE.frozen (i*4+2);have f3:=hE.frozen (i*4+3);have ff:=Y r8;have Qz:=Y (show Ew w W (putAt V (B5+1) (i*4) (T s8) (C a8 l8 c8) (T t8) (C b8 k8 d8)) (Gb w E (some ⟨S,0,none⟩) la M lb y m (some ⟨gR,0,none⟩) rc B5 (B5+1) (some (gR,.rats R)) (Q.set i c)++[some (Bc,.rat c)]) B4 (n:Int) (B5+1) i from by
   have hp:=HM.o.1.1.putRats (i:=6) J (j:=i) (by have:=Qc.o;omega) r8;obtain⟨cs,Qd,_⟩:=hE;refine⟨⟨hp,(LY (UH HM.o.1.2.1 Qd) _ _ _ _).trans HM.o.1.2.1,ZQ.put (by have h:=HM.o.1.2.2.1;rwa[Qc.o.2.2.2.2.1]at h) _ _ _ _,?_⟩,HM.o.2.trans (TG _ _ _ _ _ _ _)⟩;exact(Ab.1 (SY Qd _ _ _ _)).1)
  have c9:=(Qz.o.1.1.cell (i:=1) J).1.cell;unfold putAt at c9;clear n8 i8 j8 hE r8;gi_wp2_with fail
  obtain⟨W9,aq⟩:=ex (putAt V (B5+1) (i*4) (T s8) (C a8 l8 c8) (T t8) (C b8 k8 d8));rw[aq]at Qz;unfold putAt at aq;rw[aq];clear aq c9 e0 e1 e2 e3 e6 z0 z1 z2 z3 f0 f1 f2 f3;gi_loopw [56] (λjv wr=>∃j:Nat,j<=lb/\jv=G F (j:Int)/\Hid (Ew w W wr (Gb w E (some ⟨S,0,none⟩) la M lb y m (some ⟨gR,0,none⟩) rc B5 (B5+1) (some (gR,.rats (YZ R i (-c) qs j))) (Q.set i c)++[some (Bc,.rat c)]) B4 (n:Int) (B5+1) i)) λjv _=>lb-(intOf jv).toNat
  case atStart=>exact⟨0,Ap _,J,Qz⟩
  case round=>
   obtain⟨j,hj,rfl,HJ⟩:=hrel;by_cases f6:j<lb
   . have fk:(j:Int)<(lb:Int):=O
     obtain⟨⟨e0,e1,e2,e3⟩,dh⟩:=Ur.o j f6 wr HJ.o.1.1.2.2;have Uz:=Y dh;obtain⟨x,f9⟩:=ex (i+j:Nat);have fi:(i:Int)+(j:Int)=(x:Int):=O
     have Qp:=Y (show x<la/\x=i+j by have:=Qc.o;have:=HN.o;omega);have gh:F.wrap (x:Int)=(x:Int):=by rw[BJ];have:=Qp.o;omega
     have ga:(x:Int)<(la:Int):=by have:=Qp.o;omega
     clear dh f9;gi_wp2_with fail
     have Qq:Ew w W (wr.alloc (H #[T (s' j),C (ae j) (ap j) (ai j),T (t' j),C (ah j) (an j) (aj j)] 37)) (Gb w E (some ⟨S,0,none⟩) la M lb y m (some ⟨gR,0,none⟩) rc B5 (B5+1) (some (gR,.rats (YZ R i (-c) qs j))) (Q.set i c)++[some (Bc,.rat c)]++[some (wr.heap.size,.rat (cf qs j))]) B4 (n:Int) (B5+1) i:=by
      have h1:=HJ.o.below (Ba wr (H #[T (s' j),C (ae j) (ap j) (ai j),T (t' j),C (ah j) (an j) (aj j)] 37));exact⟨⟨HJ.o.1.1.push (.rat (cf qs j)) Uz.o,h1.1.2⟩,h1.2⟩
     obtain⟨Wd,bk⟩:=ex (wr.alloc (H #[T (s' j),C (ae j) (ap j) (ai j),T (t' j),C (ah j) (an j) (aj j)] 37));obtain⟨Bd,bh⟩:=ex (wr.heap.size);rw[bk,bh]at Qq;rw[bk,bh];obtain⟨X,hX⟩:=ex (YZ R i (-c) qs j);rw[hX]at Qq;have Uj:=Y (show x<X.length by rw[<-hX,LE];have:=Qc.o;have:=Qp.o;omega);have Ut:=Y (show Sq (cf X x)by rw[<-hX];exact Wa.o j x);have We:=Y (show X.set x (cf X x-c*cf qs j)=YZ R i (-c) qs (j+1)by
      rw[YZ,hX,<-Qp.o.2,show cf X x-c*cf qs j=cf X x+-c*cf qs j by grind])
     have Qg:=Qq.below ((BA _ Wd).drew);clear bk bh hX Qq e0 e1 e2 e3;refine Ki (Au ⟨l,J⟩) Dl [[],[],[],[1,2],[],[],[],[5,6],[4,7],[8],[],[],[10,11],[9,12,12],[0,3,0,1,2,3,4,5,6,7,8,9,10,11,12,13],[14,13,13,0,1,2,3,4,5,6,7,8,9,10,11,12,13]] [.eq (C (some ⟨gR,0,none⟩) la rc),.eq (G F (i:Int)),.eq (G F (j:Int)),.eq (G F (x:Int)),.eq (C (some ⟨gR,0,none⟩) la rc),.eq (G F (i:Int)),.eq (G F (j:Int)),.eq (G F (x:Int)),.eq (P (some ⟨gR,x*4,none⟩)),.rat (cf X x),.rat c,.rat (cf qs j),.rat (c*cf qs j),.rat (cf X x-c*cf qs j),.eq (P (some ⟨gR,x*4,none⟩)),.eq I] [15] (λb _ V=>Ew w W V (Gb w E (some ⟨S,0,none⟩) la M lb y m (some ⟨gR,0,none⟩) rc B5 (B5+1) (some (gR,.rats (if b.getD 0 false then X.set x (cf X x-c*cf qs j)else X))) (Q.set i c)++[some (Bc,.rat c)]++[some (Bd,.rat (cf qs j))]) B4 (n:Int) (B5+1) i) Qg (No (.vl J λ_ j=>Lb 5 j.1.1)<|No (.vl J λ_ _=>mv)<|No (.vl J λ_ _=>mv)<|No (.vl J λh _=>⟨_,by refine DT ?_;rw[h.e 1,h.e 2];go_simp,J⟩)<|No (.vl J λ_ j=>Lb 5 j.1.1)<|No (.vl J λ_ _=>mv)<|No (.vl J λ_ _=>mv)<|No (.vl J λh _=>⟨_,by refine DT ?_;rw[h.e 5,h.e 6];go_simp,J⟩)<|No (.vl J λh _=>⟨_,by refine DT ?_;rw[h.e 4,h.e 7];go_simp,J⟩)<|No (.vl J λh j=>PF 4 j.1.1 Uj.o (h.e 8))<|No (.vl J λ_ j=>F3 9 j.1.1)<|No (.vl J λ_ j=>F3 10 j.1.1)<|No (.cl λh _=>Kn _ _ c (cf qs j) _ (h.g 10) (h.g 11) Wb.o (Qi.o j))<|No (.cl λh _=>NB _ _ (cf X x) (c*cf qs j) _ (h.g 9) (h.g 12) Ut.o (Ub.o j))<|No (.vl J λh _=>⟨_,by refine DT ?_;rw[h.e 0,h.e 3];go_simp,J⟩)<|No (.wr J λh j=>Mv 4 j.1.1 Uj.o (h.g 13) (h.e 14) (hT:=λ⟨_,e,_⟩ m=>j.up m e (λB hB=>LY hB _ _ _ _) (j.1.1.ne 6 4 J J DK) (TG _ _ _ _ _ _ _))) Stp.end_)
      λf V hF h3=>?_
     refine DT ?_;rw[hF.e 0,hF.e 1,hF.e 2,hF.e 3,hF.e 4,hF.e 5,hF.e 6,hF.e 7,hF.e 8,hF.e 14];have h3:=Ei h3;rw[We.o]at h3;have HO:=Y (show Ew w W V (Gb w E (some ⟨S,0,none⟩) la M lb y m (some ⟨gR,0,none⟩) rc B5 (B5+1) (some (gR,.rats (YZ R i (-c) qs (j+1)))) (Q.set i c)++[some (Bc,.rat c)]) B4 (n:Int) (B5+1) i from⟨⟨h3.1.1.take 10,h3.1.2⟩,h3.2⟩);clear hF h3;gi_wp2_with fail
     go_roundw
     case rel=>exact⟨j+1,O,by go_num,HO⟩
     case measure=>simp[intOf];omega
   . obtain rfl:j=lb:=O
     gi_wp2_with fail
     refine⟨HJ.o.2.from _,?_⟩;have h3:=HJ.o.1.1.take 9;rw[Qe.o]at h3;show GO w wr (Gb w E _ la M _ y m _ rc B5 (B5+1) (g4 la gR (JJ ps qs n m (k+1)).2) (JJ ps qs n m (k+1)).1) B4 (n:Int) (B5+1) (m-(k+1));rw[Qy.o,Qc.o.2.2.2.2.2,HG.o];refine⟨?_,HJ.o.1.2⟩;have Qf:=Qe.o;rw[<-Qf];rw[<-Qf]at h3;exact h3
 case done=>
  intro DC W hD hS hK;have Uq:=(YU ps qs n m m).2;have Uh:=(YU ps qs n m m).1;have Qa:cf qs n≠0:=by
   have:=Jt Ug.o Ui.o;rwa[show qs.length-1=n by have:=HN.o;have:=Qe.o;omega]at this
  obtain⟨z,Qv,bm,ad,am⟩:=HL.o m (Aa _);have Qs:JA ps qs=Jc (JJ ps qs n m m).1:=by unfold JA;rw[show qs.length-1=n by have:=HN.o;have:=Qe.o;omega,show ps.length-n=m by have:=HN.o;have:=Qb.o;omega]
  have Qx:JI ps qs=Jc (JJ ps qs n m m).2:=by unfold JI;rw[show qs.length-1=n by have:=HN.o;have:=Qe.o;omega,show ps.length-n=m by have:=HN.o;have:=Qb.o;omega]
  obtain⟨R,hR⟩:=ex ((JJ ps qs n m m).2);obtain⟨Q,hQ⟩:=ex ((JJ ps qs n m m).1);rw[hR]at Uq ad Qx;rw[hQ]at Uh am Qs;rw[hR,hQ]at hS;have Qu:=Y (show Sqs R from Sqs.of λi=>Sq.of (ad i) O);have dk:=Y (show Sqs Q from Sqs.of λi=>Sq.of (am i) O);have Um:RowK true W (C a la rc) R:=by
   by_cases h0:la=0
   . rw[h0,Al (show R.length=0 by have:=Qb.o;omega)];exact⟨a,rc,J,Ap _,by have:=Qk.o;omega,DG,An J⟩
   . have h:=hS.1;rw[show g4 la gR R=some (gR,.rats R)from BD h0]at h;have h:=(h.rats (i:=4) J).row (n:=la) (cap:=rc) (by have:=Qb.o;omega) (by have:=Qk.o;omega) (by have:=Qk.o;omega) f7;rw[Qk.o.1 h0];rwa[Ad (by have:=Qb.o;omega)]at h
  have Uc:RowK true W (C (some ⟨B5+1,0,none⟩) m m) Q:=by
   have h:=(hS.1.rats (i:=6) J).row (n:=m) (cap:=m) O (Aa _) O Ql;rwa[Ad O]at h
  have Qg:DH w W.drew (((Gb w E qa la M lb y m a rc B5 (B5+1) (g4 la gR R) Q).set 2 (some (w.heap.size+1+1,.poly []))).set 3 (some (w.heap.size+1+1+1,.poly [])))/\ID W.drew DC (C a la rc) (C (some ⟨B5+1,0,none⟩) m m) R Q:=⟨((hS.1.asPoly (i:=2) J).asPoly (i:=3) J).drew,ID.below ⟨Um,Uc,hK⟩ ((BA _ W).drew)⟩;obtain⟨Us,Wc,Uw⟩:=DX Qs Qx (show w.heap.size<=DC by have:=Ul.o;omega);clear hS Uq Uh bm ad am Qv Qs Qx hR hQ Qa Um Uc hK;gi_wp2_with fail
  refine Ki (An J) Dl [[],[0],[],[2,1],[1,3,0,1],[3,4,0,1,2,3,4],[5,0,1,2,3,4,5]] [.eq (C (some ⟨B5+1,0,none⟩) m m),.poly (Jc Q),.eq (C a la rc),.poly (Jc R),.eq I,.eq I,.eq (T true)] [4,5] (λb _ V=>DH w V (((Gb w E qa la M lb y m a rc B5 (B5+1) (g4 la gR R) Q).set 2 (some (w.heap.size+1+1,.poly (if b.getD 0 false then Jc Q else [])))).set 3 (some (w.heap.size+1+1+1,.poly (if b.getD 1 false then Jc R else []))))/\ID V DC (C a la rc) (C (some ⟨B5+1,0,none⟩) m m) R Q) Qg (No (.vl J λ_ j=>Lb 7 j.1)<|No (.cl λh j=>c1 (h.e 0) ((KC _ Q _ j.2.2.1 dk.o).mono λ_ _ ⟨u,e,h,_,b⟩=>⟨u,e,h,b⟩))<|No (.vl J λ_ j=>Lb 5 j.1)<|No (.cl λh j=>c1 (h.e 2) ((KC _ R _ j.2.1 Qu.o).mono λ_ _ ⟨u,e,h,_,b⟩=>⟨u,e,h,b⟩))<|No (.wr J λh j=>Ko 2 j.1 (h.g 1) (hT:=λn m=>⟨m,j.2.set n _⟩))<|No (.wr J λh j=>Ko 3 j.1 (h.g 3) (hT:=λn m=>⟨m,j.2.set n _⟩))<|No (.vl J λ_ _=>av) Stp.end_)
   λf V hF MM=>?_
  refine DT ?_;rw[hF.e 0,hF.e 2,hF.e 6];have MM:=Ei MM;obtain⟨a2,l2,c2,g2,eo⟩:=MM.1.poly2 (i:=2) J;obtain⟨a3,l3,c3,g3,et⟩:=MM.1.poly2 (i:=3) J;have Ux:=MM.1.2.2;have Ua:=MM.2.2.2;clear hF MM;gi_wp2;refine⟨DG,.inl ⟨_,_,J,BU Ua,?_⟩⟩;have hg:=BX V DC (.deferred none);have Qn:∀r,some DC=some r->∃o:Obj,V.heap[r]?=some o/\o.isCells=false:=λr e=>by cases e;exact⟨_,Ua,J⟩
  have q2:Boxed _ (w.heap.size+1+1) 25 (C a2 l2 c2):=YJ hg Qn (show Bx V (w.heap.size+1+1) 25 #[C a2 l2 c2]from g2);have q3:Boxed _ (w.heap.size+1+1+1) 25 (C a3 l3 c3):=YJ hg Qn (show Bx V (w.heap.size+1+1+1) 25 #[C a3 l3 c3]from g3);have x2:=q2.cell;have x3:=q3.cell;refine⟨.tuple #[.agg #[C a2 l2 c2],.agg #[C a3 l3 c3],T true],by simp[results,results139,go_sem,x2,x3],_,_,J,?_,?_,?_⟩
  . rw[Us.o];obtain⟨u,e,h⟩:=eo;exact⟨u,e,Lf hg Qn h⟩
  . rw[Wc.o];obtain⟨u,e,h⟩:=et;exact⟨u,e,Lf hg Qn h⟩
  . exact Ux.trans (DE (w:=w) (Aa _) _ DC _ _ Uw.o Ua J J)
def boxed_own{row:Option Nat}(hg:V.grownBy V' row)(a:∀r,row=some r->∃o:Obj,V.heap[r]?=some o/\o.isCells=false)(h:Boxed V B t v):Boxed V' B t v:=YJ hg a (show Bx V B t #[v]from h)
def _root_.Go.Proofs.YtakpoihdghihmaaGreatDoor.ySplit_n(A:Nat)(l m:o)(ps qs:Ja)(w:L)(f:Jh w l ps)(j:Jh w m qs)(_hs:Sqs ps)(hq:∀i,DP A (cf qs i))(_htp:Jc ps=ps)(p:Jc qs=qs)(b:qs≠[])
(n:∀k,k<=ps.length-(qs.length-1)->∃z,z+(2*A+1)<=1000000000/\(k<ps.length-(qs.length-1)->2*z+2*(2*A+1)<=1000000000)/\(∀i,DP z (cf (JJ ps qs (qs.length-1) (ps.length-(qs.length-1)) k).2 i))/\∀i,DP (z+A) (cf (JJ ps qs (qs.length-1) (ps.length-(qs.length-1)) k).1 i)):
 Calls g 139 #[l,m] w λe a=>∃u v,e=.returned (.tuple #[u,v,T true])/\Jh a u (JA ps qs)/\Jh a v (JI ps qs)/\Bl w a:=by
 obtain⟨q,la,r,rfl⟩:=f.form;obtain⟨s,lb,t,rfl⟩:=j.form;have c:=f.row;have d:=j.row;obtain⟨y,_⟩:=c.forms;obtain⟨B,_⟩:=d.forms;have D:=Ac.2 b;exact jG A q s la r lb t (lb-1) (la-(lb-1)) ps qs w c d hq p b (λk x=>by rw[show lb-1=qs.length-1 by omega,show la-(qs.length-1)=ps.length-(qs.length-1)by omega];exact n k O) O J
def Kx(ps:Ja)(n i:Nat)(S:Ja):Prop:=S.length=n/\∀j,cf S j=if j<i then EW ps j else 0
theorem Kx.next{ps:Ja}{n:Nat}(h:Kx ps n i S)(a:i<n):Kx ps n (i+1) (S.set i (EW ps i)):=by
 refine⟨by rw[Fg];exact h.1,λj=>?_⟩;rw[XY _ _ _ _ (by rw[h.1];exact a),h.2 j];grind
def Kx.done{ps:Ja}{n:Nat}(h:Kx ps n n S)(a:n=ps.length-1):Jc S=Jb ps:=YL λj=>by
 rw[h.2 j,Iq];split
 . rfl
 . rw[JZ (p:=ps) O,Fm]
def jH(v:o)(ps:Ja)(w:L)(h:Jh w v ps)(aq:Sqs ps)(ay:∀i,Sq (EW ps i)):
 Calls g 38 #[v] w λe w'=>∃u,e=.returned u/\Jh w' u (Jb ps)/\Bl w w':=by
 obtain⟨A,la,k,rfl⟩:=h.form;have ha:=h.row;obtain⟨an,az,bc,bi,s,t,aa,bb,ll,cc,kk,dd,ak⟩:=ha.forms;obtain⟨V0,ai,r⟩:=Kf 25 (.cell 25 (C A la k)) Eh 25 (.cell 25 (C none 0 0)) Eh (w:=w);have M1:=r.o;obtain⟨d,hd⟩:=ex ((ps.length:Int)-1:Int);have R:=Y (YI (.agg #[C A la k]) ps V0 (h.below M1.2.2));rw[hd]at R;obtain⟨n,hn⟩:=ex (ps.length-1:Nat);have Qd:max (0:Int) d=(n:Int):=O
 have Qn:∀W:L,(Instr.makeSlice 23 (G F (n:Int)) (G F (n:Int))).run g W=.ok (C (some ⟨W.heap.size,0,none⟩) n n) (W.alloc (H (Y0 n) 37)):=λW=>Le n O W;obtain⟨HP,Qi,Qk,D⟩:=Di ak aq ay (show n=ps.length-1/\la=ps.length from⟨hn.symm,an⟩);have Qc:n<=1099511627776:=O
 clear h ha ak aq ay an az bc hn hd M1;go_enter func38,ntmps38
 go_upto_region 1 with fail
 rw[ai.o];have c0:=(r.o.cell (i:=0) J).1.cell;go_upto_region 2 with(go_at_call 30;refine R.o.mono ?_;clear R;rintro e B ⟨rfl,aj⟩)
 have N:DH w (B.alloc (H (Y0 n) 37)) [some (w.heap.size,.cell 25 (C A la k)),some (w.heap.size+1,.cell 25 (C none 0 0)),some (B.heap.size,.rats (nL n 0))]:=(r.o.below aj).push (.rats (nL n 0)) (Ps _ n);obtain⟨V1,X⟩:=ex (B.alloc (H (Y0 n) 37));obtain⟨y,ae⟩:=ex (B.heap.size);rw[X,ae]at N;rw[X,ae];have Qh:=Y N;clear N X ae aj c0 r ai Qn Qd;go_wp2;go_loopw [11] (λiv wr=>∃(i:Nat) (S:Ja),i<=n/\iv=G F (i:Int)/\Hid (Kx ps n i S)/\Hid (DH w wr [some (w.heap.size,.cell 25 (C A la k)),some (w.heap.size+1,.cell 25 (C none 0 0)),some (y,.rats S)])) λiv _=>n-(intOf iv).toNat
 case atStart=>exact⟨0,_,Ap _,J,Y ⟨AW,λj=>by rw[J1,BD O]⟩,Qh⟩
 case round=>
  obtain⟨i,S,hi,rfl,c,q⟩:=hrel;clear Qh;by_cases ap:i<n
  . have bj:(i:Int)<(n:Int):=O
    obtain⟨K,hK⟩:=ex (i+1:Nat);have bf:(i:Int)+1=(K:Int):=O
    have bh:F.wrap (K:Int)=(K:Int):=by rw[BJ];omega
    have bg:(K:Int)<(la:Int):=by have:=D.o;omega
    obtain⟨am,a,rfl,m,p0,p1,p2,p3⟩:=HP.o K (by have:=D.o;omega);have Qo:=Y (show ∀V,Bl w V->(V.cell? ⟨a,K*4,none⟩=some (T (s K))/\V.cell? ⟨a,K*4+1,none⟩=some (C (aa K) (ll K) (cc K))/\V.cell? ⟨a,K*4+2,none⟩=some (T (t K))/\V.cell? ⟨a,K*4+3,none⟩=some (C (bb K) (kk K) (dd K)))/\Jj V (.agg #[T (s K),C (aa K) (ll K) (cc K),T (t K),C (bb K) (kk K) (dd K)]) (cf ps K)from λV l=>by
     exact⟨⟨(l.cell (p:=⟨a,_,none⟩) m).trans p0,(l.cell (p:=⟨a,_,none⟩) m).trans p1,(l.cell (p:=⟨a,_,none⟩) m).trans p2,(l.cell (p:=⟨a,_,none⟩) m).trans p3⟩,am.below l⟩)
    have M:=Y (show K<=1099511627776/\K=i+1 by omega);have Qm:=Y (show cf ps K*((K:Int):Rat)=EW ps i by rw[M.o.2];rfl);have Qp:=Y (show i<S.length by rw[c.o.1];exact ap);clear am m p0 p1 p2 p3 hK;go_wp2_with fail
    have Qj:=q.o.drew;refine EU Dl [[],[],[],[2],[],[4],[3,5],[6],[],[8],[9],[7,10,10],[0,1,0,1,2,3,4,5,6,7,8,9,10,11],[12,11,11,0,1,2,3,4,5,6,7,8,9,10,11]] [.eq (C (some ⟨y,0,none⟩) n n),.eq (G F (i:Int)),.eq (P (some ⟨w.heap.size,0,none⟩)),.eq (C (some ⟨a,0,none⟩) la k),.eq (G F (i:Int)),.eq (G F (K:Int)),.eq (P (some ⟨a,K*4,none⟩)),.rat (cf ps K),.eq (G F (i:Int)),.eq (G F (K:Int)),.rat ((K:Int):Rat),.rat (EW ps i),.eq (P (some ⟨y,i*4,none⟩)),.eq I] [13] (λb _ V=>DH w V [some (w.heap.size,.cell 25 (C (some ⟨a,0,none⟩) la k)),some (w.heap.size+1,.cell 25 (C none 0 0)),some (y,if b.getD 0 false then .rats (S.set i (EW ps i))else .rats S)]) Qj (No (.vl J λ_ _=>mv)<|No (.vl J λ_ _=>mv)<|No (.vl J λ_ _=>⟨_,by refine DT ?_;go_simp,J⟩)<|No (.vl J λh j=>⟨_,by have e0:=(j.cell (i:=0) J).1.cell;refine DT ?_;rw[h.e 2];go_simp,J⟩)<|No (.vl J λ_ _=>mv)<|No (.vl J λh _=>⟨_,by refine DT ?_;rw[h.e 4];go_simp,J⟩)<|No (.vl J λh _=>⟨_,by refine DT ?_;rw[h.e 3,h.e 5];go_simp,J⟩)<|No (.vl J λh j=>by obtain⟨⟨e0,e1,e2,e3⟩,hr⟩:=Qo.o _ j.2.2;exact⟨_,by refine DT ?_;rw[h.e 6];go_simp,hr⟩)<|No (.vl J λ_ _=>mv)<|No (.vl J λh _=>⟨_,by refine DT ?_;rw[h.e 8];go_simp,J⟩)<|No (.cl λh _=>c1 (h.e 9) (TP (K:Int) O (by have:=M.o;omega) _))<|No (.cl λh _=>Qm.o ▸ Kn _ _ (cf ps K) ((K:Int):Rat) _ (h.g 7) (h.g 10) (Qi.o.at K) (Tq M.o.1))<|No (.vl J λh _=>⟨_,by refine DT ?_;rw[h.e 0,h.e 1];go_simp,J⟩)<|No (.wr J λh j=>Mv 2 j Qp.o (h.g 11) (h.e 12)) Stp.end_)
     λf V hF x=>?_
    refine DT ?_;rw[hF.e 0,hF.e 1,hF.e 2,hF.e 3,hF.e 4,hF.e 5,hF.e 6,hF.e 8,hF.e 9,hF.e 12];have x:=Ei x;have HO:=Y x;clear x hF;go_wp2_with fail
    go_roundw
    case rel=>exact⟨i+1,_,O,by go_num,Y (c.o.next ap),HO⟩
    case measure=>simp[intOf];omega
  . obtain rfl:i=n:=O
    have hE:=q.o.rats (i:=2) J;have E:=hE.row (n:=i) (cap:=i) (by rw[c.o.1];exact Aa _) (Aa _) O Qc;rw[Ad (by rw[c.o.1];exact Aa _)]at E;have Q:=Y (KC _ S wr E (Sqs.of λj=>by
     rw[c.o.2 j];split
     . exact Qk.o j
     . exact KB))
    rw[c.o.done D.o.1]at Q;clear hE E;go_wp2_with(go_at_call 39;refine Q.o.mono ?_;clear Q;rintro e w5 ⟨u5,rfl,ah,_,ad⟩;obtain⟨a7,l7,c7,rfl⟩:=ah.form;have z:=boxed_below (q.o.cell (i:=1) J).1 ad;have x0:=z.cell;have x1:=z.frozen;have Qq:=Y (Ez z (C a7 l7 c7) ah.row);have Ql:=Y ((Bt q.o.2.2 ad).setCell (p:=⟨w.heap.size+1,0,none⟩) (by show w.heap.size<=w.heap.size+1;omega) (C a7 l7 c7));clear ah ad z)
    exact A0 (by simp[results,results38,go_sem,x0]) J ⟨_,J,⟨_,J,Qq.o⟩,Ql.o⟩
end M3
def CD(D:Int)(K:Nat)(c:Rat):Prop:=∃n:Int,c=nM n D/\Sm K n
section
variable {D E:Int} {K M:Nat} {c d:Rat}
def CD.mono(h:CD D K c)(a:K<=M):CD D M c:=by
 obtain⟨n,e,h⟩:=h;exact⟨n,e,h.mono a⟩
def CD.smq(h:CD D K c)(hD:D≠0)(a:Sm K D):DP K c:=by
 obtain⟨n,rfl,h⟩:=h;exact DP.divInt hD h a
theorem CD.zero(D:Int)(K:Nat):CD D K 0:=⟨0,by rw[Rat.zero_divInt],Sm.zero K⟩
def CD.add(h:CD D K c)(a:CD D M d)(hD:D≠0):CD D (max K M+1) (c+d):=by
 obtain⟨n,rfl,h⟩:=h;obtain⟨m,rfl,a⟩:=a;refine⟨n+m,?_,?_⟩
 . rw[FI _ _ hD hD,<-Int.add_mul,CX hD]
 . exact(h.mono (Nat.le_max_left ..)).add (a.mono (Nat.le_max_right ..))
def CD.mul(h:CD D K c)(a:CD E M d):CD (D*E) (K+M) (c*d):=by
 obtain⟨n,rfl,h⟩:=h;obtain⟨m,rfl,a⟩:=a;exact⟨n*m,by rw[CQ],h.mul a⟩
def CD.wide(h:CD D K c)(hE:Sm M E)(a:E≠0):CD (D*E) (K+M) c:=by
 obtain⟨n,rfl,h⟩:=h;exact⟨n*E,by rw[CX a],h.mul hE⟩
theorem CD.of(h:DP K c):CD (c.den:Int) K c:=⟨c.num,(CT c).symm,h.1⟩
end
def Do(D:Int)(K:Nat)(ps:Ja):Prop:=∀i,CD D K (cf ps i)
theorem Do.some{A:Nat}:∀ {ps:Ja},(∀i,DP A (cf ps i))->∃D:Int,D≠0/\Sm (ps.length*A+1) D/\Do D (ps.length*A+1) ps:=by
 intro ps;induction ps with
 |nil=>intro _;exact⟨1,DK,Sm.one _ O,λi=>by rw[YB];exact CD.zero _ _⟩
 |cons c t k=>
  intro h;obtain⟨D,b,d,j⟩:=k (λi=>by have:=h (i+1);rwa[Yf]at this);have a:=h 0;rw[YE]at a;have f:(c.den:Int)≠0:=by have:=c.den_nz;omega
  have e:(c::t).length*A+1=t.length*A+1+A:=by rw[Ah,AU];omega
  rw[e];refine⟨D*c.den,AV b f,d.mul a.2,λi=>?_⟩;cases i with
  |zero=>
   rw[YE];have:=(CD.of a).wide d b;grind
  |succ i=>rw[Yf];exact(j i).wide a.2 f
theorem UI{D:Int}{K:Nat}{ps qs:Ja}(hD:D≠0)(h:∀i j,CD D K (cf ps i*cf qs j))(n:Nat):∀(i k:Nat),CD D (K+min i ps.length) (cf (Xx ps qs n i) k):=by
 intro i;induction i with
 |zero=>intro k;rw[Xx,J1];exact CD.zero _ _
 |succ i a=>
  intro k;rw[Xx];rcases Kw (Xx ps qs n i) i (cf ps i) qs qs.length k with e|e
  . rw[e];exact(a k).mono O
  . rw[e];by_cases b:i<ps.length
    . exact((a k).add (h i (k-i)) hD).mono O
    grind[JZ]
def jI{D:Int}{K:Nat}{ps qs:Ja}(hD:D≠0)(f:Sm 1000000000 D)(h:∀i j,CD D K (cf ps i*cf qs j))(d:K+ps.length+1<=1000000000):M3.Hk ps qs:=by
 have hq:∀c,CD D (K+ps.length+1) c->Sq c:=λc b=>Sq.of ((b.mono d).smq hD f) (Aa _);refine⟨λi j=>hq _ ((h i j).mono O),λn i j k=>?_⟩;have a:=UI hD h n i k;rcases Kw (Xx ps qs n i) i (cf ps i) qs j k with e|e
 . rw[e];exact hq _ (a.mono O)
 . rw[e];exact hq _ ((a.add (h i (k-i)) hD).mono O)
theorem jJ{D:Int}{K:Nat}{ps qs:Ja}(hD:D≠0)(h:∀i j,CD D K (cf ps i*cf qs j)):Do D (K+ps.length) (Jv ps qs):=λk=>by
 unfold Jv;rw[JT,Ip];have a:=UI hD h (ps.length+qs.length) ps.length k;grind[OD]
theorem jK(p q:Ja):(Jv p q).length<=p.length+q.length:=Xf (Yq _ _) λi a=>by grind[Jv,JT,Ip,Ts]
def Sm.powZ{A:Nat}{v:Int}(h:Sm A v):∀n,Sm (n*A+1) (v^n):=by
 intro n;induction n with
 |zero=>rw[Int.pow_zero];exact Sm.one _ O
 |succ n a=>rw[Int.pow_succ,AU,show n*A+1*A+1=n*A+1+A by omega];exact a.mul h
def UJ{D:Int}{K:Nat}{c:Rat}(h:CD D K c):CD D K (-c):=by
 obtain⟨n,rfl,h⟩:=h;exact⟨-n,by rw[<-Rat.neg_divInt],by unfold Sm at h ⊢;rwa[FM]⟩
theorem UK{D E l:Int}{K A:Nat}{ps qs:Ja}{n m:Nat}(hD:D≠0)(hp:Do D K ps)(hE:E≠0)(V:Sm A E)(hq:Do E A qs)(b:l≠0)(hl:Sm A l)(S:cf qs n=nM l E)(N:cf qs n≠0):
 ∀k,Do (D*l^k) (K+k*(A+1)) (JJ ps qs n m k).2/\Do (D*l^k) (K+k*(A+1)) (JJ ps qs n m k).1:=by
 intro k;induction k with
 |zero=>
  rw[Int.pow_zero,Int.mul_one];exact⟨λi=>(hp i).mono O,λi=>by rw[JJ,J1];exact CD.zero _ _⟩
 |succ k X=>
  obtain⟨d,p⟩:=X;have z:D*l^k≠0:=AV hD (Int.pow_ne_zero b);have e:D*l^(k+1)=D*l^k*l:=by rw[Int.pow_succ,FQ]
  rw[e];have y:D*l^k*l≠0:=AV z b;obtain⟨R,s⟩:=ex ((JJ ps qs n m k).2);obtain⟨Q,q⟩:=ex ((JJ ps qs n m k).1);rw[s]at d;rw[q]at p;obtain⟨r,M,u⟩:=d (m-(k+1)+n);obtain⟨c,t⟩:=ex (cf R (m-(k+1)+n)/cf qs n);have f:c=nM (r*E) (D*l^k*l):=by
   rw[<-t];have B:cf R (m-(k+1)+n)=nM (r*E) (D*l^k*l)*cf qs n:=by
    rw[S,CQ,M,show r*E*l=r*(E*l)from FQ _ _ _,show D*l^k*l*E=D*l^k*(E*l)by grind,CX (AV hE b)]
   rw[B,Rat.mul_div_cancel N]
  have v:CD (D*l^k*l) (K+(k+1)*(A+1)) c:=⟨r*E,f,(u.mul V).mono (by rw[AU];omega)⟩;have w:∀j,CD (D*l^k*l) (K+k*(A+1)+A) (c*cf qs j):=λj=>by
   obtain⟨x,ex,W⟩:=hq j;refine⟨r*x,?_,u.mul W⟩;rw[f,ex,CQ,show r*E*x=r*x*E by grind,CX hE]
  rw[JJ,s,q];simp only[t];refine⟨λi=>?_,λi=>?_⟩
  . rcases Kw R (m-(k+1)) (-c) qs qs.length i with a|a
    . rw[a];exact((d i).wide hl b).mono (by rw[AU];omega)
    . rw[a,Rat.neg_mul];exact(((d i).wide hl b).add (UJ (w _)) y).mono (by rw[AU];omega)
  . rcases M3.jD Q (m-(k+1)) c i with a|a
    . rw[a];exact v
    . rw[a];exact((p i).wide hl b).mono (by rw[AU];omega)
section
variable{n:Nat}{f:Nat->Int}{S:Nat->Ja->Ja->Prop}
theorem jL:∀(n:Nat) (f:Nat->Nat),(∀i,i<=n->f i<n)->∃i j,i<j/\j<=n/\f i=f j:=by
 intro n;induction n with
 |zero=>intro f h;grind
 |succ n k=>
  intro f h;by_cases d:∃i,i<=n/\f i=f (n+1)
  . obtain⟨i,a,b⟩:=d;exact⟨i,n+1,O,Aa _,b⟩
  . have m:∀i,i<=n->f i≠f (n+1):=λi c e=>d ⟨i,c,e⟩;obtain⟨i,j,a,b,l⟩:=k (λi=>if f i=n then f (n+1)else f i) (λi c=>by
     grind)
    refine⟨i,j,a,O,?_⟩;grind
def enc(b:Nat):Nat->(Nat->Nat)->Nat
 |0,_=>0
 |M+1,d=>enc b M d+d M*b^M
theorem Pt{b:Nat}{M:Nat}{d:Nat->Nat}(h:∀k,k<M->d k<b):enc b M d<b^M:=by
 induction M with
 |zero=>simp[enc]
 |succ M c=>
  have e:=c λk i=>h k O;have a:=h M O;have f:(d M+1)*b^M<=b*b^M:=Ae _ a;grind[enc]
theorem jM{b:Nat}{M:Nat}{d a:Nat->Nat}(h:∀k,k<M->d k<b)(f:∀k,k<M->a k<b)(e:enc b M d=enc b M a):∀k,k<M->d k=a k:=by
 induction M with
 |zero=>intro k c;omega
 |succ M i=>
  have l1:=Pt (λk c=>h k O:∀k,k<M->d k<b);have l2:=Pt (λk c=>f k O:∀k,k<M->a k<b);grind[enc,Nat.add_mul_div_right,Cn]
def EX(b x j:Nat):Nat:=x/b^j%b
def jN{b:Nat}(a:0<b)(x j:Nat):EX b x j<b:=A9 _ a
theorem UL(b x:Nat):∀N,enc b N (EX b x)=x%b^N:=by
 intro N;induction N with
 |zero=>simp[enc,Nat.mod_one]
 |succ N a=>grind[enc,Nat.mod_pow_succ,EX]
def YX:Nat->(Nat->Int)->Int
 |0,_=>0
 |n+1,f=>YX n f+f n
theorem UM{g:Nat->Int}(h:∀k,k<n->f k=g k):YX n f=YX n g:=by
 induction n with
 |zero=>rfl
 |succ n a=>grind[YX]
def jO(n:Nat)(f g:Nat->Int):YX n (λk=>f k-g k)=YX n f-YX n g:=by
 induction n with
 |zero=>rfl
 |succ n a=>rw[YX,YX,YX,a];omega
theorem Nd{C:Nat}(h:∀k,k<n->(f k).natAbs<=C):(YX n f).natAbs<=n*C:=by
 induction n with
 |zero=>simp[YX]
 |succ n a=>
  grind[YX]
theorem jP(N A:Nat)(c:Nat->Nat->Int)(u:∀k j,(c k j).natAbs<=A):
 ∃z:Nat->Int,(∃j,j<N+1/\z j≠0)/\(∀j,(z j).natAbs<=(2*(N+1)*A+1)^N)/\∀k,k<N->YX (N+1) (λj=>c k j*z j)=0:=by
 obtain⟨B,e⟩:=ex ((2*(N+1)*A+1)^N);have l:1<=B:=by rw[<-e];exact CW O
 obtain⟨C,f⟩:=ex ((N+1)*(A*B));have i:∀x j,EX (B+1) x j<=B:=λx j=>by have:=jN (b:=B+1) O x j;omega
 have t:∀x k,(YX (N+1) λj=>c k j*(EX (B+1) x j:Int)).natAbs<=C:=λx k=>by
  rw[<-f];refine Nd λj _=>?_;rw[Cu,AA];exact Ci (u k j) (i x j)
 obtain⟨g,hg⟩:∃g:Nat->Nat->Nat,∀x k,(g x k:Int)=YX (N+1) (λj=>c k j*(EX (B+1) x j:Int))+C/\g x k<2*C+1:=
  ⟨λx k=>(YX (N+1) (λj=>c k j*(EX (B+1) x j:Int))+C).toNat,λx k=>by have:=t x k;dsimp only;omega⟩
 have S:(2*C+1)^N<(B+1)^(N+1):=by
  have a:2*C+1<=(2*(N+1)*A+1)*B:=by
   have m:2*C=2*(N+1)*A*B:=by rw[<-f];simp only[Cp]
   rw[m,AU,FD];exact Nat.add_le_add_left l _
  have d:(2*C+1)^N<=B^(N+1):=by
   refine Af (CM a N) ?_;rw[Nat.mul_pow,e,Cm,AD];exact Aa _
  exact Cx d (Nat.pow_lt_pow_left O O)
 obtain⟨x,y,a,d,n⟩:=jL ((2*C+1)^N) (λx=>enc (2*C+1) N (g x)) λx _=>Pt λk _=>(hg x k).2;have p:=jM (λk _=>(hg x k).2) (λk _=>(hg y k).2) n;refine⟨λj=>(EX (B+1) x j:Int)-(EX (B+1) y j:Int),?_,λj=>?_,λk v=>?_⟩
 . by_cases w:∃j,j<N+1/\(EX (B+1) x j:Int)-(EX (B+1) y j:Int)≠0
   . exact w
   . exfalso
     have q:∀j,j<N+1->EX (B+1) x j=EX (B+1) y j:=λj V=>by
      grind
     have r:∀M,M<=N+1->enc (B+1) M (EX (B+1) x)=enc (B+1) M (EX (B+1) y):=λM=>by
      induction M with
      |zero=>intro _;rfl
      |succ M D=>intro R;rw[enc,enc,D O,q M O]
     have s:=r (N+1) (Aa _);rw[UL,UL,Ct O,Ct O]at s;omega
 . grind
 . have K:=p k v;have Q:=(hg x k).1;have E:=(hg y k).1;rw[show(λj=>c k j*((EX (B+1) x j:Int)-(EX (B+1) y j:Int)))=(λj=>c k j*(EX (B+1) x j:Int)-c k j*(EX (B+1) y j:Int))from funext λj=>Int.mul_sub _ _ _,jO];omega
theorem jQ(p q:Ja):(Ys p q).length<=max p.length q.length:=Xf (Xd _ _) λi a=>by grind[KR,JZ]
def DQ(c:Rat)(p:Ja):Ja:=Jc (Yv c p)
theorem JK(c:Rat)(p:Ja):Jc (DQ c p)=DQ c p:=Yc _
theorem YY(c:Rat)(p:Ja)(i:Nat):cf (DQ c p) i=cf p i*c:=by unfold DQ;rw[JT,Xq]
theorem J2(c:Rat)(p:Ja)(x:Rat):ev (DQ c p) x=ev p x*c:=by unfold DQ;rw[XW,XM]
theorem IE{a b:Rat}(c:a≠0)(d:b≠0):a*b≠0:=λh=>by
 grind
theorem jR{p:Ja}(h:cf p n≠0):n<p.length:=by
 grind[JZ]
theorem Yy{c:Rat}(d:c≠0){p:Ja}(hp:Jc p=p):(DQ c p).length=p.length:=by
 refine FR (Xf (JK _ _) λi e=>by rw[YY,JZ e,Fm]) ?_;by_cases a:p=[]
 . grind
 . have b:=Jt hp a;have f:0<p.length:=Ac.2 a;have j:=jR (p:=DQ c p) (n:=p.length-1) (by rw[YY];exact IE b d);omega
theorem Ky(c d:Rat)(p:Ja):DQ c (DQ d p)=DQ (d*c) p:=Ea (JK _ _) (JK _ _) λx=>by rw[J2,J2,J2];grind
theorem IF{p:Ja}(hp:Jc p=p):DQ 1 p=p:=Ea (JK _ _) hp λx=>by rw[J2];grind
theorem jS(c:Rat):DQ c []=[]:=rfl
theorem KH{c:Rat}(b:c≠0){p:Ja}(hp:Jc p=p)(a:p≠[]):DQ c p≠[]:=λh=>by
 grind[Yy]
theorem JS{p q:Ja}(hp:Jc p=p)(hq:Jc q=q)(a:p≠[])(b:q≠[]):(Jv p q).length=p.length+q.length-1:=RB hp hq a b
def Lu{p:Ja}(h:p.length=0):p=[]:=Az.1 h
def Nf{p q u v:Ja}(hq:Jc q=q)(a:q≠[])(f:Jc u=u)(i:Jc v=v)(j:v.length<q.length)(h:∀x,ev p x=ev q x*ev u x+ev v x):u=JA p q/\v=JI p q:=by
 obtain⟨b,c,d,e⟩:=J8 p q hq a;exact OA hq a f d i e j c (λx=>by rw[<-h x,b x])
theorem Lv{c d:Rat}(a:d≠0)(p q:Ja)(hq:Jc q=q)(b:q≠[]):JA (DQ c p) (DQ d q)=DQ (c/d) (JA p q)/\JI (DQ c p) (DQ d q)=DQ c (JI p q):=by
 obtain⟨j,e,k,l⟩:=J8 p q hq b;have h:=Nf (p:=DQ c p) (JK d q) (KH a hq b) (JK (c/d) (JA p q)) (JK c (JI p q)) (by
  rw[Yy a hq];exact Cx (Xf (JK _ _) λi f=>by rw[YY,JZ f,Fm]) e) (λx=>by
  grind[J2])
 grind
def UO:Nat->Ja->Ja->Ja->Ja->Prop
 |0,p,q,a,b=>p=a/\q=b
 |n+1,p,q,a,b=>∃c:Rat,q≠[]/\c≠0/\UO n q (DQ c (JI p q)) a b
def Eu(p q a b:Ja):Prop:=∃n,UO n p q a b
def Eu.base(p q:Ja):Eu p q p q:=⟨0,J,J⟩
def Eu.step(p q:Ja)(c:Rat)(a b:Ja)(h:q≠[])(k:c≠0):Eu q (DQ c (JI p q)) a b->Eu p q a b:=λ⟨n,e⟩=>⟨n+1,c,h,k,e⟩
def Eu.ind{d:∀p q a b:Ja,Eu p q a b->Prop}(base:∀p q,d p q p q (.base p q))
(step:∀p q c a b (h:q≠[]) (k:c≠0) (e:Eu q (DQ c (JI p q)) a b),d q (DQ c (JI p q)) a b e->d p q a b (.step p q c a b h k e))
{p q a b:Ja}(t:Eu p q a b):d p q a b t:=by
 obtain⟨n,e⟩:=t;induction n generalizing p q with
 |zero=>obtain⟨rfl,rfl⟩:=e;exact base _ _
 |succ n f=>obtain⟨c,h,k,e⟩:=e;exact step p q c a b h k ⟨n,e⟩ (f e)
def Eu.tail{p q a b:Ja}(h:Eu p q a b){c:Rat}(e:b≠[])(f:c≠0):Eu p q b (DQ c (JI a b)):=by
 induction h using Eu.ind with
 |base p q=>exact .step p q c _ _ e f (.base _ _)
 |step p q d a b hq i _ j=>exact .step p q d _ _ hq i (j e)
theorem YO(p q:Ja):Jc (JI p q)=JI p q:=Yc _
theorem Y6(p q:Ja):Jc (JA p q)=JA p q:=Yc _
def Eu.len{p q a b:Ja}(h:Eu p q a b):Jc q=q->b.length<=q.length:=by
 induction h using Eu.ind with
 |base p q=>exact λ_=>Aa _
 |step p q d a b hq f _ i=>
  intro c;have e:=i (JK _ _);rw[Yy f (YO _ _)]at e;have:=(J8 p q c hq).2.1;omega
theorem jT{p q a b:Ja}(h:Eu p q a b):Jc p=p->Jc q=q->b≠[]->∀u v T:Ja,Jc u=u->Jc v=v->Jc T=T->u.length+b.length<=q.length+1->v.length+b.length<=p.length+1->(u≠[]\/v≠[])->T.length<b.length->
 (∀x,ev T x=ev u x*ev p x+ev v x*ev q x)->∃c:Rat,c≠0/\T=DQ c (JI a b):=by
 induction h using Eu.ind with
 |base p q=>
  intro hp hq i u v T k M hT Q lv f t s;have W:u.length<=1:=O
  obtain⟨z,A,h3,h4⟩:=J8 p q hq i;match u,W,f with
  |[],_,f=>
   have w:v≠[]:=by
    rcases f with f|f
    . exact absurd J f
    . exact f
   have e:T=Jv v q:=Ea hT (Yq _ _) λx=>by rw[Ji,s x];simp[ev];grind
   grind[JS,Ac]
  |[c],_,_=>
   have hc:c≠0:=λe=>by
    have:=Jt k DG;simp[YE]at this;exact this e
   refine⟨c,hc,?_⟩;have R:∀x,ev (DQ c p) x=ev q x*ev (DQ (-1) v) x+ev T x:=λx=>by
    grind[J2,ev]
   have h7:=(Nf hq i (JK _ _) hT t R).2;have B:=(Lv (c:=c) (d:=1) DK p q hq i).2;rw[IF hq]at B;rw[h7,B]
 |step p q d a b i E hE N=>
  intro hp hq D u v T k M hT Q lv f t s;obtain⟨z,A,h3,h4⟩:=J8 p q hq i;obtain⟨r,l⟩:=ex (DQ d (JI p q));rw[l]at hE N;have n:Jc r=r:=by rw[<-l];exact JK _ _
  have ah:b.length<=r.length:=hE.len n;have ae:0<b.length:=Ac.2 D;have ak:r.length<q.length:=by rw[<-l,Yy E (YO _ _)];exact A
  have V:r≠[]:=λe=>by
   grind
  have ai:d*(1/d)=1:=by rw[Fa];exact AB E
  have m:(1/d)≠0:=λe=>by grind
  have S:∀x,ev p x=ev q x*ev (JA p q) x+ev r x*(1/d):=λx=>by rw[z x,<-l,J2];grind
  have y:∀x,ev T x=ev (Xc (Jv u (JA p q)) v) x*ev q x+ev (DQ (1/d) u) x*ev r x:=λx=>by
   rw[s x,S x,YF,Ji,J2];grind
  have ad:(DQ (1/d) u).length+b.length<=q.length+1:=by rw[Yy m k];exact Q
  refine N hq n D (Xc (Jv u (JA p q)) v) (DQ (1/d) u) T (Xr _ _) (JK _ _) hT ?_ ad ?_ t y
  . by_cases K:Xc (Jv u (JA p q)) v=[]
    . rw[K];simp;omega
    . have l1:=JS (Xr _ _) hq K i;have e:Jv (Xc (Jv u (JA p q)) v) q=Ys T (Jv (DQ (1/d) u) r):=Ea (Yq _ _) (Xd _ _) λx=>by rw[Ji,Xb,Ji,y x];grind
      have l2:=jQ T (Jv (DQ (1/d) u) r);have l3:=jK (DQ (1/d) u) r;rw[<-e,l1]at l2;have aj:0<q.length:=Ac.2 i;by_cases j:u=[]
      . have X:Jv (DQ (1/d) u) r=[]:=by rw[j];rfl
        rw[X]at l2;simp at l2;omega
      . have l4:=JS (JK _ _) n (KH m k j) V;omega
  . by_cases j:u=[]
    . left
      have w:v≠[]:=by
       rcases f with f|f
       . exact absurd j f
       . exact f
      have e:Xc (Jv u (JA p q)) v=v:=Ea (Xr _ _) M λx=>by rw[YF,Ji,j];simp[ev];grind
      rw[e];exact w
    . right;exact KH m k j
def Ln(K:Nat)(r:Ja):Prop:=∃c:Rat,c≠0/\∀i,∃z:Int,Sm K z/\cf r i*c=(z:Rat)
def jU(s t:Nat)(f:Nat->Int):YX (s+t) f=YX s f+YX t (λj=>f (s+j)):=by
 induction t with
 |zero=>simp[YX]
 |succ t a=>rw[<-Nat.add_assoc,YX,YX,a];omega
def Pv{f:Nat->Rat}{g:Nat->Int}(h:∀k,k<n->f k=(g k:Rat)):sumN n f=((YX n g:Int):Rat):=by
 induction n with
 |zero=>rfl
 |succ n a=>rw[sumN,YX,a λk b=>h k O,h n O,FT]
def Ng(p q:Ja)(h:p.length<=n)(k:Nat):cf (Jv p q) k=sumN n (λi=>if i<=k then cf p i*cf q (k-i)else 0):=by
 unfold Jv;rw[JT,Ip,<-Q9 p q h];rfl
theorem Ln.sc{K:Nat}{r:Ja}(h:Ln K r){d:Rat}(j:d≠0):Ln K (DQ d r):=by
 obtain⟨c,f,k⟩:=h;have e:d*(1/d)=1:=by rw[Fa];exact AB j
 refine⟨(1/d)*c,IE (λl=>by grind) f,λi=>?_⟩;obtain⟨z,a,b⟩:=k i;exact⟨z,a,by rw[YY,<-b];grind⟩
def Ln.mono{K L:Nat}{r:Ja}(h:Ln K r)(e:K<=L):Ln L r:=by
 obtain⟨c,d,f⟩:=h;exact⟨c,d,λi=>by obtain⟨z,a,b⟩:=f i;exact⟨z,a.mono e,b⟩⟩
theorem jV{K N A B:Nat}(b:A=Z^K)(i:N+1<=1000000000)(f:B=(2*(N+1)*A+1)^N):(N+1)*(A*B)<Z^((K+1)*(N+1)):=by
 have c:1<=A:=by rw[b];exact CW Hv
 have d:2*(N+1)*A+1<=Z^(K+1):=by
  have a:(2*(N+1)+1)*A<=Z*A:=Ae _ uo;rw[Cm,<-b,AD A];rw[AU,FD]at a;exact Af (Nat.add_le_add_left c _) a
 have e:(2*(N+1)*A+1)^(N+1)<=Z^((K+1)*(N+1)):=by rw[Nat.pow_mul];exact CM d _
 refine Aw ?_ e;grind[Cp,AD,Ae]
theorem jW{K m:Nat}{p q:Ja}{cp cq:Rat}(hp:Jc p=p)(hq:Jc q=q)(ah:cp≠0)(ai:cq≠0)(ad:∀i,∃z:Int,Sm K z/\cf p i*cp=(z:Rat))(ae:∀i,∃z:Int,Sm K z/\cf q i*cq=(z:Rat))(hl:p.length+q.length<=1000000000)(hle:q.length<=p.length)(aq:0<m)(az:m<=q.length):
 ∃u v:Ja,Jc u=u/\Jc v=v/\u.length+m<=q.length+1/\v.length+m<=p.length+1/\(u≠[]\/v≠[])/\(Xc (Jv u p) (Jv v q)).length<m/\
  (∀i,∃z:Int,Sm ((K+1)*(p.length+q.length)) z/\cf (Xc (Jv u p) (Jv v q)) i=(z:Rat))/\(∀i,∃z:Int,Sm ((K+1)*(p.length+q.length)) z/\cf u i=(z:Rat)*cp)/\(∀i,∃z:Int,Sm ((K+1)*(p.length+q.length)) z/\cf v i=(z:Rat)*cq):=by
 obtain⟨α,hα⟩:=CF ad;obtain⟨β,hβ⟩:=CF ae;have bg:q≠[]:=λe=>by
  grind
 have Qi:p≠[]:=λe=>by
  grind
 obtain⟨s,hs⟩:=ex (q.length+1-m);obtain⟨t,ht⟩:=ex (p.length+1-m);obtain⟨N,hN⟩:=ex (s+t-1);obtain⟨A,D⟩:=ex (Z^K);have am:∀i,(α i).natAbs<=A:=λi=>by have:=(hα i).1;unfold Sm at this;omega
 have an:∀i,(β i).natAbs<=A:=λi=>by have:=(hβ i).1;unfold Sm at this;omega
 have X:s+t=N+1:=O
 obtain⟨z,⟨c,bf,W⟩,n,ak⟩:=jP N A (λk j=>if j<s then(if j<=m-1+k then α (m-1+k-j)else 0)else(if j-s<=m-1+k then β (m-1+k-(j-s))else 0)) (λk j=>by
  grind)
 obtain⟨B,E⟩:=ex ((2*(N+1)*A+1)^N);rw[E]at n;obtain⟨u,R⟩:=ex (Jc ((List.range s).map λj=>(z j:Rat)*cp));obtain⟨v,V⟩:=ex (Jc ((List.range t).map λj=>(z (s+j):Rat)*cq));have d:Jc u=u:=by rw[<-R];exact Yc _
 have w:Jc v=v:=by rw[<-V];exact Yc _
 have r:∀j,cf u j=if j<s then(z j:Rat)*cp else 0:=λj=>by rw[<-R,JT,MF]
 have x:∀j,cf v j=if j<t then(z (s+j):Rat)*cq else 0:=λj=>by rw[<-V,JT,MF]
 have Qf:u.length<=s:=Xf d λi Q=>by grind
 have Qj:v.length<=t:=Xf w λi Q=>by grind
 obtain⟨a,M⟩:∃a:Nat->Int,∀i,a i=YX s (λj=>if j<=i then z j*α (i-j)else 0)+YX t (λj=>if j<=i then z (s+j)*β (i-j)else 0):=⟨_,λ_=>rfl⟩;have hT:∀i,cf (Xc (Jv u p) (Jv v q)) i=(a i:Rat):=λi=>by
  rw[OE,Ng u p Qf,Ng v q Qj,M,FT];congr 1
  . refine Pv λj f=>?_;split
    . grind
    . rfl
  . refine Pv λj f=>?_;split
    . grind
    . rfl
 have ap:∀i,(a i).natAbs<=(N+1)*(A*B):=λi=>by
  have b:(YX s λj=>if j<=i then z j*α (i-j)else 0).natAbs<=s*(A*B):=Nd λj _=>by
   split
   . rw[Cu,AD];exact Ci (am _) (n _)
   . simp
  have y:(YX t λj=>if j<=i then z (s+j)*β (i-j)else 0).natAbs<=t*(A*B):=Nd λj _=>by
   split
   . rw[Cu,AD];exact Ci (an _) (n _)
   . simp
  grind[AU]
 have Qk:(Xc (Jv u p) (Jv v q)).length<m:=by
  have:(Xc (Jv u p) (Jv v q)).length<=m-1:=Xf (Xr _ _) λi Q=>by
   by_cases bc:i<m-1+N
   . rw[hT];have e:=ak (i-(m-1)) O;rw[<-X,jU]at e;have b:YX s (λj=>if j<=i then z j*α (i-j)else 0)=YX s (λj=>(if j<s then(if j<=m-1+(i-(m-1))then α (m-1+(i-(m-1))-j)else 0)else(if j-s<=m-1+(i-(m-1))then β (m-1+(i-(m-1))-(j-s))else 0))*z j):=UM λj f=>by
      grind
     have y:YX t (λj=>if j<=i then z (s+j)*β (i-j)else 0)=YX t (λj=>(if s+j<s then(if s+j<=m-1+(i-(m-1))then α (m-1+(i-(m-1))-(s+j))else 0)else(if s+j-s<=m-1+(i-(m-1))then β (m-1+(i-(m-1))-(s+j-s))else 0))*z (s+j)):=UM λj f=>by
      grind
     rw[M,b,y,e];rfl
   . refine JZ ?_;have l1:=WB (Jv u p) (Jv v q);by_cases S:u=[]
     . have e0:Jv u p=[]:=by rw[S];rfl
       by_cases l:v=[]
       . have b:Jv v q=[]:=by rw[l];rfl
         grind
       grind[JS]
     . have l2:=JS d hp S Qi;by_cases l:v=[]
       . have b:Jv v q=[]:=by rw[l];rfl
         grind
       grind[JS]
  omega
 have Qg:u≠[]\/v≠[]:=by
  by_cases aj:c<s
  . left
    intro e;have:=r c;rw[e,YB,BG aj]at this;exact IE (by exact_mod_cast W) ah this.symm
  . right
    intro e;have:=x (c-s);rw[e,YB,BG O,show s+(c-s)=c from by omega]at this;exact IE (by exact_mod_cast W) ai this.symm
 have ay:=jV D.symm O E.symm;have h5:(K+1)*(N+1)<=(K+1)*(p.length+q.length):=Aj _ O;have Qh:1<=A:=by rw[<-D];exact CW Hv
 have bh:∀i,Sm ((K+1)*(p.length+q.length)) (z i):=λi=>by
  have b:B<=(N+1)*(A*B):=Af (Co B Qh) (Co _ O);grind[Sm,Aw,Ak,Hv]
 refine⟨u,v,d,w,O,O,Qg,Qk,λi=>⟨a i,?_,hT i⟩,λi=>?_,λi=>?_⟩
 . grind[Sm,Aw,Ak,Hv]
 . rw[r];split
   . grind
   . exact⟨0,Sm.zero _,DG⟩
 . rw[x];split
   . grind
   . exact⟨0,Sm.zero _,DG⟩
theorem UP{K:Nat}{p q a b:Ja}(hp:Jc p=p)(hq:Jc q=q)(e:Ln K p)(f:Ln K q)(hl:p.length+q.length<=1000000000)(hle:q.length<=p.length)(h:Eu p q a b)(d:b≠[]):Ln ((K+1)*(p.length+q.length)) (JI a b):=by
 obtain⟨cp,n,k⟩:=e;obtain⟨cq,r,l⟩:=f;obtain⟨u,v,w,A,t,y,s,j,hT,_,_⟩:=jW hp hq n r k l hl hle (Ac.2 d) (h.len hq);obtain⟨c,m,B⟩:=jT h hp hq d u v _ w A (Xr _ _) t y s j (λx=>by rw[YF,Ji,Ji]);refine⟨c,m,λi=>?_⟩;obtain⟨z,D,E⟩:=hT i;grind[YY]
theorem jX{p q:Ja}(hp:Jc p=p)(hq:Jc q=q)(h:p.length<q.length):JI p q=p:=
 ((Nf (p:=p) hq (λe=>by rw[e]at h;simp at h) (u:=[]) (v:=p) J hp h λx=>by simp[ev];grind).2).symm
theorem Pw{K:Nat}{p q a b:Ja}(hp:Jc p=p)(hq:Jc q=q)(d:Ln K p)(e:Ln K q)(hl:p.length+q.length<=1000000000)(h:Eu p q a b)(f:b≠[]):Ln ((K+1)*(p.length+q.length)) (JI a b):=by
 by_cases hle:q.length<=p.length
 . exact UP hp hq d e hl hle h f
 . have j:=jX hp hq O;match h with
   |⟨0,k,l⟩=>subst k;subst l;rw[j];exact d.mono (by
    have:(K+1)*1<=(K+1)*(p.length+q.length):=Aj _ O
    omega)
   |⟨n+1,c,s,i,hE⟩=>
    have hE:Eu q (DQ c (JI p q)) a b:=⟨n,hE⟩;rw[j]at hE;have r:=Yy i hp;have m:=UP hq (JK c p) e (d.sc i) O O hE f;grind
theorem Gv{c:Rat}(a:c≠0):1/c≠0:=λe=>by
 grind
def Jy(p:Ja):Ja:=DQ (1/cf p (p.length-1)) p
def jY:Jy []=[]:=rfl
theorem Yz(p:Ja):Jc (Jy p)=Jy p:=JK _ _
theorem Lw{c:Rat}(a:c≠0){p:Ja}(hp:Jc p=p):Jy (DQ c p)=Jy p:=by
 grind[Jy,Yy,YY,Ky]
def Kz{p:Ja}(hp:Jc p=p)(a:p≠[]):Jy p≠[]:=KH (Gv (Jt hp a)) hp a
theorem Y7{p:Ja}(hp:Jc p=p):(Jy p).length=p.length:=by
 by_cases a:p=[]
 . subst a;rfl
 . exact Yy (Gv (Jt hp a)) hp
theorem Px{p:Ja}(hp:Jc p=p)(a:p≠[]):cf (Jy p) ((Jy p).length-1)=1:=by
 grind[Y7,Jy,YY,Jt]
def KI{p:Ja}(hp:Jc p=p):Jy (Jy p)=Jy p:=by
 by_cases a:p=[]
 . subst a;rfl
 . exact Lw (Gv (Jt hp a)) hp
def EE:Nat->Ja->Ja->Ja
 |0,p,_=>Jy p
 |n+1,p,q=>if q=[]then Jy p else EE n q (JI p q)
def JN(p q:Ja):Ja:=EE q.length p q
theorem jZ:∀(n m:Nat) (p q:Ja),Jc q=q->q.length<=n->q.length<=m->EE n p q=EE m p q:=by
 intro n;induction n with
 |zero=>
  intro m p q _ h _;have hq:q=[]:=Lu O;subst hq;cases m with
  |zero=>rfl
  |succ m=>simp[EE]
 |succ n d=>
  intro m p q hq h b;by_cases a:q=[]
  . grind
  . have hl:0<q.length:=Ac.2 a;cases m with
    |zero=>omega
    |succ m=>
     have c:=(J8 p q hq a).2.1;grind[EE,YO]
def UQ(p:Ja):JN p []=Jy p:=rfl
theorem jq{p q:Ja}(hq:Jc q=q)(a:q≠[]):JN p q=JN q (JI p q):=by
 have b:=(J8 p q hq a).2.1;have hl:0<q.length:=Ac.2 a;unfold JN;obtain⟨n,c⟩:∃n,q.length=n+1:=⟨q.length-1,O⟩;grind[EE,jZ,YO]
theorem j0:∀(n:Nat) (c d:Rat) (p q:Ja),c≠0->d≠0->Jc p=p->Jc q=q->EE n (DQ c p) (DQ d q)=EE n p q:=by
 intro n;induction n with
 |zero=>intro c d p q b _ hp _;exact Lw b hp
 |succ n f=>
  intro c d p q b e hp hq;by_cases a:q=[]
  . grind[EE,jS,Lw]
  . simp only[EE,BD a,BD (KH e hq a)];rw[(Lv e p q hq a).2];exact f d c q (JI p q) e b hq (YO _ _)
theorem Lx{c d:Rat}{p q:Ja}(a:c≠0)(b:d≠0)(hp:Jc p=p)(hq:Jc q=q):JN (DQ c p) (DQ d q)=JN p q:=by
 grind[JN,Yy,j0]
def Eu.gcd{p q a b:Ja}(h:Eu p q a b):Jc p=p->Jc q=q->JN p q=JN a b:=by
 induction h using Eu.ind with
 |base p q=>exact λ_ _=>rfl
 |step p q c a b f e _ i=>
  intro hp hq;rw[<-i hq (JK _ _),jq hq f];have d:=Lx (c:=1) DK e hq (YO p q);rw[IF hq]at d;exact d.symm
def UR(p q:Ja)(hp:Jc p=p)(hq:Jc q=q):JN (Jy p) (Jy q)=JN p q:=by
 by_cases b:p=[]
 . subst b;by_cases a:q=[]
   . subst a;rfl
   . have:=Lx (c:=1) (p:=[]) DK (Gv (Jt hq a)) J hq;exact this
 . by_cases a:q=[]
   . subst a;exact KI hp
   . exact Lx (Gv (Jt hp b)) (Gv (Jt hq a)) hp hq
theorem kA:∀(n:Nat) (p q:Ja),Jc (EE n p q)=EE n p q:=by
 intro n;induction n with
 |zero=>intro p q;exact Yz _
 |succ n a=>
  intro p q;grind[EE,Yz]
theorem YA(p q:Ja):Jc (JN p q)=JN p q:=kA _ _ _
theorem IG(c:Rat):c*(c.den:Rat)=(c.num:Rat):=by
 have a:((c.den:Int):Rat)≠0:=by exact_mod_cast c.den_nz
 grind[CT,CO,AP]
theorem dvd_one{a b c:Int}(h:a∣b*c)(hg:Nat.gcd a.natAbs c.natAbs=1):a∣b:=by
 have d:=FH.2 h;grind[Cu,FH,Nat.Coprime.dvd_of_dvd_mul_right]
theorem kB{c:Rat}{D n:Int}(h:c*(D:Rat)=(n:Rat)):(c.den:Int)∣D/\c.num*D=n*c.den:=by
 have f:(c.den:Rat)≠0:=by exact_mod_cast c.den_nz
 have a:c*(c.den:Rat)=(c.num:Rat):=IG c;have b:((c.num*D:Int):Rat)=((n*(c.den:Int):Int):Rat):=by
  rw[AH,AH,<-a,<-h];show c*(c.den:Rat)*(D:Rat)=c*(D:Rat)*((c.den:Int):Rat);rw[AP];grind
 have d:c.num*D=n*c.den:=C3.1 b;refine⟨?_,d⟩;have e:(c.den:Int)∣D*c.num:=⟨n,DI⟩;refine dvd_one e ?_;show Nat.gcd (c.den:Int).natAbs c.num.natAbs=1;rw[AA,CI];exact c.reduced
theorem kC{p:Ja}{L G:Int}(R:∀i,((cf p i).den:Int)∣L)(S:∀u:Int,(∀i,((cf p i).den:Int)∣u)->L∣u)(N:∀i,G∣(cf p i).num)(Q:∀v:Int,(∀i,v∣(cf p i).num)->v∣G)(r:G≠0){K:Nat}(h:Ln K p):
 ∀i,∃z:Int,Sm K z/\cf p i*((L:Rat)/(G:Rat))=(z:Rat):=by
 obtain⟨c,V,X⟩:=h;have A:c.num≠0:=λe=>V (C4.1 e);have x:(c.den:Int)≠0:=by have:=c.den_nz;omega
 have k:∀i,∃z:Int,Sm K z/\(cf p i).num*c.num=z*((cf p i).den*c.den):=λi=>by
  obtain⟨z,n,q⟩:=X i;refine⟨z,n,?_⟩;have D:c*(c.den:Rat)=(c.num:Rat):=IG c;have l:cf p i*((cf p i).den:Rat)=((cf p i).num:Rat):=IG _;have E:(((cf p i).num*c.num:Int):Rat)=((z*(((cf p i).den:Int)*(c.den:Int)):Int):Rat):=by
   rw[AH,AH,AH,AP,AP,<-D,<-l,<-q];grind
  exact C3.1 E
 have b:L∣c.num:=S _ λi=>by
  obtain⟨z,_,e⟩:=k i;have a:((cf p i).den:Int)∣(cf p i).num*c.num:=⟨z*c.den,DI⟩;rw[Int.mul_comm]at a;refine dvd_one a ?_;show Nat.gcd ((cf p i).den:Int).natAbs (cf p i).num.natAbs=1;rw[AA,CI];exact(cf p i).reduced
 have j:(c.den:Int)∣G:=Q _ λi=>by
  obtain⟨z,_,e⟩:=k i;have a:(c.den:Int)∣(cf p i).num*c.num:=⟨z*(cf p i).den,DI⟩;refine dvd_one a ?_;show Nat.gcd (c.den:Int).natAbs c.num.natAbs=1;rw[AA,CI];exact c.reduced
 obtain⟨u,b⟩:=b;obtain⟨v,j⟩:=j;have B:u≠0:=λe=>A (by rw[b,e,Int.mul_zero]);have w:v≠0:=λe=>r (by rw[j,e,Int.mul_zero]);intro i;obtain⟨e,s⟩:=R i;obtain⟨m,t⟩:=N i;obtain⟨z,n,q⟩:=k i;have W:((cf p i).den:Int)≠0:=by have:=(cf p i).den_nz;omega
 have y:z=m*e*(u*v):=by
  have M:z*(((cf p i).den:Int)*c.den)=m*e*(u*v)*(((cf p i).den:Int)*c.den):=by
   rw[<-q,t,b,j,s];generalize ((cf p i).den:Int)=d;generalize (c.den:Int)=f;grind
  exact Int.eq_of_mul_eq_mul_right (AV W x) M
 refine⟨m*e,n.le ?_,?_⟩
 . rw[y,Cu (m*e)]
   have:0<(u*v).natAbs:=Int.natAbs_pos.2 (AV B w)
   exact Cf _ this
 . have ad:(G:Rat)≠0:=by exact_mod_cast r
   have l:cf p i*((cf p i).den:Rat)=((cf p i).num:Rat):=IG _;rw[t,AH]at l;have ae:(L:Rat)=((cf p i).den:Rat)*(e:Rat):=by rw[s,AH,AP]
   grind
def Xv(p:Ja):Nat->Nat
 |0=>1
 |n+1=>Nat.lcm (Xv p n) (cf p n).den
def Xg(p:Ja):Nat->Nat
 |0=>0
 |n+1=>Nat.gcd (Xg p n) (cf p n).num.natAbs
def US(p:Ja):∀n,0<Xv p n:=by
 intro n;induction n with
 |zero=>exact Nat.one_pos
 |succ n a=>exact Nat.lcm_pos a (cf p n).den_pos
theorem Py(p:Ja):∀n i,i<n->(cf p i).den∣Xv p n:=by
 intro n;induction n with
 |zero=>intro i h;omega
 |succ n a=>
  intro i h;grind[Xv,Nat.dvd_lcm_right,Nat.dvd_trans,Nat.dvd_lcm_left]
def Pz(p:Ja)(u:Nat)(h:∀i,(cf p i).den∣u):∀n,Xv p n∣u:=by
 intro n;induction n with
 |zero=>exact Nat.one_dvd _
 |succ n a=>exact Nat.lcm_dvd a (h n)
theorem P0(p:Ja):∀n i,i<n->Xg p n∣(cf p i).num.natAbs:=by
 intro n;induction n with
 |zero=>intro i h;omega
 |succ n a=>
  intro i h;grind[Xg,CY,Nat.dvd_trans,Fo]
def UT(p:Ja)(v:Nat)(h:∀i,v∣(cf p i).num.natAbs):∀n,v∣Xg p n:=by
 intro n;induction n with
 |zero=>exact Nat.dvd_zero _
 |succ n a=>exact Nat.dvd_gcd a (h n)
theorem UU{D:Int}{K:Nat}{c:Rat}(hD:D≠0)(h:CD D K c):∃n:Int,Sm K n/\c*(D:Rat)=(n:Rat):=by
 obtain⟨n,rfl,h⟩:=h;refine⟨n,h,?_⟩;have a:(D:Rat)≠0:=by exact_mod_cast hD
 grind[CO]
theorem Nh{D:Int}{K:Nat}{c:Rat}{n:Int}(hD:D≠0)(a:Sm K n)(h:c*(D:Rat)=(n:Rat)):CD D K c:=by
 refine⟨n,?_,a⟩;have b:(D:Rat)≠0:=by exact_mod_cast hD
 grind[CO]
theorem UV{D:Int}{K:Nat}{p:Ja}(hD:D≠0)(a:Sm K D)(h:Do D K p)(n:Nat):Sm K (Xv p n:Int):=by
 refine a.le ?_;rw[AA];refine Nat.le_of_dvd (Int.natAbs_pos.2 hD) (Pz p _ (λi=>?_) n);obtain⟨z,_,e⟩:=UU hD (h i);grind[kB,CG]
def UW{K:Nat}{p:Ja}(h:∀i,Sm K (cf p i).num):∀n,Sm K (Xg p n:Int):=by
 intro n;induction n with
 |zero=>exact Sm.zero K
 |succ n a=>exact Sm.gcd a (h n)
def Do.ln{D:Int}{K:Nat}{p:Ja}(hD:D≠0)(h:Do D K p):Ln K p:=
 ⟨(D:Rat),by exact_mod_cast hD,λi=>UU hD (h i)⟩
theorem Ly{p:Ja}(hp:Jc p=p)(a:p≠[]):Xg p p.length≠0:=λe=>by
 have hl:0<p.length:=Ac.2 a;have b:=P0 p p.length (p.length-1) O;grind[Nat.zero_dvd,Jt,C4]
def JL(p:Ja):Ja:=DQ ((Xv p p.length:Rat)/(Xg p p.length:Rat)) p
theorem kD{p:Ja}(hp:Jc p=p)(a:p≠[]):0<(Xv p p.length:Rat)/(Xg p p.length:Rat):=by
 have b:(0:Rat)<(Xv p p.length:Rat):=by exact_mod_cast US p _
 have c:(0:Rat)<(Xg p p.length:Rat):=by exact_mod_cast Nat.pos_of_ne_zero (Ly hp a)
 grind[Cb,Rat.inv_pos]
theorem UX{p:Ja}(hp:Jc p=p)(c:p≠[]){K:Nat}(h:Ln K p):∀i,∃z:Int,Sm K z/\cf (JL p) i=(z:Rat):=by
 have b:∀i,p.length<=i->cf p i=0:=λi a=>JZ a;have d:=kC (p:=p) (L:=(Xv p p.length:Int)) (G:=(Xg p p.length:Int)) (λi=>by
  by_cases a:i<p.length
  . grind[FA,Py]
  . rw[b i O];exact Int.one_dvd _) (λu e=>by
  refine CG.2 (Pz p _ (λi=>CG.1 (e i)) _)) (λi=>by
  by_cases a:i<p.length
  . exact CG.2 (P0 p _ i a)
  . rw[b i O];exact Int.dvd_zero _) (λv f=>by
  have:v.natAbs∣Xg p p.length:=UT p _ (λi=>FH.2 (f i)) _
  grind[Int.natAbs_dvd,FA]) (by have:=Ly hp c;omega) h
 intro i;obtain⟨z,j,k⟩:=d i;grind[JL,YY,AP]
def lenOf:o->Nat|C _ l _=>l|_=>0
def Lz(w V:L)(a rv:o)(Q R:Ja):Prop:=RowK false V a Q/\RowK false V rv R/\Bl w V
def Lz.below{w V V':L}{b rv:o}{Q R:Ja}(h:Lz w V b rv Q R)(a:Bl V V'):Lz w V' b rv Q R:=⟨h.1.below a,h.2.1.below a,Bt h.2.2 a⟩
def P1(w wr V:L)(a rv:o)(Q R:Ja):Prop:=Lz w V a rv Q R/\Bl wr V
def P1.below{w wr V V':L}{b rv:o}{Q R:Ja}(h:P1 w wr V b rv Q R)(a:Bl V V'):P1 w wr V' b rv Q R:=⟨h.1.below a,Bt h.2 a⟩
def IH(S:Nat->Ja->Ja->Prop)(la:Nat)(ps qs R Q:Ja)(k:Nat):Prop:=
 Jc R=R/\Jc Q=Q/\k+R.length<=la/\Q.length<=la/\(∀x,ev ps x=ev qs x*ev Q x+ev R x)/\(∀i,i+qs.length<=R.length->cf Q i=0)/\S k R Q
structure DivS(A la:Nat)(S:Nat->Ja->Ja->Prop)(qs:Ja):Prop where
 next:∀(k:Nat) (R Q:Ja) (n:Nat) (a:Rat),S k R Q->(∀i,i+qs.length<=R.length->cf Q i=0)->qs.length<=R.length->n=R.length-qs.length->a=cf R (R.length-1)/cf qs (qs.length-1)->
  (∀i,cf (Ys R (Jv (Jc (Df n [a])) qs)) i=cf R i-(if n<=i then a*cf qs (i-n)else 0))->(∀i,cf (Xc Q (Jc (Df n [a]))) i=if i=n then a else cf Q i)->S (k+1) (Ys R (Jv (Jc (Df n [a])) qs)) (Xc Q (Jc (Df n [a])))
 size:∀(k:Nat) (R Q:Ja),k<=la->S k R Q->Sqs R/\Sqs Q/\∃z,z+(2*A+1)<=1000000000/\∀i,DP z (cf R i)
theorem IH.start{ps qs:Ja}(a:Jc ps=ps)(h:S 0 ps []):IH S ps.length ps qs ps [] 0:=by
 refine⟨a,J,O,DG,λx=>?_,λi _=>YB i,h⟩;show _=ev qs x*0+_;grind
theorem IH.next{A la:Nat}{S:Nat->Ja->Ja->Prop}{ps qs R Q:Ja}{k n:Nat}{a:Rat}(q:DivS A la S qs)(h:IH S la ps qs R Q k)(s:Jc qs=qs)(j:qs≠[])(hl:qs.length<=R.length)(f:n=R.length-qs.length)
(d:a=cf R (R.length-1)/cf qs (qs.length-1)):IH S la ps qs (Ys R (Jv (Jc (Df n [a])) qs)) (Xc Q (Jc (Df n [a]))) (k+1):=by
 obtain⟨t,u,v,w,m,c,p⟩:=h;have z:0<qs.length:=Ac.2 j;have l:∀i,cf (Ys R (Jv (Jc (Df n [a])) qs)) i=cf R i-(if n<=i then a*cf qs (i-n)else 0):=λi=>by rw[KR,Ls]
 have b:∀i,cf (Xc Q (Jc (Df n [a]))) i=if i=n then a else cf Q i:=λi=>by
  rw[OE,Lr];split
  . rename_i e;rw[e,c n O,Rat.zero_add]
  . exact Rat.add_zero _
 have y:=Pr s j hl f d;refine⟨Xd _ _,Xr _ _,O,Xf (Xr _ _) λi r=>?_,λx=>?_,λi r=>?_,q.next k R Q n a p c hl f d l b⟩
 . rw[b,BD O,JZ O]
 . rw[YF,Xb,Ji,UG,m x];grind
 . rw[b,BD O];exact c i O
def IH.done{la:Nat}{ps qs R Q:Ja}{k:Nat}(h:IH S la ps qs R Q k)(b:Jc qs=qs)(a:qs≠[])(hl:R.length<qs.length):Q=JA ps qs/\R=JI ps qs:=by
 obtain⟨f,i,_,_,j,_⟩:=h;obtain⟨c,d,e,g4⟩:=J8 ps qs b a;exact OA b a i e f g4 hl d (λx=>by rw[<-j x,<-c x])
def P2(S:Nat->Ja->Ja->Prop)(A:Nat)(va vb:o)(ps qs:Ja)(w:L)(X:RowK false w va ps)(hb:RowK false w vb qs)(ap:DivS A ps.length S qs)(an:S 0 ps [])(hq:∀i,DP A (cf qs i))(az:Jc ps=ps)(bc:Jc qs=qs)(ah:qs≠[])(f8:ps.length<=1000):
 Calls g 110 #[va,vb] w λe l=>∃u v,e=.returned (.tuple #[u,v])/\RowK false l u (JA ps qs)/\RowK false l v (JI ps qs)/\Bl w l:=by
 obtain⟨a,la,ca,rfl⟩:=X.form;obtain⟨b,lb,cb,rfl⟩:=hb.form;obtain⟨f6,ed,eo,f7,_⟩:=X.formsF;obtain⟨dm,ei,et,dt,s',t',ai,aj,bj,ak,bi,am,dh⟩:=hb.formsF;have Un:0<qs.length:=Ac.2 ah;have Qq:=Y (Ks _ ps w X);rw[az]at Qq;obtain⟨HA,HB,Ul,HQ,Qe,Qg,Qk,Qi⟩:=FZ X dh hb hq bc ah dm ap;have Ua:=Y (Jt bc ah);have Qw:=Y (show Sqs qs from Sqs.of λi=>Sq.of (hq i) (by
  obtain⟨_,_,z,h1,_⟩:=ap.size 0 ps [] (Ap _) an;omega))
 have Ql:=Y (IH.start (qs:=qs) az an);obtain⟨lp,du⟩:=ex (ps.length);rw[du]at Ql Qi;have fk:1<=lb:=O
 have fl:lb<=1099511627776:=dt;have fm:lp<=1000:=O
 clear X hb an ap hq az bc ah f6 dm ed eo ei et f7 dt dh Un f8 du;go_enter func110,ntmps110
 go_wp2_with(go_at_call 44;refine Qq.o.mono ?_;rintro e w0 ⟨u0,rfl,ae,cn⟩;obtain⟨a0,l0,c0,rfl⟩:=ae.form)
 go_loopw [6,7,8] (λqv rv _ wr=>∃(k lr:Nat) (Q R:Ja),(∃ra rc,rv=C ra lr rc)/\(∃qa ql qc,qv=C qa ql qc)/\lr<=1000/\Hid (lr=R.length)/\Hid (Lz w wr qv rv Q R)/\Hid (IH S lp ps qs R Q k)) λ_ rv _ _=>lenOf rv
 case atStart=>exact⟨0,_,[],ps,⟨_,_,J⟩,⟨_,_,_,J⟩,by obtain⟨_,_,e,_⟩:=id ae;cases e;have:=Ql.o.2.2.1;omega,Y (by obtain⟨_,_,e,_⟩:=id ae;cases e;rfl),Y ⟨RowK.nil _ _,ae,cn⟩,Ql⟩
 case round=>
  clear ae cn;obtain⟨k,lr,Q,R,⟨ra,rc,rfl⟩,⟨qa,ql,qc,rfl⟩,fo,D,r,W⟩:=hrel;by_cases fg:lb<=lr
  . have Qh:(lb:Int)<=(lr:Int):=O
    obtain⟨n,hn⟩:=ex (lr-lb:Nat);obtain⟨m,hm⟩:=ex (lr-1:Nat);obtain⟨c,ew⟩:=ex (lb-1:Nat);have fx:(lr:Int)-(lb:Int)=(n:Int):=O
    have fs:(lr:Int)-1=(m:Int):=O
    have fh:(lb:Int)-1=(c:Int):=O
    have ga:F.wrap (n:Int)=(n:Int):=by rw[BJ];omega
    have ft:F.wrap (m:Int)=(m:Int):=by rw[BJ];omega
    have fi:F.wrap (c:Int)=(c:Int):=by rw[BJ];omega
    have fv:(m:Int)<(lr:Int):=O
    have fj:(c:Int)<(lb:Int):=O
    have B:=Y (show n=R.length-qs.length/\m=R.length-1/\c=qs.length-1/\qs.length<=R.length by have:=D.o;have:=Qk.o;omega);have Qd:=Y (show n<1099511627775/\n+1<=1001 by omega);obtain⟨f9,fc,fe,ff,s,t,aa,bb,ll,cc,kk,dd,di⟩:=r.o.2.1.formsF;clear f9 fc fe ff;obtain⟨dj,d,rfl,ad,bk,bm,bn,bt⟩:=di m O;obtain⟨dk,f,rfl,y,bu,ce,cj,ck⟩:=HB.o c O;have Qa:=Y (show ∀V,Bl wr V->(V.cell? ⟨d,m*4,none⟩=some (C (aa m) (ll m) (cc m))/\V.cell? ⟨d,m*4+1,none⟩=some (T (s m))/\V.cell? ⟨d,m*4+2,none⟩=some (C (bb m) (kk m) (dd m))/\V.cell? ⟨d,m*4+3,none⟩=some (T (t m)))/\Jk V (.agg #[C (aa m) (ll m) (cc m),T (s m),C (bb m) (kk m) (dd m),T (t m)]) (cf R m)from λV q=>by
     exact⟨⟨(q.cell (p:=⟨d,_,none⟩) ad).trans bk,(q.cell (p:=⟨d,_,none⟩) ad).trans bm,(q.cell (p:=⟨d,_,none⟩) ad).trans bn,(q.cell (p:=⟨d,_,none⟩) ad).trans bt⟩,dj.below q⟩)
    have Qb:=Y (show ∀V,Bl w V->(V.cell? ⟨f,c*4,none⟩=some (C (ai c) (bj c) (ak c))/\V.cell? ⟨f,c*4+1,none⟩=some (T (s' c))/\V.cell? ⟨f,c*4+2,none⟩=some (C (aj c) (bi c) (am c))/\V.cell? ⟨f,c*4+3,none⟩=some (T (t' c)))/\Jk V (.agg #[C (ai c) (bj c) (ak c),T (s' c),C (aj c) (bi c) (am c),T (t' c)]) (cf qs c)from λV q=>by
     exact⟨⟨(q.cell (p:=⟨f,_,none⟩) y).trans bu,(q.cell (p:=⟨f,_,none⟩) y).trans ce,(q.cell (p:=⟨f,_,none⟩) y).trans cj,(q.cell (p:=⟨f,_,none⟩) y).trans ck⟩,dk.below q⟩)
    obtain⟨sR,sQ,z,hz,dz⟩:=Qi.o.size k R Q (by have:=W.o.2.2.1;omega) W.o.2.2.2.2.2.2;obtain⟨x,hx⟩:=ex (cf R m/cf qs c);have Qp:=Y (show x=cf R (R.length-1)/cf qs (qs.length-1)by rw[<-hx,<-B.o.2.1,<-B.o.2.2.1]);have Qx:=Y (show cf qs c≠0 by rw[B.o.2.2.1];exact Ua.o);have Qf:DP (z+A) x:=by rw[<-hx];exact(dz m).div2 (HQ.o c) Qx.o
    obtain⟨Uf,Qo,Qn,Ui,Um,Uk,Qs⟩:=LQ (show Sq x from Sq.of Qf O) (show ∀j,Sq (x*cf qs j)from λj=>Sq.of (Qf.mul2 (HQ.o j)) O) sR sQ hx (W.o.next Qi.o Qe.o Qg.o B.o.2.2.2 B.o.1 Qp.o) (Pr Qe.o Qg.o B.o.2.2.2 B.o.1 Qp.o);have Qm:=Y (show Sqs (Jc (Df n [x]))from Sqs.of λi=>by
     rw[Lr];split
     . exact Uf.o
     . exact Sq.of (DP.zero 1 O) O)
    have Qy:=Y (show Sqs (Jv (Jc (Df n [x])) qs)from Sqs.of λi=>by
     rw[Ls];split
     . exact Qo.o _
     . exact Sq.of (DP.zero 1 O) O)
    have Ub:=Y (show M3.Hk (Jc (Df n [x])) qs from jC (n:=n) (λi hi=>by rw[Lr,BD hi]) λj=>by rw[Lr,BG J];exact Qo.o j);have Qt:=Y (jA n x);have Qz:=Y (show(Jv (Jc (Df n [x])) qs).length<1099511627776 by
     have h1:(Jv (Jc (Df n [x])) qs).length<=R.length:=Xf (Yq _ _) (λi hi=>by
      rw[Ls];split
      . rw[JZ (p:=qs) (by have:=B.o;omega),Rat.mul_zero]
      . rfl)
     have:=D.o;omega)
    have Qu:=Y (show Q.length<1099511627776/\R.length<1099511627776 by have:=W.o.2.2.2.1;have:=D.o;omega);clear dj ad bk bm bn bt dk y bu ce cj ck di hz dz sR sQ hx Qf hn hm ew;go_wp2_with fail
    have hq:Bl wr wr.drew:=(BA _ wr).drew;obtain⟨⟨E,K,M,N⟩,_⟩:=Qa.o _ hq;obtain⟨⟨f0,f1,f2,f3⟩,_⟩:=Qb.o _ (Bt r.o.2.2 hq);have Qv:=Y λ(V:L) (h:Bl wr V)=>Pa _ _ (cf R m) (cf qs c) V (Qa.o V h).2 (Qb.o V (Bt r.o.2.2 h)).2 (Qn.o.at m) (Qw.o.at c) Qx.o;rw[Um.o]at Qv;have Ud:=Y λ(V:L) (v:o) (hv:Jk V v x)=>Lk v n x V hv Qd.o.1;go_region_held3 (λl=>(l.cell? ⟨d,m*4,none⟩=some (C (aa m) (ll m) (cc m))/\l.cell? ⟨d,m*4+1,none⟩=some (T (s m))/\l.cell? ⟨d,m*4+2,none⟩=some (C (bb m) (kk m) (dd m))/\l.cell? ⟨d,m*4+3,none⟩=some (T (t m)))/\l.cell? ⟨f,c*4,none⟩=some (C (ai c) (bj c) (ak c))/\l.cell? ⟨f,c*4+1,none⟩=some (T (s' c))/\l.cell? ⟨f,c*4+2,none⟩=some (C (aj c) (bi c) (am c))/\l.cell? ⟨f,c*4+3,none⟩=some (T (t' c))) (first|(with_reducible exact⟨⟨E,K,M,N⟩,f0,f1,f2,f3⟩)|(go_keep;done))
     (first
      |(go_at_call 158;refine(Qv.o _ hq).mono ?_;rintro e w5 ⟨v5,rfl,dx,co⟩;replace hq:=Bt hq co;clear co E K M N f0 f1 f2 f3;obtain⟨⟨E,K,M,N⟩,_⟩:=Qa.o _ hq;obtain⟨⟨f0,f1,f2,f3⟩,_⟩:=Qb.o _ (Bt r.o.2.2 hq))
      |(go_at_call 150;refine(Ud.o _ _ dx).mono ?_;clear dx;rintro e w6 ⟨v6,rfl,bh,de⟩;replace hq:=Bt hq de;clear de E K M N f0 f1 f2 f3;obtain⟨⟨E,K,M,N⟩,_⟩:=Qa.o _ hq;obtain⟨⟨f0,f1,f2,f3⟩,_⟩:=Qb.o _ (Bt r.o.2.2 hq);obtain⟨a9,l9,c9,rfl⟩:=bh.form))
    have HM:=Y bh;have HV:=Y (r.o.below hq);clear bh hq E K M N f0 f1 f2 f3;obtain⟨H1,H2,H3⟩:=DX (Pc _ _ Q (Jc (Df n [x])) w6 HV.o.1 HM.o Ui.o Qm.o ⟨Qu.o.1,by have:=Qt.o;have:=Qd.o;omega⟩) (λ(U:L) (h:Bl w6 U)=>Tt _ _ (Jc (Df n [x])) qs U (HM.o.below h) (Ul.o.below (Bt HV.o.2.2 h)) Qm.o Qw.o Ub.o (by have:=Qt.o;have:=Qd.o;have:=Qk.o;omega)) λ(U:L) (h:Bl w6 U) (v:o) (hv:RowK false U v (Jv (Jc (Df n [x])) qs))=>TZ _ v R _ U (HV.o.2.1.below h) hv Qn.o Qy.o ⟨Qu.o.2,Qz.o⟩;go_wp2_with(first
     |(go_at_call 101;refine H1.o.mono ?_;rintro e w1 ⟨u1,rfl,bf,ay⟩;obtain⟨a1,l1,c1,rfl⟩:=bf.form;have Uh:=Y bf;clear bf)
     |(go_at_call 10;refine(H2.o _ ay).mono ?_;rintro e w2 ⟨u2,rfl,dw,y⟩;have Qj:=Bt ay y;have Ug:=Y (Uh.o.below y);clear y)
     |(go_at_call 100;refine(H3.o _ Qj _ dw).mono ?_;rintro e w3 ⟨u3,rfl,bg,aq⟩;obtain⟨a3,c3,rfl,_⟩:=id bg;have Uj:=Y bg;have Uc:=Y (Bt Qj aq);have Ue:=Y (Ug.o.below aq);clear dw bg aq ay Qj))
    go_roundw
    case rel=>exact⟨k+1,_,_,_,⟨_,_,J⟩,⟨_,_,_,J⟩,by have:=Qs.o;have:=D.o;omega,Y J,Y ⟨Ue.o,Uj.o,Bt HV.o.2.2 Uc.o⟩,Uk⟩
    case measure=>
     show(Ys R _).length<lr;have:=Qs.o;have:=D.o;omega
  . have Qh:¬(lb:Int)<=(lr:Int):=O
    have Qr:=Y (W.o.done Qe.o Qg.o (by have:=D.o;have:=Qk.o;omega));go_wp2_with fail
    exact A0 (v:=.tuple #[C qa ql qc,C ra lr rc]) (by simp[results,results110,go_sem]) J ⟨_,_,J,by rw[<-Qr.o.1];exact r.o.1,by rw[<-Qr.o.2];exact r.o.2.1,r.o.2.2⟩
end
section
variable {D E l:Int} {K A:Nat} {ps qs:Ja}
structure Dvn(D E l:Int)(K A:Nat)(ps qs:Ja):Prop where
 hD:D≠0
 sD:Sm K D
 hp:Do D K ps
 hE:E≠0
 sE:Sm A E
 hq:Do E A qs
 hl:l≠0
 sl:Sm A l
 lead:cf qs (qs.length-1)=nM l E
variable{m:Nat}
def Dvn.lne(h:Dvn D E l K A ps qs):cf qs (qs.length-1)≠0:=by
 rw[h.lead];intro e;have hE:(E:Rat)≠0:=by exact_mod_cast h.hE
 have a:(l:Rat)/(E:Rat)*(E:Rat)=l:=AB hE;rw[<-CO,e,Fm]at a;exact h.hl (by exact_mod_cast a.symm)
def Dvn.sq(h:Dvn D E l K A ps qs)(i:Nat):DP A (cf qs i):=(h.hq i).smq h.hE h.sE
def Dvn.den(h:Dvn D E l K A ps qs)(k:Nat):D*l^k≠0/\Sm (K+k*(A+1)+1) (D*l^k):=by
 refine⟨AV h.hD (Int.pow_ne_zero h.hl),(h.sD.mul (h.sl.powZ k)).mono ?_⟩;rw[Fx];omega
def Dvn.at(h:Dvn D E l K A ps qs)(k:Nat):(∀i,DP (K+k*(A+1)+1) (cf (JJ ps qs (qs.length-1) m k).2 i))/\∀i,DP (K+k*(A+1)+1) (cf (JJ ps qs (qs.length-1) m k).1 i):=by
 have b:=UK (m:=m) h.hD h.hp h.hE h.sE h.hq h.hl h.sl h.lead h.lne k;have a:=h.den k;exact⟨λi=>((b.1 i).mono O).smq a.1 a.2,λi=>((b.2 i).mono O).smq a.1 a.2⟩
def Dvn.sizes(h:Dvn D E l K A ps qs)(c:2*(K+m*(A+1)+1)+2*(2*A+1)<=1000000000):∀k,k<=m->∃z,z+(2*A+1)<=1000000000/\(k<m->2*z+2*(2*A+1)<=1000000000)/\(∀i,DP z (cf (JJ ps qs (qs.length-1) m k).2 i))/\∀i,DP (z+A) (cf (JJ ps qs (qs.length-1) m k).1 i):=by
 intro k a;have b:k*(A+1)<=m*(A+1):=Ae _ a;exact⟨K+k*(A+1)+1,O,λ_=>by omega,(h.at k).1,λi=>((h.at k).2 i).mono O⟩
def Dvn.rem(h:Dvn D E l K A ps qs)(b:ps.length-(qs.length-1)=m):Do (D*l^m) (K+m*(A+1)) (JI ps qs)/\Do (D*l^m) (K+m*(A+1)) (JA ps qs):=by
 have a:=UK (m:=m) h.hD h.hp h.hE h.sE h.hq h.hl h.sl h.lead h.lne m;refine⟨λi=>?_,λi=>?_⟩
 . unfold JI;rw[JT,b];exact a.1 i
 . unfold JA;rw[JT,b];exact a.2 i
theorem Dvn.divS(h:Dvn D E l K A ps qs)(la:Nat)(S:K+la*(A+1)+1+(2*A+1)<=1000000000):DivS A la (λk R Q=>Do (D*l^k) (K+k*(A+1)) R/\Do (D*l^k) (K+k*(A+1)) Q) qs:=by
 refine⟨?_,?_⟩
 . rintro k R Q n a ⟨b,d⟩ _ _ _ w z y;have t:D*l^k≠0:=(h.den k).1;have e:D*l^(k+1)=D*l^k*l:=by rw[Int.pow_succ,FQ]
   rw[e];have s:D*l^k*l≠0:=AV t h.hl;obtain⟨r,v,m⟩:=b (R.length-1);have f:a=nM (r*E) (D*l^k*l):=by
    rw[w];have u:cf R (R.length-1)=nM (r*E) (D*l^k*l)*cf qs (qs.length-1):=by
     rw[h.lead,CQ,v,show r*E*l=r*(E*l)from FQ _ _ _,show D*l^k*l*E=D*l^k*(E*l)by grind,CX (AV h.hE h.hl)]
    rw[u,Rat.mul_div_cancel h.lne]
   have p:CD (D*l^k*l) (K+(k+1)*(A+1)) a:=⟨r*E,f,(m.mul h.sE).mono (by rw[AU];omega)⟩;have q:∀j,CD (D*l^k*l) (K+k*(A+1)+A) (a*cf qs j):=λj=>by
    obtain⟨x,ex,M⟩:=h.hq j;refine⟨r*x,?_,m.mul M⟩;rw[f,ex,CQ,show r*E*x=r*x*E by grind,CX h.hE]
   refine⟨λi=>?_,λi=>?_⟩
   . rw[z];split
     . rw[Fq];exact(((b i).wide h.sl h.hl).add (UJ (q _)) s).mono (by rw[AU];omega)
     . rw[Fq,Rat.neg_zero,Rat.add_zero];exact((b i).wide h.sl h.hl).mono (by rw[AU];omega)
   . rw[y];split
     . exact p
     . exact((d i).wide h.sl h.hl).mono (by rw[AU];omega)
 . rintro k R Q B ⟨b,d⟩;have N:k*(A+1)<=la*(A+1):=Ae _ B;have c:=h.den k;exact⟨Sqs.of λi=>Sq.of (((b i).mono O).smq c.1 c.2) O,Sqs.of λi=>Sq.of (((d i).mono O).smq c.1 c.2) O,K+k*(A+1)+1,O,λi=>((b i).mono O).smq c.1 c.2⟩
def Dvn.start(h:Dvn D E l K A ps qs):Do (D*l^0) (K+0*(A+1)) ps/\Do (D*l^0) (K+0*(A+1)) []:=by
 rw[Int.pow_zero,Int.mul_one];exact⟨λi=>(h.hp i).mono O,λi=>by rw[YB];exact CD.zero _ _⟩
end
def D9(A:Nat)(p:Ja):Prop:=∀i,∃z:Int,Sm A z/\cf p i=(z:Rat)
theorem D9.cdl{A:Nat}{p:Ja}(h:D9 A p):Do 1 A p:=λi=>by
 obtain⟨z,a,b⟩:=h i;exact Nh DK a (by rw[b];grind)
def D9.mono{A B:Nat}{p:Ja}(h:D9 A p)(c:A<=B):D9 B p:=λi=>by
 obtain⟨z,a,b⟩:=h i;exact⟨z,a.mono c,b⟩
def D9.ln{A:Nat}{p:Ja}(h:D9 A p):Ln A p:=h.cdl.ln DK
def D9.smq{A:Nat}{p:Ja}(h:D9 A p)(a:1<=A)(i:Nat):DP A (cf p i):=(h.cdl i).smq DK (Sm.one A a)
theorem UY{A:Nat}{p:Ja}(hp:Jc p=p)(d:p≠[])(h:Ln A p):∃E:Int,E≠0/\Sm A E/\Do E A (Jy p):=by
 obtain⟨c,j,b⟩:=h;have hl:=Jt hp d;obtain⟨E,f,a⟩:=b (p.length-1);have hE:E≠0:=λe=>by
  rw[e]at a;exact IE hl j a
 refine⟨E,hE,f,λi=>?_⟩;obtain⟨z,k,l⟩:=b i;grind[Nh,Jy,YY]
def Ln.sqs{A:Nat}{p:Ja}(hp:Jc p=p)(h:Ln A p)(hA1:1<=A):∀i,DP A (cf (Jy p) i):=by
 by_cases a:p=[]
 . subst a;intro i;rw[jY,YB];exact DP.zero _ hA1
 . obtain⟨E,b,c,d⟩:=UY hp a h;exact λi=>(d i).smq b c
theorem Ni(c:Rat):Xa c=c\/Xa c=-c:=by
 grind[Xa]
theorem P3{c:Rat}(h:c≠0):Xa c≠0:=by
 grind[Ni]
theorem kE{c:Rat}(h:c≠0):∀n:Nat,c^n≠0:=by
 intro n;induction n with
 |zero=>grind
 |succ n a=>grind
def EY(p q:Ja):Rat:=Xa (cf q (q.length-1))^(p.length+1-q.length)
def Xw(p q:Ja):Ja:=DQ (EY p q) p
def XO(p q:Ja):Ja:=Ys [] (JL (JI (Xw p q) q))
def kF:JL []=[]:=rfl
def Yu(p:Ja):Jc (JL p)=JL p:=JK _ _
theorem GP{p:Ja}(hp:Jc p=p):∃c:Rat,0<c/\JL p=DQ c p:=by
 by_cases a:p=[]
 . subst a;exact⟨1,DK,J⟩
 . exact⟨_,kD hp a,J⟩
def KJ{p:Ja}(hp:Jc p=p){K:Nat}(h:Ln K p):D9 K (JL p):=by
 by_cases a:p=[]
 . subst a;exact λi=>⟨0,Sm.zero K,by rw[kF,YB];rfl⟩
 . exact UX hp a h
theorem P4{p q:Ja}(hq:Jc q=q)(a:q≠[]):EY p q≠0:=kE (P3 (Jt hq a)) _
theorem KK(p q:Ja):Jc (XO p q)=XO p q:=Xd _ _
theorem P5{p q:Ja}(hq:Jc q=q)(a:q≠[]):∃c:Rat,c≠0/\XO p q=DQ c (JI p q)/\XO p q=DQ (-1) (JL (JI (Xw p q) q)):=by
 have b:XO p q=DQ (-1) (JL (JI (Xw p q) q)):=Ea (KK _ _) (JK _ _) λx=>by
  grind[XO,Xb,J2,ev]
 have e:=(Lv (c:=EY p q) (d:=1) DK p q hq a).2;grind[IF,GP,YO,Xw,P4,Ky]
theorem UZ{p q:Ja}(hq:Jc q=q)(a:q≠[]){A:Nat}(h:Ln A (JI p q)):D9 A (JL (JI (Xw p q) q))/\D9 A (XO p q):=by
 have b:=(Lv (c:=EY p q) (d:=1) DK p q hq a).2;rw[IF hq]at b;have f:D9 A (JL (JI (Xw p q) q)):=KJ (YO _ _) (by unfold Xw;rw[b];exact h.sc (P4 hq a));refine⟨f,λi=>?_⟩;obtain⟨z,j,k⟩:=f i;obtain⟨_,_,_,e⟩:=P5 (p:=p) hq a;exact⟨-z,j.neg,by rw[e,YY,k,Rat.intCast_neg];grind⟩
theorem D9.nil(A:Nat):D9 A []:=λi=>⟨0,Sm.zero A,by rw[YB];rfl⟩
structure Chn(p q:Ja)(A:Nat)(a b:Ja):Prop where
 ta:Jc a=a
 tb:Jc b=b
 wa:D9 A a
 wb:D9 A b
 gc:JN a b=JN p q
 la:a.length<=max p.length q.length
 lb:b.length<=q.length
 nx:b≠[]->Ln A (JI a b)
 eu:Eu (JL p) (JL q) a b
def DR(K:Nat)(p q:Ja):Nat:=(K+1)*(p.length+q.length+1)
theorem Hn(K:Nat)(p q:Ja):K+1<=DR K p q:=by
 grind[DR]
def P6(K:Nat)(p q:Ja):(K+1)*(p.length+q.length)<=DR K p q:=Aj _ O
theorem J5{p:Ja}(hp:Jc p=p):(JL p).length=p.length:=by
 grind[GP,Yy]
theorem U0{p q:Ja}(hp:Jc p=p)(hq:Jc q=q):JN (JL p) (JL q)=JN p q:=by
 grind[GP,Lx]
section
variable {K:Nat} {p q a b:Ja}
def Chn.ln_rem(hp:Jc p=p)(hq:Jc q=q)(d:Ln K p)(e:Ln K q)(hl:p.length+q.length<=1000000000)(h:Eu (JL p) (JL q) a b)(f:b≠[]):Ln (DR K p q) (JI a b):=by
 have c:=Pw (Yu p) (Yu q) (KJ hp d).ln (KJ hq e).ln (by rw[J5 hp,J5 hq];exact hl) h f;rw[J5 hp,J5 hq]at c;exact c.mono (P6 _ _ _)
def Chn.start(hp:Jc p=p)(hq:Jc q=q)(a:Ln K p)(b:Ln K q)(hl:p.length+q.length<=1000000000):Chn p q (DR K p q) (JL p) (JL q) where
 ta:=Yu p
 tb:=Yu q
 wa:=(KJ hp a).mono (by have:=Hn K p q;omega)
 wb:=(KJ hq b).mono (by have:=Hn K p q;omega)
 gc:=U0 hp hq
 la:=by rw[J5 hp];omega
 lb:=by rw[J5 hq];exact Aa _
 nx:=Chn.ln_rem hp hq a b hl (.base _ _)
 eu:=.base _ _
def Chn.next(hp:Jc p=p)(hq:Jc q=q)(j:Ln K p)(k:Ln K q)(hl:p.length+q.length<=1000000000)(h:Chn p q (DR K p q) a b)(d:b≠[]):Chn p q (DR K p q) b (XO a b):=by
 obtain⟨c,i,e,_⟩:=P5 (p:=a) h.tb d;have f:Eu (JL p) (JL q) b (XO a b):=by rw[e];exact h.eu.tail d i
 have m:(XO a b).length<b.length:=by
  rw[e,Yy i (YO _ _)];exact(J8 a b h.tb d).2.1
 have l:=h.lb;exact⟨h.tb,KK _ _,h.wb,(UZ h.tb d (h.nx d)).2,by rw[<-f.gcd (Yu p) (Yu q)];exact U0 hp hq,O,O,Chn.ln_rem hp hq j k hl f,f⟩
end
def XJ{a b:Ja}(f:Jc b=b)(d:b≠[]):(XO a b).length<b.length:=by
 obtain⟨c,i,e,_⟩:=P5 (p:=a) f d;rw[e,Yy i (YO _ _)];exact(J8 a b f d).2.1
structure Rhn(p q:Ja)(A:Nat)(a b:Ja):Prop where
 ta:Jc a=a
 tb:Jc b=b
 ca:∃D:Int,D≠0/\Sm A D/\Do D A a
 cb:∃E:Int,E≠0/\Sm A E/\Do E A b
 mb:b≠[]->cf b (b.length-1)=1
 ma:Jy a=a
 gc:JN a b=JN p q
 la:a.length<=max p.length q.length
 lb:b.length<=q.length
 nx:b≠[]->Ln A (JI a b)
 eu:Eu (Jy p) (Jy q) a b
def P7{A:Nat}(a:1<=A):∃D:Int,D≠0/\Sm A D/\Do D A []:=⟨1,DK,Sm.one A a,λi=>by rw[YB];exact CD.zero _ _⟩
def K0{A:Nat}{p:Ja}(hp:Jc p=p)(h:Ln A p)(b:1<=A):∃E:Int,E≠0/\Sm A E/\Do E A (Jy p):=by
 by_cases a:p=[]
 . subst a;exact P7 b
 . exact UY hp a h
def U3{K:Nat}{p:Ja}(hp:Jc p=p)(h:Ln K p):Ln K (Jy p):=by
 by_cases a:p=[]
 . subst a;exact h
 . exact h.sc (Gv (Jt hp a))
def U4{p:Ja}(hp:Jc p=p)(h:Jy p≠[]):cf (Jy p) ((Jy p).length-1)=1:=Px hp (λe=>h (by rw[e];rfl))
section
variable {K:Nat} {p q a b:Ja}
def Rhn.ln_rem(hp:Jc p=p)(hq:Jc q=q)(d:Ln K p)(e:Ln K q)(hl:p.length+q.length<=1000000000)(h:Eu (Jy p) (Jy q) a b)(f:b≠[]):Ln (DR K p q) (JI a b):=by
 have c:=Pw (Yz p) (Yz q) (U3 hp d) (U3 hq e) (by rw[Y7 hp,Y7 hq];exact hl) h f;rw[Y7 hp,Y7 hq]at c;exact c.mono (P6 _ _ _)
def Rhn.start(hp:Jc p=p)(hq:Jc q=q)(a:Ln K p)(b:Ln K q)(hl:p.length+q.length<=1000000000):Rhn p q (DR K p q) (Jy p) (Jy q) where
 ta:=Yz p
 tb:=Yz q
 ca:=K0 hp (a.mono (by have:=Hn K p q;omega)) (by have:=Hn K p q;omega)
 cb:=K0 hq (b.mono (by have:=Hn K p q;omega)) (by have:=Hn K p q;omega)
 mb:=U4 hq
 ma:=KI hp
 gc:=UR p q hp hq
 la:=by rw[Y7 hp];omega
 lb:=by rw[Y7 hq];exact Aa _
 nx:=Rhn.ln_rem hp hq a b hl (.base _ _)
 eu:=.base _ _
theorem Rhn.next(hp:Jc p=p)(hq:Jc q=q)(j:Ln K p)(k:Ln K q)(hl:p.length+q.length<=1000000000)(h:Rhn p q (DR K p q) a b)(d:b≠[]):Rhn p q (DR K p q) b (Jy (JI a b)):=by
 have e:=YO a b;have f:Eu (Jy p) (Jy q) b (Jy (JI a b)):=by
  by_cases i:JI a b=[]
  . have:=h.eu.tail (c:=1) d DK;rw[i]at this ⊢;exact this
  . exact h.eu.tail d (Gv (Jt e i))
 have m:(Jy (JI a b)).length<b.length:=by
  rw[Y7 e];exact(J8 a b h.tb d).2.1
 have l:=h.lb;refine⟨h.tb,Yz _,h.cb,K0 e (h.nx d) (by have:=Hn K p q;omega),U4 e,?_,by rw[<-f.gcd (Yz p) (Yz q)];exact UR p q hp hq,O,O,Rhn.ln_rem hp hq j k hl f,f⟩;unfold Jy;rw[h.mb d,show(1:Rat)/1=1 by grind];exact IF h.tb
end
theorem U5(q:Rat):Ej q 0<0↔q<0:=by
 grind[Rat.lt_iff,Ej,XN]
def kG(a b:Nat):(a:Int)*((b:Int)/((Int.gcd a b:Nat):Int))=((Nat.lcm a b:Nat):Int):=by
 show(a:Int)*((b:Int)/((Nat.gcd a b:Nat):Int))=_;rw[<-FB,<-FG];congr 1;rw[Nat.lcm,Nat.mul_div_assoc _ (CY a b)]
theorem Nj(ps:Ja)(i:Nat):(if((i:Nat):Int)<0 then(0:Rat)else cf ps ((i:Nat):Int).toNat)=cf ps i:=by
 grind
namespace M3
def kH(n:Nat)(h:n<=2199023255552)(w:L):(Instr.makeSlice 22 (G F (n:Int)) (G F (n:Int))).run g w=.ok (C (some ⟨w.heap.size,0,none⟩) n n) (w.alloc (H (Y0 n) 37)):=by
 obtain⟨i,d,b⟩:=Option.map_eq_some_iff.1 Tryz.infoRat;simp only[Prod.mk.injEq]at b;obtain⟨f,e,c⟩:=b;have a:=run_make (P:=g) w 22 37 i _ underlying22 d f F F n n O (Int.le_refl _) (by rw[c];omega) O;simp only[CE,e]at a;exact a
