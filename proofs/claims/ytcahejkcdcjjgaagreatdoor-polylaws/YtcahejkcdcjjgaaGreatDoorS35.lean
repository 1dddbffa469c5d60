import Derived.Test.YtcahejkcdcjjgaaGreatDoorS34
set_option linter.all false
open Go.Value renaming slice->C,int->E,pointer->M,bool->N,string->D
open Go.IntKind renaming i64->F
open Go.Obj renaming cells->G
open Go renaming World->H,undef->I,Value->P
open Go.Proofs.Tryz renaming prog->L
set_option maxRecDepth 99999
set_option maxHeartbeats 0
namespace Go.Proofs.YtcahejkcdcjjgaaGreatDoor
open List renaming replicate->WT
open Proofs.Tryz
open Go.RowKit Go.Shelf
attribute [local go_sem] Oper.semAt_some
section
variable{cs:Array P}{l:List UInt8}{m:Nat × Nat}{t:TypeId}{W W':H}
def VR(p q:Addr)(w:H):
 CallsD L 89 #[M (some p),M (some q)] .returning w λe d f=>e=.returned (.tuple #[])/\d=.returning/\f=w.alloc (G #[E F 0,E F 0] 77):=by
 have a:∀w:H,(Instr.typeAssert Value.nilIface 20 77 true).run L w=.ok (.tuple #[.agg #[E F 0,E F 0],N false]) w:=λ_=>by kernel_rfl
 refine callsD_of_wpS func89 J λb cs c=>?_;apply wpS_seq;apply wpS_region;simp[wpOpsS,go_sem,recoverD,c,ntmps89,Exit.thenS,a];apply wpS_seq;apply wpS_region;simp[wpOpsS,go_sem,Exit.thenS];refine wpS_cond (t:=false) (by simp[Act.eval,Array.replicate]) ?_;simp only[CN,if_false];refine wpS_of_wp (wp_skip ?_);cases b;simp_all [bodyPostS,results,results89]
def VV(p q:Nat)(a p0:Int)(w:H)(g:Boxed w p 25 (C none 0 0))(i:Jo w q 77 (E F 0) (E F 0))(l:p≠q):
 CallsD L 89 #[M (some ⟨p,0,none⟩),M (some ⟨q,0,none⟩)] (.panicking [{ v:=XM a p0,recovered:=false }]) w λe S m=>e=.returned (.tuple #[])/\S=.panicking [{ v:=XM a p0,recovered:=true }]/\Boxed m p 25 (C none 0 0)/\Jo m q 77 (E F a) (E F p0)/\∀n w0,Below n w0 w->n<=w.heap.size->n<=p->n<=q->Below n w0 m:=by
 unfold XM;have o:∀w:H,(Instr.typeAssert (.iface 77 (.agg #[E F a,E F p0])) 20 77 true).run L w=.ok (.tuple #[.agg #[E F a,E F p0],N true]) w:=λ_=>by kernel_rfl
 refine callsD_of_wpS func89 J λT cs z=>?_;apply wpS_seq;apply wpS_region;simp[wpOpsS,go_sem,recoverD,z,ntmps89,Exit.thenS,o];apply wpS_seq;apply wpS_region;simp[wpOpsS,go_sem,Exit.thenS];refine wpS_cond (t:=true) (by simp[Act.eval,Array.replicate]) ?_;simp only[if_true];refine wpS_of_wp ?_;simp[Array.replicate];have d:=Jo.new w 77 (E F a) (E F p0);have c:=g.alloc (G #[E F a,E F p0] 77);have b:=i.alloc (G #[E F a,E F p0] 77);have K:p≠w.heap.size:=by have:=g.lt;omega
 have Q:q≠w.heap.size:=by have:=i.lt;omega
 have f:=Ja λ(n:Nat) (w0:H) (h:Below n w0 w) (k:n<=w.heap.size)=>h.alloc k (G #[E F a,E F p0] 77);obtain⟨W,j⟩:=ex (w.alloc (G #[E F a,E F p0] 77));rw[j]at d c b f;rw[j];obtain⟨D,s⟩:=ex (w.heap.size);rw[s]at d K Q f;rw[s];clear j g i o z;obtain⟨d0,d1⟩:=d.cp;have x0:=c.cell;have x1:=c.frozen;obtain⟨U,X⟩:=b.cp;obtain⟨z0,z1⟩:=b.fp;have A:=Ja c;have B:=Ja b;clear c b d;go_region
 have u:Boxed (((W.setCell ⟨p,0,none⟩ (C none 0 0)).setCell ⟨q,0,none⟩ (E F a)).setCell ⟨q,1,none⟩ (E F p0)).drew p 25 (C none 0 0):=
  (BR _ ⟨q,1,none⟩ (E F p0) p l).trans ((BR _ ⟨q,0,none⟩ (E F a) p l).trans (A.o.set (C none 0 0)))
 have x:Jo (((W.setCell ⟨p,0,none⟩ (C none 0 0)).setCell ⟨q,0,none⟩ (E F a)).setCell ⟨q,1,none⟩ (E F p0)).drew q 77 (E F a) (E F p0):=
  (((B.o.far (p:=⟨p,0,none⟩) (λe=>l e.symm) _).set0 _).set1 _).drew
 have y:∀n w0,Below n w0 w->n<=D->n<=p->n<=q->Below n w0 (((W.setCell ⟨p,0,none⟩ (C none 0 0)).setCell ⟨q,0,none⟩ (E F a)).setCell ⟨q,1,none⟩ (E F p0)).drew:=
  λn w0 h k R r=>((((f.o n w0 h k).setCell (p:=⟨p,0,none⟩) R _).setCell (p:=⟨q,0,none⟩) r _).setCell (p:=⟨q,1,none⟩) r _).drew
 generalize (((W.setCell ⟨p,0,none⟩ (C none 0 0)).setCell ⟨q,0,none⟩ (E F a)).setCell ⟨q,1,none⟩ (E F p0)).drew=V at u x y ⊢;simp[bodyPostS,results,results89];exact⟨u,x,y⟩
theorem Va(s:ByteArray)(g q0:Int)(w:H)(q:∀V R,Dd V R s 0->Calls L 90 #[M (some ⟨R,0,none⟩)] V λr l=>V.grownBy l (some R)/\r=.panicked [{ v:=XM g q0,recovered:=false }]):
 Calls L 44 #[D s] w λr l=>r=.returned (.tuple #[.agg #[C none 0 0],.agg #[E F g,E F q0]])/\Bl w l:=by
 have X:∀(fn:Fn) (first cap:Array P) (w:H),(Instr.makeFunc fn first cap).run L w=.ok (.func fn first cap) w:=λ_ _ _ _=>rfl;have o:=Ja q;clear q;go_enter_defers func44,ntmps44
 go_upto_region 3 with fail
 have b:=Bb w 25 (C none 0 0);have a:=Jo.new (w.alloc (G #[C none 0 0] 25)) 77 (E F 0) (E F 0);have c:Dd (((w.alloc (G #[C none 0 0] 25)).alloc (G #[E F 0,E F 0] 77)).alloc (G #[D s,E F 0] 124)) ((w.alloc (G #[C none 0 0] 25)).alloc (G #[E F 0,E F 0] 77)).heap.size s 0:=BV _ _;rw[A1,A1]at c;rw[A1]at a;replace b:=(b.alloc (G #[E F 0,E F 0] 77)).alloc (G #[D s,E F 0] 124);replace a:=a.alloc (G #[D s,E F 0] 124);have j:Bl w (((w.alloc (G #[C none 0 0] 25)).alloc (G #[E F 0,E F 0] 77)).alloc (G #[D s,E F 0] 124)):=((Ba w _).alloc (by rw[A1];omega) _).alloc (by rw[A1,A1];omega) _;have u:(((w.alloc (G #[C none 0 0] 25)).alloc (G #[E F 0,E F 0] 77)).alloc (G #[D s,E F 0] 124)).heap.size=w.heap.size+1+1+1:=by rw[A1,A1,A1]
 obtain⟨V,i⟩:=ex (((w.alloc (G #[C none 0 0] 25)).alloc (G #[E F 0,E F 0] 77)).alloc (G #[D s,E F 0] 124));rw[i]at b a c j u;rw[i];obtain⟨y,m,n,z⟩:=Dw b a j (o.o _ _ c);clear b a c j i o u;go_wp2_with(go_at_call 90;refine z.o.mono ?_;rintro e x ⟨t,rfl⟩;have d:=Ja t;clear t)
 have B:Boxed x w.heap.size 25 (C none 0 0):=y.o.kept d.o (λe=>by have:=A7 e;omega);have A:Jo x (w.heap.size+1) 77 (E F 0) (E F 0):=(d.o.block _ m.o.lt λe=>by have:=A7 e;omega).trans m.o;have p:=n.o.grown d.o n.o.size (λk e=>by grind);refine leaves_cons (f:=89) (args:=#[M (some ⟨w.heap.size,0,none⟩),M (some ⟨w.heap.size+1,0,none⟩)]) DQ (by simp[go_sem]) ?_;refine(VV w.heap.size (w.heap.size+1) g q0 _ B A Z).mono ?_;rintro e u' w2 ⟨rfl,rfl,K,Q,S⟩;have T:=S _ _ p p.size (Aa _) Z;have x0:=K.cell;obtain⟨U,W⟩:=Q.cp;simp[Leaves,settle,results,results44,go_sem,x0,U,W];exact T
theorem Vb{F:Nat}(hF:W.heap[F]?=some (G cs t m))(j:t=77)(hg:W.grownBy W' (some F)):∀k v ds,Row k W v ds->Row k W' v ds:=by
 intro k v ds c;obtain⟨a,cap,e,_⟩:=id c;subst e;refine c.grown hg λp g hl=>?_;obtain⟨b,n,f,d,l,i⟩:=c.typ hl;grind
def Oz{F:Nat}(hF:W.heap[F]?=some (G cs t m))(g:t=77)(hg:W.grownBy W' (some F)){r:Bool}{v:P}{qs:Y}(h:RowK r W v qs):RowK r W' v qs:=by
 obtain⟨a,cap,e,k,c,l,d⟩:=h;refine⟨a,cap,e,k,c,l,?_⟩;rcases d with d|⟨b,i,f⟩
 . exact Az d
 . refine AE ⟨b,i,f.keep (hg.block b f.lt λe=>?_) (Vb hF g hg)⟩;obtain⟨n,j,_⟩:=f;have e:=A7 e;subst e;have:=j.symm.trans hF;simp only[Aq,Obj.cells.injEq]at this;subst g;have c:=this.2.1;revert c;cases r<;>(show ¬(_=_);decide)
theorem Vc(s:ByteArray)(ps:Y)(w:H)(hP:∀V R,Dd V R s 0->Calls L 90 #[M (some ⟨R,0,none⟩)] V λr i=>V.grownBy i (some R)/\∃u,r=.returned u/\Jj i u ps):
 Calls L 44 #[D s] w λr i=>∃u,r=.returned (.tuple #[u,.agg #[E F 0,E F 0]])/\Jj i u ps/\Bl w i:=by
 have ae:∀(fn:Fn) (first cap:Array P) (w:H),(Instr.makeFunc fn first cap).run L w=.ok (.func fn first cap) w:=λ_ _ _ _=>rfl;have X:=Ja hP;clear hP;go_enter_defers func44,ntmps44
 go_upto_region 3 with fail
 have g:=Bb w 25 (C none 0 0);have c:=Jo.new (w.alloc (G #[C none 0 0] 25)) 77 (E F 0) (E F 0);have m:Dd (((w.alloc (G #[C none 0 0] 25)).alloc (G #[E F 0,E F 0] 77)).alloc (G #[D s,E F 0] 124)) ((w.alloc (G #[C none 0 0] 25)).alloc (G #[E F 0,E F 0] 77)).heap.size s 0:=BV _ _;rw[A1,A1]at m;rw[A1]at c;replace g:=(g.alloc (G #[E F 0,E F 0] 77)).alloc (G #[D s,E F 0] 124);replace c:=c.alloc (G #[D s,E F 0] 124);have K:Bl w (((w.alloc (G #[C none 0 0] 25)).alloc (G #[E F 0,E F 0] 77)).alloc (G #[D s,E F 0] 124)):=((Ba w _).alloc (by rw[A1];omega) _).alloc (by rw[A1,A1];omega) _;have hz:(((w.alloc (G #[C none 0 0] 25)).alloc (G #[E F 0,E F 0] 77)).alloc (G #[D s,E F 0] 124)).heap.size=w.heap.size+1+1+1:=by rw[A1,A1,A1]
 obtain⟨V,B⟩:=ex (((w.alloc (G #[C none 0 0] 25)).alloc (G #[E F 0,E F 0] 77)).alloc (G #[D s,E F 0] 124));rw[B]at g c m K hz;rw[B];obtain⟨H0,T,W,HC⟩:=Dw g c K (X.o _ _ m);clear g c m K B X hz;go_wp2_with(go_at_call 90;refine HC.o.mono ?_;rintro e S ⟨ad,u1,rfl,Q⟩;have n:=Ja ad;obtain⟨a,d,b,rfl⟩:=Q.form;have HU:=Ja Q.row;have l:Boxed S w.heap.size 25 (C none 0 0):=H0.o.kept n.o (λe=>by have:=A7 e;omega);have j:Jo S (w.heap.size+1) 77 (E F 0) (E F 0):=(n.o.block _ T.o.lt λe=>by have:=A7 e;omega).trans T.o;have x0:=l.cell;have x1:=l.frozen;obtain⟨y0,y1⟩:=j.cp;obtain⟨z0,z1⟩:=j.fp;have U:=Ja l;have H3:=Ja j;clear ad Q l j)
 have o:w.heap.size+1≠w.heap.size:=Z
 have Qd:=W.o.grown n.o W.o.size (λk e=>by grind);have a1:=U.o.set (C a d b);have a2:=X7 U.o (C a d b) HU.o;have x:=H3.o.far (p:=⟨w.heap.size,0,none⟩) o (C a d b);have a4:=Qd.setCell (p:=⟨w.heap.size,0,none⟩) (Aa _) (C a d b);generalize S.setCell ⟨w.heap.size,0,none⟩ (C a d b)=q at a1 a2 x a4 ⊢;have b1:=(BR q ⟨w.heap.size+1,0,none⟩ (E F 0) w.heap.size λe=>o e.symm).trans a1;have b2:=Oz x J (JA q (w.heap.size+1) 0 (E F 0)) a2;have y:=x.set0 (E F 0);have b4:=a4.setCell (p:=⟨w.heap.size+1,0,none⟩) De (E F 0);generalize q.setCell ⟨w.heap.size+1,0,none⟩ (E F 0)=t at b1 b2 y b4 ⊢;have d1:=(BR t ⟨w.heap.size+1,1,none⟩ (E F 0) w.heap.size λe=>o e.symm).trans b1;have d2:=Oz y J (JA t (w.heap.size+1) 1 (E F 0)) b2;have z:=y.set1 (E F 0);have A:=b4.setCell (p:=⟨w.heap.size+1,1,none⟩) De (E F 0);generalize t.setCell ⟨w.heap.size+1,1,none⟩ (E F 0)=v at d1 d2 z A ⊢;refine leaves_cons (f:=89) (args:=#[M (some ⟨w.heap.size,0,none⟩),M (some ⟨w.heap.size+1,0,none⟩)]) DQ (by simp[go_sem]) ?_;refine(VR ⟨w.heap.size,0,none⟩ ⟨w.heap.size+1,0,none⟩ _).mono ?_;rintro e u' w2 ⟨rfl,rfl,rfl⟩;have e1:Boxed v w.heap.size 25 (C a d b):=d1;have f1:=(e1.alloc (G #[E F 0,E F 0] 77)).cell;have f2:=(z.alloc (G #[E F 0,E F 0] 77)).c0;have f3:=(z.alloc (G #[E F 0,E F 0] 77)).c1;have f4:=A.alloc A.size (G #[E F 0,E F 0] 77);have f5:=d2.below (Ba v (G #[E F 0,E F 0] 77));generalize v.alloc (G #[E F 0,E F 0] 77)=W5 at f1 f2 f3 f4 f5 ⊢;simp[Leaves,settle,results,results44,go_sem,f1,f2,f3];exact⟨⟨_,J,f5⟩,f4⟩
def O0:∀(f:Nat) (b:Bool) (I m:Nat) (S d:Y) (k:Nat),I<=l.length->m<=I->Y5 S m->EA l f b I S=.ok d k->∃s,s<=l.length/\Y5 d s:=by
 intro f;induction f with
 |zero=>intro b I m S d k _ _ _ h;cases h
 |succ f r=>
  intro b I m S d k q x t h;cases g:Yg l I with
  |error e p=>rw[Og g]at h;cases h
  |ok a u=>
   obtain⟨c,n⟩:=a;have o:=Mb q g;have i:=t.next (Ow q g) o.2.2 b;have v:=GQ l u;have w:=Xo o.2.1;rw[Oh g]at h;split at h
   . rename_i j;have:=Yp j;exact r _ _ (m+1) _ _ _ Z Z i h
   . split at h
     . rename_i j;have:=Yp j;exact r _ _ (m+1) _ _ _ Z Z i h
     . split at h
       . cases h;exact⟨m+1,Z,i⟩
       . cases h
def Vd{S:Y}{k:Nat}(h:ED l=.ok S k):∃m,m<=l.length/\Y5 S m:=by
 unfold ED at h;have a:=Xo (l:=l) (i:=0) Z;split at h
 . rename_i b;have:=Yp b;exact O0 _ _ _ 0 _ _ _ Z Z Y5.start h
 . exact O0 _ _ _ 0 _ _ _ a Z Y5.start h
theorem XA(l:List UInt8):(JW l).1.length<=9/\∀i,DT 601 (cf (JW l).1 i):=by
 by_cases h:300<l.length
 . grind[JW,Yq,DT.zero]
 . rw[Lq h];cases a:ED l with
   |error e p=>grind[KA,Yq,DT.zero]
   |ok S k=>
    obtain⟨m,b,hs⟩:=Vd a;rw[show(KA (EStateM.Result.ok S k)).1=Jh S from J];exact⟨At (JV _) (by rw[hs.1];exact Aa _),λi=>by rw[JU];exact(hs.2 i).mono Z⟩
def Gf(l:List UInt8)(a:H)(u:P)(e p:Int):Prop:=e=((JW l).2.1:Int)/\p=((JW l).2.2:Int)/\Jj a u (JW l).1
def Ve(s:ByteArray)(hs:s.size<=300)(w:H):
 Calls L 44 #[D s] w λr a=>∃u e p,r=.returned (.tuple #[u,.agg #[E F e,E F p]])/\Gf (Jd s) a u e p/\Bl w a:=by
 have b:=Lq (l:=Jd s) (by rw[Jp];omega);cases c:ED (Jd s)with
 |error g q0=>
  rw[c]at b;refine(Va s g q0 w λV R d=>(Ox R s V d hs).mono λr a h=>⟨h.1,h.2.1 _ _ c⟩).mono ?_;rintro r a ⟨rfl,f⟩;refine⟨_,_,_,J,?_,f⟩;rw[Gf,b];exact⟨J,J,_,J,RowK.nil _ _⟩
 |ok S k=>
  rw[c]at b;refine(Vc s (Jh S) w λV R d=>(Ox R s V d hs).mono λr a h=>⟨h.1,by obtain⟨u,i,j,_⟩:=h.2.2 _ _ c;exact⟨u,i,j⟩⟩).mono ?_;rintro r a ⟨u,rfl,m,f⟩;refine⟨_,_,_,J,?_,f⟩;rw[Gf,b];exact⟨J,J,m⟩
def O1(s:ByteArray)(w:H):
 Calls L 9 #[D s] w λr R=>∃u e p,r=.returned (.tuple #[u,E F e,E F p])/\Gf (Jd s) R u e p/\Bl w R:=by
 by_cases t:300<s.size
 . have ad:(300:Int)<(s.size:Int):=Z
   have S:=Ja (show JW (Jd s)=([],1,0)by unfold JW;rw[Br (by rw[Jp];exact t)]);clear t;go_enter func9,ntmps9
   go_wp2;exact BM (v:=.tuple #[.agg #[C none 0 0],E F 1,E F 0]) (by simp[results,results9,go_sem]) J ⟨_,_,_,J,by rw[Gf,S.o];exact⟨J,J,_,J,RowK.nil _ _⟩,Ba w _⟩
 . have ad:¬(300:Int)<(s.size:Int):=Z
   have x:=Ja λ(V:H)=>Ve s Z V;clear t;go_enter func9,ntmps9
   go_upto_region 4 with(go_at_call 44;refine(x.o _).mono ?_;clear x;rintro e a ⟨u1,g,p1,rfl,b,c⟩;obtain⟨d,j,f,rfl⟩:=b.2.2.form;have n:=Ja b;have m:=Ja c;clear b c)
   have X:w.heap.size<a.heap.size:=by have:=m.o.size;rw[A1]at this;omega
   have q0:Boxed a w.heap.size 25 (C none 0 0):=(m.o.block _ (by rw[A1];omega)).trans (Bb w 25 (C none 0 0));have A:=(Ba w _).trans (m.o.mono (by rw[A1];omega));have i:=Bb a 25 (C d j f);have k:=Jo.new (a.alloc (G #[C d j f] 25)) 77 (E F g) (E F p1);rw[A1]at k;replace i:=i.alloc (G #[E F g,E F p1] 77);have l:Bl a ((a.alloc (G #[C d j f] 25)).alloc (G #[E F g,E F p1] 77)):=(Ba a _).alloc (by rw[A1];omega) _;have q1:=(l.block _ q0.lt).trans q0;have c:=Bt A l;have b:=n.o.2.2.row.below l;have K:=Ja (⟨n.o.1,n.o.2.1⟩:g=_/\p1=_);have y:w.heap.size≠a.heap.size:=Z
   have z:w.heap.size≠a.heap.size+1:=Z
   generalize (a.alloc (G #[C d j f] 25)).alloc (G #[E F g,E F p1] 77)=W2 at i k l q1 c b ⊢;clear l q0 A m n X;obtain⟨Q,o⟩:=ex (w.heap.size);obtain⟨B,q⟩:=ex (a.heap.size);rw[q]at i k y z;rw[o]at q1 y z;rw[q,o];have q2:Boxed W2 Q 25 (C none 0 0):=q1;have x0:=i.cell;obtain⟨y0,y1⟩:=k.cp;have z0:=q2.cell;have z1:=q2.frozen;obtain⟨W,U,Qk,T⟩:=Dw q2 o c b;clear i k q1 q2 o q c b;go_region
   go_wp2_with fail
   have r0:=z0;refine BM (v:=.tuple #[.agg #[C d j f],E F g,E F p1]) (by simp[results,results9,go_sem,r0]) J ⟨_,_,_,J,⟨K.o.1,K.o.2,_,J,?_⟩,?_⟩
   . exact(X7 W.o (C d j f) T.o).below ((BL _ _).drew)
   . exact(Qk.o.setCell (p:=⟨Q,0,none⟩) (by rw[U.o];exact Aa _) _).drew
end
section
variable{ps qs:Y}{A k:Nat}{q:Rat}
theorem Vf(h:DT k q):(Yf q).length<=40*k+5:=by
 have a:=Hv q.num;have b:=Hv (q.den:Int);have c:=h.1.words;have d:=h.2.words;grind[Yf]
theorem DT.abs(h:DT k q):DT k (D7 q):=by
 grind[ON,DT,Sm]
theorem Vg{c:Rat}(h:DT k c){i:Nat}(e:i<O)(f:Bool):(Xs c i f).length<=40*k+40:=by
 have a:=Vf h.abs;have b:=Hi i;have d:(Jc O i).length<=1:=JL Jb De;grind[Hw,FC,FX,Xs]
theorem Vh(h:∀i,DT k (cf ps i))(hl:ps.length<=O):∀(d m:Nat),ps.length-m=d->(Yi (ps.drop m) m).length<=d*(40*k+40):=by
 intro d;induction d with
 |zero=>
  intro m b;grind[List.drop_of_length_le,Yi]
 |succ d a=>
  intro m b;have a:=a (m+1) Z;rw[OO ps (by omega:m<ps.length)];have c:=Vg (h m) (by omega:m<O) (Yi (ps.drop (m+1)) (m+1)).isEmpty;grind
def IC(h:Sqs ps)(hl:ps.length<=3000)(m:Nat):(Yi (ps.drop m) m).length<=140737488355328:=by
 have a:=Vh (λi=>(h.at i).sm) uo _ m J;omega
theorem Vi(z:Y)(i:Nat)(a:Rat)(q:Y):∀(j k:Nat),i+j<=k->cf (Yb z i a q j) k=cf z k:=by
 intro j;induction j with
 |zero=>intro k _;rfl
 |succ j c=>
  intro k b;grind[Yb,XD,Cr]
theorem Yx(z:Y)(i:Nat)(a:Rat)(q:Y):∀(j k:Nat),cf (Yb z i a q j) k=cf z k\/cf (Yb z i a q j) k=cf z k+a*cf q (k-i):=by
 intro j;induction j with
 |zero=>intro k;exact Az J
 |succ j b=>
  intro k;grind[Yb,XD,Vi,Cr]
theorem O2(hp:∀i,DT A (cf ps i))(b:∀j,DT A (cf qs j))(n:Nat):∀(i k:Nat),DT (min i ps.length*(A+A+1)+1) (cf (Yr ps qs n i) k):=by
 intro i;induction i with
 |zero=>intro k;grind[Yr,JQ,DT.zero]
 |succ i a=>
  intro k;rw[Yr];rcases Yx (Yr ps qs n i) i (cf ps i) qs qs.length k with e|e
  . rw[e];exact(a k).mono (by have:min i ps.length*(A+A+1)<=min (i+1) ps.length*(A+A+1):=Ac _ Z;omega)
  . rw[e];by_cases c:i<ps.length
    . rw[show min (i+1) ps.length=min i ps.length+1 from by omega,AL];exact((a k).add2 ((hp i).mul (b (k-i)))).mono Z
    grind[J2]
def KD(hp:∀i,DT A (cf ps i))(a:∀j,DT A (cf qs j))(c:(ps.length+1)*(A+A+1)+1<=1000000000):M3.Xy ps qs:=by
 have hle:A+A+1<=(ps.length+1)*(A+A+1):=Cc _ Z;refine⟨λi j=>Sq.of ((hp i).mul (a j)) Z,λn i j k=>?_⟩;have b:=O2 hp a n i k;have d:min i ps.length*(A+A+1)<=ps.length*(A+A+1):=Ac _ Z;rw[AL]at c;rcases Yx (Yr ps qs n i) i (cf ps i) qs j k with e|e
 . rw[e];exact Sq.of b Z
 . rw[e];exact Sq.of (b.add2 ((hp i).mul (a (k-i)))) Z
theorem KE(hp:∀i,DT A (cf ps i))(a:∀j,DT A (cf qs j))(k:Nat):DT (ps.length*(A+A+1)+1) (cf (JM ps qs) k):=by
 unfold JM;rw[JU,Fs];have h:=O2 hp a (ps.length+qs.length) ps.length k;grind[KW]
def Xr:Y:=[Rat.divInt 1 2,1]
def GG:Y:=[Rat.divInt 1 4,1,1]
def Vj:JW [120,32,43,32,49,47,50]=(Xr,0,0):=Gj
def O3:JM Xr Xr=GG:=Gj
def _root_.Go.Boxed.bel{W W':H}{B:Nat}{t:TypeId}{v:P}(h:Boxed W B t v)(a:Bl W W'):Boxed W' B t v:=(a.block B h.lt).trans h
def Vk:FD GG=[120,94,50,43,120,43,49,47,52]:=Gj
def ID(i:Nat):DT 1 (cf Xr i):=by
 rcases i with _|_|i
 . exact⟨by show Sm 1 1;unfold Sm O;decide,by show Sm 1 2;unfold Sm O;decide⟩
 . exact⟨by show Sm 1 1;unfold Sm O;decide,by show Sm 1 1;unfold Sm O;decide⟩
 . rw[J2 (by simp[Xr])];exact DT.zero 1 Z
def O4:Sqs Xr:=Sqs.of λi=>Sq.of (ID i) Z
def O5:Sqs GG:=Sqs.of λi=>by rw[<-O3];exact Sq.of (KE ID ID i) (by simp[Xr])
def Vl(e:Int)(w:H):Calls L 12 #[E F e] w λr a=>r=.returned (E F e)/\Bl w a:=by
 go_enter func12,ntmps12
 go_wp2;go_ret;exact⟨J,BL _ _⟩
def O6(w:H)(T:Fl w):Calls L 19 #[] w λr t=>r=.returned (N true)/\Bl w t:=by
 have U:=Ja T;have R:=Ja (λ(V:H)=>show Calls L 9 #[D ⟨#[120,32,43,32,49,47,50]⟩] V λr t=>∃u,r=.returned (.tuple #[u,E F 0,E F 0])/\Jj t u Xr/\Bl V t from
  (O1 ⟨#[120,32,43,32,49,47,50]⟩ V).mono (λr t h=>by
   obtain⟨u,e,p,X,S,h3⟩:=h;rw[Gf,show Jd ⟨#[120,32,43,32,49,47,50]⟩=[120,32,43,32,49,47,50]from J,Vj]at S;obtain⟨rfl,rfl,h4⟩:=S;exact⟨u,X,h4,h3⟩))
 have M:=Ja (BL w.heap.size w);clear T;go_enter func19,ntmps19
 go_upto_region 2 with(go_at_call 9;refine(R.o _).mono ?_;clear R;rintro e n ⟨u,rfl,i,b⟩;obtain⟨z,B,c1,rfl⟩:=i.form)
 replace M:=Ja (Bt M.o b);have c:Bl n (n.alloc (G #[C z B c1] 25)):=Ba n _;have j:=Bb n 25 (C z B c1);have f:=i.below c;replace M:=Ja (Bt M.o c);clear c;obtain⟨y,d⟩:=ex (n.alloc (G #[C z B c1] 25));obtain⟨BP,g⟩:=ex (n.heap.size);rw[d]at f M;rw[d,g]at j;rw[d];rw[g];clear d g;clear i b;have k:=Ja λ(V:H) (h:Bl y V)=>M3.Y3 _ _ Xr Xr V (f.below h) (f.below h) O4 O4 (KD ID ID (by simp[Xr])) (by simp[Xr]);rw[O3]at k;have a:Bl y y:=BL _ _;have W:=(j.bel a).cell;go_upto_region 3 with(go_at_call 28;refine(k.o _ a).mono ?_;clear k;rintro e o ⟨u,rfl,i,_,b⟩;obtain⟨A,K,c2,rfl⟩:=i.form)
 replace b:=Bt a b
 clear a W;replace j:=j.bel b;replace f:=f.below b;replace M:=Ja (Bt M.o b);clear b;have c:Bl o (o.alloc (G #[C A K c2] 25)):=Ba o _;have s:=Bb o 25 (C A K c2);have Q:=i.below c;replace j:=j.bel c;replace f:=f.below c;replace M:=Ja (Bt M.o c);clear c;obtain⟨q,d⟩:=ex (o.alloc (G #[C A K c2] 25));obtain⟨BQ,g⟩:=ex (o.heap.size);rw[d]at j f Q M;rw[d,g]at s;rw[d];rw[g];clear d g;clear i;have k:=Ja λ(V:H) (h:Bl q V)=>Vl 0 V;have v:=Ja λ(V:H) (h:Bl q V)=>Y4 _ GG V (Q.below h) O5 (λm=>IC O5 (by simp[GG]) m) (JB U.o (Bt M.o h));rw[Vk]at v;have x:=Ja λ(V:H) (h:Bl q V)=>Yn _ GG V (Q.below h);rw[show((GG.length:Int)-1)=2 from J]at x;have a:Bl q q:=BL _ _;have l:=(s.bel a).cell;go_wp2_with(first
  |(go_at_call 12;refine(k.o _ a).mono ?_;clear k;rintro e x1 ⟨rfl,b⟩;replace a:=Bt a b;clear b l;have l:=(s.bel a).cell)
  |(go_at_call 13;refine(v.o _ a).mono ?_;clear v;rintro e x2 ⟨rfl,b⟩;replace a:=Bt a b;clear b l;have l:=(s.bel a).cell)
  |(go_at_call 15;refine(x.o _ a).mono ?_;clear x;rintro e x3 ⟨rfl,b⟩;replace a:=Bt a b;clear b l;have l:=(s.bel a).cell))
 go_ret;exact⟨J,Bt M.o a⟩
def X3(l:List UInt8):Jh (JW l).1=(JW l).1:=by
 by_cases h:300<l.length
 . rw[show JW l=([],1,0)by unfold JW;rw[Br h]];rfl
 . rw[Lq h];cases ED l with
   |error e p=>rfl
   |ok S k=>exact Yy _
def _root_.Go.Proofs.YtcahejkcdcjjgaaGreatDoor.RowK.isPoly{V:H}{a:WO}{l c:Nat}(h:RowK true V (C a l c) ps):Jj V (.agg #[C a l c]) ps:=⟨_,J,h⟩
end
section
variable{Q R ps qs:Y}{A k la m n:Nat}{a p q:Rat}
def DT.mul2(hp:DT k p)(a:DT m q):DT (k+m) (p*q):=by
 rw[<-Mq];refine DT.divInt ?_ (hp.1.mul a.1) (hp.2.mul a.2);exact AZ (by have:=p.den_nz;omega) (by have:=q.den_nz;omega)
def DT.inv(a:DT m q)(b:q≠0):DT m q⁻¹:=by
 rw[Rat.inv_def];exact DT.divInt (λe=>b (Rat.num_eq_zero.1 e)) a.2 a.1
def DT.div2(hp:DT k p)(b:DT m q)(a:q≠0):DT (k+m) (p/q):=by
 rw[Rat.div_def];exact hp.mul2 (b.inv a)
def DT.sub2(hp:DT k p)(a:DT m q):DT (k+m+1) (p-q):=by
 rw[CE];exact hp.add2 a.neg
def IE{p:Y}(hp:Jh p=p)(h:∀i,m<=i->cf p i=0):p.length<=m:=by
 by_cases hl:p.length<=m
 . exact hl
 . exfalso
   exact JX hp De (h _ Z)
theorem O7(n:Nat)(a:Rat)(i:Nat):cf (Jh (Dq n [a])) i=if i=n then a else 0:=by rw[JU,UH]
theorem O8(n:Nat)(a:Rat)(x:Rat):ev (Jh (Dq n [a])) x=x^n*a:=by
 rw[Xu,IP];show x^n*(a+x*0)=_;grind
theorem L3(n:Nat)(a:Rat)(q:Y)(i:Nat):cf (JM (Jh (Dq n [a])) q) i=if n<=i then a*cf q (i-n)else 0:=by
 have e:JM (Jh (Dq n [a])) q=Jh (YC a (Dq n q)):=by
  rw[<-IR];refine IM λx=>?_;rw[YV,O8,YP,IP];grind
 grind[JU,XB,GO]
def GH(A la:Nat)(ps qs R Q:Y)(k:Nat):Prop:=
 Jh R=R/\Jh Q=Q/\k+R.length<=la/\Q.length<=la/\(∀x,ev ps x=ev qs x*ev Q x+ev R x)/\(∀i,i+qs.length<=R.length->cf Q i=0)/\
  ∃z,z+(2*A+1)<=2^k*(3*A+1)/\(∀i,DT z (cf R i))/\∀i,DT (z+A) (cf Q i)
theorem GH.start(b:1<=A)(a:Jh ps=ps)(hp:∀i,DT A (cf ps i)):GH A ps.length ps qs ps [] 0:=by
 refine⟨a,J,Z,DQ,λx=>?_,λi _=>Yq i,A,Z,hp,λi=>?_⟩
 . show _=ev qs x*0+_;grind
 . rw[Yq];exact DT.zero _ Z
theorem O9(c:Jh qs=qs)(b:qs≠[])(hl:qs.length<=R.length)(g:n=R.length-qs.length)
(d:a=cf R (R.length-1)/cf qs (qs.length-1)):(Eb R (JM (Jh (Dq n [a])) qs)).length<=R.length-1:=by
 have j:0<qs.length:=AG.2 b;have f:=JX c b;refine IE (KX _ _) λi e=>?_;grind[KZ,L3,J2]
theorem GH.next(h:GH A la ps qs R Q k)(g:∀i,DT A (cf qs i))(j:Jh qs=qs)(c:qs≠[])(hl:qs.length<=R.length)(q:n=R.length-qs.length)
(f:a=cf R (R.length-1)/cf qs (qs.length-1)):GH A la ps qs (Eb R (JM (Jh (Dq n [a])) qs)) (Xa Q (Jh (Dq n [a]))) (k+1):=by
 obtain⟨r,s,t,u,v,w,z,y,b,o⟩:=h;have K:0<qs.length:=AG.2 c;have l:=JX j c;have m:∀i,cf (Eb R (JM (Jh (Dq n [a])) qs)) i=cf R i-(if n<=i then a*cf qs (i-n)else 0):=λi=>by rw[KZ,L3]
 have e:∀i,cf (Xa Q (Jh (Dq n [a]))) i=if i=n then a else cf Q i:=λi=>by
  grind[Fu,O7]
 have B:=O9 j c hl q f;have d:DT (z+A) a:=by rw[f];exact(b _).div2 (g _) l
 refine⟨KX _ _,Yz _ _,Z,IE (Yz _ _) λi p=>?_,λx=>?_,λi p=>?_,2*z+(2*A+1),?_,λi=>?_,λi=>?_⟩
 . rw[e,Bk Z,J2 Z]
 . grind[Xv,MJ,YV]
 . grind
 . grind[A9]
 . rw[m];split
   . exact((b i).sub2 (d.mul2 (g _))).mono Z
   . rw[CE,Rat.neg_zero,Rat.add_zero];exact(b i).mono Z
 . rw[e];split
   . exact d.mono Z
   . exact(o i).mono Z
def GH.done(h:GH A la ps qs R Q k)(b:Jh qs=qs)(a:qs≠[])(hl:R.length<qs.length):Q=Y9 ps qs/\R=XO ps qs:=by
 obtain⟨f,g,_,_,i,_⟩:=h;obtain⟨c,d,e,g4⟩:=IQ ps qs b a;exact MH b a g e f g4 hl d (λx=>by rw[<-i x,<-c x])
end
namespace M3
def ZQ(V:H)(g r:Nat):Prop:=∀j,j<r->V.cell? ⟨g,j*4,none⟩=some (N false)/\V.cell? ⟨g,j*4+1,none⟩=some (C none 0 0)/\V.cell? ⟨g,j*4+2,none⟩=some (N false)/\V.cell? ⟨g,j*4+3,none⟩=some (C none 0 0)
variable{cs:Array P}{n:Int}{bs bs':List (Option (Nat × Dat))}{ps:Y}{B X c f g gQ i l r:Nat}{a:WO}{t:TypeId}{v:P}{V V' W w:H}
theorem ZQ.of(h:ZQ V g r)(e:V'.heap[g]?=V.heap[g]?):ZQ V' g r:=λj a=>by
 obtain⟨b,c,d,f⟩:=h j a;grind[Bs]
def Ej(w V:H)(bs:List (Option (Nat × Dat)))(a:Nat)(n:Int)(gQ r:Nat):Prop:=DS w V bs/\Boxed V a 3 (.int F n)/\ZQ V gQ r/\gQ<V.heap.size
def Ej.below{w V V':H}{bs:List (Option (Nat × Dat))}{b:Nat}{n:Int}{gQ r:Nat}(h:Ej w V bs b n gQ r)(a:Bl V V'):Ej w V' bs b n gQ r:=
 ⟨h.1.below a,(a.block b h.2.1.lt).trans h.2.1,h.2.2.1.of (a.block gQ h.2.2.2),Ar h.2.2.2 a.size⟩
def Ej.own{w V V':H}{bs:List (Option (Nat × Dat))}{a:Nat}{n:Int}{gQ r:Nat}{row:Option Nat}(h:Ej w V bs a n gQ r)(g:∃cs t m,V.heap[gQ]?=some (G cs t m))(hg:V.grownBy V' row)(d:∀x,row=some x->w.heap.size<=x/\∃o:Obj,V.heap[x]?=some o/\o.isCells=false):Ej w V' bs a n gQ r:=by
 have b:∀r,row=some r->∃o:Obj,V.heap[r]?=some o/\o.isCells=false:=λr e=>(d r e).2;refine⟨h.1.own hg d,Xg hg b (show Bx V a 3 #[E F n]from h.2.1),h.2.2.1.of ?_,Ar h.2.2.2 hg.size⟩;obtain⟨cs,t,m,e⟩:=g;refine hg.block gQ h.2.2.2 λf=>?_;obtain⟨o,c,i⟩:=b gQ f.symm;rw[e]at c;cases c;cases i
def PA(V:H)(m:Nat):Has V (.agg (Yh m)) (.rats (WT m 0)):=by
 refine⟨Yh m,J,λj a=>?_⟩;rw[AC]at a;obtain⟨b,c,d,e⟩:=I5 a;exact⟨_,_,_,_,b,c,d,e,by rw[JQ];exact XK _⟩
def Ev(w:H)(b d:WO)(la c lb e m:Nat)(f:WO)(rc a gQ:Nat)(x:Option (Nat × Dat))(Q:Y):List (Option (Nat × Dat)):=
 [some (w.heap.size,.cell 25 (C b la c)),some (w.heap.size+1,.cell 25 (C d lb e)),some (w.heap.size+1+1,.cell 25 (C Option.none 0 0)),some (w.heap.size+1+1+1,.cell 25 (C Option.none 0 0)),
  x,some (a,.cell 23 (C f la rc)),some (gQ,.rats Q),some (gQ+1,.cell 23 (C (some ⟨gQ,0,Option.none⟩) m m)),some (gQ+1+1,.cell 23 (C (some ⟨gQ,0,Option.none⟩) m m))]
def g4(la g:Nat)(R:Y):Option (Nat × Dat):=if la=0 then none else some (g,.rats R)
theorem PB(p:Y)(i:Nat)(c:Rat)(j:Nat):cf (p.set i c) j=c\/cf (p.set i c) j=cf p j:=by
 grind[XD,Cr]
theorem PC{A:Nat}{qs:Y}{n m:Nat}(l:1<=A)(hp:∀i,DT A (cf ps i))(c:∀i,DT A (cf qs i))(d:cf qs n≠0):∀k,∃z,z+(2*A+1)<=2^k*(3*A+1)/\(∀i,DT z (cf (Jq ps qs n m k).2 i))/\∀i,DT (z+A) (cf (Jq ps qs n m k).1 i):=by
 intro k;induction k with
 |zero=>exact⟨A,Z,hp,λi=>by rw[Jq,JQ];exact DT.zero _ Z⟩
 |succ k g=>
  obtain⟨z,j,a,f⟩:=g;have b:DT (z+A) (cf (Jq ps qs n m k).2 (m-(k+1)+n)/cf qs n):=(a _).div2 (c _) d;refine⟨2*z+(2*A+1),?_,λi=>?_,λi=>?_⟩
  . grind[A9]
  . rw[Jq];rcases Yx (Jq ps qs n m k).2 (m-(k+1)) (-(cf (Jq ps qs n m k).2 (m-(k+1)+n)/cf qs n)) qs qs.length i with e|e
    . rw[e];exact(a i).mono Z
    . rw[e];exact((a i).add2 (b.neg.mul2 (c _))).mono Z
  . rw[Jq];rcases PB (Jq ps qs n m k).1 (m-(k+1)) (cf (Jq ps qs n m k).2 (m-(k+1)+n)/cf qs n) i with e|e
    . rw[e];exact b.mono Z
    . rw[e];exact(f i).mono Z
def Ej.upd(h:Ej w V bs f n gQ r)(g:DS w V' bs')(b:∀B,B≠X->V'.heap[B]?=V.heap[B]?)(c:f≠X)(d:gQ≠X):Ej w V' bs' f n gQ r:=by
 have e:=b gQ d;refine⟨g,(b f c).trans h.2.1,h.2.2.1.of e,?_⟩;refine Nat.lt_of_not_le λhle=>?_;have a:=Array.getElem?_eq_none_iff.2 hle;rw[e]at a;exact absurd (Array.getElem?_eq_none_iff.1 a) (by have:=h.2.2.2;omega)
def EE(w W V:H)(bs:List (Option (Nat × Dat)))(a:Nat)(n:Int)(gQ r:Nat):Prop:=Ej w V bs a n gQ r/\KeepsOthers W V
def EE.below{w W V V':H}{bs:List (Option (Nat × Dat))}{a:Nat}{n:Int}{gQ r:Nat}(h:EE w W V bs a n gQ r)(b:Bl V V'):EE w W V' bs a n gQ r:=⟨h.1.below b,h.2.trans (JS b)⟩
theorem PD{m:Nat × Nat}(h:Boxed V f 3 v)(a:V.heap[X]?=some (G cs 38 m)):f≠X:=λe=>by
 subst e;have:=a.symm.trans h;grind
def Vm(V:H)(C:Nat)(x y z u:P)(B:Nat)(h:B≠C):(put4 V C x y z u).heap[B]?=V.heap[B]?:=
 (BR _ ⟨C,3,none⟩ u B h).trans ((BR _ ⟨C,2,none⟩ z B h).trans ((BR _ ⟨C,1,none⟩ y B h).trans (BR V ⟨C,0,none⟩ x B h)))
def EE.al(h:EE w W V bs f n gQ r){o:Obj}(m:DS w (V.alloc o) bs'):EE w W (V.alloc o) bs' f n gQ r:=
 have k:=h.below (Ba V o)
 ⟨⟨m,k.1.2⟩,k.2⟩
def EE.up{p:Nat × Nat}(h:EE w W V bs f n gQ r)(m:DS w V' bs')(c:V.heap[X]?=some (G cs 38 p))(b:∀B,B≠X->V'.heap[B]?=V.heap[B]?)(a:gQ≠X)(k:KeepsOthers V V'):EE w W V' bs' f n gQ r:=
 ⟨h.1.upd m b (PD h.1.2.1 c) a,h.2.trans k⟩
theorem Vn{o:Nat}{x:P}(h:o≠f):(V.setCell ⟨g,f,none⟩ x).cell? ⟨g,o,none⟩=V.cell? ⟨g,o,none⟩:=World.cell?_setCell_other _ _ _ _ De
theorem ZQ.put(h:ZQ V g (i+1))(x y z u:P):ZQ (putAt V g (i*4) x y z u) g i:=λj e=>by
 obtain⟨a,b,c,d⟩:=h j Z;grind[putAt,Vn]
def _root_.Go.Proofs.YtcahejkcdcjjgaaGreatDoor.Jj.setP(h:Jj V v ps)(b:Boxed V B 25 (C a l c))(x:P):Jj (V.setCell ⟨B,0,none⟩ x) v ps:=by
 obtain⟨u,e,d⟩:=h;exact⟨u,e,X7 b x d⟩
def boxed_below(h:Boxed V B t v)(a:Bl V V'):Boxed V' B t v:=(a.block B h.lt).trans h
def Fb(V:H)(D:Nat)(rs a:P)(R Q:Y):Prop:=RowK true V rs R/\RowK true V a Q/\V.heap[D]?=some (.deferred (some []))
def Fb.below{V V':H}{D:Nat}{rs b:P}{R Q:Y}(h:Fb V D rs b R Q)(a:Bl V V'):Fb V' D rs b R Q:=⟨h.1.below a,h.2.1.below a,(a.block D (Ab.1 h.2.2).1).trans h.2.2⟩
def Fb.set{D:Nat}{rs f:P}{R Q:Y}(h:Fb V D rs f R Q)(b:Boxed V B 25 (C a l c))(x:P):Fb (V.setCell ⟨B,0,none⟩ x) D rs f R Q:=
 ⟨X7 b x h.1,X7 b x h.2.1,(BR _ ⟨B,0,none⟩ x D λe=>by
  have e:D=B:=e;have d:=h.2.2;rw[e,show V.heap[B]?=_ from b]at d;cases d).trans h.2.2⟩
def DS.asPoly(M:DS w V bs)(h:bs[i]?=some (some (B,.cell 25 (C Option.none 0 0)))):DS w V (bs.set i (some (B,.poly []))):=by
 have c:∀j a d,(bs.set i (some (B,.poly [])))[j]?=some (some (a,d))->(∃b,bs[j]?=some (some (a,b)))/\((∃cs,Bx V a d.ty cs/\Has V (.agg cs) d)/\w.heap.size<=a):=λj a d e=>by
  rw[List.getElem?_set]at e;split at e
  . rename_i n;subst n;split at e
    . cases e;exact⟨⟨_,h⟩,⟨_,(M.cell h).1,Tx V⟩,(M.1 i _ _ h).2⟩
    . cases e
  . exact⟨⟨_,e⟩,M.1 j _ _ e⟩
 exact⟨λj a d e=>(c j a d e).2,λj k a d b f g=>by
  obtain⟨⟨_,l⟩,_⟩:=c j a d f;obtain⟨⟨_,m⟩,_⟩:=c k a b g;exact M.2.1 j k a _ _ l m,M.2.2⟩
def IF(a:H)(b:WO)(la rc m:Nat):H:=(((a.alloc (G #[C b la rc] 23)).alloc (G (Yh m) 38)).alloc (G #[C (some ⟨a.heap.size+1,0,none⟩) m m] 23)).alloc (G #[C (some ⟨a.heap.size+1,0,none⟩) m m] 23)
theorem Vo(A:Nat)(S qa:WO)(la T lb y n m:Nat)(ps qs:Y)(w:H)(ha:RowK true w (C S la T) ps)(hb:RowK true w (C qa lb y) qs)(hq:∀i,DT A (cf qs i))(cn:Jh qs=qs)(bz:qs≠[])(hL:∀k,k<=m->∃z,z+(2*A+1)<=1000000000/\(k<m->2*z+2*(2*A+1)<=1000000000)/\(∀i,DT z (cf (Jq ps qs n m k).2 i))/\∀i,DT (z+A) (cf (Jq ps qs n m k).1 i))(hn:lb=n+1)(hm:la-n=m):
 Calls L 29 #[.agg #[C S la T],.agg #[C qa lb y]] w λe w'=>∃u v,e=.returned (.tuple #[u,v,N true])/\Jj w' u (Y9 ps qs)/\Jj w' v (XO ps qs)/\Bl w w':=by
 obtain⟨bt,df,di,dz,s,t,aa,bb,ll,cc,kk,dd,bm⟩:=ha.forms;obtain⟨Qf,dh,dj,fd,s',t',ae,ah,ap,ai,an,aj,bn⟩:=hb.forms;obtain⟨V0,cy,az⟩:=Ny 25 (.cell 25 (C S la T)) FB 25 (.cell 25 (C qa lb y)) FB 25 (.cell 25 (C none 0 0)) FB 25 (.cell 25 (C none 0 0)) FB (w:=w);have M1:=az.o;have Wi:=Ja (show Calls L 15 #[.agg #[C qa lb y]] V0 λe w'=>e=.returned (E F (n:Int))/\Bl V0 w' by
  have h:=Yn (.agg #[C qa lb y]) qs V0 ⟨_,J,hb.below M1.2.2⟩;rwa[show((qs.length:Int)-1)=(n:Int)by omega]at h)
 have Wg:=Ja λ(V:H) (h:Bl w V)=>Tm (C S la T) ps V (ha.below h);have ff:∀W:H,(Instr.makeSlice 23 (E F (m:Int)) (E F (m:Int))).run L W=.ok (C (some ⟨W.heap.size,0,none⟩) m m) (W.alloc (G (Yh m) 38)):=λW=>Hu m Z W;obtain⟨d,fi⟩:=ex ((la:Int)-(n:Int):Int);have fl:F.wrap d=d:=by rw[C9];omega
 have fe:max (0:Int) d=(m:Int):=Z
 have fh:¬(n:Int)<0:=Z
 obtain⟨HP,HQ,Qb,Qe,HN,Qr,Ug,Ui⟩:=Gw bm bn bt Qf (show lb=n+1/\la-n=m from⟨hn,hm⟩) hq cn bz;have HL:=Ja hL;have Ql:m<=1099511627776:=Z
 clear ha hb bm bn bt Qf df di dh dj hq cn bz hL hn hm M1;have c1:=(az.o.cell (i:=1) J).1.cell;refine(Be (n:=3)).1 ?_;refine Bn func29 J trivial ?_ J;simp only[ntmps29,Ak,Ag,AB,Nat.reduceAdd,Nat.reduceSub,An,Ao,Ax,Ap,Al,Aw];gi_wp2_with fail
 rw[cy.o];refine⟨trivial,?_⟩;refine((Be (n:=_)).2 Wi.o).mono ?_;rintro e w1 ⟨rfl,bk⟩;have Ue:Bl w1 (w1.alloc (G #[E F (n:Int)] 3)):=Ba w1 _;have Qo:=(az.o.below bk).below Ue;have h4:=Bb w1 3 (E F (n:Int));have c0:=(Qo.cell (i:=0) J).1.cell;obtain⟨Qh,Qt,H4⟩:=Dm (Wg.o _ Qo.2.2) Qo h4;clear Ue Qo h4 bk c1;gi_wp2_with fail
 obtain⟨V1,bh⟩:=ex (w1.alloc (G #[E F (n:Int)] 3));obtain⟨B4,ba⟩:=ex (w1.heap.size);rw[bh]at Qh Qt H4 c0;rw[ba]at H4;rw[bh,ba];clear bh ba;refine⟨trivial,?_⟩;refine((Be (n:=_)).2 Qh.o).mono ?_;rintro e U ⟨u2,rfl,co,_,ay,bu⟩;have dm:∃g gR rc,u2=C g la rc/\(la≠0->g=some ⟨gR,0,none⟩)/\(la≠0->V1.heap.size<=gR/\Dg true U gR ps)/\la<=rc/\rc<=9223372036854775807:=by
  obtain⟨a7,cz,e7,h7,h8,_⟩:=id co;rcases bu with rfl|⟨g',cap,e1,e2,e3⟩
  . injection e7 with _ e7
    have h0:=Qb.o.trans e7.symm;exact⟨_,0,_,by rw[h0],λh=>absurd h0 h,λh=>absurd h0 h,Z,Z⟩
  . rw[e1]at e7;have e8:cap=cz:=by injection e7
    exact⟨_,g',cap,by rw[e1,Qb.o],λ_=>rfl,λ_=>⟨e2,e3⟩,by rw[Qb.o,e8];exact h7,by rw[e8];exact h8⟩
 obtain⟨g,gR,rc,rfl,ce,bg,cg,cj⟩:=dm;have Qk:=Ja (show(la≠0->g=some ⟨gR,0,none⟩)/\la<=rc/\rc<=9223372036854775807 from⟨ce,cg,cj⟩);clear cg cj ce;have Uf:DS w U ([some (w.heap.size,.cell 25 (C S la T)),some (w.heap.size+1,.cell 25 (C qa lb y)),some (w.heap.size+1+1,.cell 25 (C Option.none 0 0)),some (w.heap.size+1+1+1,.cell 25 (C Option.none 0 0))]++[g4 la gR ps]):=by
  unfold g4;split
  . exact(Qt.o.below ay).none
  . exact Qt.o.adopt ay (bg (by assumption)).1 (bg (by assumption)).2
 have h4:Boxed U B4 3 (E F (n:Int)):=(ay.block B4 H4.o.lt).trans H4.o;have Uk:=Ba U (G #[C g la rc] 23);have h5:=boxed_below h4 Uk;have c4:=h5.cell;have Uv:=Ja (Uf.push (.cell 23 (C g la rc)) (cs:=#[C g la rc]) ⟨J,J⟩);have H5:=Ja h5;clear bu co ay bg Uf h4 Uk h5 c0;gi_wp2_with fail
 refine⟨trivial,?_⟩;refine(I2 Fence.wide _ trivial J _ _ _ _).mono ?_;rintro e w3 ⟨rfl,rfl⟩;have Qm:=Ja (show Ej w (IF U g la rc m) (Ev w S qa la T lb y m g rc U.heap.size (U.heap.size+1) (g4 la gR ps) (WT m 0)) B4 (n:Int) (U.heap.size+1) m by
  have Uo:=((Uv.o.push (.rats (WT m 0)) (PA _ m)).push (.cell 23 (C (some ⟨U.heap.size+1,0,none⟩) m m)) (cs:=#[C (some ⟨U.heap.size+1,0,none⟩) m m]) ⟨J,J⟩).push (.cell 23 (C (some ⟨U.heap.size+1,0,none⟩) m m)) (cs:=#[C (some ⟨U.heap.size+1,0,none⟩) m m]) ⟨J,J⟩;simp only[A1]at Uo;have hz:(IF U g la rc m).heap[U.heap.size+1]?=some (G (Yh m) 38 (0,0)):=by
   have e:=BV (U.alloc (G #[C g la rc] 23)) (G (Yh m) 38);rw[A1]at e;exact(B7 _ _ _ (by simp only[A1];omega)).trans ((B7 _ _ _ De).trans e)
  exact⟨Uo,boxed_below (boxed_below (boxed_below H5.o (Ba _ _)) (Ba _ _)) (Ba _ _),λj hj=>by
   obtain⟨h0,h1,h2,h3⟩:=I5 hj;exact⟨cell_of hz h0,cell_of hz h1,cell_of hz h2,cell_of hz h3⟩,(Ab.1 hz).1⟩)
 obtain⟨W3,ak⟩:=ex (IF U g la rc m);rw[ak]at Qm;have Qj:W3.heap.size=U.heap.size+1+1+1+1:=by rw[<-ak];simp only[IF,A1]
 unfold IF at ak;rw[ak];simp only[A1];obtain⟨a,bc⟩:=ex (U.heap.size);rw[bc]at Qm Qj;rw[bc];have en:=Ja Qj;clear Qj ak bc c4;gi_wp2_with fail
 have Ul:=Ja (show w.heap.size<=W3.heap.size from Qm.o.1.2.2.size);refine Yt J Z (gf:=94) (lb:=#[M (some ⟨a+1+1+1,0,none⟩)]) J trivial (DF func94 WS J)
  (I1 Fence.wide _ trivial J Z (a+1+1+1) (some ⟨a+1,0,none⟩) m m (λ_=>N false) (λ_=>C none 0 0) (λ_=>N false) (λ_=>C none 0 0) Ql) (λ_=>rfl)
  (λk W=>Ej w W (Ev w S qa la T lb y m g rc a (a+1) (g4 la gR (Jq ps qs n m k).2) (Jq ps qs n m k).1) B4 (n:Int) (a+1) (m-k)) (λ_ _ _=>False)
  (λk W W' row h hg hr=>h.own (by obtain⟨cs,h1,_⟩:=h.1.rats (i:=6) J;exact⟨cs,_,_,h1⟩) hg λr e=>⟨At Ul.o (hr r e).1,(hr r e).2⟩)
  (λc s W W' row h=>h.elim) Qm.o ?rd
  (λk=>{ tmps:=#[.agg #[C S la T],.agg #[C qa lb y],M (some ⟨w.heap.size,0,none⟩),M (some ⟨w.heap.size+1,0,none⟩),M (some ⟨w.heap.size+1+1,0,none⟩),M (some ⟨w.heap.size+1+1+1,0,none⟩),N false,M (some ⟨B4,0,none⟩),M (some ⟨a,0,none⟩),M (some ⟨a+1+1,0,none⟩),E F ((m:Int)-1-k),I,I,I,I,.agg #[C qa lb y],E F ↑n,E F ↑n,N (decide ((n:Int)<0)),I,I,M (some ⟨w.heap.size,0,none⟩),C S la T,C g la rc,C g la rc,E F ↑la,E F ↑n,E F d,E F ↑m,C (some ⟨a+1,0,none⟩) m m,C (some ⟨a+1,0,none⟩) m m,.func (.func 94) #[] #[M (some ⟨a+1+1+1,0,none⟩)],E F ((m:Int)-1-k),.agg #[N false,C none 0 0,N false,C none 0 0],I,I,I,I,I,I,I,I,I,I,I,I,I,I,I,I,I,I,I,I,I,I,I,I,I,I,I,I,I,I,I,I,I,I,I,I,I,I,I,I,I,I,I,I,I,I,I],defers:=[] }) ?assign ?body ?done ?stop
 case stop=>intro D c k W _ _ h;exact h.elim
 case rd=>
  intro k W h;refine⟨(h.1.cell (i:=8) J).1.cell,λhk=>?_⟩;obtain⟨h0,h1,h2,h3⟩:=h.2.2.1 (m-1-k) Z;exact⟨a+1,J,h0,h1,h2,h3⟩
 case assign=>
  intro l k W K hK;unfold Gb;gi_wp2;exact hK
 case body=>
  intro l k W hS hk Qj;have Ud:la≠0:=by have:=HN.o;omega
  obtain rfl:=Qk.o.1 Ud;have HG:=Ja (show ∀X,g4 la gR X=some (gR,.rats X)from λ_=>Bk Ud);rw[HG.o]at hS;obtain⟨dw,bq,rfl,de,q0,q1,q2,q3⟩:=HQ.o n (by have:=HN.o;omega);have Ur:=Ja (show ∀j,j<lb->∀V,Bl w V->(V.cell? ⟨bq,j*4,none⟩=some (N (s' j))/\V.cell? ⟨bq,j*4+1,none⟩=some (C (ae j) (ap j) (ai j))/\V.cell? ⟨bq,j*4+2,none⟩=some (N (t' j))/\V.cell? ⟨bq,j*4+3,none⟩=some (C (ah j) (an j) (aj j)))/\Jg V (.agg #[N (s' j),C (ae j) (ap j) (ai j),N (t' j),C (ah j) (an j) (aj j)]) (cf qs j)from λj hj V hB=>by
   obtain⟨hi,b,e,hb,c0,c1,c2,c3⟩:=HQ.o j hj;cases e;exact⟨⟨(hB.cell (p:=⟨bq,_,none⟩) hb).trans c0,(hB.cell (p:=⟨bq,_,none⟩) hb).trans c1,(hB.cell (p:=⟨bq,_,none⟩) hb).trans c2,(hB.cell (p:=⟨bq,_,none⟩) hb).trans c3⟩,hi.below hB⟩)
  clear dw de q0 q1 q2 q3;have Qa:cf qs n≠0:=by
   have:=JX Ug.o Ui.o;rwa[show qs.length-1=n by have:=HN.o;have:=Qe.o;omega]at this
  obtain⟨z,ef,bj,ad,am⟩:=HL.o k Z;have Qv:z+(2*A+1)+(z+(2*A+1))<=1000000000:=Z
  clear ef;obtain⟨i,hi⟩:=ex (m-(k+1):Nat);obtain⟨R,hR⟩:=ex ((Jq ps qs n m k).2);obtain⟨Q,hQ⟩:=ex ((Jq ps qs n m k).1);have Uy:R.length=la:=by rw[<-hR,(J7 ps qs n m k).2];exact Qb.o.symm
  have Wh:Q.length=m:=by rw[<-hQ];exact(J7 ps qs n m k).1
  rw[hR,hQ]at hS;rw[hR]at ad;obtain⟨t0,eb⟩:=ex (i+n:Nat);obtain⟨c,hc⟩:=ex (cf R t0/cf qs n);have Up:Jq ps qs n m (k+1)=(Q.set i c,Yb R i (-c) qs qs.length):=by rw[Jq];grind
  have Qd:DT (z+A) c:=by rw[<-hc];exact(ad t0).div2 (Qr.o n) Qa
  obtain⟨Wb,Qi,Ub⟩:=Dm (show Sq c from Sq.of Qd Z) (show ∀j,Sq (cf qs j)from λj=>Sq.of (Qr.o j) Z) (show ∀j,Sq (c*cf qs j)from λj=>Sq.of (Qd.mul2 (Qr.o j)) Z);have Wa:=Ja (show ∀j t,Sq (cf (Yb R i (-c) qs j) t)from λj t=>by
   rcases Yx R i (-c) qs j t with e|e
   . rw[e];exact Sq.of (ad t) Z
   . rw[e];exact Sq.of ((ad t).add2 (Qd.neg.mul2 (Qr.o _))) Z)
  obtain⟨Qu,Uu,eh,Qw,Qy,Qc⟩:=Ik (show Sq (cf R t0)from Sq.of (ad t0) Z) hc Qa (show decide (cf qs n≠0)=true from Bi Qa) Up (show R.length=la/\Q.length=m/\t0<la/\i<m/\m-k=i+1/\m-(k+1)=i by have:=HN.o;omega);have Un:(m:Int)-1-(k:Int)=(i:Int):=Z
  have et:(i:Int)+(n:Int)=(t0:Int):=Z
  have fm:F.wrap (t0:Int)=(t0:Int):=by rw[C9];have:=HN.o;omega
  have fj:(t0:Int)<(la:Int):=by have:=Qc.o;omega
  have fg:(n:Int)<(lb:Int):=by have:=HN.o;omega
  have f8:(i:Int)<(m:Int):=by have:=Qc.o;omega
  rw[Un];have Qg:EE w W W.drew (Ev w S (some ⟨bq,0,none⟩) la T lb y m (some ⟨gR,0,none⟩) rc a (a+1) (some (gR,.rats R)) Q++[Option.none]) B4 (n:Int) (a+1) (m-k):=⟨⟨(hS.1.below ((BL _ W).drew)).none,(hS.below ((BL _ W).drew)).2⟩,JS ((BL _ W).drew)⟩;clear hS hi hR hQ Uy Wh eb hc Qd bj ad am Qv Qa Up Un Qj;gi_wp2_with fail
  refine Iw (AE ⟨l,J⟩) Dl [[],[],[],[1,2],[0,3],[4],[],[6],[],[7,8],[9],[5,10],[11],[12],[12],[],[15,13,11,0,1,2,3,4,5,6,7,8,9,10,11,12,13,15],[14,16,0,1,2,3,4,5,6,7,8,9,10,11,12,13,14,15,16]] [.eq (C (some ⟨gR,0,none⟩) la rc),.eq (E F (i:Int)),.eq (E F (n:Int)),.eq (E F (t0:Int)),.eq (M (some ⟨gR,t0*4,none⟩)),.rat (cf R t0),.eq (M (some ⟨w.heap.size+1,0,none⟩)),.eq (C (some ⟨bq,0,none⟩) lb y),.eq (E F (n:Int)),.eq (M (some ⟨bq,n*4,none⟩)),.rat (cf qs n),.tup1 (.rat c),.tup1 (.rat c),.rat c,.eq (N true),.ptr,.eq I,.eq (N true)] [15,16] (λb v V=>EE w W V (Ev w S (some ⟨bq,0,none⟩) la T lb y m (some ⟨gR,0,none⟩) rc a (a+1) (some (gR,.rats R)) Q++[nb b v 0 1 (.rat 0) (.rat c)]) B4 (n:Int) (a+1) (m-k)) Qg (WR (.vl J λ_ j=>Ho 5 j.1.1)<|WR (.vl J λ_ _=>mv)<|WR (.vl J λ_ j=>⟨_,by have e0:=j.1.2.1.cell;refine Db ?_;go_simp,J⟩)<|WR (.vl J λh _=>⟨_,by refine Db ?_;rw[h.e 1,h.e 2];go_simp,J⟩)<|WR (.vl J λh _=>⟨_,by refine Db ?_;rw[h.e 0,h.e 3];go_simp,J⟩)<|WR (.vl J λh j=>Lf 4 j.1.1 (by have:=Qc.o;omega) (h.e 4))<|WR (.vl J λ_ _=>⟨_,by refine Db ?_;go_simp,J⟩)<|WR (.vl J λh j=>⟨_,by have e0:=(j.1.1.cell (i:=1) J).1.cell;refine Db ?_;rw[h.e 6];go_simp,J⟩)<|WR (.vl J λ_ j=>⟨_,by have e0:=j.1.2.1.cell;refine Db ?_;go_simp,J⟩)<|WR (.vl J λh _=>⟨_,by refine Db ?_;rw[h.e 7,h.e 8];go_simp,J⟩)<|WR (.vl J λh j=>by
     obtain⟨⟨e0,e1,e2,e3⟩,hr⟩:=Ur.o n (by have:=HN.o;omega) _ j.1.1.2.2;exact⟨_,by refine Db ?_;rw[h.e 9];go_simp,hr⟩)<|WR (.cl λh _=>Sx (by
     have q:=TW _ _ (cf R t0) (cf qs n) _ (h.g 5) (h.g 10) Qu.o (Qi.o n);rw[Qw.o,Uu.o]at q;exact q))<|WR (.vl J λh _=>mw (h.g 11))<|WR (.vl J λh _=>TA (h.g 12))<|WR (.vl J λh _=>TB (h.g 12))<|WR (.wr J λ_ j=>S0 9 j.1.1 (hT:=λm=>j.al m))<|WR (.wr J λh j=>N4 9 j.1.1 (h.g 13) (hp:=h.g 15) (hT:=λn m=>j.up m n (Vm _ _ _ _ _ _) (j.1.1.ne 6 9 J J DV) (Ll _ _ _ _ _ _)))<|WR (.vl J λh _=>aw (h.g 14)) Stp.end_)
   λf V hF MM=>?_
  refine Db ?_;obtain⟨Bc,bd⟩:=hF.p 15;rw[hF.e 0,hF.e 1,hF.e 2,hF.e 3,hF.e 4,hF.e 6,hF.e 7,hF.e 8,hF.e 9,hF.e 14,hF.e 17,bd];have MM:=FI MM;simp only[bd]at MM;have HM:=Ja MM;clear hF bd MM;obtain⟨s8,a8,l8,c8,t8,b8,k8,d8,n8,r8,i8,j8⟩:=HM.o.1.1.rat (i:=9) J;obtain⟨e0,e1,e2,e3⟩:=n8.cq;have e6:=(HM.o.1.1.cell (i:=7) J).1.cell;have hE:=HM.o.1.1.rats (i:=6) J;obtain⟨z0,z1,z2,z3⟩:=HM.o.1.2.2.1 i (by have:=Qc.o;omega);have f0:=hE.frozen (i*4);have f1:=hE.frozen (i*4+1);have f2:=hE.frozen (i*4+2);have f3:=hE.frozen (i*4+3);have ei:=Ja r8;have Qz:=Ja (show EE w W (putAt V (a+1) (i*4) (N s8) (C a8 l8 c8) (N t8) (C b8 k8 d8)) (Ev w S (some ⟨bq,0,none⟩) la T lb y m (some ⟨gR,0,none⟩) rc a (a+1) (some (gR,.rats R)) (Q.set i c)++[some (Bc,.rat c)]) B4 (n:Int) (a+1) i from by
   have hp:=HM.o.1.1.putRats (i:=6) J (j:=i) (by have:=Qc.o;omega) r8;obtain⟨cs,Qd,_⟩:=hE;refine⟨⟨hp,(Hk (PD HM.o.1.2.1 Qd) _ _ _ _).trans HM.o.1.2.1,ZQ.put (by have h:=HM.o.1.2.2.1;rwa[Qc.o.2.2.2.2.1]at h) _ _ _ _,?_⟩,HM.o.2.trans (OP _ _ _ _ _ _ _)⟩;exact(Ab.1 (Nv Qd _ _ _ _)).1)
  have c9:=(Qz.o.1.1.cell (i:=1) J).1.cell;unfold putAt at c9;clear n8 i8 j8 hE r8;gi_wp2_with fail
  obtain⟨W9,aq⟩:=ex (putAt V (a+1) (i*4) (N s8) (C a8 l8 c8) (N t8) (C b8 k8 d8));rw[aq]at Qz;unfold putAt at aq;rw[aq];clear aq c9 e0 e1 e2 e3 e6 z0 z1 z2 z3 f0 f1 f2 f3;gi_loopw [56] (λjv wr=>∃j:Nat,j<=lb/\jv=E F (j:Int)/\Hid (EE w W wr (Ev w S (some ⟨bq,0,none⟩) la T lb y m (some ⟨gR,0,none⟩) rc a (a+1) (some (gR,.rats (Yb R i (-c) qs j))) (Q.set i c)++[some (Bc,.rat c)]) B4 (n:Int) (a+1) i)) λjv _=>lb-(intOf jv).toNat
  case atStart=>exact⟨0,AN _,J,Qz⟩
  case round=>
   obtain⟨j,hj,rfl,HJ⟩:=hrel;by_cases dx:j<lb
   . have fc:(j:Int)<(lb:Int):=Z
     obtain⟨⟨e0,e1,e2,e3⟩,ck⟩:=Ur.o j dx wr HJ.o.1.1.2.2;have Uz:=Ja ck;obtain⟨x,ed⟩:=ex (i+j:Nat);have ew:(i:Int)+(j:Int)=(x:Int):=Z
     have Qp:=Ja (show x<la/\x=i+j by have:=Qc.o;have:=HN.o;omega);have fo:F.wrap (x:Int)=(x:Int):=by rw[C9];have:=Qp.o;omega
     have fk:(x:Int)<(la:Int):=by have:=Qp.o;omega
     clear ck ed;gi_wp2_with fail
     have Qq:EE w W (wr.alloc (G #[N (s' j),C (ae j) (ap j) (ai j),N (t' j),C (ah j) (an j) (aj j)] 38)) (Ev w S (some ⟨bq,0,none⟩) la T lb y m (some ⟨gR,0,none⟩) rc a (a+1) (some (gR,.rats (Yb R i (-c) qs j))) (Q.set i c)++[some (Bc,.rat c)]++[some (wr.heap.size,.rat (cf qs j))]) B4 (n:Int) (a+1) i:=by
      have h1:=HJ.o.below (Ba wr (G #[N (s' j),C (ae j) (ap j) (ai j),N (t' j),C (ah j) (an j) (aj j)] 38));exact⟨⟨HJ.o.1.1.push (.rat (cf qs j)) Uz.o,h1.1.2⟩,h1.2⟩
     obtain⟨Wd,bi⟩:=ex (wr.alloc (G #[N (s' j),C (ae j) (ap j) (ai j),N (t' j),C (ah j) (an j) (aj j)] 38));obtain⟨Bd,bf⟩:=ex (wr.heap.size);rw[bi,bf]at Qq;rw[bi,bf];obtain⟨X,hX⟩:=ex (Yb R i (-c) qs j);rw[hX]at Qq;have Uj:=Ja (show x<X.length by rw[<-hX,YU];have:=Qc.o;have:=Qp.o;omega);have Ut:=Ja (show Sq (cf X x)by rw[<-hX];exact Wa.o j x);have We:=Ja (show X.set x (cf X x-c*cf qs j)=Yb R i (-c) qs (j+1)by
      rw[Yb,hX,<-Qp.o.2,show cf X x-c*cf qs j=cf X x+-c*cf qs j by grind])
     have Qg:=Qq.below ((BL _ Wd).drew);clear bi bf hX Qq e0 e1 e2 e3;refine Iw (AE ⟨l,J⟩) Dl [[],[],[],[1,2],[],[],[],[5,6],[4,7],[8],[],[],[10,11],[9,12,12],[0,3,0,1,2,3,4,5,6,7,8,9,10,11,12,13],[14,13,13,0,1,2,3,4,5,6,7,8,9,10,11,12,13]] [.eq (C (some ⟨gR,0,none⟩) la rc),.eq (E F (i:Int)),.eq (E F (j:Int)),.eq (E F (x:Int)),.eq (C (some ⟨gR,0,none⟩) la rc),.eq (E F (i:Int)),.eq (E F (j:Int)),.eq (E F (x:Int)),.eq (M (some ⟨gR,x*4,none⟩)),.rat (cf X x),.rat c,.rat (cf qs j),.rat (c*cf qs j),.rat (cf X x-c*cf qs j),.eq (M (some ⟨gR,x*4,none⟩)),.eq I] [15] (λb _ V=>EE w W V (Ev w S (some ⟨bq,0,none⟩) la T lb y m (some ⟨gR,0,none⟩) rc a (a+1) (some (gR,.rats (if b.getD 0 false then X.set x (cf X x-c*cf qs j)else X))) (Q.set i c)++[some (Bc,.rat c)]++[some (Bd,.rat (cf qs j))]) B4 (n:Int) (a+1) i) Qg (WR (.vl J λ_ j=>Ho 5 j.1.1)<|WR (.vl J λ_ _=>mv)<|WR (.vl J λ_ _=>mv)<|WR (.vl J λh _=>⟨_,by refine Db ?_;rw[h.e 1,h.e 2];go_simp,J⟩)<|WR (.vl J λ_ j=>Ho 5 j.1.1)<|WR (.vl J λ_ _=>mv)<|WR (.vl J λ_ _=>mv)<|WR (.vl J λh _=>⟨_,by refine Db ?_;rw[h.e 5,h.e 6];go_simp,J⟩)<|WR (.vl J λh _=>⟨_,by refine Db ?_;rw[h.e 4,h.e 7];go_simp,J⟩)<|WR (.vl J λh j=>Lf 4 j.1.1 Uj.o (h.e 8))<|WR (.vl J λ_ j=>Eg 9 j.1.1)<|WR (.vl J λ_ j=>Eg 10 j.1.1)<|WR (.cl λh _=>Ga _ _ c (cf qs j) _ (h.g 10) (h.g 11) Wb.o (Qi.o j))<|WR (.cl λh _=>I0 _ _ (cf X x) (c*cf qs j) _ (h.g 9) (h.g 12) Ut.o (Ub.o j))<|WR (.vl J λh _=>⟨_,by refine Db ?_;rw[h.e 0,h.e 3];go_simp,J⟩)<|WR (.wr J λh j=>Lg 4 j.1.1 Uj.o (h.g 13) (h.e 14) (hT:=λ⟨_,e,_⟩ m=>j.up m e (λB hB=>Hk hB _ _ _ _) (j.1.1.ne 6 4 J J DV) (OP _ _ _ _ _ _ _))) Stp.end_)
      λf V hF h3=>?_
     refine Db ?_;rw[hF.e 0,hF.e 1,hF.e 2,hF.e 3,hF.e 4,hF.e 5,hF.e 6,hF.e 7,hF.e 8,hF.e 14];have h3:=FI h3;rw[We.o]at h3;have HO:=Ja (show EE w W V (Ev w S (some ⟨bq,0,none⟩) la T lb y m (some ⟨gR,0,none⟩) rc a (a+1) (some (gR,.rats (Yb R i (-c) qs (j+1)))) (Q.set i c)++[some (Bc,.rat c)]) B4 (n:Int) (a+1) i from⟨⟨h3.1.1.take 10,h3.1.2⟩,h3.2⟩);clear hF h3;gi_wp2_with fail
     go_roundw
     case rel=>exact⟨j+1,Z,by go_num,HO⟩
     case measure=>simp[intOf];omega
   . obtain rfl:j=lb:=Z
     gi_wp2_with fail
     refine⟨HJ.o.2.from _,?_⟩;have h3:=HJ.o.1.1.take 9;rw[Qe.o]at h3;show Ej w wr (Ev w S _ la T _ y m _ rc a (a+1) (g4 la gR (Jq ps qs n m (k+1)).2) (Jq ps qs n m (k+1)).1) B4 (n:Int) (a+1) (m-(k+1));rw[Qy.o,Qc.o.2.2.2.2.2,HG.o];refine⟨?_,HJ.o.1.2⟩;have Qf:=Qe.o;rw[<-Qf];rw[<-Qf]at h3;exact h3
 case done=>
  intro DC W hD hS hK;have Uq:=(J7 ps qs n m m).2;have Uh:=(J7 ps qs n m m).1;have Qa:cf qs n≠0:=by
   have:=JX Ug.o Ui.o;rwa[show qs.length-1=n by have:=HN.o;have:=Qe.o;omega]at this
  obtain⟨z,Qv,bj,ad,am⟩:=HL.o m (Aa _);have Qs:Y9 ps qs=Jh (Jq ps qs n m m).1:=by unfold Y9;rw[show qs.length-1=n by have:=HN.o;have:=Qe.o;omega,show ps.length-n=m by have:=HN.o;have:=Qb.o;omega]
  have Qx:XO ps qs=Jh (Jq ps qs n m m).2:=by unfold XO;rw[show qs.length-1=n by have:=HN.o;have:=Qe.o;omega,show ps.length-n=m by have:=HN.o;have:=Qb.o;omega]
  obtain⟨R,hR⟩:=ex ((Jq ps qs n m m).2);obtain⟨Q,hQ⟩:=ex ((Jq ps qs n m m).1);rw[hR]at Uq ad Qx;rw[hQ]at Uh am Qs;rw[hR,hQ]at hS;have Qu:=Ja (show Sqs R from Sqs.of λi=>Sq.of (ad i) Z);have cr:=Ja (show Sqs Q from Sqs.of λi=>Sq.of (am i) Z);have Um:RowK true W (C g la rc) R:=by
   by_cases h0:la=0
   . rw[h0,As (show R.length=0 by have:=Qb.o;omega)];exact⟨g,rc,J,AN _,by have:=Qk.o;omega,DQ,Az J⟩
   . have h:=hS.1;rw[show g4 la gR R=some (gR,.rats R)from Bk h0]at h;have h:=(h.rats (i:=4) J).row (n:=la) (cap:=rc) (by have:=Qb.o;omega) (by have:=Qk.o;omega) (by have:=Qk.o;omega) dz;rw[Qk.o.1 h0];rwa[Ad (by have:=Qb.o;omega)]at h
  have Uc:RowK true W (C (some ⟨a+1,0,none⟩) m m) Q:=by
   have h:=(hS.1.rats (i:=6) J).row (n:=m) (cap:=m) Z (Aa _) Z Ql;rwa[Ad Z]at h
  have Qg:DS w W.drew (((Ev w S qa la T lb y m g rc a (a+1) (g4 la gR R) Q).set 2 (some (w.heap.size+1+1,.poly []))).set 3 (some (w.heap.size+1+1+1,.poly [])))/\Fb W.drew DC (C g la rc) (C (some ⟨a+1,0,none⟩) m m) R Q:=⟨((hS.1.asPoly (i:=2) J).asPoly (i:=3) J).drew,Fb.below ⟨Um,Uc,hK⟩ ((BL _ W).drew)⟩;obtain⟨Us,Wc,Uw⟩:=Dm Qs Qx (show w.heap.size<=DC by have:=Ul.o;omega);clear hS Uq Uh bj ad am Qv Qs Qx hR hQ Qa Um Uc hK;gi_wp2_with fail
  refine Iw (Az J) Dl [[],[0],[],[2,1],[1,3,0,1],[3,4,0,1,2,3,4],[5,0,1,2,3,4,5]] [.eq (C (some ⟨a+1,0,none⟩) m m),.poly (Jh Q),.eq (C g la rc),.poly (Jh R),.eq I,.eq I,.eq (N true)] [4,5] (λb _ V=>DS w V (((Ev w S qa la T lb y m g rc a (a+1) (g4 la gR R) Q).set 2 (some (w.heap.size+1+1,.poly (if b.getD 0 false then Jh Q else [])))).set 3 (some (w.heap.size+1+1+1,.poly (if b.getD 1 false then Jh R else []))))/\Fb V DC (C g la rc) (C (some ⟨a+1,0,none⟩) m m) R Q) Qg (WR (.vl J λ_ j=>Ho 7 j.1)<|WR (.cl λh j=>c1 (h.e 0) ((X0 _ Q _ j.2.2.1 cr.o).mono λ_ _ ⟨u,e,h,_,b⟩=>⟨u,e,h,b⟩))<|WR (.vl J λ_ j=>Ho 5 j.1)<|WR (.cl λh j=>c1 (h.e 2) ((X0 _ R _ j.2.1 Qu.o).mono λ_ _ ⟨u,e,h,_,b⟩=>⟨u,e,h,b⟩))<|WR (.wr J λh j=>OX 2 j.1 (h.g 1) (hT:=λn m=>⟨m,j.2.set n _⟩))<|WR (.wr J λh j=>OX 3 j.1 (h.g 3) (hT:=λn m=>⟨m,j.2.set n _⟩))<|WR (.vl J λ_ _=>av) Stp.end_)
   λf V hF MM=>?_
  refine Db ?_;rw[hF.e 0,hF.e 2,hF.e 6];have MM:=FI MM;obtain⟨a2,l2,c2,g2,dt⟩:=MM.1.poly2 (i:=2) J;obtain⟨a3,l3,c3,g3,du⟩:=MM.1.poly2 (i:=3) J;have Ux:=MM.1.2.2;have Ua:=MM.2.2.2;clear hF MM;gi_wp2;refine⟨DQ,.inl ⟨_,_,J,Bq Ua,?_⟩⟩;have hg:=Bp V DC (.deferred none);have Qn:∀r,some DC=some r->∃o:Obj,V.heap[r]?=some o/\o.isCells=false:=λr e=>by cases e;exact⟨_,Ua,J⟩
  have q2:Boxed _ (w.heap.size+1+1) 25 (C a2 l2 c2):=Xg hg Qn (show Bx V (w.heap.size+1+1) 25 #[C a2 l2 c2]from g2);have q3:Boxed _ (w.heap.size+1+1+1) 25 (C a3 l3 c3):=Xg hg Qn (show Bx V (w.heap.size+1+1+1) 25 #[C a3 l3 c3]from g3);have x2:=q2.cell;have x3:=q3.cell;refine⟨.tuple #[.agg #[C a2 l2 c2],.agg #[C a3 l3 c3],N true],by simp[results,results29,go_sem,x2,x3],_,_,J,?_,?_,?_⟩
  . rw[Us.o];obtain⟨u,e,h⟩:=dt;exact⟨u,e,Hx hg Qn h⟩
  . rw[Wc.o];obtain⟨u,e,h⟩:=du;exact⟨u,e,Hx hg Qn h⟩
  . exact Ux.trans (DP (w:=w) (Aa _) _ DC _ _ Uw.o Ua J J)
def boxed_own{row:Option Nat}(hg:V.grownBy V' row)(a:∀r,row=some r->∃o:Obj,V.heap[r]?=some o/\o.isCells=false)(h:Boxed V B t v):Boxed V' B t v:=Xg hg a (show Bx V B t #[v]from h)
def Vp(r:P)(ps:Y)(s:P)(w:H)(o:Jj w r ps)(d:Jj w s []):
 Calls L 29 #[r,s] w λe j=>e=.returned (.tuple #[.agg #[C none 0 0],.agg #[C none 0 0],N false])/\Bl w j:=by
 obtain⟨y,la,z,rfl⟩:=o.form;obtain⟨f,lb,g,rfl⟩:=d.form;obtain⟨c,u,b⟩:=Ny 25 (.cell 25 (C y la z)) FB 25 (.cell 25 (C f lb g)) FB 25 (.cell 25 (C none 0 0)) FB 25 (.cell 25 (C none 0 0)) FB (w:=w);have l:=b.o;have m:=Ja (show Calls L 15 #[.agg #[C f lb g]] c λe j=>e=.returned (E F (-1))/\Bl c j from Yn (.agg #[C f lb g]) [] c (d.below l.2.2));clear o d l;go_enter func29,ntmps29
 go_upto_region 1 with fail
 rw[u.o];have c1:=(b.o.cell (i:=1) J).1.cell;go_wp2_with(go_at_call 15;refine m.o.mono ?_;clear m;rintro e k ⟨rfl,q⟩;have n:Bl k (k.alloc (G #[E F (-1)] 3)):=Ba k _;have a:=(b.o.below q).below n;have v:=(a.cell (i:=2) J).1.cell;have f2:=(a.cell (i:=2) J).1.frozen;have x:=(a.cell (i:=3) J).1.cell;have f3:=(a.cell (i:=3) J).1.frozen;have t:=Ja a.2.2;clear n a q)
 refine BM (by simp[results,results29,go_sem,v,x]) J ⟨J,?_⟩;exact((t.o.setCell (p:=⟨w.heap.size+1+1,0,none⟩) De _).setCell (p:=⟨w.heap.size+1+1+1,0,none⟩) De _)
def _root_.Go.Proofs.YtcahejkcdcjjgaaGreatDoor.ySplit_n(A:Nat)(j l:P)(ps qs:Y)(w:H)(f:Jj w j ps)(g:Jj w l qs)(_hs:Sqs ps)(n:∀i,DT A (cf qs i))(_htp:Jh ps=ps)(o:Jh qs=qs)(b:qs≠[])
(m:∀k,k<=ps.length-(qs.length-1)->∃z,z+(2*A+1)<=1000000000/\(k<ps.length-(qs.length-1)->2*z+2*(2*A+1)<=1000000000)/\(∀i,DT z (cf (Jq ps qs (qs.length-1) (ps.length-(qs.length-1)) k).2 i))/\∀i,DT (z+A) (cf (Jq ps qs (qs.length-1) (ps.length-(qs.length-1)) k).1 i)):
 Calls L 29 #[j,l] w λe a=>∃u v,e=.returned (.tuple #[u,v,N true])/\Jj a u (Y9 ps qs)/\Jj a v (XO ps qs)/\Bl w a:=by
 obtain⟨p,la,q,rfl⟩:=f.form;obtain⟨r,lb,s,rfl⟩:=g.form;have c:=f.row;have d:=g.row;obtain⟨x,_⟩:=c.forms;obtain⟨y,_⟩:=d.forms;have B:=AG.2 b;exact Vo A p r la q lb s (lb-1) (la-(lb-1)) ps qs w c d n o b (λk t=>by rw[show lb-1=qs.length-1 by omega,show la-(qs.length-1)=ps.length-(qs.length-1)by omega];exact m k Z) Z J
def Vq(A:Nat)(b c:P)(ps qs:Y)(w:H)(f:Jj w b ps)(g:Jj w c qs)(hs:Sqs ps)(m:∀i,DT A (cf qs i))(n:Jh ps=ps)(o:Jh qs=qs)
(j:qs≠[]->∀k,k<=ps.length-(qs.length-1)->∃z,z+(2*A+1)<=1000000000/\(k<ps.length-(qs.length-1)->2*z+2*(2*A+1)<=1000000000)/\(∀i,DT z (cf (Jq ps qs (qs.length-1) (ps.length-(qs.length-1)) k).2 i))/\∀i,DT (z+A) (cf (Jq ps qs (qs.length-1) (ps.length-(qs.length-1)) k).1 i)):
 Calls L 29 #[b,c] w λe d=>∃u v,e=.returned (.tuple #[u,v,N (decide (qs≠[]))])/\Jj d u (if qs=[]then []else Y9 ps qs)/\Jj d v (if qs=[]then []else XO ps qs)/\Bl w d:=by
 by_cases a:qs=[]
 . subst a;refine(Vp b ps c w f g).mono ?_;rintro e d ⟨rfl,h⟩;exact⟨_,_,J,⟨_,J,RowK.nil _ _⟩,⟨_,J,RowK.nil _ _⟩,h⟩
 . have l:decide (qs≠[])=true:=Bi a;rw[l];simp only[Bk a];exact ySplit_n A b c ps qs w f g hs m n o a (j a)
theorem PE(A:Nat)(a b:P)(ps qs:Y)(w:H)(r:Jj w a ps)(s:Jj w b qs)(q:1<=A)(hp:∀i,DT A (cf ps i))(d:∀i,DT A (cf qs i))(t:Jh ps=ps)(f:Jh qs=qs)(B:2^ps.length*(3*A+1)<=1000000000):
 Calls L 29 #[a,b] w λe c=>∃u v,e=.returned (.tuple #[u,v,N (decide (qs≠[]))])/\Jj c u (if qs=[]then []else Y9 ps qs)/\Jj c v (if qs=[]then []else XO ps qs)/\Bl w c:=by
 have y:1*(3*A+1)<=2^ps.length*(3*A+1):=Ac _ (Nat.one_le_two_pow);refine Vq A a b ps qs w r s (Sqs.of λi=>Sq.of (hp i) Z) d t f λj k K=>?_;obtain⟨z,x,l,o⟩:=PC (n:=qs.length-1) (m:=ps.length-(qs.length-1)) q hp d (JX f j) k;have g:k<=ps.length:=Z
 refine⟨z,?_,λQ=>?_,l,o⟩
 . have p:2^k*(3*A+1)<=2^ps.length*(3*A+1):=Ac _ (Am Z g);omega
 . have p:2^(k+1)*(3*A+1)<=2^ps.length*(3*A+1):=Ac _ (Am Z Z);grind[A9]
end M3
section
def KF(w V:H)(a rv:P)(Q R:Y):Prop:=RowK false V a Q/\RowK false V rv R/\Bl w V
def KF.below{w V V':H}{b rv:P}{Q R:Y}(h:KF w V b rv Q R)(a:Bl V V'):KF w V' b rv Q R:=⟨h.1.below a,h.2.1.below a,Bt h.2.2 a⟩
def L4(w wr V:H)(a rv:P)(Q R:Y):Prop:=KF w V a rv Q R/\Bl wr V
def L4.below{w wr V V':H}{b rv:P}{Q R:Y}(h:L4 w wr V b rv Q R)(a:Bl V V'):L4 w wr V' b rv Q R:=⟨h.1.below a,Bt h.2 a⟩
def GI(S:Nat->Y->Y->Prop)(la:Nat)(ps qs R Q:Y)(k:Nat):Prop:=
 Jh R=R/\Jh Q=Q/\k+R.length<=la/\Q.length<=la/\(∀x,ev ps x=ev qs x*ev Q x+ev R x)/\(∀i,i+qs.length<=R.length->cf Q i=0)/\S k R Q
structure DivS(A la:Nat)(S:Nat->Y->Y->Prop)(qs:Y):Prop where
 next:∀(k:Nat) (R Q:Y) (n:Nat) (a:Rat),S k R Q->(∀i,i+qs.length<=R.length->cf Q i=0)->qs.length<=R.length->n=R.length-qs.length->a=cf R (R.length-1)/cf qs (qs.length-1)->
  (∀i,cf (Eb R (JM (Jh (Dq n [a])) qs)) i=cf R i-(if n<=i then a*cf qs (i-n)else 0))->(∀i,cf (Xa Q (Jh (Dq n [a]))) i=if i=n then a else cf Q i)->S (k+1) (Eb R (JM (Jh (Dq n [a])) qs)) (Xa Q (Jh (Dq n [a])))
 size:∀(k:Nat) (R Q:Y),k<=la->S k R Q->Sqs R/\Sqs Q/\∃z,z+(2*A+1)<=1000000000/\∀i,DT z (cf R i)
variable{ps qs:Y}{S:Nat->Y->Y->Prop}
theorem GI.start(a:Jh ps=ps)(h:S 0 ps []):GI S ps.length ps qs ps [] 0:=by
 refine⟨a,J,Z,DQ,λx=>?_,λi _=>Yq i,h⟩;show _=ev qs x*0+_;grind
theorem GI.next{A la:Nat}{S:Nat->Y->Y->Prop}{ps qs R Q:Y}{k n:Nat}{a:Rat}(o:DivS A la S qs)(h:GI S la ps qs R Q k)(q:Jh qs=qs)(g:qs≠[])(hl:qs.length<=R.length)(f:n=R.length-qs.length)
(d:a=cf R (R.length-1)/cf qs (qs.length-1)):GI S la ps qs (Eb R (JM (Jh (Dq n [a])) qs)) (Xa Q (Jh (Dq n [a]))) (k+1):=by
 obtain⟨r,s,t,u,l,c,m⟩:=h;have w:0<qs.length:=AG.2 g;have j:∀i,cf (Eb R (JM (Jh (Dq n [a])) qs)) i=cf R i-(if n<=i then a*cf qs (i-n)else 0):=λi=>by rw[KZ,L3]
 have b:∀i,cf (Xa Q (Jh (Dq n [a]))) i=if i=n then a else cf Q i:=λi=>by
  rw[Fu,O7];split
  . rename_i e;rw[e,c n Z,Rat.zero_add]
  . exact Rat.add_zero _
 have v:=O9 q g hl f d;refine⟨KX _ _,Yz _ _,Z,IE (Yz _ _) λi p=>?_,λx=>?_,λi p=>?_,o.next k R Q n a m c hl f d j b⟩
 . rw[b,Bk Z,J2 Z]
 . rw[Xv,MJ,YV,O8,l x];grind
 . rw[b,Bk Z];exact c i Z
def GI.done{la:Nat}{R Q:Y}{k:Nat}(h:GI S la ps qs R Q k)(b:Jh qs=qs)(a:qs≠[])(hl:R.length<qs.length):Q=Y9 ps qs/\R=XO ps qs:=by
 obtain⟨f,g,_,_,i,_⟩:=h;obtain⟨c,d,e,g4⟩:=IQ ps qs b a;exact MH b a g e f g4 hl d (λx=>by rw[<-i x,<-c x])
def KG(s:ByteArray)(w:H):
 Calls L 25 #[D s] w λe z=>∃u,e=.returned u/\Jj z u (JW (Jd s)).1/\Bl w z:=by
 have t:=Ja λ(V:H)=>O1 s V;have b0:=Bb w 25 (C none 0 0);have j:Bl w (w.alloc (G #[C none 0 0] 25)):=Ba w _;obtain⟨T,n⟩:=ex (w.alloc (G #[C none 0 0] 25));obtain⟨A,l⟩:=ex (w.heap.size);rw[n]at b0 j;rw[l]at b0;obtain⟨B,x,R,y⟩:=Dw b0 j n l;clear b0 j n l;go_enter func25,ntmps25
 go_upto_region 1 with fail
 rw[R.o,y.o];go_upto_region 2 with(go_at_call 9;refine(t.o _).mono ?_;clear t;rintro e c ⟨u,W,p1,rfl,⟨rfl,rfl,o⟩,i⟩;obtain⟨a,b,c1,rfl⟩:=o.form)
 have f:Bl c (c.alloc (G #[C a b c1] 25)):=Ba c _;have q:=Bb c 25 (C a b c1);have d:=(B.o.bel i).bel f;have r:=o.row.below f;have k:=(Bt x.o i).trans (f.mono (Bt x.o i).size);obtain⟨U,g⟩:=ex (c.alloc (G #[C a b c1] 25));obtain⟨S,m⟩:=ex (c.heap.size);rw[g,m]at q;rw[g]at d r k;rw[g,m];have x1:=q.cell;have x0:=d.cell;have f0:=d.frozen;have K:=Ja (X7 d (C a b c1) r);have Q:=Ja (k.setCell (p:=⟨A,0,none⟩) (by rw[y.o];exact Aa _) (C a b c1));clear f q d r k g m o i;go_wp2_with fail
 exact BM (v:=.agg #[C a b c1]) (by simp[results,results25,go_sem,x0]) J ⟨_,J,⟨_,J,K.o⟩,Q.o⟩
def Vr(p q:Y):(JM p q).length<=p.length+q.length:=IE (IR _ _) λi a=>by unfold JM;rw[JU,Fs,Op p q a]
def Vs{A:Nat}(d:1<=A)(hp:∀i,DT A (cf ps i))(e:∀i,DT A (cf qs i))(f:Jh qs=qs)(a:qs≠[])(k:2^ps.length*(3*A+1)<=1000000000):Sqs (Y9 ps qs)/\Sqs (XO ps qs)/\(Y9 ps qs).length<=ps.length/\(XO ps qs).length<=ps.length:=by
 have l:0<qs.length:=AG.2 a;obtain⟨z,g,b,c⟩:=M3.PC (n:=qs.length-1) (m:=ps.length-(qs.length-1)) d hp e (JX f a) (ps.length-(qs.length-1));have j:2^(ps.length-(qs.length-1))*(3*A+1)<=2^ps.length*(3*A+1):=Ac _ (Am Z Z);have hl:=J7 ps qs (qs.length-1) (ps.length-(qs.length-1)) (ps.length-(qs.length-1));refine⟨Sqs.of λi=>?_,Sqs.of λi=>?_,?_,?_⟩
 . unfold Y9;rw[JU];exact Sq.of (c i) Z
 . unfold XO;rw[JU];exact Sq.of (b i) Z
 . unfold Y9;exact At (JV _) (by rw[hl.1];omega)
 . unfold XO;exact At (JV _) (by rw[hl.2];exact Aa _)
end
namespace M3
def Gg(ps:Y)(n i:Nat)(S:Y):Prop:=S.length=n/\∀j,cf S j=if j<i then EN ps j else 0
variable{S ps:Y}{n:Nat}
theorem Gg.next{i:Nat}(h:Gg ps n i S)(a:i<n):Gg ps n (i+1) (S.set i (EN ps i)):=by
 refine⟨by rw[CS];exact h.1,λj=>?_⟩;rw[XD _ _ _ _ (by rw[h.1];exact a),h.2 j];grind
def Gg.done(h:Gg ps n n S)(a:n=ps.length-1):Jh S=Jy ps:=X8 λj=>by
 rw[h.2 j,Gn];split
 . rfl
 . rw[J2 (p:=ps) Z,Rat.zero_mul]
def Gh(v:P)(ps:Y)(w:H)(h:Jj w v ps)(aq:Sqs ps)(ay:∀i,Sq (EN ps i)):
 Calls L 35 #[v] w λe w'=>∃u,e=.returned u/\Jj w' u (Jy ps)/\Bl w w':=by
 obtain⟨y,la,g,rfl⟩:=h.form;have ha:=h.row;obtain⟨an,az,ba,bg,s,t,aa,bb,ll,cc,kk,dd,ak⟩:=ha.forms;obtain⟨V0,ai,o⟩:=Ss 25 (.cell 25 (C y la g)) FB 25 (.cell 25 (C none 0 0)) FB (w:=w);have M1:=o.o;obtain⟨d,hd⟩:=ex ((ps.length:Int)-1:Int);have U:=Ja (Yn (.agg #[C y la g]) ps V0 (h.below M1.2.2));rw[hd]at U;obtain⟨n,hn⟩:=ex (ps.length-1:Nat);have Qd:max (0:Int) d=(n:Int):=Z
 have Qn:∀W:H,(Instr.makeSlice 23 (E F (n:Int)) (E F (n:Int))).run L W=.ok (C (some ⟨W.heap.size,0,none⟩) n n) (W.alloc (G (Yh n) 38)):=λW=>Hu n Z W;obtain⟨HP,Qi,Qk,A⟩:=Dw ak aq ay (show n=ps.length-1/\la=ps.length from⟨hn.symm,an⟩);have Qc:n<=1099511627776:=Z
 clear h ha ak aq ay an az ba hn hd M1;go_enter func35,ntmps35
 go_upto_region 1 with fail
 rw[ai.o];have c0:=(o.o.cell (i:=0) J).1.cell;go_upto_region 2 with(go_at_call 15;refine U.o.mono ?_;clear U;rintro e z ⟨rfl,aj⟩)
 have R:DS w (z.alloc (G (Yh n) 38)) [some (w.heap.size,.cell 25 (C y la g)),some (w.heap.size+1,.cell 25 (C none 0 0)),some (z.heap.size,.rats (WT n 0))]:=(o.o.below aj).push (.rats (WT n 0)) (PA _ n);obtain⟨V1,X⟩:=ex (z.alloc (G (Yh n) 38));obtain⟨r,ae⟩:=ex (z.heap.size);rw[X,ae]at R;rw[X,ae];have Qh:=Ja R;clear R X ae aj c0 o ai Qn Qd;go_wp2;go_loopw [11] (λiv wr=>∃(i:Nat) (S:Y),i<=n/\iv=E F (i:Int)/\Hid (Gg ps n i S)/\Hid (DS w wr [some (w.heap.size,.cell 25 (C y la g)),some (w.heap.size+1,.cell 25 (C none 0 0)),some (r,.rats S)])) λiv _=>n-(intOf iv).toNat
 case atStart=>exact⟨0,_,AN _,J,Ja ⟨AC,λj=>by rw[JQ,Bk Z]⟩,Qh⟩
 case round=>
  obtain⟨i,S,hi,rfl,c,m⟩:=hrel;clear Qh;by_cases ap:i<n
  . have bh:(i:Int)<(n:Int):=Z
    obtain⟨K,hK⟩:=ex (i+1:Nat);have bc:(i:Int)+1=(K:Int):=Z
    have bf:F.wrap (K:Int)=(K:Int):=by rw[C9];omega
    have bd:(K:Int)<(la:Int):=by have:=A.o;omega
    obtain⟨am,a,rfl,l,p0,p1,p2,p3⟩:=HP.o K (by have:=A.o;omega);have Qo:=Ja (show ∀V,Bl w V->(V.cell? ⟨a,K*4,none⟩=some (N (s K))/\V.cell? ⟨a,K*4+1,none⟩=some (C (aa K) (ll K) (cc K))/\V.cell? ⟨a,K*4+2,none⟩=some (N (t K))/\V.cell? ⟨a,K*4+3,none⟩=some (C (bb K) (kk K) (dd K)))/\Jg V (.agg #[N (s K),C (aa K) (ll K) (cc K),N (t K),C (bb K) (kk K) (dd K)]) (cf ps K)from λV k=>by
     exact⟨⟨(k.cell (p:=⟨a,_,none⟩) l).trans p0,(k.cell (p:=⟨a,_,none⟩) l).trans p1,(k.cell (p:=⟨a,_,none⟩) l).trans p2,(k.cell (p:=⟨a,_,none⟩) l).trans p3⟩,am.below k⟩)
    have Q:=Ja (show K<=1099511627776/\K=i+1 by omega);have Qm:=Ja (show cf ps K*((K:Int):Rat)=EN ps i by rw[Q.o.2];rfl);have Qp:=Ja (show i<S.length by rw[c.o.1];exact ap);clear am l p0 p1 p2 p3 hK;go_wp2_with fail
    have Qj:=m.o.drew;refine Et Dl [[],[],[],[2],[],[4],[3,5],[6],[],[8],[9],[7,10,10],[0,1,0,1,2,3,4,5,6,7,8,9,10,11],[12,11,11,0,1,2,3,4,5,6,7,8,9,10,11]] [.eq (C (some ⟨r,0,none⟩) n n),.eq (E F (i:Int)),.eq (M (some ⟨w.heap.size,0,none⟩)),.eq (C (some ⟨a,0,none⟩) la g),.eq (E F (i:Int)),.eq (E F (K:Int)),.eq (M (some ⟨a,K*4,none⟩)),.rat (cf ps K),.eq (E F (i:Int)),.eq (E F (K:Int)),.rat ((K:Int):Rat),.rat (EN ps i),.eq (M (some ⟨r,i*4,none⟩)),.eq I] [13] (λb _ V=>DS w V [some (w.heap.size,.cell 25 (C (some ⟨a,0,none⟩) la g)),some (w.heap.size+1,.cell 25 (C none 0 0)),some (r,if b.getD 0 false then .rats (S.set i (EN ps i))else .rats S)]) Qj (WR (.vl J λ_ _=>mv)<|WR (.vl J λ_ _=>mv)<|WR (.vl J λ_ _=>⟨_,by refine Db ?_;go_simp,J⟩)<|WR (.vl J λh j=>⟨_,by have e0:=(j.cell (i:=0) J).1.cell;refine Db ?_;rw[h.e 2];go_simp,J⟩)<|WR (.vl J λ_ _=>mv)<|WR (.vl J λh _=>⟨_,by refine Db ?_;rw[h.e 4];go_simp,J⟩)<|WR (.vl J λh _=>⟨_,by refine Db ?_;rw[h.e 3,h.e 5];go_simp,J⟩)<|WR (.vl J λh j=>by obtain⟨⟨e0,e1,e2,e3⟩,hr⟩:=Qo.o _ j.2.2;exact⟨_,by refine Db ?_;rw[h.e 6];go_simp,hr⟩)<|WR (.vl J λ_ _=>mv)<|WR (.vl J λh _=>⟨_,by refine Db ?_;rw[h.e 8];go_simp,J⟩)<|WR (.cl λh _=>c1 (h.e 9) (Ln (K:Int) Z (by have:=Q.o;omega) _))<|WR (.cl λh _=>Qm.o ▸ Ga _ _ (cf ps K) ((K:Int):Rat) _ (h.g 7) (h.g 10) (Qi.o.at K) (UM Q.o.1))<|WR (.vl J λh _=>⟨_,by refine Db ?_;rw[h.e 0,h.e 1];go_simp,J⟩)<|WR (.wr J λh j=>Lg 2 j Qp.o (h.g 11) (h.e 12)) Stp.end_)
     λf V hF q=>?_
    refine Db ?_;rw[hF.e 0,hF.e 1,hF.e 2,hF.e 3,hF.e 4,hF.e 5,hF.e 6,hF.e 8,hF.e 9,hF.e 12];have q:=FI q;have HO:=Ja q;clear q hF;go_wp2_with fail
    go_roundw
    case rel=>exact⟨i+1,_,Z,by go_num,Ja (c.o.next ap),HO⟩
    case measure=>simp[intOf];omega
  . obtain rfl:i=n:=Z
    have hE:=m.o.rats (i:=2) J;have B:=hE.row (n:=i) (cap:=i) (by rw[c.o.1];exact Aa _) (Aa _) Z Qc;rw[Ad (by rw[c.o.1];exact Aa _)]at B;have T:=Ja (X0 _ S wr B (Sqs.of λj=>by
     rw[c.o.2 j];split
     . exact Qk.o j
     . exact FW))
    rw[c.o.done A.o.1]at T;clear hE B;go_wp2_with(go_at_call 65;refine T.o.mono ?_;clear T;rintro e w5 ⟨u5,rfl,ah,_,ad⟩;obtain⟨a7,l7,c7,rfl⟩:=ah.form;have x:=boxed_below (m.o.cell (i:=1) J).1 ad;have x0:=x.cell;have x1:=x.frozen;have Qq:=Ja (X7 x (C a7 l7 c7) ah.row);have Ql:=Ja ((Bt m.o.2.2 ad).setCell (p:=⟨w.heap.size+1,0,none⟩) (by show w.heap.size<=w.heap.size+1;omega) (C a7 l7 c7));clear ah ad x)
    exact BM (by simp[results,results35,go_sem,x0]) J ⟨_,J,⟨_,J,Qq.o⟩,Ql.o⟩
end M3
variable{ps:Y}{A X:Nat}{x:Rat}
def Vt(d:DT X x):∀l:Y,(∀i,DT A (cf l i))->DT (l.length*(A+X+1)+1) (ev l x):=by
 intro l;induction l with
 |nil=>intro _;exact DT.zero _ DQ
 |cons c t e=>
  intro h;have b:=e (λi=>by have:=h (i+1);rwa[JN]at this);have a:=h 0;rw[J5]at a;rw[ev,Ag,AL];exact(a.add2 (d.mul2 b)).mono Z
def Gi(b:DT X x)(hp:∀i,DT A (cf ps i))(d:ps.length*(A+X+1)+1+X<=1000000000):M3.EC ps x:=λn=>by
 have a:=Vt b (ps.drop n) (λi=>by
  have e:cf (ps.drop n) i=cf ps (n+i):=by simp[cf]
  rw[e];exact hp _)
 have c:(ps.drop n).length*(A+X+1)<=ps.length*(A+X+1):=Ac _ (by rw[AW];omega);exact⟨Sq.of a Z,Sq.of (a.mul2 b) Z⟩
def L5(hp:∀i,DT A (cf ps i))(hl:ps.length<=1000000000)(b:A+1<=1000000000)(i:Nat):Sq (EN ps i):=by
 unfold EN;by_cases h:i+1<ps.length
 . have a:DT 1 ((((i+1:Nat):Int)):Rat):=⟨by unfold Sm;rw[Rat.num_intCast];unfold O;simp;omega,by unfold Sm;rw[Rat.den_intCast];unfold O;decide⟩;exact Sq.of ((hp (i+1)).mul2 a) b
 . rw[J2 Z,Rat.zero_mul];exact FW
def L6(h:∀i,Sq (EN ps i)):Sqs (Jy ps):=Sqs.of λi=>by unfold Jy;rw[JU,Gn];exact h i
def L7(ps:Y):(Jy ps).length<=ps.length:=At (JV _) (by simp[Ft])

