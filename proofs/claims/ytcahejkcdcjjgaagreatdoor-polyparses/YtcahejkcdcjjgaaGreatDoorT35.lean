import Derived.Test.YtcahejkcdcjjgaaGreatDoorT34
set_option linter.all false
open Go.Value renaming int->C,slice->H,string->D
open Go.IntKind renaming i64->F
open Go.Obj renaming cells->G
open Go renaming World->I
open Go.Proofs.Tryz renaming prog->K
set_option maxRecDepth 99999
set_option maxHeartbeats 0
namespace Go.Proofs.YtcahejkcdcjjgaaGreatDoor
open Proofs.Tryz
open Go.RowKit Go.Shelf
attribute [local go_sem] Oper.semAt_some
section
variable{cs:Array Value}{l:List UInt8}{m:Nat × Nat}{t:TypeId}{W W':I}
def Su(p q:Addr)(w:I):
 CallsD K 89 #[.pointer (some p),.pointer (some q)] .returning w λe d f=>e=.returned (.tuple #[])/\d=.returning/\f=w.alloc (G #[C F 0,C F 0] 77):=by
 have a:∀w:I,(Instr.typeAssert Value.nilIface 20 77 true).run K w=.ok (.tuple #[.agg #[C F 0,C F 0],.bool false]) w:=λ_=>by kernel_rfl
 refine callsD_of_wpS func89 J λb cs c=>?_;apply wpS_seq;apply wpS_region;simp[wpOpsS,go_sem,recoverD,c,ntmps89,Exit.thenS,a];apply wpS_seq;apply wpS_region;simp[wpOpsS,go_sem,Exit.thenS];refine wpS_cond (t:=false) (by simp[Act.eval,Array.replicate]) ?_;simp only[CC,if_false];refine wpS_of_wp (wp_skip ?_);cases b;simp_all [bodyPostS,results,results89]
def Sv(p q:Nat)(a p0:Int)(w:I)(g:Boxed w p 25 (H none 0 0))(i:Jg w q 77 (C F 0) (C F 0))(l:p≠q):
 CallsD K 89 #[.pointer (some ⟨p,0,none⟩),.pointer (some ⟨q,0,none⟩)] (.panicking [{ v:=XG a p0,recovered:=false }]) w λe N m=>e=.returned (.tuple #[])/\N=.panicking [{ v:=XG a p0,recovered:=true }]/\Boxed m p 25 (H none 0 0)/\Jg m q 77 (C F a) (C F p0)/\∀n w0,Below n w0 w->n<=w.heap.size->n<=p->n<=q->Below n w0 m:=by
 unfold XG;have o:∀w:I,(Instr.typeAssert (.iface 77 (.agg #[C F a,C F p0])) 20 77 true).run K w=.ok (.tuple #[.agg #[C F a,C F p0],.bool true]) w:=λ_=>by kernel_rfl
 refine callsD_of_wpS func89 J λP cs z=>?_;apply wpS_seq;apply wpS_region;simp[wpOpsS,go_sem,recoverD,z,ntmps89,Exit.thenS,o];apply wpS_seq;apply wpS_region;simp[wpOpsS,go_sem,Exit.thenS];refine wpS_cond (t:=true) (by simp[Act.eval,Array.replicate]) ?_;simp only[if_true];refine wpS_of_wp ?_;simp[Array.replicate];have d:=Jg.new w 77 (C F a) (C F p0);have c:=g.alloc (G #[C F a,C F p0] 77);have b:=i.alloc (G #[C F a,C F p0] 77);have E:p≠w.heap.size:=by have:=g.lt;omega
 have L:q≠w.heap.size:=by have:=i.lt;omega
 have f:=Z λ(n:Nat) (w0:I) (h:Below n w0 w) (k:n<=w.heap.size)=>h.alloc k (G #[C F a,C F p0] 77);obtain⟨W,j⟩:=ex (w.alloc (G #[C F a,C F p0] 77));rw[j]at d c b f;rw[j];obtain⟨D,s⟩:=ex (w.heap.size);rw[s]at d E L f;rw[s];clear j g i o z;obtain⟨d0,d1⟩:=d.cp;have x0:=c.cell;have x1:=c.frozen;obtain⟨Q,R⟩:=b.cp;obtain⟨z0,S⟩:=b.fp;have A:=Z c;have B:=Z b;clear c b d;go_region
 have u:Boxed (((W.setCell ⟨p,0,none⟩ (H none 0 0)).setCell ⟨q,0,none⟩ (C F a)).setCell ⟨q,1,none⟩ (C F p0)).drew p 25 (H none 0 0):=
  (BG _ ⟨q,1,none⟩ (C F p0) p l).trans ((BG _ ⟨q,0,none⟩ (C F a) p l).trans (A.o.set (H none 0 0)))
 have x:Jg (((W.setCell ⟨p,0,none⟩ (H none 0 0)).setCell ⟨q,0,none⟩ (C F a)).setCell ⟨q,1,none⟩ (C F p0)).drew q 77 (C F a) (C F p0):=
  (((B.o.far (p:=⟨p,0,none⟩) (λe=>l e.symm) _).set0 _).set1 _).drew
 have y:∀n w0,Below n w0 w->n<=D->n<=p->n<=q->Below n w0 (((W.setCell ⟨p,0,none⟩ (H none 0 0)).setCell ⟨q,0,none⟩ (C F a)).setCell ⟨q,1,none⟩ (C F p0)).drew:=
  λn w0 h k M r=>((((f.o n w0 h k).setCell (p:=⟨p,0,none⟩) M _).setCell (p:=⟨q,0,none⟩) r _).setCell (p:=⟨q,1,none⟩) r _).drew
 generalize (((W.setCell ⟨p,0,none⟩ (H none 0 0)).setCell ⟨q,0,none⟩ (C F a)).setCell ⟨q,1,none⟩ (C F p0)).drew=V at u x y ⊢;simp[bodyPostS,results,results89];exact⟨u,x,y⟩
theorem Sw(s:ByteArray)(g q0:Int)(w:I)(q:∀V R,DL V R s 0->Calls K 90 #[.pointer (some ⟨R,0,none⟩)] V λr l=>V.grownBy l (some R)/\r=.panicked [{ v:=XG g q0,recovered:=false }]):
 Calls K 44 #[D s] w λr l=>r=.returned (.tuple #[.agg #[H none 0 0],.agg #[C F g,C F q0]])/\Bl w l:=by
 have S:∀(fn:Fn) (first cap:Array Value) (w:I),(Instr.makeFunc fn first cap).run K w=.ok (.func fn first cap) w:=λ_ _ _ _=>rfl;have o:=Z q;clear q;go_enter_defers func44,ntmps44
 go_upto_region 3 with fail
 have b:=BJ w 25 (H none 0 0);have a:=Jg.new (w.alloc (G #[H none 0 0] 25)) 77 (C F 0) (C F 0);have c:DL (((w.alloc (G #[H none 0 0] 25)).alloc (G #[C F 0,C F 0] 77)).alloc (G #[D s,C F 0] 124)) ((w.alloc (G #[H none 0 0] 25)).alloc (G #[C F 0,C F 0] 77)).heap.size s 0:=BD _ _;rw[A1,A1]at c;rw[A1]at a;replace b:=(b.alloc (G #[C F 0,C F 0] 77)).alloc (G #[D s,C F 0] 124);replace a:=a.alloc (G #[D s,C F 0] 124);have j:Bl w (((w.alloc (G #[H none 0 0] 25)).alloc (G #[C F 0,C F 0] 77)).alloc (G #[D s,C F 0] 124)):=((Ba w _).alloc (by rw[A1];omega) _).alloc (by rw[A1,A1];omega) _;have u:(((w.alloc (G #[H none 0 0] 25)).alloc (G #[C F 0,C F 0] 77)).alloc (G #[D s,C F 0] 124)).heap.size=w.heap.size+1+1+1:=by rw[A1,A1,A1]
 obtain⟨V,i⟩:=ex (((w.alloc (G #[H none 0 0] 25)).alloc (G #[C F 0,C F 0] 77)).alloc (G #[D s,C F 0] 124));rw[i]at b a c j u;rw[i];obtain⟨y,m,n,z⟩:=Dk b a j (o.o _ _ c);clear b a c j i o u;go_wp2_with(go_at_call 90;refine z.o.mono ?_;rintro e x ⟨t,rfl⟩;have d:=Z t;clear t)
 have B:Boxed x w.heap.size 25 (H none 0 0):=y.o.kept d.o (λe=>by have:=AY e;omega);have A:Jg x (w.heap.size+1) 77 (C F 0) (C F 0):=(d.o.block _ m.o.lt λe=>by have:=AY e;omega).trans m.o;have p:=n.o.grown d.o n.o.size (λk e=>by grind);refine leaves_cons (f:=89) (args:=#[.pointer (some ⟨w.heap.size,0,none⟩),.pointer (some ⟨w.heap.size+1,0,none⟩)]) C9 (by simp[go_sem]) ?_;refine(Sv w.heap.size (w.heap.size+1) g q0 _ B A Y).mono ?_;rintro e T U ⟨rfl,rfl,E,L,M⟩;have N:=M _ _ p p.size (Aa _) Y;have x0:=E.cell;obtain⟨P,Q⟩:=L.cp;simp[Leaves,settle,results,results44,go_sem,x0,P,Q];exact N
theorem Sx{F:Nat}(hF:W.heap[F]?=some (G cs t m))(j:t=77)(hg:W.grownBy W' (some F)):∀k v ds,Row k W v ds->Row k W' v ds:=by
 intro k v ds c;obtain⟨a,cap,e,_⟩:=id c;subst e;refine c.grown hg λp g hl=>?_;obtain⟨b,n,f,d,l,i⟩:=c.typ hl;grind
def M7{F:Nat}(hF:W.heap[F]?=some (G cs t m))(g:t=77)(hg:W.grownBy W' (some F)){r:Bool}{v:Value}{qs:X}(h:RowK r W v qs):RowK r W' v qs:=by
 obtain⟨a,cap,e,k,c,l,d⟩:=h;refine⟨a,cap,e,k,c,l,?_⟩;rcases d with d|⟨b,i,f⟩
 . exact Ao d
 . refine Aw ⟨b,i,f.keep (hg.block b f.lt λe=>?_) (Sx hF g hg)⟩;obtain⟨n,j,_⟩:=f;have e:=AY e;subst e;have:=j.symm.trans hF;simp only[A0,Obj.cells.injEq]at this;subst g;have c:=this.2.1;revert c;cases r<;>(show ¬(_=_);decide)
theorem Sy(s:ByteArray)(ps:List Rat)(w:I)(hP:∀V R,DL V R s 0->Calls K 90 #[.pointer (some ⟨R,0,none⟩)] V λr i=>V.grownBy i (some R)/\∃u,r=.returned u/\Yj i u ps):
 Calls K 44 #[D s] w λr i=>∃u,r=.returned (.tuple #[u,.agg #[C F 0,C F 0]])/\Yj i u ps/\Bl w i:=by
 have ae:∀(fn:Fn) (first cap:Array Value) (w:I),(Instr.makeFunc fn first cap).run K w=.ok (.func fn first cap) w:=λ_ _ _ _=>rfl;have S:=Z hP;clear hP;go_enter_defers func44,ntmps44
 go_upto_region 3 with fail
 have g:=BJ w 25 (H none 0 0);have c:=Jg.new (w.alloc (G #[H none 0 0] 25)) 77 (C F 0) (C F 0);have m:DL (((w.alloc (G #[H none 0 0] 25)).alloc (G #[C F 0,C F 0] 77)).alloc (G #[D s,C F 0] 124)) ((w.alloc (G #[H none 0 0] 25)).alloc (G #[C F 0,C F 0] 77)).heap.size s 0:=BD _ _;rw[A1,A1]at m;rw[A1]at c;replace g:=(g.alloc (G #[C F 0,C F 0] 77)).alloc (G #[D s,C F 0] 124);replace c:=c.alloc (G #[D s,C F 0] 124);have E:Bl w (((w.alloc (G #[H none 0 0] 25)).alloc (G #[C F 0,C F 0] 77)).alloc (G #[D s,C F 0] 124)):=((Ba w _).alloc (by rw[A1];omega) _).alloc (by rw[A1,A1];omega) _;have hz:(((w.alloc (G #[H none 0 0] 25)).alloc (G #[C F 0,C F 0] 77)).alloc (G #[D s,C F 0] 124)).heap.size=w.heap.size+1+1+1:=by rw[A1,A1,A1]
 obtain⟨V,B⟩:=ex (((w.alloc (G #[H none 0 0] 25)).alloc (G #[C F 0,C F 0] 77)).alloc (G #[D s,C F 0] 124));rw[B]at g c m E hz;rw[B];obtain⟨H0,N,Q,HC⟩:=Dk g c E (S.o _ _ m);clear g c m E B S hz;go_wp2_with(go_at_call 90;refine HC.o.mono ?_;rintro e M ⟨ad,u1,rfl,L⟩;have n:=Z ad;obtain⟨a,d,b,rfl⟩:=L.form;have HU:=Z L.row;have l:Boxed M w.heap.size 25 (H none 0 0):=H0.o.kept n.o (λe=>by have:=AY e;omega);have j:Jg M (w.heap.size+1) 77 (C F 0) (C F 0):=(n.o.block _ N.o.lt λe=>by have:=AY e;omega).trans N.o;have x0:=l.cell;have x1:=l.frozen;obtain⟨y0,y1⟩:=j.cp;obtain⟨z0,z1⟩:=j.fp;have P:=Z l;have H3:=Z j;clear ad L l j)
 have o:w.heap.size+1≠w.heap.size:=Y
 have Qd:=Q.o.grown n.o Q.o.size (λk e=>by grind);have T:=P.o.set (H a d b);have U:=Fq P.o (H a d b) HU.o;have x:=H3.o.far (p:=⟨w.heap.size,0,none⟩) o (H a d b);have W:=Qd.setCell (p:=⟨w.heap.size,0,none⟩) (Aa _) (H a d b);generalize M.setCell ⟨w.heap.size,0,none⟩ (H a d b)=q at T U x W ⊢;have X:=(BG q ⟨w.heap.size+1,0,none⟩ (C F 0) w.heap.size λe=>o e.symm).trans T;have b2:=M7 x J (Ju q (w.heap.size+1) 0 (C F 0)) U;have y:=x.set0 (C F 0);have b4:=W.setCell (p:=⟨w.heap.size+1,0,none⟩) DN (C F 0);generalize q.setCell ⟨w.heap.size+1,0,none⟩ (C F 0)=t at X b2 y b4 ⊢;have d1:=(BG t ⟨w.heap.size+1,1,none⟩ (C F 0) w.heap.size λe=>o e.symm).trans X;have d2:=M7 y J (Ju t (w.heap.size+1) 1 (C F 0)) b2;have z:=y.set1 (C F 0);have A:=b4.setCell (p:=⟨w.heap.size+1,1,none⟩) DN (C F 0);generalize t.setCell ⟨w.heap.size+1,1,none⟩ (C F 0)=v at d1 d2 z A ⊢;refine leaves_cons (f:=89) (args:=#[.pointer (some ⟨w.heap.size,0,none⟩),.pointer (some ⟨w.heap.size+1,0,none⟩)]) C9 (by simp[go_sem]) ?_;refine(Su ⟨w.heap.size,0,none⟩ ⟨w.heap.size+1,0,none⟩ _).mono ?_;rintro e u' w2 ⟨rfl,rfl,rfl⟩;have e1:Boxed v w.heap.size 25 (H a d b):=d1;have f1:=(e1.alloc (G #[C F 0,C F 0] 77)).cell;have f2:=(z.alloc (G #[C F 0,C F 0] 77)).c0;have f3:=(z.alloc (G #[C F 0,C F 0] 77)).c1;have f4:=A.alloc A.size (G #[C F 0,C F 0] 77);have f5:=d2.below (Ba v (G #[C F 0,C F 0] 77));generalize v.alloc (G #[C F 0,C F 0] 77)=W5 at f1 f2 f3 f4 f5 ⊢;simp[Leaves,settle,results,results44,go_sem,f1,f2,f3];exact⟨⟨_,J,f5⟩,f4⟩
def M8:∀(f:Nat) (b:Bool) (I m:Nat) (S d:X) (k:Nat),I<=l.length->m<=I->Yq S m->Dj l f b I S=.ok d k->∃s,s<=l.length/\Yq d s:=by
 intro f;induction f with
 |zero=>intro b I m S d k _ _ _ h;cases h
 |succ f r=>
  intro b I m S d k q x t h;cases g:JV l I with
  |error e p=>rw[KC g]at h;cases h
  |ok a u=>
   obtain⟨c,n⟩:=a;have o:=Hd q g;have i:=t.next (My q g) o.2.2 b;have v:=Es l u;have w:=J9 o.2.1;rw[KD g]at h;split at h
   . rename_i j;have:=JZ j;exact r _ _ (m+1) _ _ _ Y Y i h
   . split at h
     . rename_i j;have:=JZ j;exact r _ _ (m+1) _ _ _ Y Y i h
     . split at h
       . cases h;exact⟨m+1,Y,i⟩
       . cases h
def Sz{S:X}{k:Nat}(h:X9 l=.ok S k):∃m,m<=l.length/\Yq S m:=by
 unfold X9 at h;have a:=J9 (l:=l) (i:=0) Y;split at h
 . rename_i b;have:=JZ b;exact M8 _ _ _ 0 _ _ _ Y Y Yq.start h
 . exact M8 _ _ _ 0 _ _ _ a Y Yq.start h
theorem S0(l:List UInt8):(JU l).1.length<=9/\∀i,DM 601 (cf (JU l).1 i):=by
 by_cases h:300<l.length
 . grind[JU,EP,DM.zero]
 . rw[Gk h];cases a:X9 l with
   |error e p=>grind[Gj,EP,DM.zero]
   |ok S k=>
    obtain⟨m,b,hs⟩:=Sz a;rw[show(Gj (EStateM.Result.ok S k)).1=Jv S from J];exact⟨AB (Yh _) (by rw[hs.1];exact Aa _),λi=>by rw[YE];exact(hs.2 i).mono Y⟩
def FD(l:List UInt8)(a:I)(u:Value)(e p:Int):Prop:=e=((JU l).2.1:Int)/\p=((JU l).2.2:Int)/\Yj a u (JU l).1
def TA(s:ByteArray)(hs:s.size<=300)(w:I):
 Calls K 44 #[D s] w λr a=>∃u e p,r=.returned (.tuple #[u,.agg #[C F e,C F p]])/\FD (Je s) a u e p/\Bl w a:=by
 have b:=Gk (l:=Je s) (by rw[Jf];omega);cases c:X9 (Je s)with
 |error g q0=>
  rw[c]at b;refine(Sw s g q0 w λV R d=>(Mz R s V d hs).mono λr a h=>⟨h.1,h.2.1 _ _ c⟩).mono ?_;rintro r a ⟨rfl,f⟩;refine⟨_,_,_,J,?_,f⟩;rw[FD,b];exact⟨J,J,_,J,RowK.nil _ _⟩
 |ok S k=>
  rw[c]at b;refine(Sy s (Jv S) w λV R d=>(Mz R s V d hs).mono λr a h=>⟨h.1,by obtain⟨u,i,j,_⟩:=h.2.2 _ _ c;exact⟨u,i,j⟩⟩).mono ?_;rintro r a ⟨u,rfl,m,f⟩;refine⟨_,_,_,J,?_,f⟩;rw[FD,b];exact⟨J,J,m⟩
def M9(s:ByteArray)(w:I):
 Calls K 9 #[D s] w λr L=>∃u e p,r=.returned (.tuple #[u,C F e,C F p])/\FD (Je s) L u e p/\Bl w L:=by
 by_cases t:300<s.size
 . have W:(300:Int)<(s.size:Int):=Y
   have M:=Z (show JU (Je s)=([],1,0)by unfold JU;rw[BL (by rw[Jf];exact t)]);clear t;go_enter func9,ntmps9
   go_wp2;exact BA (v:=.tuple #[.agg #[H none 0 0],C F 1,C F 0]) (by simp[results,results9,go_sem]) J ⟨_,_,_,J,by rw[FD,M.o];exact⟨J,J,_,J,RowK.nil _ _⟩,Ba w _⟩
 . have W:¬(300:Int)<(s.size:Int):=Y
   have x:=Z λ(V:I)=>TA s Y V;clear t;go_enter func9,ntmps9
   go_upto_region 4 with(go_at_call 44;refine(x.o _).mono ?_;clear x;rintro e a ⟨u1,g,p1,rfl,b,c⟩;obtain⟨d,j,f,rfl⟩:=b.2.2.form;have n:=Z b;have m:=Z c;clear b c)
   have S:w.heap.size<a.heap.size:=by have:=m.o.size;rw[A1]at this;omega
   have q0:Boxed a w.heap.size 25 (H none 0 0):=(m.o.block _ (by rw[A1];omega)).trans (BJ w 25 (H none 0 0));have A:=(Ba w _).trans (m.o.mono (by rw[A1];omega));have i:=BJ a 25 (H d j f);have k:=Jg.new (a.alloc (G #[H d j f] 25)) 77 (C F g) (C F p1);rw[A1]at k;replace i:=i.alloc (G #[C F g,C F p1] 77);have l:Bl a ((a.alloc (G #[H d j f] 25)).alloc (G #[C F g,C F p1] 77)):=(Ba a _).alloc (by rw[A1];omega) _;have q1:=(l.block _ q0.lt).trans q0;have c:=Bt A l;have b:=n.o.2.2.row.below l;have E:=Z (⟨n.o.1,n.o.2.1⟩:g=_/\p1=_);have y:w.heap.size≠a.heap.size:=Y
   have z:w.heap.size≠a.heap.size+1:=Y
   generalize (a.alloc (G #[H d j f] 25)).alloc (G #[C F g,C F p1] 77)=U at i k l q1 c b ⊢;clear l q0 A m n S;obtain⟨Q,o⟩:=ex (w.heap.size);obtain⟨B,q⟩:=ex (a.heap.size);rw[q]at i k y z;rw[o]at q1 y z;rw[q,o];have q2:Boxed U Q 25 (H none 0 0):=q1;have x0:=i.cell;obtain⟨X,y1⟩:=k.cp;have z0:=q2.cell;have z1:=q2.frozen;obtain⟨R,P,T,N⟩:=Dk q2 o c b;clear i k q1 q2 o q c b;go_region
   go_wp2_with fail
   have r0:=z0;refine BA (v:=.tuple #[.agg #[H d j f],C F g,C F p1]) (by simp[results,results9,go_sem,r0]) J ⟨_,_,_,J,⟨E.o.1,E.o.2,_,J,?_⟩,?_⟩
   . exact(Fq R.o (H d j f) N.o).below ((BB _ _).drew)
   . exact(T.o.setCell (p:=⟨Q,0,none⟩) (by rw[P.o];exact Aa _) _).drew
end
variable{ps qs:X}{A k:Nat}{q:Rat}
theorem TB(h:DM k q):(JL q).length<=40*k+5:=by
 have a:=XD q.num;have b:=XD (q.den:Int);have c:=h.1.words;have d:=h.2.words;grind[JL]
theorem DM.abs(h:DM k q):DM k (YA q):=by
 grind[Fr,DM,Sm]
theorem TC{c:Rat}(h:DM k c){i:Nat}(e:i<O)(f:Bool):(YY c i f).length<=40*k+40:=by
 have a:=TB h.abs;have b:=Xz i;have d:(Jb O i).length<=1:=Jz Jc DN;grind[Xk,Ym,XE,YY]
theorem TD(h:∀i,DM k (cf ps i))(hl:ps.length<=O):∀(d m:Nat),ps.length-m=d->(JM (ps.drop m) m).length<=d*(40*k+40):=by
 intro d;induction d with
 |zero=>
  intro m b;grind[List.drop_of_length_le,JM]
 |succ d a=>
  intro m b;have a:=a (m+1) Y;rw[Y8 ps (by omega:m<ps.length)];have c:=TC (h m) (by omega:m<O) (JM (ps.drop (m+1)) (m+1)).isEmpty;grind
def NA(h:Sqs ps)(hl:ps.length<=3000)(m:Nat):(JM (ps.drop m) m).length<=140737488355328:=by
 have a:=TD (λi=>(h.at i).sm) uo _ m J;omega
theorem TE(z:X)(i:Nat)(a:Rat)(q:X):∀(j k:Nat),i+j<=k->cf (Y3 z i a q j) k=cf z k:=by
 intro j;induction j with
 |zero=>intro k _;rfl
 |succ j c=>
  intro k b;grind[Y3,Ea,CI]
theorem NB(z:X)(i:Nat)(a:Rat)(q:X):∀(j k:Nat),cf (Y3 z i a q j) k=cf z k\/cf (Y3 z i a q j) k=cf z k+a*cf q (k-i):=by
 intro j;induction j with
 |zero=>intro k;exact Ao J
 |succ j b=>
  intro k;grind[Y3,Ea,TE,CI]
theorem NC(hp:∀i,DM A (cf ps i))(b:∀j,DM A (cf qs j))(n:Nat):∀(i k:Nat),DM (min i ps.length*(A+A+1)+1) (cf (Y4 ps qs n i) k):=by
 intro i;induction i with
 |zero=>intro k;grind[Y4,Yx,DM.zero]
 |succ i a=>
  intro k;rw[Y4];rcases NB (Y4 ps qs n i) i (cf ps i) qs qs.length k with e|e
  . rw[e];exact(a k).mono (by have:min i ps.length*(A+A+1)<=min (i+1) ps.length*(A+A+1):=Af _ Y;omega)
  . rw[e];by_cases c:i<ps.length
    . rw[show min (i+1) ps.length=min i ps.length+1 from by omega,Cn];exact((a k).add2 ((hp i).mul (b (k-i)))).mono Y
    grind[XW]
def TF(hp:∀i,DM A (cf ps i))(a:∀j,DM A (cf qs j))(c:(ps.length+1)*(A+A+1)+1<=1000000000):M3.I0 ps qs:=by
 have hle:A+A+1<=(ps.length+1)*(A+A+1):=Cd _ Y;refine⟨λi j=>Sq.of ((hp i).mul (a j)) Y,λn i j k=>?_⟩;have b:=NC hp a n i k;have d:min i ps.length*(A+A+1)<=ps.length*(A+A+1):=Af _ Y;rw[Cn]at c;rcases NB (Y4 ps qs n i) i (cf ps i) qs j k with e|e
 . rw[e];exact Sq.of b Y
 . rw[e];exact Sq.of (b.add2 ((hp i).mul (a (k-i)))) Y
theorem TG(hp:∀i,DM A (cf ps i))(a:∀j,DM A (cf qs j))(k:Nat):DM (ps.length*(A+A+1)+1) (cf (FV ps qs) k):=by
 unfold FV;rw[YE,KO];have h:=NC hp a (ps.length+qs.length) ps.length k;grind[KP]
def Xq:X:=[Rat.divInt 1 2,1]
def FE:X:=[Rat.divInt 1 4,1,1]
def TH:JU [120,32,43,32,49,47,50]=(Xq,0,0):=FR
def ND:FV Xq Xq=FE:=FR
def _root_.Go.Boxed.bel{W W':I}{B:Nat}{t:TypeId}{v:Value}(h:Boxed W B t v)(a:Bl W W'):Boxed W' B t v:=(a.block B h.lt).trans h
def TI:X6 FE=[120,94,50,43,120,43,49,47,52]:=FR
def Fx(i:Nat):DM 1 (cf Xq i):=by
 rcases i with _|_|i
 . exact⟨by show Sm 1 1;unfold Sm O;decide,by show Sm 1 2;unfold Sm O;decide⟩
 . exact⟨by show Sm 1 1;unfold Sm O;decide,by show Sm 1 1;unfold Sm O;decide⟩
 . rw[XW (by simp[Xq])];exact DM.zero 1 Y
def NE:Sqs Xq:=Sqs.of λi=>Sq.of (Fx i) Y
def NF:Sqs FE:=Sqs.of λi=>by rw[<-ND];exact Sq.of (TG Fx Fx i) (by simp[Xq])
def NG(e:Int)(w:I):Calls K 12 #[C F e] w λr a=>r=.returned (C F e)/\Bl w a:=by
 go_enter func12,ntmps12
 go_wp2;go_ret;exact⟨J,BB _ _⟩
def TJ(w:I)(Q:FB w):Calls K 19 #[] w λr v=>r=.returned (.bool true)/\Bl w v:=by
 have R:=Z Q;have N:=Z (λ(V:I)=>show Calls K 9 #[D ⟨#[120,32,43,32,49,47,50]⟩] V λr v=>∃u,r=.returned (.tuple #[u,C F 0,C F 0])/\Yj v u Xq/\Bl V v from
  (M9 ⟨#[120,32,43,32,49,47,50]⟩ V).mono (λr v h=>by
   obtain⟨u,e,p,T,P,U⟩:=h;rw[FD,show Je ⟨#[120,32,43,32,49,47,50]⟩=[120,32,43,32,49,47,50]from J,TH]at P;obtain⟨rfl,rfl,W⟩:=P;exact⟨u,T,W,U⟩))
 have c:=Z (BB w.heap.size w);clear Q;go_enter func19,ntmps19
 go_upto_region 2 with(go_at_call 9;refine(N.o _).mono ?_;clear N;rintro e o ⟨u,rfl,j,b⟩;obtain⟨A,E,c1,rfl⟩:=j.form)
 replace c:=Z (Bt c.o b);have d:Bl o (o.alloc (G #[H A E c1] 25)):=Ba o _;have k:=BJ o 25 (H A E c1);have g:=j.below d;replace c:=Z (Bt c.o d);clear d;obtain⟨z,f⟩:=ex (o.alloc (G #[H A E c1] 25));obtain⟨X,i⟩:=ex (o.heap.size);rw[f]at g c;rw[f,i]at k;rw[f];rw[i];clear f i;clear j b;have l:=Z λ(V:I) (h:Bl z V)=>M3.RZ _ _ Xq Xq V (g.below h) (g.below h) NE NE (TF Fx Fx (by simp[Xq])) (by simp[Xq]);rw[ND]at l;have a:Bl z z:=BB _ _;have S:=(k.bel a).cell;go_upto_region 3 with(go_at_call 28;refine(l.o _ a).mono ?_;clear l;rintro e q ⟨u,rfl,j,_,b⟩;obtain⟨B,L,c2,rfl⟩:=j.form)
 replace b:=Bt a b
 clear a S;replace k:=k.bel b;replace g:=g.below b;replace c:=Z (Bt c.o b);clear b;have d:Bl q (q.alloc (G #[H B L c2] 25)):=Ba q _;have t:=BJ q 25 (H B L c2);have M:=j.below d;replace k:=k.bel d;replace g:=g.below d;replace c:=Z (Bt c.o d);clear d;obtain⟨s,f⟩:=ex (q.alloc (G #[H B L c2] 25));obtain⟨BQ,i⟩:=ex (q.heap.size);rw[f]at k g M c;rw[f,i]at t;rw[f];rw[i];clear f i;clear j;have l:=Z λ(V:I) (h:Bl s V)=>NG 0 V;have x:=Z λ(V:I) (h:Bl s V)=>I5 _ FE V (M.below h) NF (λm=>NA NF (by simp[FE]) m) (JS R.o (Bt c.o h));rw[TI]at x;have y:=Z λ(V:I) (h:Bl s V)=>Ix _ FE V (M.below h);rw[show((FE.length:Int)-1)=2 from J]at y;have a:Bl s s:=BB _ _;have n:=(t.bel a).cell;go_wp2_with(first
  |(go_at_call 12;refine(l.o _ a).mono ?_;clear l;rintro e x1 ⟨rfl,b⟩;replace a:=Bt a b;clear b n;have n:=(t.bel a).cell)
  |(go_at_call 13;refine(x.o _ a).mono ?_;clear x;rintro e x2 ⟨rfl,b⟩;replace a:=Bt a b;clear b n;have n:=(t.bel a).cell)
  |(go_at_call 15;refine(y.o _ a).mono ?_;clear y;rintro e x3 ⟨rfl,b⟩;replace a:=Bt a b;clear b n;have n:=(t.bel a).cell))
 go_ret;exact⟨J,Bt c.o a⟩
def TK:X6 []=[48]:=DG
def TL(l:List UInt8):Jv (JU l).1=(JU l).1:=by
 by_cases h:300<l.length
 . rw[show JU l=([],1,0)by unfold JU;rw[BL h]];rfl
 . rw[Gk h];cases X9 l with
   |error e p=>rfl
   |ok S k=>exact NK _
def _root_.Go.Proofs.YtcahejkcdcjjgaaGreatDoor.RowK.isPoly{V:I}{a:TS}{l c:Nat}(h:RowK true V (H a l c) ps):Yj V (.agg #[H a l c]) ps:=⟨_,J,h⟩
def TM(s:ByteArray)(i:Int)(hs:s.size<=140737488351232)(w:I)(ai:FB w):
 Calls K 3 #[D s,C F i] w λr w'=>r=.returned (.bool true)/\Bl w w':=by
 have X:=Z ai;have Qe:=S0 (Je s);have Qf:=TL (Je s);obtain⟨ps,ad⟩:=ex ((JU (Je s)).1);obtain⟨E,hE⟩:=ex ((JU (Je s)).2.1:Nat);obtain⟨A,g⟩:=ex ((JU (Je s)).2.2:Nat);have HC:=Z λ(V:I)=>M9 s V;have HD:=Z λ(V:I)=>SC s hs V;unfold FD at HC;unfold D4 at HD;rw[ad,hE,g]at HC HD;rw[ad]at Qe Qf;have hQ:Sqs ps:=Sqs.of λi=>Sq.of (Qe.2 i) Y;obtain⟨HQ,Qm,Qn⟩:=DQ hQ (λm=>NA hQ Y m) Qf;have Qg:ps.length<=9:=Qe.1;have Qo:F.wrap ((ps.length:Int)-1)=(ps.length:Int)-1:=by rw[IntKind.wrap_i64];omega
 obtain⟨c,hc⟩:=ex ((if i<0 then 0 else cf ps i.toNat));have Qh:=Z (show Sq c by
  rw[<-hc];split
  . exact Sq.of (DM.zero 1 Y) Y
  . exact HQ.o.at _)
 have Qi:=Z hc;obtain⟨n,hn⟩:=ex (ps.length);rw[hn]at Qg Qo;have HN:=Z hn;obtain⟨T1,ae⟩:∃S:ByteArray,⟨(X6 ps).toArray⟩=S:=⟨_,J⟩;obtain⟨T2,ah⟩:∃S:ByteArray,⟨(JL c).toArray⟩=S:=⟨_,J⟩;obtain⟨Ql,Qj,j⟩:=DQ ae ah (BB w.heap.size w);clear ai ad hE g Qe Qf hQ hc hn ae ah hs;go_enter func3,ntmps3
 go_upto_region 2 with(go_at_call 9;refine(HC.o _).mono ?_;clear HC;rintro e U ⟨u,e1,p1,rfl,⟨rfl,rfl,z⟩,b⟩;obtain⟨a1,l1,c1,rfl⟩:=z.form)
 replace j:=Z (Bt j.o b);have g:Bl U (U.alloc (G #[H a1 l1 c1] 25)):=Ba U _;have d:=BJ U 25 (H a1 l1 c1);have B:=z.row.below g;replace j:=Z (Bt j.o g);clear g;obtain⟨VP,y⟩:=ex (U.alloc (G #[H a1 l1 c1] 25));obtain⟨BP,N⟩:=ex (U.heap.size);rw[y]at B j;rw[y,N]at d;rw[y];rw[N];clear y N;clear z b;go_upto_region 3 with(go_at_call 10;refine(HD.o _).mono ?_;clear HD;rintro e R ⟨u,e2,p2,rfl,⟨rfl,rfl,z,_,_⟩,b⟩;obtain⟨a2,c2,ee,_⟩:=id z;rw[HN.o]at ee;subst ee)
 replace d:=d.bel b;replace B:=B.below b;replace j:=Z (Bt j.o b);clear b;have P:=z;clear z;go_upto_region 4 with fail
 have z:=RowK.nil true R;have g:Bl R (R.alloc (G #[H none 0 0] 25)):=Ba R _;have x:=BJ R 25 (H none 0 0);have Q:=z.below g;replace d:=d.bel g;replace B:=B.below g;replace P:=P.below g;replace j:=Z (Bt j.o g);clear g;obtain⟨VN,y⟩:=ex (R.alloc (G #[H none 0 0] 25));obtain⟨BN,N⟩:=ex (R.heap.size);rw[y]at d B P Q j;rw[y,N]at x;rw[y];rw[N];clear y N;clear z;have T:=Z λ(V:I) (h:Bl VN V)=>RV _ ps i V (B.below h).isPoly;rw[Qi.o]at T;have a:Bl VN VN:=BB _ _;have f:=(d.bel a).cell;go_upto_region 5 with(go_at_call 11;refine(T.o _ a).mono ?_;clear T;rintro e W ⟨u,rfl,z,b⟩;obtain⟨s3,a3,l3,c3,t3,b3,k3,d3,rfl⟩:=Jk.form z)
 replace b:=Bt a b
 clear a f;replace d:=d.bel b;replace B:=B.below b;replace P:=P.below b;replace x:=x.bel b;replace Q:=Q.below b;replace j:=Z (Bt j.o b);clear b;have g:Bl W (W.alloc (G #[.bool s3,H a3 l3 c3,.bool t3,H b3 k3 d3] 38)):=Ba W _;have L:=JB.new W 38 (.bool s3) (H a3 l3 c3) (.bool t3) (H b3 k3 d3);have rC:=z.below g;replace d:=d.bel g;replace B:=B.below g;replace P:=P.below g;replace x:=x.bel g;replace Q:=Q.below g;replace j:=Z (Bt j.o g);clear g;obtain⟨M,y⟩:=ex (W.alloc (G #[.bool s3,H a3 l3 c3,.bool t3,H b3 k3 d3] 38));obtain⟨BC,N⟩:=ex (W.heap.size);rw[y]at d B P x Q rC j;rw[y,N]at L;rw[y];rw[N];clear y N;clear z;have T:=Z λ(V:I) (h:Bl M V)=>NG (E:Int) V;have H2:=Z λ(V:I) (h:Bl M V)=>I5 _ ps V (B.below h).isPoly HQ.o Qm.o (JS X.o (Bt j.o h));rw[Ql.o]at H2;have H3:=Z λ(V:I) (h:Bl M V)=>Ss _ ps V (P.below h) HQ.o Qm.o Qn.o (JS X.o (Bt j.o h));rw[Ql.o]at H3;have H4:=Z λ(V:I) (h:Bl M V)=>Ix _ ps V (B.below h).isPoly;rw[HN.o]at H4;have H5:=Z λ(V:I) (h:Bl M V)=>MG _ c V (rC.below h) Qh.o (JS X.o (Bt j.o h));rw[Qj.o]at H5;have H6:=Z λ(V:I) (h:Bl M V)=>I8 _ ps i V (P.below h);rw[Qi.o]at H6;have H7:=Z λ(V:I) (v:Value) (hv:Jp V v c)=>MH v c V hv Qh.o;rw[Qj.o]at H7;have H8:=Z λ(V:I) (h:Bl M V)=>I5 _ [] V (Q.below h).isPoly (Sqs.of λi=>Sq.of (k:=1) (by rw[EP];exact DM.zero 1 Y) Y) (λm=>by simp[JM]) (JS X.o (Bt j.o h));rw[TK]at H8;have H9:=Z λ(V:I) (h:Bl M V)=>Ix _ [] V (Q.below h).isPoly;rw[show((([]:List Rat).length:Int)-1)=-1 from J]at H9;have Qk:=Z λ(V:I) (h:Bl M V)=>TJ V (JS X.o (Bt j.o h));have a:Bl M M:=BB _ _;have f:=(d.bel a).cell;obtain⟨p,o,q,l⟩:=(L.below a).cq;have t:=(x.bel a).cell;go_wp2_with(first
  |(go_at_call 12;refine(T.o _ a).mono ?_;clear T;rintro e x1 ⟨rfl,b⟩;replace a:=Bt a b;clear b f p o q l t;have f:=(d.bel a).cell;obtain⟨p,o,q,l⟩:=(L.below a).cq;have t:=(x.bel a).cell)
  |(go_at_call 13;refine(H2.o _ a).mono ?_;clear H2;rintro e x2 ⟨rfl,b⟩;replace a:=Bt a b;clear b f p o q l t;have f:=(d.bel a).cell;obtain⟨p,o,q,l⟩:=(L.below a).cq;have t:=(x.bel a).cell)
  |(go_at_call 14;refine(H3.o _ a).mono ?_;clear H3;rintro e x3 ⟨rfl,b⟩;replace a:=Bt a b;clear b f p o q l t;have f:=(d.bel a).cell;obtain⟨p,o,q,l⟩:=(L.below a).cq;have t:=(x.bel a).cell)
  |(go_at_call 15;refine(H4.o _ a).mono ?_;clear H4;rintro e x4 ⟨rfl,b⟩;replace a:=Bt a b;clear b f p o q l t;have f:=(d.bel a).cell;obtain⟨p,o,q,l⟩:=(L.below a).cq;have t:=(x.bel a).cell)
  |(go_at_call 16;refine(H5.o _ a).mono ?_;clear H5;rintro e x5 ⟨rfl,b⟩;replace a:=Bt a b;clear b f p o q l t;have f:=(d.bel a).cell;obtain⟨p,o,q,l⟩:=(L.below a).cq;have t:=(x.bel a).cell)
  |(go_at_call 18;refine(H6.o _ a).mono ?_;clear H6;rintro e x6 ⟨v7,rfl,gv,b⟩;replace a:=Bt a b;clear b f p o q l t;have f:=(d.bel a).cell;obtain⟨p,o,q,l⟩:=(L.below a).cq;have t:=(x.bel a).cell)
  |(go_at_call 17;refine(H7.o _ _ gv).mono ?_;clear H7;rintro e x7 ⟨rfl,b⟩;replace a:=Bt a b;clear b f p o q l t;have f:=(d.bel a).cell;obtain⟨p,o,q,l⟩:=(L.below a).cq;have t:=(x.bel a).cell)
  |(go_at_call 13;refine(H8.o _ a).mono ?_;clear H8;rintro e x8 ⟨rfl,b⟩;replace a:=Bt a b;clear b f p o q l t;have f:=(d.bel a).cell;obtain⟨p,o,q,l⟩:=(L.below a).cq;have t:=(x.bel a).cell)
  |(go_at_call 15;refine(H9.o _ a).mono ?_;clear H9;rintro e x9 ⟨rfl,b⟩;replace a:=Bt a b;clear b f p o q l t;have f:=(d.bel a).cell;obtain⟨p,o,q,l⟩:=(L.below a).cq;have t:=(x.bel a).cell)
  |(go_at_call 19;refine(Qk.o _ a).mono ?_;clear Qk;rintro e aj ⟨rfl,b⟩;replace a:=Bt a b;clear b f p o q l t;have f:=(d.bel a).cell;obtain⟨p,o,q,l⟩:=(L.below a).cq;have t:=(x.bel a).cell))
 go_ret;exact⟨J,Bt j.o a⟩

