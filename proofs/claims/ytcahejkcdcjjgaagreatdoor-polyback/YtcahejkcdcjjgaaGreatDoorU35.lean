import Derived.Test.YtcahejkcdcjjgaaGreatDoorU34
set_option linter.all false
open Go.Value renaming int->C,slice->G,string->I,tuple->M,bool->B,pointer->P
open Go.IntKind renaming i64->F
open Go.Obj renaming cells->H
open Go renaming World->L
open Go.Proofs.Tryz renaming prog->N
set_option maxRecDepth 99999
set_option maxHeartbeats 0
namespace Go.Proofs.YtcahejkcdcjjgaaGreatDoor
open Proofs.Tryz
open Go.RowKit Go.Shelf
attribute [local go_sem] Oper.semAt_some
section
variable{cs:Array Value}{l:List UInt8}{m:Nat × Nat}{t:TypeId}{W W':L}
def Su(p q:Addr)(w:L):
 CallsD N 89 #[P (some p),P (some q)] .returning w λe d f=>e=.returned (M #[])/\d=.returning/\f=w.alloc (H #[C F 0,C F 0] 77):=by
 have a:∀w:L,(Instr.typeAssert Value.nilIface 20 77 true).run N w=.ok (M #[.agg #[C F 0,C F 0],B false]) w:=λ_=>by kernel_rfl
 refine callsD_of_wpS func89 J λb cs c=>?_;apply wpS_seq;apply wpS_region;simp[wpOpsS,go_sem,recoverD,c,ntmps89,Exit.thenS,a];apply wpS_seq;apply wpS_region;simp[wpOpsS,go_sem,Exit.thenS];refine wpS_cond (t:=false) (by simp[Act.eval,Array.replicate]) ?_;simp only[CE,if_false];refine wpS_of_wp (wp_skip ?_);cases b;simp_all [bodyPostS,results,results89]
def Sv(p q:Nat)(a p0:Int)(w:L)(g:Boxed w p 25 (G none 0 0))(i:Jg w q 77 (C F 0) (C F 0))(l:p≠q):
 CallsD N 89 #[P (some ⟨p,0,none⟩),P (some ⟨q,0,none⟩)] (.panicking [{ v:=XH a p0,recovered:=false }]) w λe S m=>e=.returned (M #[])/\S=.panicking [{ v:=XH a p0,recovered:=true }]/\Boxed m p 25 (G none 0 0)/\Jg m q 77 (C F a) (C F p0)/\∀n w0,Below n w0 w->n<=w.heap.size->n<=p->n<=q->Below n w0 m:=by
 unfold XH;have o:∀w:L,(Instr.typeAssert (.iface 77 (.agg #[C F a,C F p0])) 20 77 true).run N w=.ok (M #[.agg #[C F a,C F p0],B true]) w:=λ_=>by kernel_rfl
 refine callsD_of_wpS func89 J λT cs z=>?_;apply wpS_seq;apply wpS_region;simp[wpOpsS,go_sem,recoverD,z,ntmps89,Exit.thenS,o];apply wpS_seq;apply wpS_region;simp[wpOpsS,go_sem,Exit.thenS];refine wpS_cond (t:=true) (by simp[Act.eval,Array.replicate]) ?_;simp only[if_true];refine wpS_of_wp ?_;simp[Array.replicate];have d:=Jg.new w 77 (C F a) (C F p0);have c:=g.alloc (H #[C F a,C F p0] 77);have b:=i.alloc (H #[C F a,C F p0] 77);have K:p≠w.heap.size:=by have:=g.lt;omega
 have Q:q≠w.heap.size:=by have:=i.lt;omega
 have f:=Ja λ(n:Nat) (w0:L) (h:Below n w0 w) (k:n<=w.heap.size)=>h.alloc k (H #[C F a,C F p0] 77);obtain⟨W,j⟩:=ex (w.alloc (H #[C F a,C F p0] 77));rw[j]at d c b f;rw[j];obtain⟨D,s⟩:=ex (w.heap.size);rw[s]at d K Q f;rw[s];clear j g i o z;obtain⟨d0,d1⟩:=d.cp;have x0:=c.cell;have x1:=c.frozen;obtain⟨U,X⟩:=b.cp;obtain⟨z0,z1⟩:=b.fp;have A:=Ja c;have E:=Ja b;clear c b d;go_region
 have u:Boxed (((W.setCell ⟨p,0,none⟩ (G none 0 0)).setCell ⟨q,0,none⟩ (C F a)).setCell ⟨q,1,none⟩ (C F p0)).drew p 25 (G none 0 0):=
  (BF _ ⟨q,1,none⟩ (C F p0) p l).trans ((BF _ ⟨q,0,none⟩ (C F a) p l).trans (A.o.set (G none 0 0)))
 have x:Jg (((W.setCell ⟨p,0,none⟩ (G none 0 0)).setCell ⟨q,0,none⟩ (C F a)).setCell ⟨q,1,none⟩ (C F p0)).drew q 77 (C F a) (C F p0):=
  (((E.o.far (p:=⟨p,0,none⟩) (λe=>l e.symm) _).set0 _).set1 _).drew
 have y:∀n w0,Below n w0 w->n<=D->n<=p->n<=q->Below n w0 (((W.setCell ⟨p,0,none⟩ (G none 0 0)).setCell ⟨q,0,none⟩ (C F a)).setCell ⟨q,1,none⟩ (C F p0)).drew:=
  λn w0 h k R r=>((((f.o n w0 h k).setCell (p:=⟨p,0,none⟩) R _).setCell (p:=⟨q,0,none⟩) r _).setCell (p:=⟨q,1,none⟩) r _).drew
 generalize (((W.setCell ⟨p,0,none⟩ (G none 0 0)).setCell ⟨q,0,none⟩ (C F a)).setCell ⟨q,1,none⟩ (C F p0)).drew=V at u x y ⊢;simp[bodyPostS,results,results89];exact⟨u,x,y⟩
theorem Sw(s:ByteArray)(g q0:Int)(w:L)(q:∀V R,DH V R s 0->Calls N 90 #[P (some ⟨R,0,none⟩)] V λr l=>V.grownBy l (some R)/\r=.panicked [{ v:=XH g q0,recovered:=false }]):
 Calls N 44 #[I s] w λr l=>r=.returned (M #[.agg #[G none 0 0],.agg #[C F g,C F q0]])/\Bl w l:=by
 have W:∀(fn:Fn) (first cap:Array Value) (w:L),(Instr.makeFunc fn first cap).run N w=.ok (.func fn first cap) w:=λ_ _ _ _=>rfl;have o:=Ja q;clear q;go_enter_defers func44,ntmps44
 go_upto_region 3 with fail
 have b:=BJ w 25 (G none 0 0);have a:=Jg.new (w.alloc (H #[G none 0 0] 25)) 77 (C F 0) (C F 0);have c:DH (((w.alloc (H #[G none 0 0] 25)).alloc (H #[C F 0,C F 0] 77)).alloc (H #[I s,C F 0] 124)) ((w.alloc (H #[G none 0 0] 25)).alloc (H #[C F 0,C F 0] 77)).heap.size s 0:=BC _ _;rw[A1,A1]at c;rw[A1]at a;replace b:=(b.alloc (H #[C F 0,C F 0] 77)).alloc (H #[I s,C F 0] 124);replace a:=a.alloc (H #[I s,C F 0] 124);have j:Bl w (((w.alloc (H #[G none 0 0] 25)).alloc (H #[C F 0,C F 0] 77)).alloc (H #[I s,C F 0] 124)):=((Ba w _).alloc (by rw[A1];omega) _).alloc (by rw[A1,A1];omega) _;have u:(((w.alloc (H #[G none 0 0] 25)).alloc (H #[C F 0,C F 0] 77)).alloc (H #[I s,C F 0] 124)).heap.size=w.heap.size+1+1+1:=by rw[A1,A1,A1]
 obtain⟨V,i⟩:=ex (((w.alloc (H #[G none 0 0] 25)).alloc (H #[C F 0,C F 0] 77)).alloc (H #[I s,C F 0] 124));rw[i]at b a c j u;rw[i];obtain⟨y,m,n,z⟩:=Df b a j (o.o _ _ c);clear b a c j i o u;go_wp2_with(go_at_call 90;refine z.o.mono ?_;rintro e x ⟨t,rfl⟩;have d:=Ja t;clear t)
 have D:Boxed x w.heap.size 25 (G none 0 0):=y.o.kept d.o (λe=>by have:=AU e;omega);have A:Jg x (w.heap.size+1) 77 (C F 0) (C F 0):=(d.o.block _ m.o.lt λe=>by have:=AU e;omega).trans m.o;have p:=n.o.grown d.o n.o.size (λk e=>by grind);refine leaves_cons (f:=89) (args:=#[P (some ⟨w.heap.size,0,none⟩),P (some ⟨w.heap.size+1,0,none⟩)]) B5 (by simp[go_sem]) ?_;refine(Sv w.heap.size (w.heap.size+1) g q0 _ D A Y).mono ?_;rintro e X w2 ⟨rfl,rfl,E,K,Q⟩;have S:=Q _ _ p p.size (Aa _) Y;have x0:=E.cell;obtain⟨T,U⟩:=K.cp;simp[Leaves,settle,results,results44,go_sem,x0,T,U];exact S
theorem Sx{F:Nat}(hF:W.heap[F]?=some (H cs t m))(j:t=77)(hg:W.grownBy W' (some F)):∀k v ds,Row k W v ds->Row k W' v ds:=by
 intro k v ds c;obtain⟨a,cap,e,_⟩:=id c;subst e;refine c.grown hg λp g hl=>?_;obtain⟨b,n,f,d,l,i⟩:=c.typ hl;grind
def NH{F:Nat}(hF:W.heap[F]?=some (H cs t m))(g:t=77)(hg:W.grownBy W' (some F)){r:Bool}{v:Value}{qs:Z}(h:RowK r W v qs):RowK r W' v qs:=by
 obtain⟨a,cap,e,k,c,l,d⟩:=h;refine⟨a,cap,e,k,c,l,?_⟩;rcases d with d|⟨b,i,f⟩
 . exact Ao d
 . refine Ax ⟨b,i,f.keep (hg.block b f.lt λe=>?_) (Sx hF g hg)⟩;obtain⟨n,j,_⟩:=f;have e:=AU e;subst e;have:=j.symm.trans hF;simp only[A0,Obj.cells.injEq]at this;subst g;have c:=this.2.1;revert c;cases r<;>(show ¬(_=_);decide)
theorem Sy(s:ByteArray)(ps:Z)(w:L)(hP:∀V R,DH V R s 0->Calls N 90 #[P (some ⟨R,0,none⟩)] V λr i=>V.grownBy i (some R)/\∃u,r=.returned u/\Yp i u ps):
 Calls N 44 #[I s] w λr i=>∃u,r=.returned (M #[u,.agg #[C F 0,C F 0]])/\Yp i u ps/\Bl w i:=by
 have ae:∀(fn:Fn) (first cap:Array Value) (w:L),(Instr.makeFunc fn first cap).run N w=.ok (.func fn first cap) w:=λ_ _ _ _=>rfl;have W:=Ja hP;clear hP;go_enter_defers func44,ntmps44
 go_upto_region 3 with fail
 have g:=BJ w 25 (G none 0 0);have c:=Jg.new (w.alloc (H #[G none 0 0] 25)) 77 (C F 0) (C F 0);have m:DH (((w.alloc (H #[G none 0 0] 25)).alloc (H #[C F 0,C F 0] 77)).alloc (H #[I s,C F 0] 124)) ((w.alloc (H #[G none 0 0] 25)).alloc (H #[C F 0,C F 0] 77)).heap.size s 0:=BC _ _;rw[A1,A1]at m;rw[A1]at c;replace g:=(g.alloc (H #[C F 0,C F 0] 77)).alloc (H #[I s,C F 0] 124);replace c:=c.alloc (H #[I s,C F 0] 124);have E:Bl w (((w.alloc (H #[G none 0 0] 25)).alloc (H #[C F 0,C F 0] 77)).alloc (H #[I s,C F 0] 124)):=((Ba w _).alloc (by rw[A1];omega) _).alloc (by rw[A1,A1];omega) _;have hz:(((w.alloc (H #[G none 0 0] 25)).alloc (H #[C F 0,C F 0] 77)).alloc (H #[I s,C F 0] 124)).heap.size=w.heap.size+1+1+1:=by rw[A1,A1,A1]
 obtain⟨V,D⟩:=ex (((w.alloc (H #[G none 0 0] 25)).alloc (H #[C F 0,C F 0] 77)).alloc (H #[I s,C F 0] 124));rw[D]at g c m E hz;rw[D];obtain⟨H0,S,U,HC⟩:=Df g c E (W.o _ _ m);clear g c m E D W hz;go_wp2_with(go_at_call 90;refine HC.o.mono ?_;rintro e Q ⟨ad,u1,rfl,K⟩;have n:=Ja ad;obtain⟨a,d,b,rfl⟩:=K.form;have HU:=Ja K.row;have l:Boxed Q w.heap.size 25 (G none 0 0):=H0.o.kept n.o (λe=>by have:=AU e;omega);have j:Jg Q (w.heap.size+1) 77 (C F 0) (C F 0):=(n.o.block _ S.o.lt λe=>by have:=AU e;omega).trans S.o;have x0:=l.cell;have x1:=l.frozen;obtain⟨y0,y1⟩:=j.cp;obtain⟨z0,z1⟩:=j.fp;have T:=Ja l;have H3:=Ja j;clear ad K l j)
 have o:w.heap.size+1≠w.heap.size:=Y
 have Qd:=U.o.grown n.o U.o.size (λk e=>by grind);have X:=T.o.set (G a d b);have a2:=F7 T.o (G a d b) HU.o;have x:=H3.o.far (p:=⟨w.heap.size,0,none⟩) o (G a d b);have a4:=Qd.setCell (p:=⟨w.heap.size,0,none⟩) (Aa _) (G a d b);generalize Q.setCell ⟨w.heap.size,0,none⟩ (G a d b)=q at X a2 x a4 ⊢;have b1:=(BF q ⟨w.heap.size+1,0,none⟩ (C F 0) w.heap.size λe=>o e.symm).trans X;have b2:=NH x J (Jt q (w.heap.size+1) 0 (C F 0)) a2;have y:=x.set0 (C F 0);have b4:=a4.setCell (p:=⟨w.heap.size+1,0,none⟩) DJ (C F 0);generalize q.setCell ⟨w.heap.size+1,0,none⟩ (C F 0)=t at b1 b2 y b4 ⊢;have d1:=(BF t ⟨w.heap.size+1,1,none⟩ (C F 0) w.heap.size λe=>o e.symm).trans b1;have d2:=NH y J (Jt t (w.heap.size+1) 1 (C F 0)) b2;have z:=y.set1 (C F 0);have A:=b4.setCell (p:=⟨w.heap.size+1,1,none⟩) DJ (C F 0);generalize t.setCell ⟨w.heap.size+1,1,none⟩ (C F 0)=v at d1 d2 z A ⊢;refine leaves_cons (f:=89) (args:=#[P (some ⟨w.heap.size,0,none⟩),P (some ⟨w.heap.size+1,0,none⟩)]) B5 (by simp[go_sem]) ?_;refine(Su ⟨w.heap.size,0,none⟩ ⟨w.heap.size+1,0,none⟩ _).mono ?_;rintro e u' w2 ⟨rfl,rfl,rfl⟩;have e1:Boxed v w.heap.size 25 (G a d b):=d1;have f1:=(e1.alloc (H #[C F 0,C F 0] 77)).cell;have f2:=(z.alloc (H #[C F 0,C F 0] 77)).c0;have f3:=(z.alloc (H #[C F 0,C F 0] 77)).c1;have f4:=A.alloc A.size (H #[C F 0,C F 0] 77);have f5:=d2.below (Ba v (H #[C F 0,C F 0] 77));generalize v.alloc (H #[C F 0,C F 0] 77)=W5 at f1 f2 f3 f4 f5 ⊢;simp[Leaves,settle,results,results44,go_sem,f1,f2,f3];exact⟨⟨_,J,f5⟩,f4⟩
def NI:∀(f:Nat) (b:Bool) (I m:Nat) (S d:Z) (k:Nat),I<=l.length->m<=I->Yv S m->XX l f b I S=.ok d k->∃s,s<=l.length/\Yv d s:=by
 intro f;induction f with
 |zero=>intro b I m S d k _ _ _ h;cases h
 |succ f r=>
  intro b I m S d k q x t h;cases g:JR l I with
  |error e p=>rw[Fe g]at h;cases h
  |ok a u=>
   obtain⟨c,n⟩:=a;have o:=X1 q g;have i:=t.next (NE q g) o.2.2 b;have v:=Ef l u;have w:=J9 o.2.1;rw[GB g]at h;split at h
   . rename_i j;have:=JU j;exact r _ _ (m+1) _ _ _ Y Y i h
   . split at h
     . rename_i j;have:=JU j;exact r _ _ (m+1) _ _ _ Y Y i h
     . split at h
       . cases h;exact⟨m+1,Y,i⟩
       . cases h
def Sz{S:Z}{k:Nat}(h:XG l=.ok S k):∃m,m<=l.length/\Yv S m:=by
 unfold XG at h;have a:=J9 (l:=l) (i:=0) Y;split at h
 . rename_i b;have:=JU b;exact NI _ _ _ 0 _ _ _ Y Y Yv.start h
 . exact NI _ _ _ 0 _ _ _ a Y Yv.start h
theorem S0(l:List UInt8):(Jp l).1.length<=9/\∀i,DI 601 (cf (Jp l).1 i):=by
 by_cases h:300<l.length
 . grind[Jp,Ed,DI.zero]
 . rw[GC h];cases a:XG l with
   |error e p=>grind[G0,Ed,DI.zero]
   |ok S k=>
    obtain⟨m,b,hs⟩:=Sz a;rw[show(G0 (EStateM.Result.ok S k)).1=Jv S from J];exact⟨AB (J7 _) (by rw[hs.1];exact Aa _),λi=>by rw[YK];exact(hs.2 i).mono Y⟩
def Es(l:List UInt8)(a:L)(u:Value)(e p:Int):Prop:=e=((Jp l).2.1:Int)/\p=((Jp l).2.2:Int)/\Yp a u (Jp l).1
def TA(s:ByteArray)(hs:s.size<=300)(w:L):
 Calls N 44 #[I s] w λr a=>∃u e p,r=.returned (M #[u,.agg #[C F e,C F p]])/\Es (Jc s) a u e p/\Bl w a:=by
 have b:=GC (l:=Jc s) (by rw[Jf];omega);cases c:XG (Jc s)with
 |error g q0=>
  rw[c]at b;refine(Sw s g q0 w λV R d=>(NF R s V d hs).mono λr a h=>⟨h.1,h.2.1 _ _ c⟩).mono ?_;rintro r a ⟨rfl,f⟩;refine⟨_,_,_,J,?_,f⟩;rw[Es,b];exact⟨J,J,_,J,RowK.nil _ _⟩
 |ok S k=>
  rw[c]at b;refine(Sy s (Jv S) w λV R d=>(NF R s V d hs).mono λr a h=>⟨h.1,by obtain⟨u,i,j,_⟩:=h.2.2 _ _ c;exact⟨u,i,j⟩⟩).mono ?_;rintro r a ⟨u,rfl,m,f⟩;refine⟨_,_,_,J,?_,f⟩;rw[Es,b];exact⟨J,J,m⟩
def KY(s:ByteArray)(w:L):
 Calls N 9 #[I s] w λr E=>∃u e p,r=.returned (M #[u,C F e,C F p])/\Es (Jc s) E u e p/\Bl w E:=by
 by_cases t:300<s.size
 . have ad:(300:Int)<(s.size:Int):=Y
   have K:=Ja (show Jp (Jc s)=([],1,0)by unfold Jp;rw[BH (by rw[Jf];exact t)]);clear t;go_enter func9,ntmps9
   go_wp2;exact BA (v:=M #[.agg #[G none 0 0],C F 1,C F 0]) (by simp[results,results9,go_sem]) J ⟨_,_,_,J,by rw[Es,K.o];exact⟨J,J,_,J,RowK.nil _ _⟩,Ba w _⟩
 . have ad:¬(300:Int)<(s.size:Int):=Y
   have x:=Ja λ(V:L)=>TA s Y V;clear t;go_enter func9,ntmps9
   go_upto_region 4 with(go_at_call 44;refine(x.o _).mono ?_;clear x;rintro e a ⟨u1,g,p1,rfl,b,c⟩;obtain⟨d,j,f,rfl⟩:=b.2.2.form;have n:=Ja b;have m:=Ja c;clear b c)
   have U:w.heap.size<a.heap.size:=by have:=m.o.size;rw[A1]at this;omega
   have q0:Boxed a w.heap.size 25 (G none 0 0):=(m.o.block _ (by rw[A1];omega)).trans (BJ w 25 (G none 0 0));have A:=(Ba w _).trans (m.o.mono (by rw[A1];omega));have i:=BJ a 25 (G d j f);have k:=Jg.new (a.alloc (H #[G d j f] 25)) 77 (C F g) (C F p1);rw[A1]at k;replace i:=i.alloc (H #[C F g,C F p1] 77);have l:Bl a ((a.alloc (H #[G d j f] 25)).alloc (H #[C F g,C F p1] 77)):=(Ba a _).alloc (by rw[A1];omega) _;have q1:=(l.block _ q0.lt).trans q0;have c:=Bt A l;have b:=n.o.2.2.row.below l;have D:=Ja (⟨n.o.1,n.o.2.1⟩:g=_/\p1=_);have y:w.heap.size≠a.heap.size:=Y
   have z:w.heap.size≠a.heap.size+1:=Y
   generalize (a.alloc (H #[G d j f] 25)).alloc (H #[C F g,C F p1] 77)=X at i k l q1 c b ⊢;clear l q0 A m n U;obtain⟨Q,o⟩:=ex (w.heap.size);obtain⟨B,q⟩:=ex (a.heap.size);rw[q]at i k y z;rw[o]at q1 y z;rw[q,o];have q2:Boxed X Q 25 (G none 0 0):=q1;have x0:=i.cell;obtain⟨y0,y1⟩:=k.cp;have z0:=q2.cell;have z1:=q2.frozen;obtain⟨T,S,W,R⟩:=Df q2 o c b;clear i k q1 q2 o q c b;go_region
   go_wp2_with fail
   have r0:=z0;refine BA (v:=M #[.agg #[G d j f],C F g,C F p1]) (by simp[results,results9,go_sem,r0]) J ⟨_,_,_,J,⟨D.o.1,D.o.2,_,J,?_⟩,?_⟩
   . exact(F7 T.o (G d j f) R.o).below ((BB _ _).drew)
   . exact(W.o.setCell (p:=⟨Q,0,none⟩) (by rw[S.o];exact Aa _) _).drew
end
section
variable{ps qs:Z}{A k:Nat}{q:Rat}
theorem TB(h:DI k q):(JT q).length<=40*k+5:=by
 have a:=F8 q.num;have b:=F8 (q.den:Int);have c:=h.1.words;have d:=h.2.words;grind[JT]
theorem DI.abs(h:DI k q):DI k (Yy q):=by
 grind[KD,DI,Sm]
theorem TC{c:Rat}(h:DI k c){i:Nat}(e:i<O)(f:Bool):(Yj c i f).length<=40*k+40:=by
 have a:=TB h.abs;have b:=F3 i;have d:(Jb O i).length<=1:=JE Jd DJ;grind[EY,YE,YG,Yj]
theorem NJ(h:∀i,DI k (cf ps i))(hl:ps.length<=O):∀(d m:Nat),ps.length-m=d->(J0 (ps.drop m) m).length<=d*(40*k+40):=by
 intro d;induction d with
 |zero=>
  intro m b;grind[List.drop_of_length_le,J0]
 |succ d a=>
  intro m b;have a:=a (m+1) Y;rw[Gs ps (by omega:m<ps.length)];have c:=TC (h m) (by omega:m<O) (J0 (ps.drop (m+1)) (m+1)).isEmpty;grind
def NK(h:Sqs ps)(hl:ps.length<=3000)(m:Nat):(J0 (ps.drop m) m).length<=140737488355328:=by
 have a:=NJ (λi=>(h.at i).sm) uo _ m J;omega
theorem TD(h:∀i,DI k (cf ps i))(hl:ps.length<=O):(Yx ps).length<=ps.length*(40*k+40)+1:=by
 have a:=NJ h hl _ 0 J;grind[Yx]
theorem TE(z:Z)(i:Nat)(a:Rat)(q:Z):∀(j k:Nat),i+j<=k->cf (Y8 z i a q j) k=cf z k:=by
 intro j;induction j with
 |zero=>intro k _;rfl
 |succ j c=>
  intro k b;grind[Y8,EM,CK]
theorem NL(z:Z)(i:Nat)(a:Rat)(q:Z):∀(j k:Nat),cf (Y8 z i a q j) k=cf z k\/cf (Y8 z i a q j) k=cf z k+a*cf q (k-i):=by
 intro j;induction j with
 |zero=>intro k;exact Ao J
 |succ j b=>
  intro k;grind[Y8,EM,TE,CK]
theorem NM(hp:∀i,DI A (cf ps i))(b:∀j,DI A (cf qs j))(n:Nat):∀(i k:Nat),DI (min i ps.length*(A+A+1)+1) (cf (Y9 ps qs n i) k):=by
 intro i;induction i with
 |zero=>intro k;grind[Y9,Yo,DI.zero]
 |succ i a=>
  intro k;rw[Y9];rcases NL (Y9 ps qs n i) i (cf ps i) qs qs.length k with e|e
  . rw[e];exact(a k).mono (by have:min i ps.length*(A+A+1)<=min (i+1) ps.length*(A+A+1):=Af _ Y;omega)
  . rw[e];by_cases c:i<ps.length
    . rw[show min (i+1) ps.length=min i ps.length+1 from by omega,Cm];exact((a k).add2 ((hp i).mul (b (k-i)))).mono Y
    grind[Xv]
def TF(hp:∀i,DI A (cf ps i))(a:∀j,DI A (cf qs j))(c:(ps.length+1)*(A+A+1)+1<=1000000000):M3.KG ps qs:=by
 have hle:A+A+1<=(ps.length+1)*(A+A+1):=Cb _ Y;refine⟨λi j=>Sq.of ((hp i).mul (a j)) Y,λn i j k=>?_⟩;have b:=NM hp a n i k;have d:min i ps.length*(A+A+1)<=ps.length*(A+A+1):=Af _ Y;rw[Cm]at c;rcases NL (Y9 ps qs n i) i (cf ps i) qs j k with e|e
 . rw[e];exact Sq.of b Y
 . rw[e];exact Sq.of (b.add2 ((hp i).mul (a (k-i)))) Y
theorem TG(hp:∀i,DI A (cf ps i))(a:∀j,DI A (cf qs j))(k:Nat):DI (ps.length*(A+A+1)+1) (cf (Fk ps qs) k):=by
 unfold Fk;rw[YK,Kd];have h:=NM hp a (ps.length+qs.length) ps.length k;grind[Ke]
def Xr:Z:=[Rat.divInt 1 2,1]
def FM:Z:=[Rat.divInt 1 4,1,1]
def TH:Jp [120,32,43,32,49,47,50]=(Xr,0,0):=Fg
def NN:Fk Xr Xr=FM:=Fg
def _root_.Go.Boxed.bel{W W':L}{B:Nat}{t:TypeId}{v:Value}(h:Boxed W B t v)(a:Bl W W'):Boxed W' B t v:=(a.block B h.lt).trans h
def TI:Yx FM=[120,94,50,43,120,43,49,47,52]:=Fg
def GF(i:Nat):DI 1 (cf Xr i):=by
 rcases i with _|_|i
 . exact⟨by show Sm 1 1;unfold Sm O;decide,by show Sm 1 2;unfold Sm O;decide⟩
 . exact⟨by show Sm 1 1;unfold Sm O;decide,by show Sm 1 1;unfold Sm O;decide⟩
 . rw[Xv (by simp[Xr])];exact DI.zero 1 Y
def NO:Sqs Xr:=Sqs.of λi=>Sq.of (GF i) Y
def NP:Sqs FM:=Sqs.of λi=>by rw[<-NN];exact Sq.of (TG GF GF i) (by simp[Xr])
def NQ(e:Int)(w:L):Calls N 12 #[C F e] w λr a=>r=.returned (C F e)/\Bl w a:=by
 go_enter func12,ntmps12
 go_wp2;go_ret;exact⟨J,BB _ _⟩
def TJ(w:L)(T:Fa w):Calls N 19 #[] w λr v=>r=.returned (B true)/\Bl w v:=by
 have U:=Ja T;have R:=Ja (λ(V:L)=>show Calls N 9 #[I ⟨#[120,32,43,32,49,47,50]⟩] V λr v=>∃u,r=.returned (M #[u,C F 0,C F 0])/\Yp v u Xr/\Bl V v from
  (KY ⟨#[120,32,43,32,49,47,50]⟩ V).mono (λr v h=>by
   obtain⟨u,e,p,X,S,h3⟩:=h;rw[Es,show Jc ⟨#[120,32,43,32,49,47,50]⟩=[120,32,43,32,49,47,50]from J,TH]at S;obtain⟨rfl,rfl,h4⟩:=S;exact⟨u,X,h4,h3⟩))
 have c:=Ja (BB w.heap.size w);clear T;go_enter func19,ntmps19
 go_upto_region 2 with(go_at_call 9;refine(R.o _).mono ?_;clear R;rintro e o ⟨u,rfl,j,b⟩;obtain⟨A,E,c1,rfl⟩:=j.form)
 replace c:=Ja (Bt c.o b);have d:Bl o (o.alloc (H #[G A E c1] 25)):=Ba o _;have k:=BJ o 25 (G A E c1);have g:=j.below d;replace c:=Ja (Bt c.o d);clear d;obtain⟨z,f⟩:=ex (o.alloc (H #[G A E c1] 25));obtain⟨BP,i⟩:=ex (o.heap.size);rw[f]at g c;rw[f,i]at k;rw[f];rw[i];clear f i;clear j b;have l:=Ja λ(V:L) (h:Bl z V)=>M3.Rj _ _ Xr Xr V (g.below h) (g.below h) NO NO (TF GF GF (by simp[Xr])) (by simp[Xr]);rw[NN]at l;have a:Bl z z:=BB _ _;have W:=(k.bel a).cell;go_upto_region 3 with(go_at_call 28;refine(l.o _ a).mono ?_;clear l;rintro e q ⟨u,rfl,j,_,b⟩;obtain⟨D,K,c2,rfl⟩:=j.form)
 replace b:=Bt a b
 clear a W;replace k:=k.bel b;replace g:=g.below b;replace c:=Ja (Bt c.o b);clear b;have d:Bl q (q.alloc (H #[G D K c2] 25)):=Ba q _;have t:=BJ q 25 (G D K c2);have Q:=j.below d;replace k:=k.bel d;replace g:=g.below d;replace c:=Ja (Bt c.o d);clear d;obtain⟨s,f⟩:=ex (q.alloc (H #[G D K c2] 25));obtain⟨BQ,i⟩:=ex (q.heap.size);rw[f]at k g Q c;rw[f,i]at t;rw[f];rw[i];clear f i;clear j;have l:=Ja λ(V:L) (h:Bl s V)=>NQ 0 V;have x:=Ja λ(V:L) (h:Bl s V)=>KH _ FM V (Q.below h) NP (λm=>NK NP (by simp[FM]) m) (J6 U.o (Bt c.o h));rw[TI]at x;have y:=Ja λ(V:L) (h:Bl s V)=>KA _ FM V (Q.below h);rw[show((FM.length:Int)-1)=2 from J]at y;have a:Bl s s:=BB _ _;have n:=(t.bel a).cell;go_wp2_with(first
  |(go_at_call 12;refine(l.o _ a).mono ?_;clear l;rintro e x1 ⟨rfl,b⟩;replace a:=Bt a b;clear b n;have n:=(t.bel a).cell)
  |(go_at_call 13;refine(x.o _ a).mono ?_;clear x;rintro e x2 ⟨rfl,b⟩;replace a:=Bt a b;clear b n;have n:=(t.bel a).cell)
  |(go_at_call 15;refine(y.o _ a).mono ?_;clear y;rintro e x3 ⟨rfl,b⟩;replace a:=Bt a b;clear b n;have n:=(t.bel a).cell))
 go_ret;exact⟨J,Bt c.o a⟩
end
variable{ps:List Rat}{D Z l t:List UInt8}{j k n:Nat}{c q:Rat}{V:L}
def XI{I:Nat}(h:l.drop I=t)(b:t.head?≠some 32):C7 l I=I:=by
 unfold C7 Yw;rw[h];cases t with
 |nil=>rfl
 |cons a t=>
  rw[Cs (by intro e;exact b (by rw[Bo]at e;rw[e];rfl))];rfl
def YM{I:Nat}(h:l.drop I=t)(c:UInt8):JP l I c=(t.head?==some c):=by
 unfold JP;rw[<-h,List.head?_drop]
def Yf{A B:List UInt8}{I:Nat}(h:l.drop I=A++B):l.drop (I+A.length)=B:=by
 rw[<-CM,h,List.drop_append_of_le_length (Aa _),List.drop_length,Ah]
def TK{I:Nat}(h:l.drop I=D++Z)(b:D.all DC=true)(d:∀c,Z.head?=some c->DC c=false):DX l I=I+D.length:=by
 unfold DX Yw;rw[h,List.takeWhile_append_of_pos λa e=>Am.1 b a e]
 have:Z.takeWhile DC=[]:=by
  cases Z with
  |nil=>rfl
  |cons a t=>rw[Cs (by rw[d a J];decide)]
 rw[this,Cv]
def NR{c d:UInt8}(h:DC c=true)(a:DC d=false):c≠d:=λe=>by rw[e,a]at h;cases h
def G1{I:Nat}(h:l.drop I=D++Z)(d:D.all DC=true)(b:D≠[])(g:∀c,Z.head?=some c->DC c=false):JI l I=if 12<D.length then .error 3 I else .ok (D,I) (I+D.length):=by
 have hs:C7 l I=I:=XI h (by
  cases D with
   |nil=>exact absurd J b
   |cons a t=>
   intro e;have e:=AU e;have f:=Am.1 d a (A7 ..);rw[e]at f;exact absurd f DB)
 have hl:0<D.length:=Cf.2 b;unfold JI;rw[hs,TK h d g,BE Y,Nat.add_sub_cancel_left,h,List.take_left' J]
def Ff(n:Nat):(J8 n).all DC=true/\num (J8 n)=n/\J8 n≠[]:=by
 by_cases h:n=0
 . subst h;decide
 . obtain⟨c,t,a,_,_,b,d⟩:=X0 h;rw[a];exact⟨b,d,B5⟩
def TL{I:Nat}(D:¬q<0)(h:l.drop I=JT q++Z)(i:∀c,Z.head?=some c->DC c=false/\c≠47/\c≠32)(b:JW l I=.ok c k):c=q/\k=I+(JT q).length:=by
 have E:¬q.num<0:=λz=>D (neg_num.2 z);obtain⟨a,n⟩:∃a:Nat,q.num=(a:Int):=⟨q.num.toNat,Y⟩;have o:Yn q.num=J8 a:=by rw[n];unfold Yn;rw[BE Y];rfl
 have v:Yn (q.den:Int)=J8 q.den:=by unfold Yn;rw[BE Y];rfl
 obtain⟨d1,p,r⟩:=Ff a;obtain⟨w,x,y⟩:=Ff q.den;unfold JT at h ⊢;by_cases j:q.den=1
 . rw[BH j,o]at h ⊢;have m:=G1 h d1 r λc g=>(i c g).1;unfold JW at b;rw[m]at b;by_cases f:12<(J8 a).length
   . rw[BH f]at b;cases b
   . rw[BE f]at b;have d:=Yf h;have hs:C7 l (I+(J8 a).length)=I+(J8 a).length:=XI d λe=>(i _ e).2.2 J;simp only[hs,YM d,p]at b;rw[BE (by intro e;rw[Bo]at e;exact(i _ e).2.1 J)]at b;cases b;refine⟨?_,J⟩;rw[<-KM a,<-n];have e:=Cq q;rw[j]at e;exact e
 . rw[BE j,o,v]at h ⊢;rw[Cr,Az]at h;have m:=G1 (Z:=47::(J8 q.den++Z)) h d1 r (λc g=>by cases g;decide);unfold JW at b;rw[m]at b;by_cases f:12<(J8 a).length
   . rw[BH f]at b;cases b
   . rw[BE f]at b;have d:=Yf h;have hs:C7 l (I+(J8 a).length)=I+(J8 a).length:=XI d B5;have u:l.drop (I+(J8 a).length+1)=J8 q.den++Z:=Yf (A:=[47]) (by rw[d];rfl);have t:=G1 u w y λc g=>(i c g).1;simp only[hs,YM d,p]at b;rw[BH B5]at b;simp only[t]at b;by_cases s:12<(J8 q.den).length
     . rw[BH s]at b;cases b
     . rw[BE s]at b;simp only[x]at b;rw[BE q.den_nz]at b;cases b;refine⟨?_,by rw[As,Ag];omega⟩;rw[<-n];exact Cq q
def TM(h:JT q=[49]):q=1:=by
 have d:q.den=1:=by
  by_cases a:q.den=1
  . exact a
  . exfalso
    unfold JT at h;rw[BE a]at h;have hl:=congrArg List.length h;rw[As,Ag]at hl;have c:(Yn (q.den:Int)).length≠0:=by
     intro e;have f:=(Ff q.den).2.2;unfold Yn at e;rw[BE Y]at e;exact f (List.length_eq_zero_iff.1 e)
    simp at hl;omega
 unfold JT at h;rw[BH d]at h;have b:=Nv (z:=q.num) (by rw[h];simp);rw[h]at b;have c:q.num=1:=b.2.symm.trans DB;rw[<-Cq q,c,d];decide +kernel
def KZ(c:Rat):¬Yy c<0:=λh=>by
 have a:=neg_num.1 h;rw[(KD c).1]at a;omega
def GG(Z:List UInt8):Prop:=Z=[]\/∃t,Z=43::t\/Z=45::t
def GG.head{Z:List UInt8}(h:GG Z){c:UInt8}(a:Z.head?=some c):DC c=false/\c≠47/\c≠32/\c≠120/\c≠94:=by
 rcases h with rfl|⟨t,rfl|rfl⟩
 . cases a
 . cases a;decide
 . cases a;decide
def TN{I:Nat}(r:j≠0)(h:l.drop I=YG j++Z)(f:GG Z)(s:j<=8)(a:Xs l (I+1)=.ok n k):n=j/\k=I+(YG j).length:=by
 unfold YG at h ⊢;rw[BE r]at h ⊢;by_cases d:j=1
 . rw[BH d]at h ⊢;have b:l.drop (I+1)=Z:=Yf (A:=[120]) h;have hs:C7 l (I+1)=I+1:=XI b λe=>(f.head e).2.2.1 J;unfold Xs at a;rw[hs,YM b,BE (by intro e;rw[Bo]at e;exact(f.head e).2.2.2.2 J)]at a;cases a;exact⟨d.symm,J⟩
 . rw[BE d]at h ⊢;have b:l.drop (I+1)=94::(J8 j++Z):=Yf (A:=[120]) h;have hs:C7 l (I+1)=I+1:=XI b B5;have i:l.drop (I+1+1)=J8 j++Z:=Yf (A:=[94]) b;obtain⟨d1,m,o⟩:=Ff j;have p:=G1 i d1 o λc q=>(f.head q).1;unfold Xs at a;rw[hs,YM b,BH B5,p]at a;by_cases g:12<(J8 j).length
   . rw[BH g]at a;cases a
   . rw[BE g]at a;simp only[m]at a;rw[BE Y]at a;cases a;exact⟨J,by rw[Ag,Ag];omega⟩
def TO{I:Nat}{c':Rat}(h:l.drop I=YE c j++(YG j++Z))(o:GG Z)(S:j<=8)(b:JR l I=.ok (c',n) k):c'=Yy c/\n=j/\k=I+((YE c j).length+(YG j).length):=by
 rw[Y3]at b;have v:∀d,(YG j++Z).head?=some d->DC d=false/\d≠47/\d≠32:=by
  intro d a;by_cases f:j=0
  . rw[show YG j=[]by unfold YG;rw[BH f],Ah]at a;exact⟨(o.head a).1,(o.head a).2.1,(o.head a).2.2.1⟩
  . have:d=120:=by
     unfold YG at a;rw[BE f]at a;split at a<;>(cases a;rfl)
    subst this;decide
 have R:∀c0 i,Xn l I=.ok c0 i->c0=Yy c/\i=I+(YE c j).length:=by
  intro c0 i q;unfold YE at h ⊢;unfold Xn at q;by_cases s:JT (Yy c)=[49]/\0<j
  . rw[BH s]at h ⊢;rw[Ah]at h;have f:j≠0:=Y
    have g:(YG j++Z).head?=some 120:=by
     unfold YG;rw[BE f];split<;>rfl
    have hs:C7 l I=I:=XI h (by rw[g];decide);rw[hs,YM h,g,BH DB]at q;cases q;exact⟨(TM s.1).symm,J⟩
  . rw[BE s]at h ⊢;have u:∀d,(JT (Yy c)++(YG j++Z)).head?=some d->DC d=true:=by
     intro d a;have T:¬(Yy c).num<0:=λQ=>KZ c (neg_num.2 Q);have A:Yn (Yy c).num=J8 (Yy c).num.natAbs:=by unfold Yn;rw[BE T]
     obtain⟨d1,_,D⟩:=Ff (Yy c).num.natAbs
     have:∃x t,JT (Yy c)=x::t/\DC x=true:=by
      cases z:J8 (Yy c).num.natAbs with
      |nil=>exact absurd z D
      |cons x t=>
       rw[z]at d1 A;refine⟨x,?_⟩;have g:=Am.1 d1 x (A7 ..);unfold JT;rw[A];split
       . exact⟨t,J,g⟩
       . exact⟨t++47::Yn ((Yy c).den:Int),J,g⟩
     obtain⟨x,t,e,g⟩:=this;rw[e]at a;cases a;exact g
    have hs:C7 l I=I:=XI h λe=>absurd (u _ e) DB;rw[hs,YM h,BE (by intro e;rw[Bo]at e;exact absurd (u _ e) DB)]at q;exact TL (KZ c) h v q
 cases a:Xn l I with
 |error e p=>rw[a]at b;cases b
 |ok c0 i=>
  rw[a]at b;obtain⟨y,r⟩:=R c0 i a;have m:=Yf h;rw[<-r]at m;have hs:C7 l i=i:=XI m λe=>(v _ e).2.2 J;simp only[hs]at b;by_cases f:j=0
  . have w:YG j=[]:=by unfold YG;rw[BH f]
    rw[w,Ah]at m;rw[YM m,BE (by intro e;rw[Bo]at e;exact(o.head e).2.2.2.1 J)]at b;cases b;exact⟨y,f.symm,by rw[w,r];rfl⟩
  . have g:(YG j++Z).head?=some 120:=by
     unfold YG;rw[BE f];split<;>rfl
    rw[YM m,g,BH DB]at b;cases hp:Xs l (i+1)with
    |error e p=>rw[hp]at b;cases b
    |ok V U=>
     rw[hp]at b;cases b;obtain⟨E,K⟩:=TN f m o S hp;exact⟨y,E,by rw[K,r];omega⟩
def De(ps:List Rat):Nat->List UInt8
 |0=>[]
 |m+1=>(if cf ps m=0 then []else Yj (cf ps m) m false)++De ps m
def TP(ps:List Rat):∀m,m<=ps.length->J0 (ps.drop m) m≠[]->J0 ps 0=J0 (ps.drop m) m++De ps m:=by
 intro m;induction m with
 |zero=>intro _ _;rw[At,De,Cv]
 |succ m f=>
  intro i c;have b:=Gs ps (by omega:m<ps.length);have g:(J0 (ps.drop (m+1)) (m+1)).isEmpty=false:=by
   cases h:J0 (ps.drop (m+1)) (m+1)with
   |nil=>exact absurd h c
   |cons a t=>rfl
  rw[g]at b;rw[De];by_cases d:cf ps m=0
  . rw[BH d]at b ⊢;rw[f Y (by rw[b];exact c),b,Ah]
  . rw[BE d]at b ⊢;rw[f Y (by rw[b];intro e;exact c (List.append_eq_nil_iff.1 e).1),b,Cr]
def NS(ps:List Rat):∀m,(De ps m=[]/\∀i,i<m->cf ps i=0)\/∃j,j<m/\cf ps j≠0/\(∀i,j<i->i<m->cf ps i=0)/\De ps m=Yj (cf ps j) j false++De ps j:=by
 intro m;induction m with
 |zero=>exact Ao ⟨J,λi g=>absurd g (Nat.not_lt_zero _)⟩
 |succ m n=>
  by_cases c:cf ps m=0
  . rw[De,BH c,Ah];rcases n with⟨f,d⟩|⟨j,f,d,k,l⟩
    . exact Ao ⟨f,λi g=>by by_cases e:i=m;{rw[e];exact c};{exact d i Y}⟩
    . exact Ax ⟨j,Y,d,λi a b=>by by_cases e:i=m;{rw[e];exact c};{exact k i a Y},l⟩
  . exact Ax ⟨m,Y,c,λi a b=>by omega,by rw[De,BE c]⟩
def Ka(c:Rat):EY c false=if c<0 then [45]else [43]:=by unfold EY;split<;>rfl
def NT(ps:List Rat)(m:Nat):GG (De ps m):=by
 rcases NS ps m with⟨h,_⟩|⟨j,_,_,_,h⟩
 . exact Ao h
 . rw[h];unfold Yj;rw[Ka];right
   split
   . exact⟨_,Ax J⟩
   . exact⟨_,Ao J⟩
theorem NU:∀(f I j k:Nat) (b:Bool) (S o:List Rat),j<=8->cf ps j≠0->b=decide (cf ps j<0)->I<=l.length->l.drop I=YE (cf ps j) j++(YG j++De ps j)->S.length=9->(∀i,cf S i=if j<i then cf ps i else 0)->XX l f b I S=.ok o k->o.length=9/\∀i,cf o i=cf ps i:=by
 intro f;induction f with
 |zero=>intro I j k b S o _ _ _ _ _ _ _ h;cases h
 |succ f T=>
  intro I j k b S o ad hc Q X R hl K h;cases s:JR l I with
  |error e p=>rw[Fe s]at h;cases h
  |ok a q=>
   obtain⟨c',n⟩:=a;obtain⟨rfl,rfl,ae⟩:=TO R (NT ps j) ad s;have ah:=X1 X s;have d:l.drop q=De ps n:=by
    rw[ae,<-Nat.add_assoc];exact Yf (Yf R)
   rw[GB s]at h;obtain⟨u,x⟩:=ex (S.set n (if b then cf S n-Yy (cf ps n)else cf S n+Yy (cf ps n)));rw[x]at h;have t:u.length=9:=by rw[<-x,CT];exact hl
   have z:∀i,cf u i=if n<=i then cf ps i else 0:=by
    intro i;rw[<-x,EM _ _ _ _ (by rw[hl];omega)];by_cases e:i=n
    . rw[BH e,e,show(if n<=n then cf ps n else 0)=cf ps n from BH (Aa _),K n,show(if n<n then cf ps n else 0)=0 from BE (Nat.lt_irrefl _)];by_cases g:cf ps n<0
      . rw[Q,BG g,BH J,KB g];grind
      . rw[Q,BD g,BE DB,KC g];grind
    . rw[BE e,K i];by_cases m:n<i
      . rw[BH m,BH Y]
      . rw[BE m,BE Y]
   have hs:C7 l q=q:=XI d λe=>((NT ps n).head e).2.2.1 J;rw[hs,YM d,YM d]at h;rcases NS ps n with⟨E,r⟩|⟨c,E,r,W,v⟩
   . rw[E]at d h;rw[BE DB,BE DB]at h;have U:q=l.length:=by
      have:=congrArg List.length d;rw[AX]at this;simp at this;omega
     rw[BH U]at h;cases h;refine⟨t,λi=>?_⟩;rw[z i];by_cases e:n<=i
     . rw[BH e]
     . rw[BE e,r i Y]
   . have D:∀i,cf u i=if c<i then cf ps i else 0:=by
      intro i;rw[z i];by_cases e:n<=i
      . rw[BH e,BH Y]
      . rw[BE e];by_cases m:c<i
        . rw[BH m,W i m Y]
        . rw[BE m]
     have y:q+1<=l.length:=by
      have e:=congrArg List.length d;rw[AX,v]at e
      have:(Yj (cf ps c) c false).length≠0:=λV=>KE _ _ _ (List.length_eq_zero_iff.1 V)
      rw[As]at e;omega
     by_cases g:cf ps c<0
     . have w:De ps n=45::(YE (cf ps c) c++(YG c++De ps c)):=by
        rw[v];unfold Yj;rw[Ka,BH g];simp
       rw[w]at d h;rw[BE B5,BH B5]at h;exact T _ c _ _ _ _ Y r (by rw[BG g]) y (Yf (A:=[45]) d) t D h
     . have w:De ps n=43::(YE (cf ps c) c++(YG c++De ps c)):=by
        rw[v];unfold Yj;rw[Ka,BE g];simp
       rw[w]at d h;rw[BH B5]at h;exact T _ c _ _ _ _ Y r (by rw[BD g]) y (Yf (A:=[43]) d) t D h
def NW:∀(f:Nat) (b:Bool) (I:Nat) (S:List Rat) (e p:Nat),XX l (f+1) b I S=.error e p->I<=l.length->l.length-I<f+1->e≠0:=by
 intro f;induction f with
 |zero=>
  intro b I S e p h i o;cases d:JR l I with
  |error m q=>rw[Fe d]at h;cases h;exact KO l I _ _ d
  |ok a k=>
   obtain⟨c,n⟩:=a;have:=X1 i d;omega
 |succ f j=>
  intro b I S e p h i o;cases d:JR l I with
  |error m q=>rw[Fe d]at h;cases h;exact KO l I _ _ d
  |ok a k=>
   obtain⟨c,n⟩:=a;have r:=X1 i d;have s:=Ef l k;rw[GB d]at h;split at h
   . rename_i g;have:=JU g;exact j _ _ _ _ _ h Y Y
   . split at h
     . rename_i g;have:=JU g;exact j _ _ _ _ _ h Y Y
     . split at h
       . cases h
       . cases h;decide
def TQ(c:Rat)(j:Nat)(Z:List UInt8)(d:UInt8)(h:(YE c j++(YG j++Z)).head?=some d):d≠32/\d≠45:=by
 unfold YE at h;split at h
 . rename_i l;unfold YG at h;rw[BE Y]at h;split at h<;>(cases h;decide)
 . have k:¬(Yy c).num<0:=λi=>KZ c (neg_num.2 i);have e:Yn (Yy c).num=J8 (Yy c).num.natAbs:=by unfold Yn;rw[BE k]
   obtain⟨d1,_,g⟩:=Ff (Yy c).num.natAbs;cases a:J8 (Yy c).num.natAbs with
   |nil=>exact absurd a g
   |cons x t=>
    rw[a]at d1 e;have b:=Am.1 d1 x (A7 ..);have f:x=d:=by
     unfold JT at h;rw[e]at h;split at h<;>(cases h;rfl)
    rw[<-f];exact⟨NR b DB,NR b DB⟩
def TR(o:Jv ps=ps)(hl:ps.length<=9)(h:(Jp (Yx ps)).2.1=0):(Jp (Yx ps)).1=ps:=by
 have w:¬300<(Yx ps).length:=by
  intro m;unfold Jp at h;rw[BH m]at h;cases h
 rcases List.eq_nil_or_concat ps with Q|⟨qs,c,f⟩
 . rw[Q,show Yx []=[48]from by decide,show Jp [48]=([],0,0)by decide +kernel]
 rw[List.concat_eq_append]at f;rw[GC w]at h ⊢;cases a:XG (Yx ps)with
 |error e p=>
  rw[a]at h;have hp:e≠0:=by
   intro s;unfold XG at a;have z:=J9 (l:=Yx ps) (i:=0) Y;split at a
   . rename_i D;have:=JU D;exact NW _ _ _ _ _ _ a Y Y s
   . exact NW _ _ _ _ _ _ a z Y s
  exact absurd h hp
 |ok S k=>
  show Jv S=ps;have R:ps.length=qs.length+1:=by rw[f];simp
  have b:cf ps qs.length=c:=by rw[f];simp[cf]
  have n:c≠0:=by
   intro y;have j:Jv ps=Jv qs:=Yr λi=>by
    by_cases E:i<qs.length
    . rw[f];simp[cf,List.getElem?_append_left E]
    . rw[Xv (p:=qs) Y];by_cases K:i=qs.length
      . rw[K,b,y]
      . rw[Xv Y]
   have m:=J7 qs;rw[<-j,o]at m;omega
  clear f;have t:J0 (ps.drop qs.length) qs.length=Yj c qs.length true:=by
   rw[Gs ps Y,b,BE n,List.drop_of_length_le Y];simp[J0]
  have x:J0 (ps.drop qs.length) qs.length≠[]:=by rw[t];exact KE _ _ _
  have v:=TP ps qs.length Y x;have r:Yx ps=Yj c qs.length true++De ps qs.length:=by
   unfold Yx;rw[v,t,BE (by intro e;exact KE _ _ _ (List.append_eq_nil_iff.1 e).1)]
  have q:∀i,cf (List.replicate 9 0) i=if qs.length<i then cf ps i else 0:=λi=>by
   rw[Yo];split
   . rw[Xv Y]
   . rfl
  unfold XG at a;by_cases g:c<0
  . have d:(Yx ps).drop 0=45::(YE c qs.length++(YG qs.length++De ps qs.length)):=by
     rw[At,r];unfold Yj EY;rw[BH g];simp
    have hs:C7 (Yx ps) 0=0:=XI d B5;rw[hs,YM d,BH B5]at a;have j:0+1<=(Yx ps).length:=by
     have e:=congrArg List.length d;rw[At,Ag]at e;omega
    have:=NU (ps:=ps) _ _ qs.length _ _ _ _ Y (by rw[b];exact n) (by rw[b,BG g]) j (by rw[b];exact Yf (A:=[45]) d) J q a;rw[<-o];exact Yr this.2
  . have d:(Yx ps).drop 0=YE c qs.length++(YG qs.length++De ps qs.length):=by
     rw[At,r];unfold Yj EY;rw[BE g];simp
    have u:=TQ c qs.length (De ps qs.length);have hs:C7 (Yx ps) 0=0:=XI d λe=>(u _ e).1 J;rw[hs,YM d,BE (by intro e;rw[Bo]at e;exact(u _ e).2 J)]at a;have:=NU (ps:=ps) _ _ qs.length _ _ _ _ Y (by rw[b];exact n) (by rw[b,BD g]) (AL _) (by rw[b];exact d) J q a;rw[<-o];exact Yr this.2
def TS(l:List UInt8):Jv (Jp l).1=(Jp l).1:=by
 by_cases h:300<l.length
 . rw[show Jp l=([],1,0)by unfold Jp;rw[BH h]];rfl
 . rw[GC h];cases XG l with
   |error e p=>rfl
   |ok S k=>exact Na _
def _root_.Go.Proofs.YtcahejkcdcjjgaaGreatDoor.RowK.isPoly{a:Tb}{l c:Nat}(h:RowK true V (G a l c) ps):Yp V (.agg #[G a l c]) ps:=⟨_,J,h⟩
def Ec(a V:L):Prop:=Bl a V
def Ec.below{a V':L}(h:Ec a V)(b:Bl V V'):Ec a V':=Bt h b
def Ec.drew(V:L):Ec V V.drew:=(BB _ V).drew
def TT(s:ByteArray)(hs:s.size<=140737488351232)(w:L)(am:Fa w):
 Calls N 8 #[I s] w λr w'=>r=.returned (B true)/\Bl w w':=by
 have HT:=Ja am;have Qb:=S0 (Jc s);have Qg:=TS (Jc s);obtain⟨ps,aj⟩:=ex ((Jp (Jc s)).1);obtain⟨E,hE⟩:=ex ((Jp (Jc s)).2.1:Nat);have t:=Ja λ(V:L)=>KY s V;have HD:=Ja λ(V:L)=>Mu s hs V;unfold Es at t;unfold XU at HD;rw[aj,hE]at t HD;rw[aj]at Qb Qg;have hQ:Sqs ps:=Sqs.of λi=>Sq.of (Qb.2 i) Y;have HQ:=Ja hQ;have Ql:=Ja λm=>NK hQ Y m;obtain⟨f,ai⟩:∃S:ByteArray,⟨(Yx ps).toArray⟩=S:=⟨_,J⟩;have Qf:Jc f=Yx ps:=by rw[<-ai];simp[Jc]
 have Qk:f.size<=140737488351232:=by
  rw[<-Jf,Qf];have:=TD Qb.2 uo;have h2:ps.length*(40*601+40)<=9*(40*601+40):=Af _ Qb.1;omega
 have Qh:=Ja ai;have Qc:=Ja λh=>TR Qg Qb.1 h;obtain⟨qs,ak⟩:=ex ((Jp (Jc f)).1);obtain⟨q,hG⟩:=ex ((Jp (Jc f)).2.1:Nat);have Qd:=Ja λ(V:L)=>KY f V;have Qe:=Ja λ(V:L)=>Mu f Qk V;unfold Es at Qd;unfold XU at Qe;rw[ak,hG]at Qd Qe;rw[<-Qf,ak,hG]at Qc;have Qo:(q:Int)=0\/(q:Int)≠0:=Y
 obtain⟨n,hn⟩:=ex (ps.length);have HN:=Ja hn;have j:=Ja (BB w.heap.size w);clear am aj hE Qb Qg hQ hn ai hs Qf Qk ak hG;go_enter func8,ntmps8
 go_upto_region 2 with(go_at_call 9;refine(t.o _).mono ?_;clear t;rintro e w1 ⟨u,e1,p1,rfl,⟨rfl,_,hu⟩,g⟩;obtain⟨v,y,c1,rfl⟩:=hu.form)
 replace j:=Ja (Bt j.o g);have hA:Bl w1 (w1.alloc (H #[G v y c1] 25)):=Ba w1 _;have o:=BJ w1 25 (G v y c1);have p:=hu.row.below hA;replace j:=Ja (Bt j.o hA);clear hA;obtain⟨VP,hV⟩:=ex (w1.alloc (H #[G v y c1] 25));obtain⟨BP,hB⟩:=ex (w1.heap.size);rw[hV]at p j;rw[hV,hB]at o;rw[hV];rw[hB];clear hV hB;clear hu g;go_upto_region 3 with(go_at_call 10;refine(HD.o _).mono ?_;clear HD;rintro e w2 ⟨u2,e2,p2,rfl,⟨rfl,_,_,_,_⟩,g⟩)
 replace o:=o.bel g;replace p:=p.below g;replace j:=Ja (Bt j.o g);clear g;have H1:=Ja λ(V:L) (h:Bl w2 V)=>KH _ ps V (p.below h).isPoly HQ.o Ql.o (J6 HT.o (Bt j.o h));rw[Qh.o]at H1;have l:Bl w2 w2:=BB _ _;have eP:=(o.bel l).cell;go_upto_region 4 with(go_at_call 13;refine(H1.o _ l).mono ?_;clear H1;rintro e w3 ⟨rfl,g⟩)
 replace g:=Bt l g
 clear l eP;replace o:=o.bel g;replace p:=p.below g;replace j:=Ja (Bt j.o g);clear g;go_upto_region 5 with(go_at_call 9;refine(Qd.o _).mono ?_;clear Qd;rintro e w4 ⟨u,e4,p4,rfl,⟨rfl,_,hu⟩,g⟩;obtain⟨z,A,c4,rfl⟩:=hu.form)
 replace o:=o.bel g;replace p:=p.below g;replace j:=Ja (Bt j.o g);clear g;have hA:Bl w4 (w4.alloc (H #[G z A c4] 25)):=Ba w4 _;have nQ:=BJ w4 25 (G z A c4);have rQ:=hu.row.below hA;replace o:=o.bel hA;replace p:=p.below hA;replace j:=Ja (Bt j.o hA);clear hA;obtain⟨VQ,hV⟩:=ex (w4.alloc (H #[G z A c4] 25));obtain⟨BQ,hB⟩:=ex (w4.heap.size);rw[hV]at o p rQ j;rw[hV,hB]at nQ;rw[hV];rw[hB];clear hV hB;clear hu;go_upto_region 6 with(go_at_call 10;refine(Qe.o _).mono ?_;clear Qe;rintro e w5 ⟨u5,e5,p5,rfl,⟨rfl,_,_,_,_⟩,g⟩)
 replace o:=o.bel g;replace p:=p.below g;replace nQ:=nQ.bel g;replace rQ:=rQ.below g;replace j:=Ja (Bt j.o g);clear g;have HE:=Ja λ(V:L) (e:Int)=>NQ e V;have l:Bl w5 w5:=BB _ _;go_upto_region 8 with(go_at_call 12;refine(HE.o _ _).mono ?_;rintro e x ⟨rfl,g⟩;replace l:=Bt l g;clear g)
 clear HE;replace o:=o.bel l;replace p:=p.below l;replace nQ:=nQ.bel l;replace rQ:=rQ.below l;replace j:=Ja (Bt j.o l);clear l;have Qj:Ec x x.drew:=Ec.drew x;have Qi:=Ja λ(V:L) (h:Bl x V)=>TJ V (J6 HT.o (Bt j.o h));rcases Qo with h0|h0
 . have Qm:=Ja (Qc.o Y);rw[Qm.o]at rQ;rw[h0];clear h0 Qc Qm;have H2:=Ja λ(V:L) (h:Bl x V)=>KH _ ps V (rQ.below h).isPoly HQ.o Ql.o (J6 HT.o (Bt j.o h));rw[Qh.o]at H2;have H3:=Ja λ(V:L) (h:Bl x V)=>KA _ ps V (rQ.below h).isPoly;rw[HN.o]at H3;have H4:=Ja λ(V:L) (h:Bl x V)=>KA _ ps V (p.below h).isPoly;rw[HN.o]at H4;refine J3 Dc [[],[0],[1],[2],[3,2,2],[2],[4,5,2],[6,4,2],[7],[8,7,7],[7],[10,9,7],[9,11,7],[7,12,2],[2,13],[14,11],[15,15],[15,16],[17,16,0,1,2,3,4,5,6,7,8,9,10,11,12,13,14,15,16,17]] Tc DB
    (λD ae V=>∃(tb tc td te tf tg ti tj tk tl tm tn tp tq tr ts tt tu ta:Value),ae={ tmps:=#[I s,undef,ta,P (some ⟨BP,0,none⟩),C F ↑E,C F ↑(Jp (Jc s)).snd.snd,u2,C F ↑E,C F ↑(Jp (Jc s)).snd.snd,I f,P (some ⟨BQ,0,none⟩),C F 0,C F ↑(Jp (Jc f)).snd.snd,u5,C F 0,C F ↑(Jp (Jc f)).snd.snd,M #[.agg #[G v y c1],C F ↑E,C F ↑(Jp (Jc s)).snd.snd],I s,M #[.agg #[G v y c1],C F ↑E,C F ↑(Jp (Jc s)).snd.snd],.agg #[G v y c1],C F ↑E,C F ↑(Jp (Jc s)).snd.snd,M #[u2,C F ↑E,C F ↑(Jp (Jc s)).snd.snd],I s,M #[u2,C F ↑E,C F ↑(Jp (Jc s)).snd.snd],u2,C F ↑E,C F ↑(Jp (Jc s)).snd.snd,.agg #[G v y c1],I f,M #[.agg #[G z A c4],C F 0,C F ↑(Jp (Jc f)).snd.snd],I f,M #[.agg #[G z A c4],C F 0,C F ↑(Jp (Jc f)).snd.snd],.agg #[G z A c4],C F 0,C F ↑(Jp (Jc f)).snd.snd,M #[u5,C F 0,C F ↑(Jp (Jc f)).snd.snd],I f,M #[u5,C F 0,C F ↑(Jp (Jc f)).snd.snd],u5,C F 0,C F ↑(Jp (Jc f)).snd.snd,C F ↑E,C F ↑E,C F ↑E,B false,B false,C F 0,C F 0,C F 0,B false,B false,tb,tc,td,te,tf,tg,ti,tj,tk,tl,tm,tn,tp,tq,tr,ts,tt,tu],defers:=[] }/\Hid ((D 0=true->tb=C F 0)/\(D 1=true->tc=B false)/\(D 2=true->td=B false)/\(D 3=true->te=.agg #[G z A c4])/\(D 4=true->tf=I f)/\(D 5=true->tg=I f)/\(D 6=true->ti=B true)/\(D 7=true->tj=B true)/\(D 8=true->tk=.agg #[G z A c4])/\(D 9=true->tl=C F ((n:Int)-1))/\(D 10=true->tm=.agg #[G v y c1])/\(D 11=true->tn=C F ((n:Int)-1))/\(D 12=true->tp=B true)/\(D 13=true->tq=B true)/\(D 14=true->tr=B true)/\(D 15=true->ts=B true)/\(D 16=true->tt=B true)/\(D 17=true->tu=B true)/\(D 18=true->ta=B true))/\Hid (Ec x V))
    (Dw ⟨_,_,_,J,Ja ⟨B5,B5,B5,B5,B5,B5,B5,B5,B5,B5,B5,B5,B5,B5,B5,B5,B5,B5,B5⟩,Ja Qj⟩) ?step1 ?fin1
   case step1=>
    rintro D ae V i ds ap hi c an ⟨tb,tc,td,te,tf,tg,ti,tj,tk,tl,tm,tn,tp,tq,tr,ts,tt,tu,ta,rfl,a,b⟩;have Qn:i<19:=(Ar.1 hi).1;obtain rfl|rfl|rfl|rfl|rfl|rfl|rfl|rfl|rfl|rfl|rfl|rfl|rfl|rfl|rfl|rfl|rfl|rfl|rfl:=Fi i Y
    all_goals
     simp only[AW,AP,A0]at hi;subst hi
    . have d:=b.o;clear c;refine DT ?_;exact⟨(Ew a),Ja (b.o)⟩
    . have d:=b.o;obtain rfl:=a.o.1 (c 0 B5);clear c;refine DT ?_;exact⟨(FR (Ew a)),Ja (b.o)⟩
    . have d:=b.o;obtain rfl:=a.o.2.1 (c 1 B5);clear c;refine DT ?_;exact⟨(Dh (FR a)),Ja (b.o)⟩
    . have d:=b.o;obtain rfl:=a.o.2.2.1 (c 2 B5);have eQ:=(nQ.bel d).cell;clear c;refine Ym J J λK k=>?_;go_simp;exact k _ _ (Dw ⟨_,_,_,J,(Fs (Dh a)),Ja (b.o)⟩)
    . have d:=b.o;obtain rfl:=a.o.2.2.2.1 (c 3 B5);obtain rfl:=a.o.2.2.1 (c 2 B5);clear c;have t:=Ja (H2.o V d);refine Ym J J λK k=>?_;go_simp;go_wp2_with(go_at_call 13;refine t.o.mono ?_;rintro e w5 ⟨rfl,ad⟩)
      exact Dw ⟨_,_,_,J,(Fqq (Fs (Dh a))),Ja (b.o.below ad)⟩
    . have d:=b.o;obtain rfl:=a.o.2.2.1 (c 2 B5);clear c;refine Ym J J λK k=>?_;go_simp;exact k _ _ (Dw ⟨_,_,_,J,(Ft (Dh a)),Ja (b.o)⟩)
    . have d:=b.o;obtain rfl:=a.o.2.2.2.2.1 (c 4 B5);obtain rfl:=ET a (c 5 B5);obtain rfl:=a.o.2.2.1 (c 2 B5);clear c;refine Ym J J λK k=>?_;go_simp;exact k _ _ (Dw ⟨_,_,_,J,(Fu (Ft (Fqq (Dh a)))),Ja (b.o)⟩)
    . have d:=b.o;obtain rfl:=EU a (c 6 B5);obtain rfl:=a.o.2.2.1 (c 2 B5);clear c;refine Ym J J λK k=>?_;go_simp;exact k _ _ (Dw ⟨_,_,_,J,(Eh (Fu (Dh a))),Ja (b.o)⟩)
    . have d:=b.o;obtain rfl:=Dy a (c 7 B5);have eQ:=(nQ.bel d).cell;clear c;refine Ym J J λK k=>?_;go_simp;exact k _ _ (Dw ⟨_,_,_,J,(IA (Eh a)),Ja (b.o)⟩)
    . have d:=b.o;obtain rfl:=Ej a (c 8 B5);obtain rfl:=Dy a (c 7 B5);clear c;have t:=Ja (H3.o V d);refine Ym J J λK k=>?_;go_simp;go_wp2_with(go_at_call 15;refine t.o.mono ?_;rintro e w5 ⟨rfl,ad⟩)
      exact Dw ⟨_,_,_,J,(IB (IA (Eh a))),Ja (b.o.below ad)⟩
    . have d:=b.o;obtain rfl:=Dy a (c 7 B5);have eP:=(o.bel d).cell;clear c;refine Ym J J λK k=>?_;go_simp;exact k _ _ (Dw ⟨_,_,_,J,(Ex (Eh a)),Ja (b.o)⟩)
    . have d:=b.o;obtain rfl:=IP a (c 10 B5);obtain rfl:=Dy a (c 7 B5);clear c;have t:=Ja (H4.o V d);refine Ym J J λK k=>?_;go_simp;go_wp2_with(go_at_call 15;refine t.o.mono ?_;rintro e w5 ⟨rfl,ad⟩)
      exact Dw ⟨_,_,_,J,(Ey (Ex (Eh a))),Ja (b.o.below ad)⟩
    . have d:=b.o;obtain rfl:=EH a (c 9 B5);obtain rfl:=IQ a (c 11 B5);obtain rfl:=Dy a (c 7 B5);clear c;refine Ym J J λK k=>?_;go_simp;exact k _ _ (Dw ⟨_,_,_,J,(Ez (Ey (IB (Eh a)))),Ja (b.o)⟩)
    . have d:=b.o;obtain rfl:=Dy a (c 7 B5);obtain rfl:=IR a (c 12 B5);obtain rfl:=a.o.2.2.1 (c 2 B5);clear c;refine Ym J J λK k=>?_;go_simp;exact k _ _ (Dw ⟨_,_,_,J,(E0 (Ez (Eh (Dh a)))),Ja (b.o)⟩)
    . have d:=b.o;obtain rfl:=a.o.2.2.1 (c 2 B5);obtain rfl:=IU a (c 13 B5);clear c;refine DT ?_;exact⟨(E1 (E0 (Dh a))),Ja (b.o)⟩
    . have d:=b.o;obtain rfl:=IV a (c 14 B5);clear c;refine DT ?_;exact⟨(ES (E1 a)),Ja (b.o)⟩
    . have d:=b.o;obtain rfl:=Fx a (c 15 B5);clear c;have t:=Ja (Qi.o V d);refine Ym J J λK k=>?_;go_simp;go_wp2_with(go_at_call 19;refine t.o.mono ?_;rintro e w5 ⟨rfl,ad⟩)
      exact Dw ⟨_,_,_,J,(E9 (ES a)),Ja (b.o.below ad)⟩
    . have d:=b.o;obtain rfl:=Fx a (c 15 B5);obtain rfl:=IW a (c 16 B5);clear c;refine DT ?_;exact⟨(Fv (E9 (ES a))),Ja (b.o)⟩
    . have d:=b.o;obtain rfl:=IX a (c 17 B5);clear c;refine DT ?_;exact⟨(IM (Fv a)),Ja (b.o)⟩
   case fin1=>
    rintro D ae V ah ⟨tb,tc,td,te,tf,tg,ti,tj,tk,tl,tm,tn,tp,tq,tr,ts,tt,tu,ta,rfl,a,b⟩;obtain rfl:=a.o.2.2.2.2.2.2.2.2.2.2.2.2.2.2.2.2.2.2 (ah 18 DB);have l:=b.o;clear a b ah;go_wp2_with fail
    go_ret;exact⟨J,j.o.trans (Below.mono l j.o.size)⟩
 . have h1:((q:Int) != 0)=true:=by simpa using h0
   clear h0 Qc;refine J3 Dc [[],[0],[1],[2],[3,2,2],[2],[4,5,2],[6,4,2],[7],[8,7,7],[7],[10,9,7],[9,11,7],[7,12,2],[2,13],[14,11],[15,15],[15,16],[17,16,0,1,2,3,4,5,6,7,8,9,10,11,12,13,14,15,16,17]] Tc DB
    (λD ae V=>∃(tb tc td tr ts tt tu ta:Value),ae={ tmps:=#[I s,undef,ta,P (some ⟨BP,0,none⟩),C F ↑E,C F ↑(Jp (Jc s)).snd.snd,u2,C F ↑E,C F ↑(Jp (Jc s)).snd.snd,I f,P (some ⟨BQ,0,none⟩),C F ↑q,C F ↑(Jp (Jc f)).snd.snd,u5,C F ↑q,C F ↑(Jp (Jc f)).snd.snd,M #[.agg #[G v y c1],C F ↑E,C F ↑(Jp (Jc s)).snd.snd],I s,M #[.agg #[G v y c1],C F ↑E,C F ↑(Jp (Jc s)).snd.snd],.agg #[G v y c1],C F ↑E,C F ↑(Jp (Jc s)).snd.snd,M #[u2,C F ↑E,C F ↑(Jp (Jc s)).snd.snd],I s,M #[u2,C F ↑E,C F ↑(Jp (Jc s)).snd.snd],u2,C F ↑E,C F ↑(Jp (Jc s)).snd.snd,.agg #[G v y c1],I f,M #[.agg #[G z A c4],C F ↑q,C F ↑(Jp (Jc f)).snd.snd],I f,M #[.agg #[G z A c4],C F ↑q,C F ↑(Jp (Jc f)).snd.snd],.agg #[G z A c4],C F ↑q,C F ↑(Jp (Jc f)).snd.snd,M #[u5,C F ↑q,C F ↑(Jp (Jc f)).snd.snd],I f,M #[u5,C F ↑q,C F ↑(Jp (Jc f)).snd.snd],u5,C F ↑q,C F ↑(Jp (Jc f)).snd.snd,C F ↑E,C F ↑E,C F ↑E,B false,B false,C F ↑q,C F ↑q,C F ↑q,B false,B false,tb,tc,td,undef,undef,undef,undef,undef,undef,undef,undef,undef,undef,undef,tr,ts,tt,tu],defers:=[] }/\Hid ((D 0=true->tb=C F (q:Int))/\(D 1=true->tc=B true)/\(D 2=true->td=B true)/\(D 14=true->tr=B true)/\(D 15=true->ts=B true)/\(D 16=true->tt=B true)/\(D 17=true->tu=B true)/\(D 18=true->ta=B true))/\Hid (Ec x V))
    (E8 ⟨J,Ja ⟨B5,B5,B5,B5,B5,B5,B5,B5⟩,Ja Qj⟩) ?step2 ?fin2
   case step2=>
    rintro D ae V i ds ap hi c an ⟨tb,tc,td,tr,ts,tt,tu,ta,rfl,a,b⟩;have Qn:i<19:=(Ar.1 hi).1;obtain rfl|rfl|rfl|rfl|rfl|rfl|rfl|rfl|rfl|rfl|rfl|rfl|rfl|rfl|rfl|rfl|rfl|rfl|rfl:=Fi i Y
    all_goals
     simp only[AW,AP,A0]at hi;subst hi
    . have d:=b.o;clear c;refine DT ?_;exact⟨(Ew a),Ja (b.o)⟩
    . have d:=b.o;obtain rfl:=a.o.1 (c 0 B5);clear c;refine DT ?_;exact⟨(FR (Ew a)),Ja (b.o)⟩
    . have d:=b.o;obtain rfl:=a.o.2.1 (c 1 B5);clear c;refine DT ?_;exact⟨(Dh (FR a)),Ja (b.o)⟩
    . have d:=b.o;obtain rfl:=a.o.2.2.1 (c 2 B5);clear c;refine Y2 J J ?_;exact E8 ⟨J,(Dh a),Ja (b.o)⟩
    . have d:=b.o;obtain rfl:=a.o.2.2.1 (c 2 B5);clear c;refine Y2 J J ?_;exact E8 ⟨J,(Dh a),Ja (b.o)⟩
    . have d:=b.o;obtain rfl:=a.o.2.2.1 (c 2 B5);clear c;refine Y2 J J ?_;exact E8 ⟨J,(Dh a),Ja (b.o)⟩
    . have d:=b.o;obtain rfl:=a.o.2.2.1 (c 2 B5);clear c;refine Y2 J J ?_;exact E8 ⟨J,(Dh a),Ja (b.o)⟩
    . have d:=b.o;obtain rfl:=a.o.2.2.1 (c 2 B5);clear c;refine Y2 J J ?_;exact E8 ⟨J,(Dh a),Ja (b.o)⟩
    . have d:=b.o;clear c;refine Y2 J J ?_;obtain⟨Q,R,T,U,W,X,G6,G7⟩:=a.o;exact E8 ⟨J,Ja ⟨Q,R,T,U,W,X,G6,G7⟩,Ja (b.o)⟩
    . have d:=b.o;clear c;refine Y2 J J ?_;obtain⟨Q,R,T,U,W,X,G6,G7⟩:=a.o;exact E8 ⟨J,Ja ⟨Q,R,T,U,W,X,G6,G7⟩,Ja (b.o)⟩
    . have d:=b.o;clear c;refine Y2 J J ?_;obtain⟨Q,R,T,U,W,X,G6,G7⟩:=a.o;exact E8 ⟨J,Ja ⟨Q,R,T,U,W,X,G6,G7⟩,Ja (b.o)⟩
    . have d:=b.o;clear c;refine Y2 J J ?_;obtain⟨Q,R,T,U,W,X,G6,G7⟩:=a.o;exact E8 ⟨J,Ja ⟨Q,R,T,U,W,X,G6,G7⟩,Ja (b.o)⟩
    . have d:=b.o;clear c;refine Y2 J J ?_;obtain⟨Q,R,T,U,W,X,G6,G7⟩:=a.o;exact E8 ⟨J,Ja ⟨Q,R,T,U,W,X,G6,G7⟩,Ja (b.o)⟩
    . have d:=b.o;obtain rfl:=a.o.2.2.1 (c 2 B5);clear c;refine Y2 J J ?_;exact E8 ⟨J,(Dh a),Ja (b.o)⟩
    . have d:=b.o;obtain rfl:=a.o.2.2.1 (c 2 B5);clear c;refine DT ?_;exact⟨(Fs (Dh a)),Ja (b.o)⟩
    . have d:=b.o;obtain rfl:=a.o.2.2.2.1 (c 14 B5);clear c;refine DT ?_;exact⟨(Fqq (Fs a)),Ja (b.o)⟩
    . have d:=b.o;obtain rfl:=a.o.2.2.2.2.1 (c 15 B5);clear c;have t:=Ja (Qi.o V d);refine Ym J J λK k=>?_;go_simp;go_wp2_with(go_at_call 19;refine t.o.mono ?_;rintro e w5 ⟨rfl,ad⟩)
      exact E8 ⟨J,(Ft (Fqq a)),Ja (b.o.below ad)⟩
    . have d:=b.o;obtain rfl:=a.o.2.2.2.2.1 (c 15 B5);obtain rfl:=ET a (c 16 B5);clear c;refine DT ?_;exact⟨(Fu (Ft (Fqq a))),Ja (b.o)⟩
    . have d:=b.o;obtain rfl:=EU a (c 17 B5);clear c;refine DT ?_;exact⟨(LB (Fu a)),Ja (b.o)⟩
   case fin2=>
    rintro D ae V ah ⟨tb,tc,td,tr,ts,tt,tu,ta,rfl,a,b⟩;obtain rfl:=a.o.2.2.2.2.2.2.2 (ah 18 DB);have l:=b.o;clear a b ah;go_wp2_with fail
    go_ret;exact⟨J,j.o.trans (Below.mono l j.o.size)⟩

