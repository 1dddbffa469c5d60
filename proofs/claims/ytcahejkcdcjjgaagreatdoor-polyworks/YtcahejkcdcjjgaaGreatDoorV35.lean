import Derived.Test.YtcahejkcdcjjgaaGreatDoorV34
set_option linter.all false
open Go.Value renaming slice->C,int->F,bool->M,pointer->N,string->D,tuple->P
open Go.Obj renaming cells->E
open Go renaming World->G,undef->L,Value->K
open Go.IntKind renaming i64->H
open Go.Proofs.Tryz renaming prog->I
set_option maxRecDepth 99999
set_option maxHeartbeats 0
namespace Go.Proofs.YtcahejkcdcjjgaaGreatDoor
open Proofs.Tryz
open Go.RowKit Go.Shelf
attribute [local go_sem] Oper.semAt_some
section
variable{cs:Array K}{l:List UInt8}{m:Nat × Nat}{t:TypeId}{W W':G}
def VR(p q:Addr)(w:G):
 CallsD I 89 #[N (some p),N (some q)] .returning w λe d f=>e=.returned (P #[])/\d=.returning/\f=w.alloc (E #[F H 0,F H 0] 77):=by
 have a:∀w:G,(Instr.typeAssert Value.nilIface 20 77 true).run I w=.ok (P #[.agg #[F H 0,F H 0],M false]) w:=λ_=>by kernel_rfl
 refine callsD_of_wpS func89 J λb cs c=>?_;apply wpS_seq;apply wpS_region;simp[wpOpsS,go_sem,recoverD,c,ntmps89,Exit.thenS,a];apply wpS_seq;apply wpS_region;simp[wpOpsS,go_sem,Exit.thenS];refine wpS_cond (t:=false) (by simp[Act.eval,Array.replicate]) ?_;simp only[Cx,if_false];refine wpS_of_wp (wp_skip ?_);cases b;simp_all [bodyPostS,results,results89]
def VT(p q:Nat)(a p0:Int)(w:G)(g:Boxed w p 25 (C none 0 0))(i:Ji w q 77 (F H 0) (F H 0))(l:p≠q):
 CallsD I 89 #[N (some ⟨p,0,none⟩),N (some ⟨q,0,none⟩)] (.panicking [{ v:=X7 a p0,recovered:=false }]) w λe T m=>e=.returned (P #[])/\T=.panicking [{ v:=X7 a p0,recovered:=true }]/\Boxed m p 25 (C none 0 0)/\Ji m q 77 (F H a) (F H p0)/\∀n w0,Below n w0 w->n<=w.heap.size->n<=p->n<=q->Below n w0 m:=by
 unfold X7;have o:∀w:G,(Instr.typeAssert (.iface 77 (.agg #[F H a,F H p0])) 20 77 true).run I w=.ok (P #[.agg #[F H a,F H p0],M true]) w:=λ_=>by kernel_rfl
 refine callsD_of_wpS func89 J λU cs z=>?_;apply wpS_seq;apply wpS_region;simp[wpOpsS,go_sem,recoverD,z,ntmps89,Exit.thenS,o];apply wpS_seq;apply wpS_region;simp[wpOpsS,go_sem,Exit.thenS];refine wpS_cond (t:=true) (by simp[Act.eval,Array.replicate]) ?_;simp only[if_true];refine wpS_of_wp ?_;simp[Array.replicate];have d:=Ji.new w 77 (F H a) (F H p0);have c:=g.alloc (E #[F H a,F H p0] 77);have b:=i.alloc (E #[F H a,F H p0] 77);have Q:p≠w.heap.size:=by have:=g.lt;omega
 have R:q≠w.heap.size:=by have:=i.lt;omega
 have f:=Z λ(n:Nat) (w0:G) (h:Below n w0 w) (k:n<=w.heap.size)=>h.alloc k (E #[F H a,F H p0] 77);obtain⟨W,j⟩:=ex (w.alloc (E #[F H a,F H p0] 77));rw[j]at d c b f;rw[j];obtain⟨D,s⟩:=ex (w.heap.size);rw[s]at d Q R f;rw[s];clear j g i o z;obtain⟨d0,d1⟩:=d.cp;have x0:=c.cell;have x1:=c.frozen;obtain⟨X,y1⟩:=b.cp;obtain⟨z0,z1⟩:=b.fp;have A:=Z c;have B:=Z b;clear c b d;go_region
 have u:Boxed (((W.setCell ⟨p,0,none⟩ (C none 0 0)).setCell ⟨q,0,none⟩ (F H a)).setCell ⟨q,1,none⟩ (F H p0)).drew p 25 (C none 0 0):=
  (BH _ ⟨q,1,none⟩ (F H p0) p l).trans ((BH _ ⟨q,0,none⟩ (F H a) p l).trans (A.o.set (C none 0 0)))
 have x:Ji (((W.setCell ⟨p,0,none⟩ (C none 0 0)).setCell ⟨q,0,none⟩ (F H a)).setCell ⟨q,1,none⟩ (F H p0)).drew q 77 (F H a) (F H p0):=
  (((B.o.far (p:=⟨p,0,none⟩) (λe=>l e.symm) _).set0 _).set1 _).drew
 have y:∀n w0,Below n w0 w->n<=D->n<=p->n<=q->Below n w0 (((W.setCell ⟨p,0,none⟩ (C none 0 0)).setCell ⟨q,0,none⟩ (F H a)).setCell ⟨q,1,none⟩ (F H p0)).drew:=
  λn w0 h k S r=>((((f.o n w0 h k).setCell (p:=⟨p,0,none⟩) S _).setCell (p:=⟨q,0,none⟩) r _).setCell (p:=⟨q,1,none⟩) r _).drew
 generalize (((W.setCell ⟨p,0,none⟩ (C none 0 0)).setCell ⟨q,0,none⟩ (F H a)).setCell ⟨q,1,none⟩ (F H p0)).drew=V at u x y ⊢;simp[bodyPostS,results,results89];exact⟨u,x,y⟩
theorem VU(s:ByteArray)(g q0:Int)(w:G)(q:∀V R,DV V R s 0->Calls I 90 #[N (some ⟨R,0,none⟩)] V λr l=>V.grownBy l (some R)/\r=.panicked [{ v:=X7 g q0,recovered:=false }]):
 Calls I 44 #[D s] w λr l=>r=.returned (P #[.agg #[C none 0 0],.agg #[F H g,F H q0]])/\Bl w l:=by
 have ad:∀(fn:Fn) (first cap:Array K) (w:G),(Instr.makeFunc fn first cap).run I w=.ok (.func fn first cap) w:=λ_ _ _ _=>rfl;have o:=Z q;clear q;go_enter_defers func44,ntmps44
 go_upto_region 3 with fail
 have b:=BK w 25 (C none 0 0);have a:=Ji.new (w.alloc (E #[C none 0 0] 25)) 77 (F H 0) (F H 0);have c:DV (((w.alloc (E #[C none 0 0] 25)).alloc (E #[F H 0,F H 0] 77)).alloc (E #[D s,F H 0] 124)) ((w.alloc (E #[C none 0 0] 25)).alloc (E #[F H 0,F H 0] 77)).heap.size s 0:=BG _ _;rw[A1,A1]at c;rw[A1]at a;replace b:=(b.alloc (E #[F H 0,F H 0] 77)).alloc (E #[D s,F H 0] 124);replace a:=a.alloc (E #[D s,F H 0] 124);have j:Bl w (((w.alloc (E #[C none 0 0] 25)).alloc (E #[F H 0,F H 0] 77)).alloc (E #[D s,F H 0] 124)):=((Ba w _).alloc (by rw[A1];omega) _).alloc (by rw[A1,A1];omega) _;have u:(((w.alloc (E #[C none 0 0] 25)).alloc (E #[F H 0,F H 0] 77)).alloc (E #[D s,F H 0] 124)).heap.size=w.heap.size+1+1+1:=by rw[A1,A1,A1]
 obtain⟨V,i⟩:=ex (((w.alloc (E #[C none 0 0] 25)).alloc (E #[F H 0,F H 0] 77)).alloc (E #[D s,F H 0] 124));rw[i]at b a c j u;rw[i];obtain⟨y,m,n,z⟩:=Dr b a j (o.o _ _ c);clear b a c j i o u;go_wp2_with(go_at_call 90;refine z.o.mono ?_;rintro e x ⟨t,rfl⟩;have d:=Z t;clear t)
 have B:Boxed x w.heap.size 25 (C none 0 0):=y.o.kept d.o (λe=>by have:=A3 e;omega);have A:Ji x (w.heap.size+1) 77 (F H 0) (F H 0):=(d.o.block _ m.o.lt λe=>by have:=A3 e;omega).trans m.o;have p:=n.o.grown d.o n.o.size (λk e=>by grind);refine leaves_cons (f:=89) (args:=#[N (some ⟨w.heap.size,0,none⟩),N (some ⟨w.heap.size+1,0,none⟩)]) DJ (by simp[go_sem]) ?_;refine(VT w.heap.size (w.heap.size+1) g q0 _ B A O).mono ?_;rintro e u' w2 ⟨rfl,rfl,Q,S,T⟩;have U:=T _ _ p p.size (Aa _) O;have x0:=Q.cell;obtain⟨W,X⟩:=S.cp;simp[Leaves,settle,results,results44,go_sem,x0,W,X];exact U
theorem VV{F:Nat}(hF:W.heap[F]?=some (E cs t m))(j:t=77)(hg:W.grownBy W' (some F)):∀k v ds,Row k W v ds->Row k W' v ds:=by
 intro k v ds c;obtain⟨a,cap,e,_⟩:=id c;subst e;refine c.grown hg λp g hl=>?_;obtain⟨b,n,f,d,l,i⟩:=c.typ hl;grind
def OW{F:Nat}(hF:W.heap[F]?=some (E cs t m))(g:t=77)(hg:W.grownBy W' (some F)){r:Bool}{v:K}{qs:U}(h:RowK r W v qs):RowK r W' v qs:=by
 obtain⟨a,cap,e,k,c,l,d⟩:=h;refine⟨a,cap,e,k,c,l,?_⟩;rcases d with d|⟨b,i,f⟩
 . exact An d
 . refine Ar ⟨b,i,f.keep (hg.block b f.lt λe=>?_) (VV hF g hg)⟩;obtain⟨n,j,_⟩:=f;have e:=A3 e;subst e;have:=j.symm.trans hF;simp only[A0,Obj.cells.injEq]at this;subst g;have c:=this.2.1;revert c;cases r<;>(show ¬(_=_);decide)
theorem VW(s:ByteArray)(ps:List Rat)(w:G)(hP:∀V R,DV V R s 0->Calls I 90 #[N (some ⟨R,0,none⟩)] V λr i=>V.grownBy i (some R)/\∃u,r=.returned u/\Jt i u ps):
 Calls I 44 #[D s] w λr i=>∃u,r=.returned (P #[u,.agg #[F H 0,F H 0]])/\Jt i u ps/\Bl w i:=by
 have ae:∀(fn:Fn) (first cap:Array K) (w:G),(Instr.makeFunc fn first cap).run I w=.ok (.func fn first cap) w:=λ_ _ _ _=>rfl;have HP:=Z hP;clear hP;go_enter_defers func44,ntmps44
 go_upto_region 3 with fail
 have g:=BK w 25 (C none 0 0);have c:=Ji.new (w.alloc (E #[C none 0 0] 25)) 77 (F H 0) (F H 0);have m:DV (((w.alloc (E #[C none 0 0] 25)).alloc (E #[F H 0,F H 0] 77)).alloc (E #[D s,F H 0] 124)) ((w.alloc (E #[C none 0 0] 25)).alloc (E #[F H 0,F H 0] 77)).heap.size s 0:=BG _ _;rw[A1,A1]at m;rw[A1]at c;replace g:=(g.alloc (E #[F H 0,F H 0] 77)).alloc (E #[D s,F H 0] 124);replace c:=c.alloc (E #[D s,F H 0] 124);have Q:Bl w (((w.alloc (E #[C none 0 0] 25)).alloc (E #[F H 0,F H 0] 77)).alloc (E #[D s,F H 0] 124)):=((Ba w _).alloc (by rw[A1];omega) _).alloc (by rw[A1,A1];omega) _;have hz:(((w.alloc (E #[C none 0 0] 25)).alloc (E #[F H 0,F H 0] 77)).alloc (E #[D s,F H 0] 124)).heap.size=w.heap.size+1+1+1:=by rw[A1,A1,A1]
 obtain⟨V,B⟩:=ex (((w.alloc (E #[C none 0 0] 25)).alloc (E #[F H 0,F H 0] 77)).alloc (E #[D s,F H 0] 124));rw[B]at g c m Q hz;rw[B];obtain⟨H0,U,X,HC⟩:=Dr g c Q (HP.o _ _ m);clear g c m Q B HP hz;go_wp2_with(go_at_call 90;refine HC.o.mono ?_;rintro e T ⟨ad,u1,rfl,S⟩;have n:=Z ad;obtain⟨a,d,b,rfl⟩:=S.form;have HU:=Z S.row;have l:Boxed T w.heap.size 25 (C none 0 0):=H0.o.kept n.o (λe=>by have:=A3 e;omega);have j:Ji T (w.heap.size+1) 77 (F H 0) (F H 0):=(n.o.block _ U.o.lt λe=>by have:=A3 e;omega).trans U.o;have x0:=l.cell;have x1:=l.frozen;obtain⟨y0,y1⟩:=j.cp;obtain⟨z0,z1⟩:=j.fp;have W:=Z l;have H3:=Z j;clear ad S l j)
 have o:w.heap.size+1≠w.heap.size:=O
 have Qd:=X.o.grown n.o X.o.size (λk e=>by grind);have a1:=W.o.set (C a d b);have a2:=Ei W.o (C a d b) HU.o;have x:=H3.o.far (p:=⟨w.heap.size,0,none⟩) o (C a d b);have a4:=Qd.setCell (p:=⟨w.heap.size,0,none⟩) (Aa _) (C a d b);generalize T.setCell ⟨w.heap.size,0,none⟩ (C a d b)=q at a1 a2 x a4 ⊢;have b1:=(BH q ⟨w.heap.size+1,0,none⟩ (F H 0) w.heap.size λe=>o e.symm).trans a1;have b2:=OW x J (Jy q (w.heap.size+1) 0 (F H 0)) a2;have y:=x.set0 (F H 0);have b4:=a4.setCell (p:=⟨w.heap.size+1,0,none⟩) DX (F H 0);generalize q.setCell ⟨w.heap.size+1,0,none⟩ (F H 0)=t at b1 b2 y b4 ⊢;have d1:=(BH t ⟨w.heap.size+1,1,none⟩ (F H 0) w.heap.size λe=>o e.symm).trans b1;have d2:=OW y J (Jy t (w.heap.size+1) 1 (F H 0)) b2;have z:=y.set1 (F H 0);have A:=b4.setCell (p:=⟨w.heap.size+1,1,none⟩) DX (F H 0);generalize t.setCell ⟨w.heap.size+1,1,none⟩ (F H 0)=v at d1 d2 z A ⊢;refine leaves_cons (f:=89) (args:=#[N (some ⟨w.heap.size,0,none⟩),N (some ⟨w.heap.size+1,0,none⟩)]) DJ (by simp[go_sem]) ?_;refine(VR ⟨w.heap.size,0,none⟩ ⟨w.heap.size+1,0,none⟩ _).mono ?_;rintro e u' w2 ⟨rfl,rfl,rfl⟩;have e1:Boxed v w.heap.size 25 (C a d b):=d1;have f1:=(e1.alloc (E #[F H 0,F H 0] 77)).cell;have f2:=(z.alloc (E #[F H 0,F H 0] 77)).c0;have f3:=(z.alloc (E #[F H 0,F H 0] 77)).c1;have f4:=A.alloc A.size (E #[F H 0,F H 0] 77);have f5:=d2.below (Ba v (E #[F H 0,F H 0] 77));generalize v.alloc (E #[F H 0,F H 0] 77)=W5 at f1 f2 f3 f4 f5 ⊢;simp[Leaves,settle,results,results44,go_sem,f1,f2,f3];exact⟨⟨_,J,f5⟩,f4⟩
def OX:∀(f:Nat) (b:Bool) (I m:Nat) (S d:U) (k:Nat),I<=l.length->m<=I->YA S m->Dx l f b I S=.ok d k->∃s,s<=l.length/\YA d s:=by
 intro f;induction f with
 |zero=>intro b I m S d k _ _ _ h;cases h
 |succ f r=>
  intro b I m S d k q x t h;cases g:JZ l I with
  |error e p=>rw[LR g]at h;cases h
  |ok a u=>
   obtain⟨c,n⟩:=a;have o:=KI q g;have i:=t.next (OT q g) o.2.2 b;have v:=Fa l u;have w:=Yh o.2.1;rw[LS g]at h;split at h
   . rename_i j;have:=J6 j;exact r _ _ (m+1) _ _ _ O O i h
   . split at h
     . rename_i j;have:=J6 j;exact r _ _ (m+1) _ _ _ O O i h
     . split at h
       . cases h;exact⟨m+1,O,i⟩
       . cases h
def VX{S:U}{k:Nat}(h:Dw l=.ok S k):∃m,m<=l.length/\YA S m:=by
 unfold Dw at h;have a:=Yh (l:=l) (i:=0) O;split at h
 . rename_i b;have:=J6 b;exact OX _ _ _ 0 _ _ _ O O YA.start h
 . exact OX _ _ _ 0 _ _ _ a O YA.start h
theorem OY(l:List UInt8):(JU l).1.length<=9/\∀i,DO 601 (cf (JU l).1 i):=by
 by_cases h:300<l.length
 . grind[JU,YO,DO.zero]
 . rw[Is h];cases a:Dw l with
   |error e p=>grind[Ir,YO,DO.zero]
   |ok S k=>
    obtain⟨m,b,hs⟩:=VX a;rw[show(Ir (EStateM.Result.ok S k)).1=Jf S from J];exact⟨As (JY _) (by rw[hs.1];exact Aa _),λi=>by rw[J2];exact(hs.2 i).mono O⟩
def GB(l:List UInt8)(a:G)(u:K)(e p:Int):Prop:=e=((JU l).2.1:Int)/\p=((JU l).2.2:Int)/\Jt a u (JU l).1
def VY(s:ByteArray)(hs:s.size<=300)(w:G):
 Calls I 44 #[D s] w λr a=>∃u e p,r=.returned (P #[u,.agg #[F H e,F H p]])/\GB (Je s) a u e p/\Bl w a:=by
 have b:=Is (l:=Je s) (by rw[Jg];omega);cases c:Dw (Je s)with
 |error g q0=>
  rw[c]at b;refine(VU s g q0 w λV R d=>(OU R s V d hs).mono λr a h=>⟨h.1,h.2.1 _ _ c⟩).mono ?_;rintro r a ⟨rfl,f⟩;refine⟨_,_,_,J,?_,f⟩;rw[GB,b];exact⟨J,J,_,J,RowK.nil _ _⟩
 |ok S k=>
  rw[c]at b;refine(VW s (Jf S) w λV R d=>(OU R s V d hs).mono λr a h=>⟨h.1,by obtain⟨u,i,j,_⟩:=h.2.2 _ _ c;exact⟨u,i,j⟩⟩).mono ?_;rintro r a ⟨u,rfl,m,f⟩;refine⟨_,_,_,J,?_,f⟩;rw[GB,b];exact⟨J,J,m⟩
def OZ(s:ByteArray)(w:G):
 Calls I 9 #[D s] w λr S=>∃u e p,r=.returned (P #[u,F H e,F H p])/\GB (Je s) S u e p/\Bl w S:=by
 by_cases t:300<s.size
 . have ad:(300:Int)<(s.size:Int):=O
   have T:=Z (show JU (Je s)=([],1,0)by unfold JU;rw[BR (by rw[Jg];exact t)]);clear t;go_enter func9,ntmps9
   go_wp2;exact BE (v:=P #[.agg #[C none 0 0],F H 1,F H 0]) (by simp[results,results9,go_sem]) J ⟨_,_,_,J,by rw[GB,T.o];exact⟨J,J,_,J,RowK.nil _ _⟩,Ba w _⟩
 . have ad:¬(300:Int)<(s.size:Int):=O
   have x:=Z λ(V:G)=>VY s O V;clear t;go_enter func9,ntmps9
   go_upto_region 4 with(go_at_call 44;refine(x.o _).mono ?_;clear x;rintro e a ⟨u1,g,p1,rfl,b,c⟩;obtain⟨d,j,f,rfl⟩:=b.2.2.form;have n:=Z b;have m:=Z c;clear b c)
   have Qj:w.heap.size<a.heap.size:=by have:=m.o.size;rw[A1]at this;omega
   have q0:Boxed a w.heap.size 25 (C none 0 0):=(m.o.block _ (by rw[A1];omega)).trans (BK w 25 (C none 0 0));have A:=(Ba w _).trans (m.o.mono (by rw[A1];omega));have i:=BK a 25 (C d j f);have k:=Ji.new (a.alloc (E #[C d j f] 25)) 77 (F H g) (F H p1);rw[A1]at k;replace i:=i.alloc (E #[F H g,F H p1] 77);have l:Bl a ((a.alloc (E #[C d j f] 25)).alloc (E #[F H g,F H p1] 77)):=(Ba a _).alloc (by rw[A1];omega) _;have q1:=(l.block _ q0.lt).trans q0;have c:=Bt A l;have b:=n.o.2.2.row.below l;have R:=Z (⟨n.o.1,n.o.2.1⟩:g=_/\p1=_);have y:w.heap.size≠a.heap.size:=O
   have z:w.heap.size≠a.heap.size+1:=O
   generalize (a.alloc (E #[C d j f] 25)).alloc (E #[F H g,F H p1] 77)=W2 at i k l q1 c b ⊢;clear l q0 A m n Qj;obtain⟨Q,o⟩:=ex (w.heap.size);obtain⟨B,q⟩:=ex (a.heap.size);rw[q]at i k y z;rw[o]at q1 y z;rw[q,o];have q2:Boxed W2 Q 25 (C none 0 0):=q1;have x0:=i.cell;obtain⟨y0,y1⟩:=k.cp;have z0:=q2.cell;have z1:=q2.frozen;obtain⟨X,W,Qk,U⟩:=Dr q2 o c b;clear i k q1 q2 o q c b;go_region
   go_wp2_with fail
   have r0:=z0;refine BE (v:=P #[.agg #[C d j f],F H g,F H p1]) (by simp[results,results9,go_sem,r0]) J ⟨_,_,_,J,⟨R.o.1,R.o.2,_,J,?_⟩,?_⟩
   . exact(Ei X.o (C d j f) U.o).below ((BF _ _).drew)
   . exact(Qk.o.setCell (p:=⟨Q,0,none⟩) (by rw[W.o];exact Aa _) _).drew
end
section
variable{ps qs:U}{A k:Nat}{q:Rat}
theorem VZ(h:DO k q):(JR q).length<=40*k+5:=by
 have a:=X5 q.num;have b:=X5 (q.den:Int);have c:=h.1.words;have d:=h.2.words;grind[JR]
theorem DO.abs(h:DO k q):DO k (YQ q):=by
 grind[Gn,DO,Sm]
theorem Va{c:Rat}(h:DO k c){i:Nat}(e:i<Y)(f:Bool):(Xl c i f).length<=40*k+40:=by
 have a:=VZ h.abs;have b:=X4 i;have d:(Jb Y i).length<=1:=JE Jc DX;grind[XM,Yx,X6,Xl]
theorem Vb(h:∀i,DO k (cf ps i))(hl:ps.length<=Y):∀(d m:Nat),ps.length-m=d->(JO (ps.drop m) m).length<=d*(40*k+40):=by
 intro d;induction d with
 |zero=>
  intro m b;grind[List.drop_of_length_le,JO]
 |succ d a=>
  intro m b;have a:=a (m+1) O;rw[XC ps (by omega:m<ps.length)];have c:=Va (h m) (by omega:m<Y) (JO (ps.drop (m+1)) (m+1)).isEmpty;grind
def XO(h:Sqs ps)(hl:ps.length<=3000)(m:Nat):(JO (ps.drop m) m).length<=140737488355328:=by
 have a:=Vb (λi=>(h.at i).sm) uo _ m J;omega
theorem Vc(z:U)(i:Nat)(a:Rat)(q:U):∀(j k:Nat),i+j<=k->cf (Yg z i a q j) k=cf z k:=by
 intro j;induction j with
 |zero=>intro k _;rfl
 |succ j c=>
  intro k b;grind[Yg,Xs,Cz]
theorem Y8(z:U)(i:Nat)(a:Rat)(q:U):∀(j k:Nat),cf (Yg z i a q j) k=cf z k\/cf (Yg z i a q j) k=cf z k+a*cf q (k-i):=by
 intro j;induction j with
 |zero=>intro k;exact An J
 |succ j b=>
  intro k;grind[Yg,Xs,Vc,Cz]
theorem Oa(hp:∀i,DO A (cf ps i))(b:∀j,DO A (cf qs j))(n:Nat):∀(i k:Nat),DO (min i ps.length*(A+A+1)+1) (cf (YC ps qs n i) k):=by
 intro i;induction i with
 |zero=>intro k;grind[YC,JX,DO.zero]
 |succ i a=>
  intro k;rw[YC];rcases Y8 (YC ps qs n i) i (cf ps i) qs qs.length k with e|e
  . rw[e];exact(a k).mono (by have:min i ps.length*(A+A+1)<=min (i+1) ps.length*(A+A+1):=Ae _ O;omega)
  . rw[e];by_cases c:i<ps.length
    . rw[show min (i+1) ps.length=min i ps.length+1 from by omega,Cm];exact((a k).add2 ((hp i).mul (b (k-i)))).mono O
    grind[JW]
def Ob(hp:∀i,DO A (cf ps i))(a:∀j,DO A (cf qs j))(c:(ps.length+1)*(A+A+1)+1<=1000000000):M3.Fqq ps qs:=by
 have hle:A+A+1<=(ps.length+1)*(A+A+1):=Cf _ O;refine⟨λi j=>Sq.of ((hp i).mul (a j)) O,λn i j k=>?_⟩;have b:=Oa hp a n i k;have d:min i ps.length*(A+A+1)<=ps.length*(A+A+1):=Ae _ O;rw[Cm]at c;rcases Y8 (YC ps qs n i) i (cf ps i) qs j k with e|e
 . rw[e];exact Sq.of b O
 . rw[e];exact Sq.of (b.add2 ((hp i).mul (a (k-i)))) O
theorem Oc(hp:∀i,DO A (cf ps i))(a:∀j,DO A (cf qs j))(k:Nat):DO (ps.length*(A+A+1)+1) (cf (YM ps qs) k):=by
 unfold YM;rw[J2,Ft];have h:=Oa hp a (ps.length+qs.length) ps.length k;grind[I5]
def XT:U:=[Rat.divInt 1 2,1]
def Fq:U:=[Rat.divInt 1 4,1,1]
def Vd:JU [120,32,43,32,49,47,50]=(XT,0,0):=GD
def Od:YM XT XT=Fq:=GD
def _root_.Go.Boxed.bel{W W':G}{B:Nat}{t:TypeId}{v:K}(h:Boxed W B t v)(a:Bl W W'):Boxed W' B t v:=(a.block B h.lt).trans h
def Ve:Xm Fq=[120,94,50,43,120,43,49,47,52]:=GD
def Gx(i:Nat):DO 1 (cf XT i):=by
 rcases i with _|_|i
 . exact⟨by show Sm 1 1;unfold Sm Y;decide,by show Sm 1 2;unfold Sm Y;decide⟩
 . exact⟨by show Sm 1 1;unfold Sm Y;decide,by show Sm 1 1;unfold Sm Y;decide⟩
 . rw[JW (by simp[XT])];exact DO.zero 1 O
def Oe:Sqs XT:=Sqs.of λi=>Sq.of (Gx i) O
def Of:Sqs Fq:=Sqs.of λi=>by rw[<-Od];exact Sq.of (Oc Gx Gx i) (by simp[XT])
def Vf(e:Int)(w:G):Calls I 12 #[F H e] w λr a=>r=.returned (F H e)/\Bl w a:=by
 go_enter func12,ntmps12
 go_wp2;go_ret;exact⟨J,BF _ _⟩
def Og(w:G)(W:Fo w):Calls I 19 #[] w λr v=>r=.returned (M true)/\Bl w v:=by
 have X:=Z W;have T:=Z (λ(V:G)=>show Calls I 9 #[D ⟨#[120,32,43,32,49,47,50]⟩] V λr v=>∃u,r=.returned (P #[u,F H 0,F H 0])/\Jt v u XT/\Bl V v from
  (OZ ⟨#[120,32,43,32,49,47,50]⟩ V).mono (λr v h=>by
   obtain⟨u,e,p,h1,U,h3⟩:=h;rw[GB,show Je ⟨#[120,32,43,32,49,47,50]⟩=[120,32,43,32,49,47,50]from J,Vd]at U;obtain⟨rfl,rfl,h4⟩:=U;exact⟨u,h1,h4,h3⟩))
 have c:=Z (BF w.heap.size w);clear W;go_enter func19,ntmps19
 go_upto_region 2 with(go_at_call 9;refine(T.o _).mono ?_;clear T;rintro e o ⟨u,rfl,j,b⟩;obtain⟨A,Q,c1,rfl⟩:=j.form)
 replace c:=Z (Bt c.o b);have d:Bl o (o.alloc (E #[C A Q c1] 25)):=Ba o _;have k:=BK o 25 (C A Q c1);have g:=j.below d;replace c:=Z (Bt c.o d);clear d;obtain⟨z,f⟩:=ex (o.alloc (E #[C A Q c1] 25));obtain⟨BP,i⟩:=ex (o.heap.size);rw[f]at g c;rw[f,i]at k;rw[f];rw[i];clear f i;clear j b;have l:=Z λ(V:G) (h:Bl z V)=>M3.LL _ _ XT XT V (g.below h) (g.below h) Oe Oe (Ob Gx Gx (by simp[XT])) (by simp[XT]);rw[Od]at l;have a:Bl z z:=BF _ _;have eP:=(k.bel a).cell;go_upto_region 3 with(go_at_call 28;refine(l.o _ a).mono ?_;clear l;rintro e q ⟨u,rfl,j,_,b⟩;obtain⟨B,R,c2,rfl⟩:=j.form)
 replace b:=Bt a b
 clear a eP;replace k:=k.bel b;replace g:=g.below b;replace c:=Z (Bt c.o b);clear b;have d:Bl q (q.alloc (E #[C B R c2] 25)):=Ba q _;have t:=BK q 25 (C B R c2);have S:=j.below d;replace k:=k.bel d;replace g:=g.below d;replace c:=Z (Bt c.o d);clear d;obtain⟨s,f⟩:=ex (q.alloc (E #[C B R c2] 25));obtain⟨BQ,i⟩:=ex (q.heap.size);rw[f]at k g S c;rw[f,i]at t;rw[f];rw[i];clear f i;clear j;have l:=Z λ(V:G) (h:Bl s V)=>Vf 0 V;have x:=Z λ(V:G) (h:Bl s V)=>Yt _ Fq V (S.below h) Of (λm=>XO Of (by simp[Fq]) m) (Js X.o (Bt c.o h));rw[Ve]at x;have y:=Z λ(V:G) (h:Bl s V)=>LH _ Fq V (S.below h);rw[show((Fq.length:Int)-1)=2 from J]at y;have a:Bl s s:=BF _ _;have n:=(t.bel a).cell;go_wp2_with(first
  |(go_at_call 12;refine(l.o _ a).mono ?_;clear l;rintro e x1 ⟨rfl,b⟩;replace a:=Bt a b;clear b n;have n:=(t.bel a).cell)
  |(go_at_call 13;refine(x.o _ a).mono ?_;clear x;rintro e x2 ⟨rfl,b⟩;replace a:=Bt a b;clear b n;have n:=(t.bel a).cell)
  |(go_at_call 15;refine(y.o _ a).mono ?_;clear y;rintro e x3 ⟨rfl,b⟩;replace a:=Bt a b;clear b n;have n:=(t.bel a).cell))
 go_ret;exact⟨J,Bt c.o a⟩
def Oh:Xm []=[48]:=DQ
def Oi(l:List UInt8):Jf (JU l).1=(JU l).1:=by
 by_cases h:300<l.length
 . rw[show JU l=([],1,0)by unfold JU;rw[BR h]];rfl
 . rw[Is h];cases Dw l with
   |error e p=>rfl
   |ok S k=>exact Y3 _
def _root_.Go.Proofs.YtcahejkcdcjjgaaGreatDoor.RowK.isPoly{V:G}{a:V8}{l c:Nat}(h:RowK true V (C a l c) ps):Jt V (.agg #[C a l c]) ps:=⟨_,J,h⟩
end
section
variable{Q R b ps qs:U}{A k la m n:Nat}{a p q:Rat}
def DO.mul2(hp:DO k p)(a:DO m q):DO (k+m) (p*q):=by
 rw[<-KW];refine DO.divInt ?_ (hp.1.mul a.1) (hp.2.mul a.2);exact CD (by have:=p.den_nz;omega) (by have:=q.den_nz;omega)
def DO.inv(a:DO m q)(b:q≠0):DO m q⁻¹:=by
 rw[Rat.inv_def];exact DO.divInt (λe=>b (CU.1 e)) a.2 a.1
def DO.div2(hp:DO k p)(b:DO m q)(a:q≠0):DO (k+m) (p/q):=by
 rw[Rat.div_def];exact hp.mul2 (b.inv a)
def DO.sub2(hp:DO k p)(a:DO m q):DO (k+m+1) (p-q):=by
 rw[CS];exact hp.add2 a.neg
def GC{p:U}(hp:Jf p=p)(h:∀i,m<=i->cf p i=0):p.length<=m:=by
 by_cases hl:p.length<=m
 . exact hl
 . exfalso
   exact J3 hp DX (h _ O)
theorem Gy(n:Nat)(a:Rat)(i:Nat):cf (Jf (DZ n [a])) i=if i=n then a else 0:=by rw[J2,Iq]
def Vg(n:Nat)(a:Rat):(Jf (DZ n [a])).length<=n+1:=LQ n a
theorem Oj(n:Nat)(a:Rat)(x:Rat):ev (Jf (DZ n [a])) x=x^n*a:=by
 rw[FW,He];show x^n*(a+x*0)=_;grind
theorem Gz(n:Nat)(a:Rat)(q:U)(i:Nat):cf (YM (Jf (DZ n [a])) q) i=if n<=i then a*cf q (i-n)else 0:=by
 have e:YM (Jf (DZ n [a])) q=Jf (Ys a (DZ n q)):=by
  rw[<-GF];refine Iy λx=>?_;rw[I7,Oj,Xt,He];grind
 grind[J2,YL,FX]
theorem Vh(c:∀i,i≠n->cf b i=0)(a:Nat):∀i k,cf (YC b qs a i) k=0\/cf (YC b qs a i) k=cf b n*cf qs (k-n)/\n<i:=by
 intro i;induction i with
 |zero=>intro k;left;rw[YC,JX]
 |succ i d=>
  intro k;grind[YC,Y8]
theorem Vi(d:∀i,i≠n->cf b i=0)(hs:∀j,Sq (cf b n*cf qs j)):M3.Fqq b qs:=by
 have c:Sq 0:=Sq.of (k:=1) (DO.zero 1 O) O;refine⟨λi j=>?_,λa i j k=>?_⟩
 . grind
 grind[Vh,Y8]
def Fr(A la:Nat)(ps qs R Q:U)(k:Nat):Prop:=
 Jf R=R/\Jf Q=Q/\k+R.length<=la/\Q.length<=la/\(∀x,ev ps x=ev qs x*ev Q x+ev R x)/\(∀i,i+qs.length<=R.length->cf Q i=0)/\
  ∃z,z+(2*A+1)<=2^k*(3*A+1)/\(∀i,DO z (cf R i))/\∀i,DO (z+A) (cf Q i)
theorem Fr.start(b:1<=A)(a:Jf ps=ps)(hp:∀i,DO A (cf ps i)):Fr A ps.length ps qs ps [] 0:=by
 refine⟨a,J,O,DJ,λx=>?_,λi _=>YO i,A,O,hp,λi=>?_⟩
 . show _=ev qs x*0+_;grind
 . rw[YO];exact DO.zero _ O
theorem Lc(c:Jf qs=qs)(b:qs≠[])(hl:qs.length<=R.length)(g:n=R.length-qs.length)
(d:a=cf R (R.length-1)/cf qs (qs.length-1)):(Y9 R (YM (Jf (DZ n [a])) qs)).length<=R.length-1:=by
 have j:0<qs.length:=Ap.2 b;have f:=J3 c b;refine GC (Xv _ _) λi e=>?_;grind[FY,Gz,JW]
theorem Fr.next(h:Fr A la ps qs R Q k)(g:∀i,DO A (cf qs i))(j:Jf qs=qs)(c:qs≠[])(hl:qs.length<=R.length)(q:n=R.length-qs.length)
(f:a=cf R (R.length-1)/cf qs (qs.length-1)):Fr A la ps qs (Y9 R (YM (Jf (DZ n [a])) qs)) (Xb Q (Jf (DZ n [a]))) (k+1):=by
 obtain⟨r,s,t,u,v,w,z,y,b,o⟩:=h;have S:0<qs.length:=Ap.2 c;have l:=J3 j c;have m:∀i,cf (Y9 R (YM (Jf (DZ n [a])) qs)) i=cf R i-(if n<=i then a*cf qs (i-n)else 0):=λi=>by rw[FY,Gz]
 have e:∀i,cf (Xb Q (Jf (DZ n [a]))) i=if i=n then a else cf Q i:=λi=>by
  grind[GG,Gy]
 have B:=Lc j c hl q f;have d:DO (z+A) a:=by rw[f];exact(b _).div2 (g _) l
 refine⟨Xv _ _,Xu _ _,O,GC (Xu _ _) λi p=>?_,λx=>?_,λi p=>?_,2*z+(2*A+1),?_,λi=>?_,λi=>?_⟩
 . rw[e,BL O,JW O]
 . grind[Lk,Ll,I7]
 . grind
 . grind[A4]
 . rw[m];split
   . exact((b i).sub2 (d.mul2 (g _))).mono O
   . rw[CS,Rat.neg_zero,Rat.add_zero];exact(b i).mono O
 . rw[e];split
   . exact d.mono O
   . exact(o i).mono O
def Fr.done(h:Fr A la ps qs R Q k)(b:Jf qs=qs)(a:qs≠[])(hl:R.length<qs.length):Q=XZ ps qs/\R=XP ps qs:=by
 obtain⟨f,g,_,_,i,_⟩:=h;obtain⟨c,d,e,g4⟩:=I6 ps qs b a;exact Li b a g e f g4 hl d (λx=>by rw[<-i x,<-c x])
end
namespace M3
def ZQ(V:G)(g r:Nat):Prop:=∀j,j<r->V.cell? ⟨g,j*4,none⟩=some (M false)/\V.cell? ⟨g,j*4+1,none⟩=some (C none 0 0)/\V.cell? ⟨g,j*4+2,none⟩=some (M false)/\V.cell? ⟨g,j*4+3,none⟩=some (C none 0 0)
variable{cs:Array K}{n:Int}{bs bs':List (Option (Nat × Dat))}{B X f g gQ i r:Nat}{t:TypeId}{v:K}{V V' W w:G}
theorem ZQ.of(h:ZQ V g r)(e:V'.heap[g]?=V.heap[g]?):ZQ V' g r:=λj a=>by
 obtain⟨b,c,d,f⟩:=h j a;grind[BT]
def ET(w V:G)(bs:List (Option (Nat × Dat)))(a:Nat)(n:Int)(gQ r:Nat):Prop:=DM w V bs/\Boxed V a 3 (.int H n)/\ZQ V gQ r/\gQ<V.heap.size
def ET.below{w V V':G}{bs:List (Option (Nat × Dat))}{b:Nat}{n:Int}{gQ r:Nat}(h:ET w V bs b n gQ r)(a:Bl V V'):ET w V' bs b n gQ r:=
 ⟨h.1.below a,(a.block b h.2.1.lt).trans h.2.1,h.2.2.1.of (a.block gQ h.2.2.2),Al h.2.2.2 a.size⟩
def ET.own{w V V':G}{bs:List (Option (Nat × Dat))}{a:Nat}{n:Int}{gQ r:Nat}{row:Option Nat}(h:ET w V bs a n gQ r)(g:∃cs t m,V.heap[gQ]?=some (E cs t m))(hg:V.grownBy V' row)(d:∀x,row=some x->w.heap.size<=x/\∃o:Obj,V.heap[x]?=some o/\o.isCells=false):ET w V' bs a n gQ r:=by
 have b:∀r,row=some r->∃o:Obj,V.heap[r]?=some o/\o.isCells=false:=λr e=>(d r e).2;refine⟨h.1.own hg d,XW hg b (show Bx V a 3 #[F H n]from h.2.1),h.2.2.1.of ?_,Al h.2.2.2 hg.size⟩;obtain⟨cs,t,m,e⟩:=g;refine hg.block gQ h.2.2.2 λf=>?_;obtain⟨o,c,i⟩:=b gQ f.symm;rw[e]at c;cases c;cases i
def Vj(V:G)(m:Nat):Has V (.agg (Yw m)) (.rats (List.replicate m 0)):=by
 refine⟨Yw m,J,λj a=>?_⟩;rw[AG]at a;obtain⟨b,c,d,e⟩:=Ig a;exact⟨_,_,_,_,b,c,d,e,by rw[JX];exact D0 _⟩
def Eb(w:G)(b d:V8)(la c lb e m:Nat)(f:V8)(rc a gQ:Nat)(x:Option (Nat × Dat))(Q:U):List (Option (Nat × Dat)):=
 [some (w.heap.size,.cell 25 (C b la c)),some (w.heap.size+1,.cell 25 (C d lb e)),some (w.heap.size+1+1,.cell 25 (C Option.none 0 0)),some (w.heap.size+1+1+1,.cell 25 (C Option.none 0 0)),
  x,some (a,.cell 23 (C f la rc)),some (gQ,.rats Q),some (gQ+1,.cell 23 (C (some ⟨gQ,0,Option.none⟩) m m)),some (gQ+1+1,.cell 23 (C (some ⟨gQ,0,Option.none⟩) m m))]
def g4(la g:Nat)(R:U):Option (Nat × Dat):=if la=0 then none else some (g,.rats R)
theorem Vk(p:U)(i:Nat)(c:Rat)(j:Nat):cf (p.set i c) j=c\/cf (p.set i c) j=cf p j:=by
 grind[Xs,Cz]
theorem Ok{A:Nat}{ps qs:U}{n m:Nat}(l:1<=A)(hp:∀i,DO A (cf ps i))(c:∀i,DO A (cf qs i))(d:cf qs n≠0):∀k,∃z,z+(2*A+1)<=2^k*(3*A+1)/\(∀i,DO z (cf (JB ps qs n m k).2 i))/\∀i,DO (z+A) (cf (JB ps qs n m k).1 i):=by
 intro k;induction k with
 |zero=>exact⟨A,O,hp,λi=>by rw[JB,JX];exact DO.zero _ O⟩
 |succ k g=>
  obtain⟨z,j,a,f⟩:=g;have b:DO (z+A) (cf (JB ps qs n m k).2 (m-(k+1)+n)/cf qs n):=(a _).div2 (c _) d;refine⟨2*z+(2*A+1),?_,λi=>?_,λi=>?_⟩
  . grind[A4]
  . rw[JB];rcases Y8 (JB ps qs n m k).2 (m-(k+1)) (-(cf (JB ps qs n m k).2 (m-(k+1)+n)/cf qs n)) qs qs.length i with e|e
    . rw[e];exact(a i).mono O
    . rw[e];exact((a i).add2 (b.neg.mul2 (c _))).mono O
  . rw[JB];rcases Vk (JB ps qs n m k).1 (m-(k+1)) (cf (JB ps qs n m k).2 (m-(k+1)+n)/cf qs n) i with e|e
    . rw[e];exact b.mono O
    . rw[e];exact(f i).mono O
def ET.upd(h:ET w V bs f n gQ r)(g:DM w V' bs')(b:∀B,B≠X->V'.heap[B]?=V.heap[B]?)(c:f≠X)(d:gQ≠X):ET w V' bs' f n gQ r:=by
 have e:=b gQ d;refine⟨g,(b f c).trans h.2.1,h.2.2.1.of e,?_⟩;refine Nat.lt_of_not_le λhle=>?_;have a:=Array.getElem?_eq_none_iff.2 hle;rw[e]at a;exact absurd (Array.getElem?_eq_none_iff.1 a) (by have:=h.2.2.2;omega)
def D7(w W V:G)(bs:List (Option (Nat × Dat)))(a:Nat)(n:Int)(gQ r:Nat):Prop:=ET w V bs a n gQ r/\KeepsOthers W V
def D7.below{w W V V':G}{bs:List (Option (Nat × Dat))}{a:Nat}{n:Int}{gQ r:Nat}(h:D7 w W V bs a n gQ r)(b:Bl V V'):D7 w W V' bs a n gQ r:=⟨h.1.below b,h.2.trans (J0 b)⟩
theorem Ol{m:Nat × Nat}(h:Boxed V f 3 v)(a:V.heap[X]?=some (E cs 38 m)):f≠X:=λe=>by
 subst e;have:=a.symm.trans h;grind
def Vl(V:G)(C:Nat)(x y z u:K)(B:Nat)(h:B≠C):(put4 V C x y z u).heap[B]?=V.heap[B]?:=
 (BH _ ⟨C,3,none⟩ u B h).trans ((BH _ ⟨C,2,none⟩ z B h).trans ((BH _ ⟨C,1,none⟩ y B h).trans (BH V ⟨C,0,none⟩ x B h)))
def D7.al(h:D7 w W V bs f n gQ r){o:Obj}(m:DM w (V.alloc o) bs'):D7 w W (V.alloc o) bs' f n gQ r:=
 have k:=h.below (Ba V o)
 ⟨⟨m,k.1.2⟩,k.2⟩
def D7.up{p:Nat × Nat}(h:D7 w W V bs f n gQ r)(m:DM w V' bs')(c:V.heap[X]?=some (E cs 38 p))(b:∀B,B≠X->V'.heap[B]?=V.heap[B]?)(a:gQ≠X)(k:KeepsOthers V V'):D7 w W V' bs' f n gQ r:=
 ⟨h.1.upd m b (Ol h.1.2.1 c) a,h.2.trans k⟩
theorem Vm{o:Nat}{x:K}(h:o≠f):(V.setCell ⟨g,f,none⟩ x).cell? ⟨g,o,none⟩=V.cell? ⟨g,o,none⟩:=World.cell?_setCell_other _ _ _ _ DX
theorem ZQ.put(h:ZQ V g (i+1))(x y z u:K):ZQ (putAt V g (i*4) x y z u) g i:=λj e=>by
 obtain⟨a,b,c,d⟩:=h j O;grind[putAt,Vm]
def boxed_below(h:Boxed V B t v)(a:Bl V V'):Boxed V' B t v:=(a.block B h.lt).trans h
def FH(V:G)(D:Nat)(rs a:K)(R Q:U):Prop:=RowK true V rs R/\RowK true V a Q/\V.heap[D]?=some (.deferred (some []))
def FH.below{V V':G}{D:Nat}{rs b:K}{R Q:U}(h:FH V D rs b R Q)(a:Bl V V'):FH V' D rs b R Q:=⟨h.1.below a,h.2.1.below a,(a.block D (Ab.1 h.2.2).1).trans h.2.2⟩
def FH.set{D:Nat}{rs f:K}{R Q:U}(h:FH V D rs f R Q){a:V8}{l c:Nat}(b:Boxed V B 25 (C a l c))(x:K):FH (V.setCell ⟨B,0,none⟩ x) D rs f R Q:=
 ⟨Ei b x h.1,Ei b x h.2.1,(BH _ ⟨B,0,none⟩ x D λe=>by
  have e:D=B:=e;have d:=h.2.2;rw[e,show V.heap[B]?=_ from b]at d;cases d).trans h.2.2⟩
def DM.asPoly(b:DM w V bs)(h:bs[i]?=some (some (B,.cell 25 (C Option.none 0 0)))):DM w V (bs.set i (some (B,.poly []))):=by
 have f:∀j a d,(bs.set i (some (B,.poly [])))[j]?=some (some (a,d))->(∃c,bs[j]?=some (some (a,c)))/\((∃cs,Bx V a d.ty cs/\Has V (.agg cs) d)/\w.heap.size<=a):=λj a d e=>by
  rw[List.getElem?_set]at e;split at e
  . rename_i o;subst o;split at e
    . cases e;exact⟨⟨_,h⟩,⟨_,(b.cell h).1,Tf V⟩,(b.1 i _ _ h).2⟩
    . cases e
  . exact⟨⟨_,e⟩,b.1 j _ _ e⟩
 exact⟨λj a d e=>(f j a d e).2,λj k a d c g l=>by
  obtain⟨⟨_,m⟩,_⟩:=f j a d g;obtain⟨⟨_,n⟩,_⟩:=f k a c l;exact b.2.1 j k a _ _ m n,b.2.2⟩
def Ha(a:G)(b:V8)(la rc m:Nat):G:=(((a.alloc (E #[C b la rc] 23)).alloc (E (Yw m) 38)).alloc (E #[C (some ⟨a.heap.size+1,0,none⟩) m m] 23)).alloc (E #[C (some ⟨a.heap.size+1,0,none⟩) m m] 23)
theorem Vn(A:Nat)(S qa:V8)(la T lb y n m:Nat)(ps qs:List Rat)(w:G)(ha:RowK true w (C S la T) ps)(hb:RowK true w (C qa lb y) qs)(hq:∀i,DO A (cf qs i))(cz:Jf qs=qs)(cg:qs≠[])(hL:∀k,k<=m->∃z,z+(2*A+1)<=1000000000/\(k<m->2*z+2*(2*A+1)<=1000000000)/\(∀i,DO z (cf (JB ps qs n m k).2 i))/\∀i,DO (z+A) (cf (JB ps qs n m k).1 i))(hn:lb=n+1)(hm:la-n=m):
 Calls I 29 #[.agg #[C S la T],.agg #[C qa lb y]] w λe w'=>∃u v,e=.returned (P #[u,v,M true])/\Jt w' u (XZ ps qs)/\Jt w' v (XP ps qs)/\Bl w w':=by
 obtain⟨bz,du,dx,en,s,t,aa,bb,ll,cc,kk,dd,bt⟩:=ha.forms;obtain⟨Qf,dw,dz,ff,s',t',ae,ah,ap,ai,an,aj,bu⟩:=hb.forms;obtain⟨V0,di,bc⟩:=NE 25 (.cell 25 (C S la T)) FP 25 (.cell 25 (C qa lb y)) FP 25 (.cell 25 (C none 0 0)) FP 25 (.cell 25 (C none 0 0)) FP (w:=w);have M1:=bc.o;have Wi:=Z (show Calls I 15 #[.agg #[C qa lb y]] V0 λe w'=>e=.returned (F H (n:Int))/\Bl V0 w' by
  have h:=LH (.agg #[C qa lb y]) qs V0 ⟨_,J,hb.below M1.2.2⟩;rwa[show((qs.length:Int)-1)=(n:Int)by omega]at h)
 have Wg:=Z λ(V:G) (h:Bl w V)=>TV (C S la T) ps V (ha.below h);have fh:∀W:G,(Instr.makeSlice 23 (F H (m:Int)) (F H (m:Int))).run I W=.ok (C (some ⟨W.heap.size,0,none⟩) m m) (W.alloc (E (Yw m) 38)):=λW=>Gm m O W;obtain⟨d,fk⟩:=ex ((la:Int)-(n:Int):Int);have fo:H.wrap d=d:=by rw[Bi];omega
 have fg:max (0:Int) d=(m:Int):=O
 have fj:¬(n:Int)<0:=O
 obtain⟨HP,HQ,Qb,Qe,HN,Qr,Ug,Ui⟩:=Ep bt bu bz Qf (show lb=n+1/\la-n=m from⟨hn,hm⟩) hq cz cg;have HL:=Z hL;have Ql:m<=1099511627776:=O
 clear ha hb bt bu bz Qf du dx dw dz hq cz cg hL hn hm M1;have c1:=(bc.o.cell (i:=1) J).1.cell;refine(BN (n:=3)).1 ?_;refine BW func29 J trivial ?_ J;simp only[ntmps29,Aj,Ak,AO,Nat.reduceAdd,Nat.reduceSub,At,Au,AK,AA,Ai,Ao];gi_wp2_with fail
 rw[di.o];refine⟨trivial,?_⟩;refine((BN (n:=_)).2 Wi.o).mono ?_;rintro e w1 ⟨rfl,bn⟩;have Ue:Bl w1 (w1.alloc (E #[F H (n:Int)] 3)):=Ba w1 _;have Qo:=(bc.o.below bn).below Ue;have h4:=BK w1 3 (F H (n:Int));have c0:=(Qo.cell (i:=0) J).1.cell;obtain⟨Qh,Qt,H4⟩:=DY (Wg.o _ Qo.2.2) Qo h4;clear Ue Qo h4 bn c1;gi_wp2_with fail
 obtain⟨V1,bj⟩:=ex (w1.alloc (E #[F H (n:Int)] 3));obtain⟨B4,bd⟩:=ex (w1.heap.size);rw[bj]at Qh Qt H4 c0;rw[bd]at H4;rw[bj,bd];clear bj bd;refine⟨trivial,?_⟩;refine((BN (n:=_)).2 Qh.o).mono ?_;rintro e U ⟨u2,rfl,de,_,az,ce⟩;have eb:∃g gR rc,u2=C g la rc/\(la≠0->g=some ⟨gR,0,none⟩)/\(la≠0->V1.heap.size<=gR/\Db true U gR ps)/\la<=rc/\rc<=9223372036854775807:=by
  obtain⟨a7,dj,e7,h7,h8,_⟩:=id de;rcases ce with rfl|⟨g',cap,e1,e2,e3⟩
  . injection e7 with _ e7
    have h0:=Qb.o.trans e7.symm;exact⟨_,0,_,by rw[h0],λh=>absurd h0 h,λh=>absurd h0 h,O,O⟩
  . rw[e1]at e7;have e8:cap=dj:=by injection e7
    exact⟨_,g',cap,by rw[e1,Qb.o],λ_=>rfl,λ_=>⟨e2,e3⟩,by rw[Qb.o,e8];exact h7,by rw[e8];exact h8⟩
 obtain⟨g,gR,rc,rfl,cj,bi,ck,cn⟩:=eb;have Qk:=Z (show(la≠0->g=some ⟨gR,0,none⟩)/\la<=rc/\rc<=9223372036854775807 from⟨cj,ck,cn⟩);clear ck cn cj;have Uf:DM w U ([some (w.heap.size,.cell 25 (C S la T)),some (w.heap.size+1,.cell 25 (C qa lb y)),some (w.heap.size+1+1,.cell 25 (C Option.none 0 0)),some (w.heap.size+1+1+1,.cell 25 (C Option.none 0 0))]++[g4 la gR ps]):=by
  unfold g4;split
  . exact(Qt.o.below az).none
  . exact Qt.o.adopt az (bi (by assumption)).1 (bi (by assumption)).2
 have h4:Boxed U B4 3 (F H (n:Int)):=(az.block B4 H4.o.lt).trans H4.o;have Uk:=Ba U (E #[C g la rc] 23);have h5:=boxed_below h4 Uk;have c4:=h5.cell;have Uv:=Z (Uf.push (.cell 23 (C g la rc)) (cs:=#[C g la rc]) ⟨J,J⟩);have H5:=Z h5;clear ce de az bi Uf h4 Uk h5 c0;gi_wp2_with fail
 refine⟨trivial,?_⟩;refine(LG Fence.wide _ trivial J _ _ _ _).mono ?_;rintro e w3 ⟨rfl,rfl⟩;have Qm:=Z (show ET w (Ha U g la rc m) (Eb w S qa la T lb y m g rc U.heap.size (U.heap.size+1) (g4 la gR ps) (List.replicate m 0)) B4 (n:Int) (U.heap.size+1) m by
  have Uo:=((Uv.o.push (.rats (List.replicate m 0)) (Vj _ m)).push (.cell 23 (C (some ⟨U.heap.size+1,0,none⟩) m m)) (cs:=#[C (some ⟨U.heap.size+1,0,none⟩) m m]) ⟨J,J⟩).push (.cell 23 (C (some ⟨U.heap.size+1,0,none⟩) m m)) (cs:=#[C (some ⟨U.heap.size+1,0,none⟩) m m]) ⟨J,J⟩;simp only[A1]at Uo;have hz:(Ha U g la rc m).heap[U.heap.size+1]?=some (E (Yw m) 38 (0,0)):=by
   have e:=BG (U.alloc (E #[C g la rc] 23)) (E (Yw m) 38);rw[A1]at e;exact(Bn _ _ _ (by simp only[A1];omega)).trans ((Bn _ _ _ DX).trans e)
  exact⟨Uo,boxed_below (boxed_below (boxed_below H5.o (Ba _ _)) (Ba _ _)) (Ba _ _),λj hj=>by
   obtain⟨h0,h1,h2,h3⟩:=Ig hj;exact⟨cell_of hz h0,cell_of hz h1,cell_of hz h2,cell_of hz h3⟩,(Ab.1 hz).1⟩)
 obtain⟨W3,ak⟩:=ex (Ha U g la rc m);rw[ak]at Qm;have Qj:W3.heap.size=U.heap.size+1+1+1+1:=by rw[<-ak];simp only[Ha,A1]
 unfold Ha at ak;rw[ak];simp only[A1];obtain⟨a,bf⟩:=ex (U.heap.size);rw[bf]at Qm Qj;rw[bf];have f8:=Z Qj;clear Qj ak bf c4;gi_wp2_with fail
 have Ul:=Z (show w.heap.size<=W3.heap.size from Qm.o.1.2.2.size);refine YG J O (gf:=94) (lb:=#[N (some ⟨a+1+1+1,0,none⟩)]) J trivial (DF func94 V9 J)
  (LF Fence.wide _ trivial J O (a+1+1+1) (some ⟨a+1,0,none⟩) m m (λ_=>M false) (λ_=>C none 0 0) (λ_=>M false) (λ_=>C none 0 0) Ql) (λ_=>rfl)
  (λk W=>ET w W (Eb w S qa la T lb y m g rc a (a+1) (g4 la gR (JB ps qs n m k).2) (JB ps qs n m k).1) B4 (n:Int) (a+1) (m-k)) (λ_ _ _=>False)
  (λk W W' row h hg hr=>h.own (by obtain⟨cs,h1,_⟩:=h.1.rats (i:=6) J;exact⟨cs,_,_,h1⟩) hg λr e=>⟨As Ul.o (hr r e).1,(hr r e).2⟩)
  (λc s W W' row h=>h.elim) Qm.o ?rd
  (λk=>{ tmps:=#[.agg #[C S la T],.agg #[C qa lb y],N (some ⟨w.heap.size,0,none⟩),N (some ⟨w.heap.size+1,0,none⟩),N (some ⟨w.heap.size+1+1,0,none⟩),N (some ⟨w.heap.size+1+1+1,0,none⟩),M false,N (some ⟨B4,0,none⟩),N (some ⟨a,0,none⟩),N (some ⟨a+1+1,0,none⟩),F H ((m:Int)-1-k),L,L,L,L,.agg #[C qa lb y],F H ↑n,F H ↑n,M (decide ((n:Int)<0)),L,L,N (some ⟨w.heap.size,0,none⟩),C S la T,C g la rc,C g la rc,F H ↑la,F H ↑n,F H d,F H ↑m,C (some ⟨a+1,0,none⟩) m m,C (some ⟨a+1,0,none⟩) m m,.func (.func 94) #[] #[N (some ⟨a+1+1+1,0,none⟩)],F H ((m:Int)-1-k),.agg #[M false,C none 0 0,M false,C none 0 0],L,L,L,L,L,L,L,L,L,L,L,L,L,L,L,L,L,L,L,L,L,L,L,L,L,L,L,L,L,L,L,L,L,L,L,L,L,L,L,L,L,L,L,L,L,L,L],defers:=[] }) ?assign ?body ?done ?stop
 case stop=>intro D c k W _ _ h;exact h.elim
 case rd=>
  intro k W h;refine⟨(h.1.cell (i:=8) J).1.cell,λhk=>?_⟩;obtain⟨h0,h1,h2,h3⟩:=h.2.2.1 (m-1-k) O;exact⟨a+1,J,h0,h1,h2,h3⟩
 case assign=>
  intro l k W K hK;unfold Gk;gi_wp2;exact hK
 case body=>
  intro l k W hS hk Qj;have Ud:la≠0:=by have:=HN.o;omega
  obtain rfl:=Qk.o.1 Ud;have HG:=Z (show ∀X,g4 la gR X=some (gR,.rats X)from λ_=>BL Ud);rw[HG.o]at hS;obtain⟨eh,bq,rfl,dt,q0,q1,q2,q3⟩:=HQ.o n (by have:=HN.o;omega);have Ur:=Z (show ∀j,j<lb->∀V,Bl w V->(V.cell? ⟨bq,j*4,none⟩=some (M (s' j))/\V.cell? ⟨bq,j*4+1,none⟩=some (C (ae j) (ap j) (ai j))/\V.cell? ⟨bq,j*4+2,none⟩=some (M (t' j))/\V.cell? ⟨bq,j*4+3,none⟩=some (C (ah j) (an j) (aj j)))/\Jl V (.agg #[M (s' j),C (ae j) (ap j) (ai j),M (t' j),C (ah j) (an j) (aj j)]) (cf qs j)from λj hj V hB=>by
   obtain⟨hi,b,e,hb,c0,c1,c2,c3⟩:=HQ.o j hj;cases e;exact⟨⟨(hB.cell (p:=⟨bq,_,none⟩) hb).trans c0,(hB.cell (p:=⟨bq,_,none⟩) hb).trans c1,(hB.cell (p:=⟨bq,_,none⟩) hb).trans c2,(hB.cell (p:=⟨bq,_,none⟩) hb).trans c3⟩,hi.below hB⟩)
  clear eh dt q0 q1 q2 q3;have Qa:cf qs n≠0:=by
   have:=J3 Ug.o Ui.o;rwa[show qs.length-1=n by have:=HN.o;have:=Qe.o;omega]at this
  obtain⟨z,ew,bm,ad,am⟩:=HL.o k O;have Qv:z+(2*A+1)+(z+(2*A+1))<=1000000000:=O
  clear ew;obtain⟨i,hi⟩:=ex (m-(k+1):Nat);obtain⟨R,hR⟩:=ex ((JB ps qs n m k).2);obtain⟨Q,hQ⟩:=ex ((JB ps qs n m k).1);have Uy:R.length=la:=by rw[<-hR,(Yp ps qs n m k).2];exact Qb.o.symm
  have Wh:Q.length=m:=by rw[<-hQ];exact(Yp ps qs n m k).1
  rw[hR,hQ]at hS;rw[hR]at ad;obtain⟨t0,er⟩:=ex (i+n:Nat);obtain⟨c,hc⟩:=ex (cf R t0/cf qs n);have Up:JB ps qs n m (k+1)=(Q.set i c,Yg R i (-c) qs qs.length):=by rw[JB];grind
  have Qd:DO (z+A) c:=by rw[<-hc];exact(ad t0).div2 (Qr.o n) Qa
  obtain⟨Wb,Qi,Ub⟩:=DY (show Sq c from Sq.of Qd O) (show ∀j,Sq (cf qs j)from λj=>Sq.of (Qr.o j) O) (show ∀j,Sq (c*cf qs j)from λj=>Sq.of (Qd.mul2 (Qr.o j)) O);have Wa:=Z (show ∀j t,Sq (cf (Yg R i (-c) qs j) t)from λj t=>by
   rcases Y8 R i (-c) qs j t with e|e
   . rw[e];exact Sq.of (ad t) O
   . rw[e];exact Sq.of ((ad t).add2 (Qd.neg.mul2 (Qr.o _))) O)
  obtain⟨Qu,Uu,f6,Qw,Qy,Qc⟩:=GU (show Sq (cf R t0)from Sq.of (ad t0) O) hc Qa (show decide (cf qs n≠0)=true from BM Qa) Up (show R.length=la/\Q.length=m/\t0<la/\i<m/\m-k=i+1/\m-(k+1)=i by have:=HN.o;omega);have Un:(m:Int)-1-(k:Int)=(i:Int):=O
  have f9:(i:Int)+(n:Int)=(t0:Int):=O
  have fr:H.wrap (t0:Int)=(t0:Int):=by rw[Bi];have:=HN.o;omega
  have fl:(t0:Int)<(la:Int):=by have:=Qc.o;omega
  have fi:(n:Int)<(lb:Int):=by have:=HN.o;omega
  have fd:(i:Int)<(m:Int):=by have:=Qc.o;omega
  rw[Un];have Qg:D7 w W W.drew (Eb w S (some ⟨bq,0,none⟩) la T lb y m (some ⟨gR,0,none⟩) rc a (a+1) (some (gR,.rats R)) Q++[Option.none]) B4 (n:Int) (a+1) (m-k):=⟨⟨(hS.1.below ((BF _ W).drew)).none,(hS.below ((BF _ W).drew)).2⟩,J0 ((BF _ W).drew)⟩;clear hS hi hR hQ Uy Wh er hc Qd bm ad am Qv Qa Up Un Qj;gi_wp2_with fail
  refine LA (Ar ⟨l,J⟩) Dm [[],[],[],[1,2],[0,3],[4],[],[6],[],[7,8],[9],[5,10],[11],[12],[12],[],[15,13,11,0,1,2,3,4,5,6,7,8,9,10,11,12,13,15],[14,16,0,1,2,3,4,5,6,7,8,9,10,11,12,13,14,15,16]] [.eq (C (some ⟨gR,0,none⟩) la rc),.eq (F H (i:Int)),.eq (F H (n:Int)),.eq (F H (t0:Int)),.eq (N (some ⟨gR,t0*4,none⟩)),.rat (cf R t0),.eq (N (some ⟨w.heap.size+1,0,none⟩)),.eq (C (some ⟨bq,0,none⟩) lb y),.eq (F H (n:Int)),.eq (N (some ⟨bq,n*4,none⟩)),.rat (cf qs n),.tup1 (.rat c),.tup1 (.rat c),.rat c,.eq (M true),.ptr,.eq L,.eq (M true)] [15,16] (λb v V=>D7 w W V (Eb w S (some ⟨bq,0,none⟩) la T lb y m (some ⟨gR,0,none⟩) rc a (a+1) (some (gR,.rats R)) Q++[nb b v 0 1 (.rat 0) (.rat c)]) B4 (n:Int) (a+1) (m-k)) Qg (WB (.vl J λ_ j=>Gi 5 j.1.1)<|WB (.vl J λ_ _=>mv)<|WB (.vl J λ_ j=>⟨_,by have e0:=j.1.2.1.cell;refine DW ?_;go_simp,J⟩)<|WB (.vl J λh _=>⟨_,by refine DW ?_;rw[h.e 1,h.e 2];go_simp,J⟩)<|WB (.vl J λh _=>⟨_,by refine DW ?_;rw[h.e 0,h.e 3];go_simp,J⟩)<|WB (.vl J λh j=>LB 4 j.1.1 (by have:=Qc.o;omega) (h.e 4))<|WB (.vl J λ_ _=>⟨_,by refine DW ?_;go_simp,J⟩)<|WB (.vl J λh j=>⟨_,by have e0:=(j.1.1.cell (i:=1) J).1.cell;refine DW ?_;rw[h.e 6];go_simp,J⟩)<|WB (.vl J λ_ j=>⟨_,by have e0:=j.1.2.1.cell;refine DW ?_;go_simp,J⟩)<|WB (.vl J λh _=>⟨_,by refine DW ?_;rw[h.e 7,h.e 8];go_simp,J⟩)<|WB (.vl J λh j=>by
     obtain⟨⟨e0,e1,e2,e3⟩,hr⟩:=Ur.o n (by have:=HN.o;omega) _ j.1.1.2.2;exact⟨_,by refine DW ?_;rw[h.e 9];go_simp,hr⟩)<|WB (.cl λh _=>SN (by
     have q:=Sr _ _ (cf R t0) (cf qs n) _ (h.g 5) (h.g 10) Qu.o (Qi.o n);rw[Qw.o,Uu.o]at q;exact q))<|WB (.vl J λh _=>mw (h.g 11))<|WB (.vl J λh _=>SU (h.g 12))<|WB (.vl J λh _=>SV (h.g 12))<|WB (.wr J λ_ j=>SR 9 j.1.1 (hT:=λm=>j.al m))<|WB (.wr J λh j=>SQ 9 j.1.1 (h.g 13) (hp:=h.g 15) (hT:=λn m=>j.up m n (Vl _ _ _ _ _ _) (j.1.1.ne 6 9 J J DQ) (TS _ _ _ _ _ _)))<|WB (.vl J λh _=>aw (h.g 14)) Stp.end_)
   λf V hF MM=>?_
  refine DW ?_;obtain⟨Bc,bg⟩:=hF.p 15;rw[hF.e 0,hF.e 1,hF.e 2,hF.e 3,hF.e 4,hF.e 6,hF.e 7,hF.e 8,hF.e 9,hF.e 14,hF.e 17,bg];have MM:=FD MM;simp only[bg]at MM;have HM:=Z MM;clear hF bg MM;obtain⟨s8,a8,l8,c8,t8,b8,k8,d8,n8,r8,i8,j8⟩:=HM.o.1.1.rat (i:=9) J;obtain⟨e0,e1,e2,e3⟩:=n8.cq;have e6:=(HM.o.1.1.cell (i:=7) J).1.cell;have hE:=HM.o.1.1.rats (i:=6) J;obtain⟨z0,z1,z2,z3⟩:=HM.o.1.2.2.1 i (by have:=Qc.o;omega);have f0:=hE.frozen (i*4);have f1:=hE.frozen (i*4+1);have f2:=hE.frozen (i*4+2);have f3:=hE.frozen (i*4+3);have f7:=Z r8;have Qz:=Z (show D7 w W (putAt V (a+1) (i*4) (M s8) (C a8 l8 c8) (M t8) (C b8 k8 d8)) (Eb w S (some ⟨bq,0,none⟩) la T lb y m (some ⟨gR,0,none⟩) rc a (a+1) (some (gR,.rats R)) (Q.set i c)++[some (Bc,.rat c)]) B4 (n:Int) (a+1) i from by
   have hp:=HM.o.1.1.putRats (i:=6) J (j:=i) (by have:=Qc.o;omega) r8;obtain⟨cs,Qd,_⟩:=hE;refine⟨⟨hp,(Gf (Ol HM.o.1.2.1 Qd) _ _ _ _).trans HM.o.1.2.1,ZQ.put (by have h:=HM.o.1.2.2.1;rwa[Qc.o.2.2.2.2.1]at h) _ _ _ _,?_⟩,HM.o.2.trans (Nn _ _ _ _ _ _ _)⟩;exact(Ab.1 (NC Qd _ _ _ _)).1)
  have c9:=(Qz.o.1.1.cell (i:=1) J).1.cell;unfold putAt at c9;clear n8 i8 j8 hE r8;gi_wp2_with fail
  obtain⟨W9,aq⟩:=ex (putAt V (a+1) (i*4) (M s8) (C a8 l8 c8) (M t8) (C b8 k8 d8));rw[aq]at Qz;unfold putAt at aq;rw[aq];clear aq c9 e0 e1 e2 e3 e6 z0 z1 z2 z3 f0 f1 f2 f3;gi_loopw [56] (λjv wr=>∃j:Nat,j<=lb/\jv=F H (j:Int)/\Hid (D7 w W wr (Eb w S (some ⟨bq,0,none⟩) la T lb y m (some ⟨gR,0,none⟩) rc a (a+1) (some (gR,.rats (Yg R i (-c) qs j))) (Q.set i c)++[some (Bc,.rat c)]) B4 (n:Int) (a+1) i)) λjv _=>lb-(intOf jv).toNat
  case atStart=>exact⟨0,AB _,J,Qz⟩
  case round=>
   obtain⟨j,hj,rfl,HJ⟩:=hrel;by_cases ei:j<lb
   . have fe:(j:Int)<(lb:Int):=O
     obtain⟨⟨e0,e1,e2,e3⟩,co⟩:=Ur.o j ei wr HJ.o.1.1.2.2;have Uz:=Z co;obtain⟨x,et⟩:=ex (i+j:Nat);have fc:(i:Int)+(j:Int)=(x:Int):=O
     have Qp:=Z (show x<la/\x=i+j by have:=Qc.o;have:=HN.o;omega);have fs:H.wrap (x:Int)=(x:Int):=by rw[Bi];have:=Qp.o;omega
     have fm:(x:Int)<(la:Int):=by have:=Qp.o;omega
     clear co et;gi_wp2_with fail
     have Qq:D7 w W (wr.alloc (E #[M (s' j),C (ae j) (ap j) (ai j),M (t' j),C (ah j) (an j) (aj j)] 38)) (Eb w S (some ⟨bq,0,none⟩) la T lb y m (some ⟨gR,0,none⟩) rc a (a+1) (some (gR,.rats (Yg R i (-c) qs j))) (Q.set i c)++[some (Bc,.rat c)]++[some (wr.heap.size,.rat (cf qs j))]) B4 (n:Int) (a+1) i:=by
      have h1:=HJ.o.below (Ba wr (E #[M (s' j),C (ae j) (ap j) (ai j),M (t' j),C (ah j) (an j) (aj j)] 38));exact⟨⟨HJ.o.1.1.push (.rat (cf qs j)) Uz.o,h1.1.2⟩,h1.2⟩
     obtain⟨Wd,bk⟩:=ex (wr.alloc (E #[M (s' j),C (ae j) (ap j) (ai j),M (t' j),C (ah j) (an j) (aj j)] 38));obtain⟨Bd,bh⟩:=ex (wr.heap.size);rw[bk,bh]at Qq;rw[bk,bh];obtain⟨X,hX⟩:=ex (Yg R i (-c) qs j);rw[hX]at Qq;have Uj:=Z (show x<X.length by rw[<-hX,Xa];have:=Qc.o;have:=Qp.o;omega);have Ut:=Z (show Sq (cf X x)by rw[<-hX];exact Wa.o j x);have We:=Z (show X.set x (cf X x-c*cf qs j)=Yg R i (-c) qs (j+1)by
      rw[Yg,hX,<-Qp.o.2,show cf X x-c*cf qs j=cf X x+-c*cf qs j by grind])
     have Qg:=Qq.below ((BF _ Wd).drew);clear bk bh hX Qq e0 e1 e2 e3;refine LA (Ar ⟨l,J⟩) Dm [[],[],[],[1,2],[],[],[],[5,6],[4,7],[8],[],[],[10,11],[9,12,12],[0,3,0,1,2,3,4,5,6,7,8,9,10,11,12,13],[14,13,13,0,1,2,3,4,5,6,7,8,9,10,11,12,13]] [.eq (C (some ⟨gR,0,none⟩) la rc),.eq (F H (i:Int)),.eq (F H (j:Int)),.eq (F H (x:Int)),.eq (C (some ⟨gR,0,none⟩) la rc),.eq (F H (i:Int)),.eq (F H (j:Int)),.eq (F H (x:Int)),.eq (N (some ⟨gR,x*4,none⟩)),.rat (cf X x),.rat c,.rat (cf qs j),.rat (c*cf qs j),.rat (cf X x-c*cf qs j),.eq (N (some ⟨gR,x*4,none⟩)),.eq L] [15] (λb _ V=>D7 w W V (Eb w S (some ⟨bq,0,none⟩) la T lb y m (some ⟨gR,0,none⟩) rc a (a+1) (some (gR,.rats (if b.getD 0 false then X.set x (cf X x-c*cf qs j)else X))) (Q.set i c)++[some (Bc,.rat c)]++[some (Bd,.rat (cf qs j))]) B4 (n:Int) (a+1) i) Qg (WB (.vl J λ_ j=>Gi 5 j.1.1)<|WB (.vl J λ_ _=>mv)<|WB (.vl J λ_ _=>mv)<|WB (.vl J λh _=>⟨_,by refine DW ?_;rw[h.e 1,h.e 2];go_simp,J⟩)<|WB (.vl J λ_ j=>Gi 5 j.1.1)<|WB (.vl J λ_ _=>mv)<|WB (.vl J λ_ _=>mv)<|WB (.vl J λh _=>⟨_,by refine DW ?_;rw[h.e 5,h.e 6];go_simp,J⟩)<|WB (.vl J λh _=>⟨_,by refine DW ?_;rw[h.e 4,h.e 7];go_simp,J⟩)<|WB (.vl J λh j=>LB 4 j.1.1 Uj.o (h.e 8))<|WB (.vl J λ_ j=>Er 9 j.1.1)<|WB (.vl J λ_ j=>Er 10 j.1.1)<|WB (.cl λh _=>NY _ _ c (cf qs j) _ (h.g 10) (h.g 11) Wb.o (Qi.o j))<|WB (.cl λh _=>LE _ _ (cf X x) (c*cf qs j) _ (h.g 9) (h.g 12) Ut.o (Ub.o j))<|WB (.vl J λh _=>⟨_,by refine DW ?_;rw[h.e 0,h.e 3];go_simp,J⟩)<|WB (.wr J λh j=>NL 4 j.1.1 Uj.o (h.g 13) (h.e 14) (hT:=λ⟨_,e,_⟩ m=>j.up m e (λB hB=>Gf hB _ _ _ _) (j.1.1.ne 6 4 J J DQ) (Nn _ _ _ _ _ _ _))) Stp.end_)
      λf V hF h3=>?_
     refine DW ?_;rw[hF.e 0,hF.e 1,hF.e 2,hF.e 3,hF.e 4,hF.e 5,hF.e 6,hF.e 7,hF.e 8,hF.e 14];have h3:=FD h3;rw[We.o]at h3;have HO:=Z (show D7 w W V (Eb w S (some ⟨bq,0,none⟩) la T lb y m (some ⟨gR,0,none⟩) rc a (a+1) (some (gR,.rats (Yg R i (-c) qs (j+1)))) (Q.set i c)++[some (Bc,.rat c)]) B4 (n:Int) (a+1) i from⟨⟨h3.1.1.take 10,h3.1.2⟩,h3.2⟩);clear hF h3;gi_wp2_with fail
     go_roundw
     case rel=>exact⟨j+1,O,by go_num,HO⟩
     case measure=>simp[intOf];omega
   . obtain rfl:j=lb:=O
     gi_wp2_with fail
     refine⟨HJ.o.2.from _,?_⟩;have h3:=HJ.o.1.1.take 9;rw[Qe.o]at h3;show ET w wr (Eb w S _ la T _ y m _ rc a (a+1) (g4 la gR (JB ps qs n m (k+1)).2) (JB ps qs n m (k+1)).1) B4 (n:Int) (a+1) (m-(k+1));rw[Qy.o,Qc.o.2.2.2.2.2,HG.o];refine⟨?_,HJ.o.1.2⟩;have Qf:=Qe.o;rw[<-Qf];rw[<-Qf]at h3;exact h3
 case done=>
  intro DC W hD hS hK;have Uq:=(Yp ps qs n m m).2;have Uh:=(Yp ps qs n m m).1;have Qa:cf qs n≠0:=by
   have:=J3 Ug.o Ui.o;rwa[show qs.length-1=n by have:=HN.o;have:=Qe.o;omega]at this
  obtain⟨z,Qv,bm,ad,am⟩:=HL.o m (Aa _);have Qs:XZ ps qs=Jf (JB ps qs n m m).1:=by unfold XZ;rw[show qs.length-1=n by have:=HN.o;have:=Qe.o;omega,show ps.length-n=m by have:=HN.o;have:=Qb.o;omega]
  have Qx:XP ps qs=Jf (JB ps qs n m m).2:=by unfold XP;rw[show qs.length-1=n by have:=HN.o;have:=Qe.o;omega,show ps.length-n=m by have:=HN.o;have:=Qb.o;omega]
  obtain⟨R,hR⟩:=ex ((JB ps qs n m m).2);obtain⟨Q,hQ⟩:=ex ((JB ps qs n m m).1);rw[hR]at Uq ad Qx;rw[hQ]at Uh am Qs;rw[hR,hQ]at hS;have Qu:=Z (show Sqs R from Sqs.of λi=>Sq.of (ad i) O);have dh:=Z (show Sqs Q from Sqs.of λi=>Sq.of (am i) O);have Um:RowK true W (C g la rc) R:=by
   by_cases h0:la=0
   . rw[h0,Ah (show R.length=0 by have:=Qb.o;omega)];exact⟨g,rc,J,AB _,by have:=Qk.o;omega,DJ,An J⟩
   . have h:=hS.1;rw[show g4 la gR R=some (gR,.rats R)from BL h0]at h;have h:=(h.rats (i:=4) J).row (n:=la) (cap:=rc) (by have:=Qb.o;omega) (by have:=Qk.o;omega) (by have:=Qk.o;omega) en;rw[Qk.o.1 h0];rwa[Ac (by have:=Qb.o;omega)]at h
  have Uc:RowK true W (C (some ⟨a+1,0,none⟩) m m) Q:=by
   have h:=(hS.1.rats (i:=6) J).row (n:=m) (cap:=m) O (Aa _) O Ql;rwa[Ac O]at h
  have Qg:DM w W.drew (((Eb w S qa la T lb y m g rc a (a+1) (g4 la gR R) Q).set 2 (some (w.heap.size+1+1,.poly []))).set 3 (some (w.heap.size+1+1+1,.poly [])))/\FH W.drew DC (C g la rc) (C (some ⟨a+1,0,none⟩) m m) R Q:=⟨((hS.1.asPoly (i:=2) J).asPoly (i:=3) J).drew,FH.below ⟨Um,Uc,hK⟩ ((BF _ W).drew)⟩;obtain⟨Us,Wc,Uw⟩:=DY Qs Qx (show w.heap.size<=DC by have:=Ul.o;omega);clear hS Uq Uh bm ad am Qv Qs Qx hR hQ Qa Um Uc hK;gi_wp2_with fail
  refine LA (An J) Dm [[],[0],[],[2,1],[1,3,0,1],[3,4,0,1,2,3,4],[5,0,1,2,3,4,5]] [.eq (C (some ⟨a+1,0,none⟩) m m),.poly (Jf Q),.eq (C g la rc),.poly (Jf R),.eq L,.eq L,.eq (M true)] [4,5] (λb _ V=>DM w V (((Eb w S qa la T lb y m g rc a (a+1) (g4 la gR R) Q).set 2 (some (w.heap.size+1+1,.poly (if b.getD 0 false then Jf Q else [])))).set 3 (some (w.heap.size+1+1+1,.poly (if b.getD 1 false then Jf R else []))))/\FH V DC (C g la rc) (C (some ⟨a+1,0,none⟩) m m) R Q) Qg (WB (.vl J λ_ j=>Gi 7 j.1)<|WB (.cl λh j=>c1 (h.e 0) ((F5 _ Q _ j.2.2.1 dh.o).mono λ_ _ ⟨u,e,h,_,b⟩=>⟨u,e,h,b⟩))<|WB (.vl J λ_ j=>Gi 5 j.1)<|WB (.cl λh j=>c1 (h.e 2) ((F5 _ R _ j.2.1 Qu.o).mono λ_ _ ⟨u,e,h,_,b⟩=>⟨u,e,h,b⟩))<|WB (.wr J λh j=>Nt 2 j.1 (h.g 1) (hT:=λn m=>⟨m,j.2.set n _⟩))<|WB (.wr J λh j=>Nt 3 j.1 (h.g 3) (hT:=λn m=>⟨m,j.2.set n _⟩))<|WB (.vl J λ_ _=>av) Stp.end_)
   λf V hF MM=>?_
  refine DW ?_;rw[hF.e 0,hF.e 2,hF.e 6];have MM:=FD MM;obtain⟨a2,l2,c2,g2,ed⟩:=MM.1.poly2 (i:=2) J;obtain⟨a3,l3,c3,g3,ef⟩:=MM.1.poly2 (i:=3) J;have Ux:=MM.1.2.2;have Ua:=MM.2.2.2;clear hF MM;gi_wp2;refine⟨DJ,.inl ⟨_,_,J,Be Ua,?_⟩⟩;have hg:=BX V DC (.deferred none);have Qn:∀r,some DC=some r->∃o:Obj,V.heap[r]?=some o/\o.isCells=false:=λr e=>by cases e;exact⟨_,Ua,J⟩
  have q2:Boxed _ (w.heap.size+1+1) 25 (C a2 l2 c2):=XW hg Qn (show Bx V (w.heap.size+1+1) 25 #[C a2 l2 c2]from g2);have q3:Boxed _ (w.heap.size+1+1+1) 25 (C a3 l3 c3):=XW hg Qn (show Bx V (w.heap.size+1+1+1) 25 #[C a3 l3 c3]from g3);have x2:=q2.cell;have x3:=q3.cell;refine⟨P #[.agg #[C a2 l2 c2],.agg #[C a3 l3 c3],M true],by simp[results,results29,go_sem,x2,x3],_,_,J,?_,?_,?_⟩
  . rw[Us.o];obtain⟨u,e,h⟩:=ed;exact⟨u,e,LJ hg Qn h⟩
  . rw[Wc.o];obtain⟨u,e,h⟩:=ef;exact⟨u,e,LJ hg Qn h⟩
  . exact Ux.trans (belowK_b (w:=w) (Aa _) _ DC _ _ Uw.o Ua J J)
def boxed_own{row:Option Nat}(hg:V.grownBy V' row)(a:∀r,row=some r->∃o:Obj,V.heap[r]?=some o/\o.isCells=false)(h:Boxed V B t v):Boxed V' B t v:=XW hg a (show Bx V B t #[v]from h)
def Vo(r:K)(ps:U)(s:K)(w:G)(o:Jt w r ps)(d:Jt w s []):
 Calls I 29 #[r,s] w λe j=>e=.returned (P #[.agg #[C none 0 0],.agg #[C none 0 0],M false])/\Bl w j:=by
 obtain⟨y,la,z,rfl⟩:=o.form;obtain⟨f,lb,g,rfl⟩:=d.form;obtain⟨c,u,b⟩:=NE 25 (.cell 25 (C y la z)) FP 25 (.cell 25 (C f lb g)) FP 25 (.cell 25 (C none 0 0)) FP 25 (.cell 25 (C none 0 0)) FP (w:=w);have l:=b.o;have m:=Z (show Calls I 15 #[.agg #[C f lb g]] c λe j=>e=.returned (F H (-1))/\Bl c j from LH (.agg #[C f lb g]) [] c (d.below l.2.2));clear o d l;go_enter func29,ntmps29
 go_upto_region 1 with fail
 rw[u.o];have c1:=(b.o.cell (i:=1) J).1.cell;go_wp2_with(go_at_call 15;refine m.o.mono ?_;clear m;rintro e k ⟨rfl,q⟩;have n:Bl k (k.alloc (E #[F H (-1)] 3)):=Ba k _;have a:=(b.o.below q).below n;have v:=(a.cell (i:=2) J).1.cell;have f2:=(a.cell (i:=2) J).1.frozen;have x:=(a.cell (i:=3) J).1.cell;have f3:=(a.cell (i:=3) J).1.frozen;have t:=Z a.2.2;clear n a q)
 refine BE (by simp[results,results29,go_sem,v,x]) J ⟨J,?_⟩;exact((t.o.setCell (p:=⟨w.heap.size+1+1,0,none⟩) DX _).setCell (p:=⟨w.heap.size+1+1+1,0,none⟩) DX _)
def _root_.Go.Proofs.YtcahejkcdcjjgaaGreatDoor.ySplit_n(A:Nat)(j l:K)(ps qs:U)(w:G)(f:Jt w j ps)(g:Jt w l qs)(_hs:Sqs ps)(n:∀i,DO A (cf qs i))(_htp:Jf ps=ps)(o:Jf qs=qs)(b:qs≠[])
(m:∀k,k<=ps.length-(qs.length-1)->∃z,z+(2*A+1)<=1000000000/\(k<ps.length-(qs.length-1)->2*z+2*(2*A+1)<=1000000000)/\(∀i,DO z (cf (JB ps qs (qs.length-1) (ps.length-(qs.length-1)) k).2 i))/\∀i,DO (z+A) (cf (JB ps qs (qs.length-1) (ps.length-(qs.length-1)) k).1 i)):
 Calls I 29 #[j,l] w λe a=>∃u v,e=.returned (P #[u,v,M true])/\Jt a u (XZ ps qs)/\Jt a v (XP ps qs)/\Bl w a:=by
 obtain⟨p,la,q,rfl⟩:=f.form;obtain⟨r,lb,s,rfl⟩:=g.form;have c:=f.row;have d:=g.row;obtain⟨x,_⟩:=c.forms;obtain⟨y,_⟩:=d.forms;have B:=Ap.2 b;exact Vn A p r la q lb s (lb-1) (la-(lb-1)) ps qs w c d n o b (λk t=>by rw[show lb-1=qs.length-1 by omega,show la-(qs.length-1)=ps.length-(qs.length-1)by omega];exact m k O) O J
def Vp(A:Nat)(b c:K)(ps qs:U)(w:G)(f:Jt w b ps)(g:Jt w c qs)(hs:Sqs ps)(m:∀i,DO A (cf qs i))(n:Jf ps=ps)(o:Jf qs=qs)
(j:qs≠[]->∀k,k<=ps.length-(qs.length-1)->∃z,z+(2*A+1)<=1000000000/\(k<ps.length-(qs.length-1)->2*z+2*(2*A+1)<=1000000000)/\(∀i,DO z (cf (JB ps qs (qs.length-1) (ps.length-(qs.length-1)) k).2 i))/\∀i,DO (z+A) (cf (JB ps qs (qs.length-1) (ps.length-(qs.length-1)) k).1 i)):
 Calls I 29 #[b,c] w λe d=>∃u v,e=.returned (P #[u,v,M (decide (qs≠[]))])/\Jt d u (if qs=[]then []else XZ ps qs)/\Jt d v (if qs=[]then []else XP ps qs)/\Bl w d:=by
 by_cases a:qs=[]
 . subst a;refine(Vo b ps c w f g).mono ?_;rintro e d ⟨rfl,h⟩;exact⟨_,_,J,⟨_,J,RowK.nil _ _⟩,⟨_,J,RowK.nil _ _⟩,h⟩
 . have l:decide (qs≠[])=true:=BM a;rw[l];simp only[BL a];exact ySplit_n A b c ps qs w f g hs m n o a (j a)
theorem Vq(A:Nat)(a b:K)(ps qs:U)(w:G)(r:Jt w a ps)(s:Jt w b qs)(q:1<=A)(hp:∀i,DO A (cf ps i))(d:∀i,DO A (cf qs i))(t:Jf ps=ps)(f:Jf qs=qs)(B:2^ps.length*(3*A+1)<=1000000000):
 Calls I 29 #[a,b] w λe c=>∃u v,e=.returned (P #[u,v,M (decide (qs≠[]))])/\Jt c u (if qs=[]then []else XZ ps qs)/\Jt c v (if qs=[]then []else XP ps qs)/\Bl w c:=by
 have y:1*(3*A+1)<=2^ps.length*(3*A+1):=Ae _ (Nat.one_le_two_pow);refine Vp A a b ps qs w r s (Sqs.of λi=>Sq.of (hp i) O) d t f λj k Q=>?_;obtain⟨z,x,l,o⟩:=Ok (n:=qs.length-1) (m:=ps.length-(qs.length-1)) q hp d (J3 f j) k;have g:k<=ps.length:=O
 refine⟨z,?_,λR=>?_,l,o⟩
 . have p:2^k*(3*A+1)<=2^ps.length*(3*A+1):=Ae _ (Ag O g);omega
 . have p:2^(k+1)*(3*A+1)<=2^ps.length*(3*A+1):=Ae _ (Ag O O);grind[A4]
end M3
def lenOf:K->Nat|C _ l _=>l|_=>0
def Hb(w V:G)(a rv:K)(Q R:U):Prop:=RowK false V a Q/\RowK false V rv R/\Bl w V
def Hb.below{w V V':G}{b rv:K}{Q R:U}(h:Hb w V b rv Q R)(a:Bl V V'):Hb w V' b rv Q R:=⟨h.1.below a,h.2.1.below a,Bt h.2.2 a⟩
def Ld(w wr V:G)(a rv:K)(Q R:U):Prop:=Hb w V a rv Q R/\Bl wr V
def Ld.below{w wr V V':G}{b rv:K}{Q R:U}(h:Ld w wr V b rv Q R)(a:Bl V V'):Ld w wr V' b rv Q R:=⟨h.1.below a,Bt h.2 a⟩
def FI(S:Nat->U->U->Prop)(la:Nat)(ps qs R Q:U)(k:Nat):Prop:=
 Jf R=R/\Jf Q=Q/\k+R.length<=la/\Q.length<=la/\(∀x,ev ps x=ev qs x*ev Q x+ev R x)/\(∀i,i+qs.length<=R.length->cf Q i=0)/\S k R Q
structure DivS(A la:Nat)(S:Nat->U->U->Prop)(qs:U):Prop where
 next:∀(k:Nat) (R Q:U) (n:Nat) (a:Rat),S k R Q->(∀i,i+qs.length<=R.length->cf Q i=0)->qs.length<=R.length->n=R.length-qs.length->a=cf R (R.length-1)/cf qs (qs.length-1)->
  (∀i,cf (Y9 R (YM (Jf (DZ n [a])) qs)) i=cf R i-(if n<=i then a*cf qs (i-n)else 0))->(∀i,cf (Xb Q (Jf (DZ n [a]))) i=if i=n then a else cf Q i)->S (k+1) (Y9 R (YM (Jf (DZ n [a])) qs)) (Xb Q (Jf (DZ n [a])))
 size:∀(k:Nat) (R Q:U),k<=la->S k R Q->Sqs R/\Sqs Q/\∃z,z+(2*A+1)<=1000000000/\∀i,DO z (cf R i)
variable{ps qs:U}{S:Nat->U->U->Prop}
theorem FI.start(a:Jf ps=ps)(h:S 0 ps []):FI S ps.length ps qs ps [] 0:=by
 refine⟨a,J,O,DJ,λx=>?_,λi _=>YO i,h⟩;show _=ev qs x*0+_;grind
theorem FI.next{A la:Nat}{S:Nat->U->U->Prop}{ps qs R Q:U}{k n:Nat}{a:Rat}(o:DivS A la S qs)(h:FI S la ps qs R Q k)(q:Jf qs=qs)(g:qs≠[])(hl:qs.length<=R.length)(f:n=R.length-qs.length)
(d:a=cf R (R.length-1)/cf qs (qs.length-1)):FI S la ps qs (Y9 R (YM (Jf (DZ n [a])) qs)) (Xb Q (Jf (DZ n [a]))) (k+1):=by
 obtain⟨r,s,t,u,l,c,m⟩:=h;have w:0<qs.length:=Ap.2 g;have j:∀i,cf (Y9 R (YM (Jf (DZ n [a])) qs)) i=cf R i-(if n<=i then a*cf qs (i-n)else 0):=λi=>by rw[FY,Gz]
 have b:∀i,cf (Xb Q (Jf (DZ n [a]))) i=if i=n then a else cf Q i:=λi=>by
  rw[GG,Gy];split
  . rename_i e;rw[e,c n O,Rat.zero_add]
  . exact Rat.add_zero _
 have v:=Lc q g hl f d;refine⟨Xv _ _,Xu _ _,O,GC (Xu _ _) λi p=>?_,λx=>?_,λi p=>?_,o.next k R Q n a m c hl f d j b⟩
 . rw[b,BL O,JW O]
 . rw[Lk,Ll,I7,Oj,l x];grind
 . rw[b,BL O];exact c i O
def FI.done{la:Nat}{R Q:U}{k:Nat}(h:FI S la ps qs R Q k)(b:Jf qs=qs)(a:qs≠[])(hl:R.length<qs.length):Q=XZ ps qs/\R=XP ps qs:=by
 obtain⟨f,g,_,_,i,_⟩:=h;obtain⟨c,d,e,g4⟩:=I6 ps qs b a;exact Li b a g e f g4 hl d (λx=>by rw[<-i x,<-c x])
def Vr(S:Nat->List Rat->List Rat->Prop)(A:Nat)(va vb:K)(ps qs:List Rat)(w:G)(ha:RowK false w va ps)(hb:RowK false w vb qs)(ap:DivS A ps.length S qs)(an:S 0 ps [])(d:∀i,DO A (cf qs i))(bc:Jf ps=ps)(bd:Jf qs=qs)(ah:qs≠[])(er:ps.length<=1000):
 Calls I 33 #[va,vb] w λe l=>∃u v,e=.returned (P #[u,v])/\RowK false l u (XZ ps qs)/\RowK false l v (XP ps qs)/\Bl w l:=by
 obtain⟨a,la,ca,rfl⟩:=ha.form;obtain⟨b,lb,cb,rfl⟩:=hb.form;obtain⟨ei,dz,ed,en,_⟩:=ha.formsF;obtain⟨di,eb,ef,dj,s',t',ai,aj,bj,ak,bi,am,co⟩:=hb.formsF;have Un:0<qs.length:=Ap.2 ah;have Qq:=Z (Gq _ ps w ha);rw[bc]at Qq;obtain⟨HA,HB,Ul,HQ,Qe,Qg,Qk,Qi⟩:=Ep ha co hb d bd ah di ap;have Ua:=Z (J3 bd ah);have Qw:=Z (show Sqs qs from Sqs.of λi=>Sq.of (d i) (by
  obtain⟨_,_,z,h1,_⟩:=ap.size 0 ps [] (AB _) an;omega))
 have Ql:=Z (FI.start (qs:=qs) bc an);obtain⟨lp,dt⟩:=ex (ps.length);rw[dt]at Ql Qi;have fe:1<=lb:=O
 have ff:lb<=1099511627776:=dj;have fg:lp<=1000:=O
 clear ha hb an ap d bc bd ah ei di dz ed eb ef en dj co Un er dt;go_enter func33,ntmps33
 go_wp2_with(go_at_call 23;refine Qq.o.mono ?_;rintro e w0 ⟨u0,rfl,ae,cj⟩;obtain⟨a0,l0,c0,rfl⟩:=ae.form)
 go_loopw [6,7,8] (λqv rv _ wr=>∃(k lr:Nat) (Q R:List Rat),(∃ra rc,rv=C ra lr rc)/\(∃qa ql qc,qv=C qa ql qc)/\lr<=1000/\Hid (lr=R.length)/\Hid (Hb w wr qv rv Q R)/\Hid (FI S lp ps qs R Q k)) λ_ rv _ _=>lenOf rv
 case atStart=>exact⟨0,_,[],ps,⟨_,_,J⟩,⟨_,_,_,J⟩,by obtain⟨_,_,e,_⟩:=id ae;cases e;have:=Ql.o.2.2.1;omega,Z (by obtain⟨_,_,e,_⟩:=id ae;cases e;rfl),Z ⟨RowK.nil _ _,ae,cj⟩,Ql⟩
 case round=>
  clear ae cj;obtain⟨k,lr,Q,R,⟨ra,rc,rfl⟩,⟨qa,ql,qc,rfl⟩,fh,B,q,HD⟩:=hrel;by_cases f8:lb<=lr
  . have Qh:(lb:Int)<=(lr:Int):=O
    obtain⟨n,hn⟩:=ex (lr-lb:Nat);obtain⟨m,hm⟩:=ex (lr-1:Nat);obtain⟨c,eh⟩:=ex (lb-1:Nat);have fl:(lr:Int)-(lb:Int)=(n:Int):=O
    have fi:(lr:Int)-1=(m:Int):=O
    have f9:(lb:Int)-1=(c:Int):=O
    have fm:H.wrap (n:Int)=(n:Int):=by rw[Bi];omega
    have fj:H.wrap (m:Int)=(m:Int):=by rw[Bi];omega
    have fc:H.wrap (c:Int)=(c:Int):=by rw[Bi];omega
    have fk:(m:Int)<(lr:Int):=O
    have fd:(c:Int)<(lb:Int):=O
    have y:=Z (show n=R.length-qs.length/\m=R.length-1/\c=qs.length-1/\qs.length<=R.length by have:=B.o;have:=Qk.o;omega);have Qd:=Z (show n<1099511627775/\n+1<=1001 by omega);obtain⟨et,ew,f6,f7,s,t,aa,bb,ll,cc,kk,dd,cz⟩:=q.o.2.1.formsF;clear et ew f6 f7;obtain⟨de,f,rfl,ad,bk,bm,bn,bt⟩:=cz m O;obtain⟨dh,g,rfl,r,bu,bz,ce,cg⟩:=HB.o c O;have Qa:=Z (show ∀V,Bl wr V->(V.cell? ⟨f,m*4,none⟩=some (C (aa m) (ll m) (cc m))/\V.cell? ⟨f,m*4+1,none⟩=some (M (s m))/\V.cell? ⟨f,m*4+2,none⟩=some (C (bb m) (kk m) (dd m))/\V.cell? ⟨f,m*4+3,none⟩=some (M (t m)))/\Jo V (.agg #[C (aa m) (ll m) (cc m),M (s m),C (bb m) (kk m) (dd m),M (t m)]) (cf R m)from λV o=>by
     exact⟨⟨(o.cell (p:=⟨f,_,none⟩) ad).trans bk,(o.cell (p:=⟨f,_,none⟩) ad).trans bm,(o.cell (p:=⟨f,_,none⟩) ad).trans bn,(o.cell (p:=⟨f,_,none⟩) ad).trans bt⟩,de.below o⟩)
    have Qb:=Z (show ∀V,Bl w V->(V.cell? ⟨g,c*4,none⟩=some (C (ai c) (bj c) (ak c))/\V.cell? ⟨g,c*4+1,none⟩=some (M (s' c))/\V.cell? ⟨g,c*4+2,none⟩=some (C (aj c) (bi c) (am c))/\V.cell? ⟨g,c*4+3,none⟩=some (M (t' c)))/\Jo V (.agg #[C (ai c) (bj c) (ak c),M (s' c),C (aj c) (bi c) (am c),M (t' c)]) (cf qs c)from λV o=>by
     exact⟨⟨(o.cell (p:=⟨g,_,none⟩) r).trans bu,(o.cell (p:=⟨g,_,none⟩) r).trans bz,(o.cell (p:=⟨g,_,none⟩) r).trans ce,(o.cell (p:=⟨g,_,none⟩) r).trans cg⟩,dh.below o⟩)
    obtain⟨sR,sQ,z,hz,dx⟩:=Qi.o.size k R Q (by have:=HD.o.2.2.1;omega) HD.o.2.2.2.2.2.2;obtain⟨x,hx⟩:=ex (cf R m/cf qs c);have Qp:=Z (show x=cf R (R.length-1)/cf qs (qs.length-1)by rw[<-hx,<-y.o.2.1,<-y.o.2.2.1]);have Qx:=Z (show cf qs c≠0 by rw[y.o.2.2.1];exact Ua.o);have Qf:DO (z+A) x:=by rw[<-hx];exact(dx m).div2 (HQ.o c) Qx.o
    obtain⟨Uf,Qo,Qn,Ui,Um,Uk,Qs⟩:=IB (show Sq x from Sq.of Qf O) (show ∀j,Sq (x*cf qs j)from λj=>Sq.of (Qf.mul2 (HQ.o j)) O) sR sQ hx (HD.o.next Qi.o Qe.o Qg.o y.o.2.2.2 y.o.1 Qp.o) (Lc Qe.o Qg.o y.o.2.2.2 y.o.1 Qp.o);have Qm:=Z (show Sqs (Jf (DZ n [x]))from Sqs.of λi=>by
     rw[Gy];split
     . exact Uf.o
     . exact Sq.of (DO.zero 1 O) O)
    have Qy:=Z (show Sqs (YM (Jf (DZ n [x])) qs)from Sqs.of λi=>by
     rw[Gz];split
     . exact Qo.o _
     . exact Sq.of (DO.zero 1 O) O)
    have Ub:=Z (show M3.Fqq (Jf (DZ n [x])) qs from Vi (n:=n) (λi hi=>by rw[Gy,BL hi]) λj=>by rw[Gy,BR J];exact Qo.o j);have Qt:=Z (Vg n x);have Qz:=Z (show(YM (Jf (DZ n [x])) qs).length<1099511627776 by
     have h1:(YM (Jf (DZ n [x])) qs).length<=R.length:=GC (GF _ _) (λi hi=>by
      rw[Gz];split
      . rw[JW (p:=qs) (by have:=y.o;omega),Rat.mul_zero]
      . rfl)
     have:=B.o;omega)
    have Qu:=Z (show Q.length<1099511627776/\R.length<1099511627776 by have:=HD.o.2.2.2.1;have:=B.o;omega);clear de ad bk bm bn bt dh r bu bz ce cg cz hz dx sR sQ hx Qf hn hm eh;go_wp2_with fail
    have d:Bl wr wr.drew:=(BF _ wr).drew;obtain⟨⟨T,W,X,e3⟩,_⟩:=Qa.o _ d;obtain⟨⟨f0,f1,f2,f3⟩,_⟩:=Qb.o _ (Bt q.o.2.2 d);have Qv:=Z λ(V:G) (h:Bl wr V)=>Tp _ _ (cf R m) (cf qs c) V (Qa.o V h).2 (Qb.o V (Bt q.o.2.2 h)).2 (Qn.o.at m) (Qw.o.at c) Qx.o;rw[Um.o]at Qv;have Ud:=Z λ(V:G) (v:K) (hv:Jo V v x)=>Gs v n x V hv Qd.o.1;go_region_held3 (λl=>(l.cell? ⟨f,m*4,none⟩=some (C (aa m) (ll m) (cc m))/\l.cell? ⟨f,m*4+1,none⟩=some (M (s m))/\l.cell? ⟨f,m*4+2,none⟩=some (C (bb m) (kk m) (dd m))/\l.cell? ⟨f,m*4+3,none⟩=some (M (t m)))/\l.cell? ⟨g,c*4,none⟩=some (C (ai c) (bj c) (ak c))/\l.cell? ⟨g,c*4+1,none⟩=some (M (s' c))/\l.cell? ⟨g,c*4+2,none⟩=some (C (aj c) (bi c) (am c))/\l.cell? ⟨g,c*4+3,none⟩=some (M (t' c))) (first|(with_reducible exact⟨⟨T,W,X,e3⟩,f0,f1,f2,f3⟩)|(go_keep;done))
     (first
      |(go_at_call 75;refine(Qv.o _ d).mono ?_;rintro e w5 ⟨v5,rfl,dw,ck⟩;replace d:=Bt d ck;clear ck T W X e3 f0 f1 f2 f3;obtain⟨⟨T,W,X,e3⟩,_⟩:=Qa.o _ d;obtain⟨⟨f0,f1,f2,f3⟩,_⟩:=Qb.o _ (Bt q.o.2.2 d))
      |(go_at_call 74;refine(Ud.o _ _ dw).mono ?_;clear dw;rintro e w6 ⟨v6,rfl,bh,cn⟩;replace d:=Bt d cn;clear cn T W X e3 f0 f1 f2 f3;obtain⟨⟨T,W,X,e3⟩,_⟩:=Qa.o _ d;obtain⟨⟨f0,f1,f2,f3⟩,_⟩:=Qb.o _ (Bt q.o.2.2 d);obtain⟨a9,l9,c9,rfl⟩:=bh.form))
    have HM:=Z bh;have HV:=Z (q.o.below d);clear bh d T W X e3 f0 f1 f2 f3;obtain⟨H1,H2,H3⟩:=DY (Gr _ _ Q (Jf (DZ n [x])) w6 HV.o.1 HM.o Ui.o Qm.o ⟨Qu.o.1,by have:=Qt.o;have:=Qd.o;omega⟩) (λ(U:G) (h:Bl w6 U)=>LX _ _ (Jf (DZ n [x])) qs U (HM.o.below h) (Ul.o.below (Bt HV.o.2.2 h)) Qm.o Qw.o Ub.o (by have:=Qt.o;have:=Qd.o;have:=Qk.o;omega)) λ(U:G) (h:Bl w6 U) (v:K) (hv:RowK false U v (YM (Jf (DZ n [x])) qs))=>Il _ v R _ U (HV.o.2.1.below h) hv Qn.o Qy.o ⟨Qu.o.2,Qz.o⟩;go_wp2_with(first
     |(go_at_call 30;refine H1.o.mono ?_;rintro e w1 ⟨u1,rfl,bf,az⟩;obtain⟨a1,l1,c1,rfl⟩:=bf.form;have Uh:=Z bf;clear bf)
     |(go_at_call 32;refine(H2.o _ az).mono ?_;rintro e w2 ⟨u2,rfl,du,r⟩;have Qj:=Bt az r;have Ug:=Z (Uh.o.below r);clear r)
     |(go_at_call 31;refine(H3.o _ Qj _ du).mono ?_;rintro e w3 ⟨u3,rfl,bg,aq⟩;obtain⟨a3,c3,rfl,_⟩:=id bg;have Uj:=Z bg;have Uc:=Z (Bt Qj aq);have Ue:=Z (Ug.o.below aq);clear du bg aq az Qj))
    go_roundw
    case rel=>exact⟨k+1,_,_,_,⟨_,_,J⟩,⟨_,_,_,J⟩,by have:=Qs.o;have:=B.o;omega,Z J,Z ⟨Ue.o,Uj.o,Bt HV.o.2.2 Uc.o⟩,Uk⟩
    case measure=>
     show(Y9 R _).length<lr;have:=Qs.o;have:=B.o;omega
  . have Qh:¬(lb:Int)<=(lr:Int):=O
    have Qr:=Z (HD.o.done Qe.o Qg.o (by have:=B.o;have:=Qk.o;omega));go_wp2_with fail
    exact BE (v:=P #[C qa ql qc,C ra lr rc]) (by simp[results,results33,go_sem]) J ⟨_,_,J,by rw[<-Qr.o.1];exact q.o.1,by rw[<-Qr.o.2];exact q.o.2.1,q.o.2.2⟩
def Vs(A:Nat)(g j:K)(ps qs:List Rat)(w:G)(d:RowK false w g ps)(x:RowK false w j qs)(V:1<=A)(hp:∀i,DO A (cf ps i))(f:∀i,DO A (cf qs i))(S:Jf ps=ps)(p:Jf qs=qs)(o:qs≠[])(W:2^ps.length*(3*A+1)<=1000000000):
 Calls I 33 #[g,j] w λe l=>∃u v,e=.returned (P #[u,v])/\RowK false l u (XZ ps qs)/\RowK false l v (XP ps qs)/\Bl w l:=by
 have r:ps.length<=1000:=by
  by_cases h:ps.length<=30
  . omega
  . exfalso
    have s:2^30<=2^ps.length:=Ag O O;have T:2^ps.length*1<=2^ps.length*(3*A+1):=Aq _ O;omega
 have q:=J3 p o;refine Vr (λk R Q=>∃z,z+(2*A+1)<=2^k*(3*A+1)/\(∀i,DO z (cf R i))/\∀i,DO (z+A) (cf Q i)) A g j ps qs w d x ⟨?_,?_⟩ ⟨A,O,hp,λi=>by rw[YO];exact DO.zero _ O⟩ f S p o r
 . rintro k R Q n a ⟨z,t,b,c⟩ _ _ _ d B y;have m:DO (z+A) a:=by rw[d];exact(b _).div2 (f _) q
   refine⟨2*z+(2*A+1),?_,λi=>?_,λi=>?_⟩
   . rw[Ca,AE (2^k) 2,A4];omega
   . rw[B];split
     . exact((b i).sub2 (m.mul2 (f _))).mono O
     . rw[CS,Rat.neg_zero,Rat.add_zero];exact(b i).mono O
   . rw[y];split
     . exact m.mono O
     . exact(c i).mono O
 . rintro k R Q U ⟨z,t,b,c⟩;have s:2^k*(3*A+1)<=2^ps.length*(3*A+1):=Ae _ (Ag O O);exact⟨Sqs.of λi=>Sq.of (b i) O,Sqs.of λi=>Sq.of (c i) O,z,O,b⟩
def Om(s:ByteArray)(hs:s.size<=140737488351232)(w:G):
 Calls I 24 #[D s] w λe c=>∃u,e=.returned u/\RowK false c u (JU (Je s)).1/\Bl w c:=by
 have a:=Z λ(V:G)=>UJ s hs V;clear hs;go_enter func24,ntmps24
 go_wp2_with(go_at_call 10;refine(a.o _).mono ?_;clear a;rintro e k ⟨u,g,j,rfl,⟨rfl,rfl,b,_,_⟩,d⟩;obtain⟨f,i,c2,rfl⟩:=b.form)
 go_ret;exact⟨_,J,b,d⟩
def On(s:ByteArray)(w:G):
 Calls I 25 #[D s] w λe z=>∃u,e=.returned u/\Jt z u (JU (Je s)).1/\Bl w z:=by
 have t:=Z λ(V:G)=>OZ s V;have b0:=BK w 25 (C none 0 0);have j:Bl w (w.alloc (E #[C none 0 0] 25)):=Ba w _;obtain⟨U,n⟩:=ex (w.alloc (E #[C none 0 0] 25));obtain⟨A,l⟩:=ex (w.heap.size);rw[n]at b0 j;rw[l]at b0;obtain⟨B,x,S,y⟩:=Dr b0 j n l;clear b0 j n l;go_enter func25,ntmps25
 go_upto_region 1 with fail
 rw[S.o,y.o];go_upto_region 2 with(go_at_call 9;refine(t.o _).mono ?_;clear t;rintro e c ⟨u,X,p1,rfl,⟨rfl,rfl,o⟩,i⟩;obtain⟨a,b,c1,rfl⟩:=o.form)
 have f:Bl c (c.alloc (E #[C a b c1] 25)):=Ba c _;have q:=BK c 25 (C a b c1);have d:=(B.o.bel i).bel f;have r:=o.row.below f;have k:=(Bt x.o i).trans (f.mono (Bt x.o i).size);obtain⟨W,g⟩:=ex (c.alloc (E #[C a b c1] 25));obtain⟨T,m⟩:=ex (c.heap.size);rw[g,m]at q;rw[g]at d r k;rw[g,m];have x1:=q.cell;have x0:=d.cell;have f0:=d.frozen;have Q:=Z (Ei d (C a b c1) r);have R:=Z (k.setCell (p:=⟨A,0,none⟩) (by rw[y.o];exact Aa _) (C a b c1));clear f q d r k g m o i;go_wp2_with fail
 exact BE (v:=.agg #[C a b c1]) (by simp[results,results25,go_sem,x0]) J ⟨_,J,⟨_,J,Q.o⟩,R.o⟩
def Vt(p q:U):(Y9 p q).length<=max p.length q.length:=GC (Xv _ _) λi a=>by rw[FY,JW O,JW O,Rat.sub_self]
def Vu(p q:U):(YM p q).length<=p.length+q.length:=GC (GF _ _) λi a=>by unfold YM;rw[J2,Ft,OM p q a]
def Vv{A:Nat}(d:1<=A)(hp:∀i,DO A (cf ps i))(e:∀i,DO A (cf qs i))(f:Jf qs=qs)(a:qs≠[])(k:2^ps.length*(3*A+1)<=1000000000):Sqs (XZ ps qs)/\Sqs (XP ps qs)/\(XZ ps qs).length<=ps.length/\(XP ps qs).length<=ps.length:=by
 have l:0<qs.length:=Ap.2 a;obtain⟨z,g,b,c⟩:=M3.Ok (n:=qs.length-1) (m:=ps.length-(qs.length-1)) d hp e (J3 f a) (ps.length-(qs.length-1));have j:2^(ps.length-(qs.length-1))*(3*A+1)<=2^ps.length*(3*A+1):=Ae _ (Ag O O);have hl:=Yp ps qs (qs.length-1) (ps.length-(qs.length-1)) (ps.length-(qs.length-1));refine⟨Sqs.of λi=>?_,Sqs.of λi=>?_,?_,?_⟩
 . unfold XZ;rw[J2];exact Sq.of (c i) O
 . unfold XP;rw[J2];exact Sq.of (b i) O
 . unfold XZ;exact As (JY _) (by rw[hl.1];omega)
 . unfold XP;exact As (JY _) (by rw[hl.2];exact Aa _)
def Vw(s t:ByteArray)(hs:s.size<=140737488351232)(ht:t.size<=140737488351232)(w:G)(az:Fo w):
 Calls I 5 #[D s,D t] w λr w'=>r=.returned (M true)/\Bl w w':=by
 have HT:=Z az;have Qd:=OY (Je s);have Qs:=Oi (Je s);have Qa:=OY (Je t);have Qc:=Oi (Je t);obtain⟨Qr,Qo,Qt,Qn⟩:=Dr (λ(V:G)=>Om s hs V) (λ(V:G)=>Om t ht V) (λ(V:G)=>On s V) λ(V:G)=>On t V;obtain⟨ps,ap⟩:=ex ((JU (Je s)).1);obtain⟨qs,aq⟩:=ex ((JU (Je t)).1);rw[ap]at Qr Qt Qd Qs;rw[aq]at Qo Qn Qa Qc;have hP:Sqs ps:=Sqs.of λi=>Sq.of (Qd.2 i) O;have hQ:Sqs qs:=Sqs.of λi=>Sq.of (Qa.2 i) O;have c:Sqs (Xb ps qs):=Sqs.of λi=>by rw[GG];exact Sq.of ((Qd.2 i).add2 (Qa.2 i)) O
 have W:Sqs (Y9 ps qs):=Sqs.of λi=>by rw[FY];exact Sq.of ((Qd.2 i).sub2 (Qa.2 i)) O
 have Uu:ps.length*1203<=9*1203:=Ae _ Qd.1;have hC:Sqs (YM ps qs):=Sqs.of λi=>Sq.of (Oc Qd.2 Qa.2 i) O;have Um:M3.Fqq ps qs:=Ob Qd.2 Qa.2 (by rw[Cm];omega);have Qv:2^ps.length*(3*601+1)<=1000000000:=by
  have h1:2^ps.length<=2^9:=Ag O Qd.1;have h2:2^ps.length*(3*601+1)<=2^9*(3*601+1):=Ae _ h1;exact As h2 DQ
 have lA:=O8 ps qs;have lB:=Vt ps qs;have lC:=Vu ps qs;obtain⟨HP,HQ,HA,HB,HC,Uc,Ug,Qx⟩:=Ep hP hQ c W hC Um (λm=>XO hP O m) λm=>XO hQ O m;obtain⟨Ud,Qu,Ue,Ua,Ur,Us,Ut,Qe⟩:=Ep (λm=>XO c O m) (λm=>XO W O m) (λm=>XO hC O m) (λ(V:G) (va vb:K) (ha:Jt V va ps) (b:Jt V vb qs)=>M3.Vq 601 va vb ps qs V ha b O Qd.2 Qa.2 Qs Qc Qv) (λ(V:G) (va vb:K) (ha:RowK false V va ps) (b:RowK false V vb qs) (h0:qs≠[])=>Vs 601 va vb ps qs V ha b O Qd.2 Qa.2 Qs Qc h0 Qv) (λ(h0:qs≠[])=>Vv (by omega:1<=601) Qd.2 Qa.2 Qc h0 Qv) (λ(h0:qs≠[])=>I6 ps qs Qc h0) (show ps.length<=9/\qs.length<=9 from⟨Qd.1,Qa.1⟩);have Uj:=Z Qs;have Up:=Z Qc;obtain⟨TP,am⟩:∃S:ByteArray,⟨(Xm ps).toArray⟩=S:=⟨_,J⟩;obtain⟨TQ,an⟩:∃S:ByteArray,⟨(Xm qs).toArray⟩=S:=⟨_,J⟩;obtain⟨TA,ai⟩:∃S:ByteArray,⟨(Xm (Xb ps qs)).toArray⟩=S:=⟨_,J⟩;obtain⟨TB,aj⟩:∃S:ByteArray,⟨(Xm (Y9 ps qs)).toArray⟩=S:=⟨_,J⟩;obtain⟨TC,ak⟩:∃S:ByteArray,⟨(Xm (YM ps qs)).toArray⟩=S:=⟨_,J⟩;obtain⟨Qy,Uf,Ub,Qz,Qw,f⟩:=GU am an ai aj ak (BF w.heap.size w);clear az ap aq Qd Qs Qa Qc hP hQ c W hC Um Qv lA lB lC am an ai aj ak hs ht Uu;obtain⟨lq,ad⟩:=ex (qs.length);have Ul:=Z ad;by_cases h0:qs=[]
 . have Qp:lq=0:=by rw[<-ad,h0];rfl
   subst Qp;have Qk:=Z (λ(V:G) (va vb:K) (ha:Jt V va ps) (b:Jt V vb qs)=>(show Calls I 29 #[va,vb] V λe w'=>∃u v,e=.returned (P #[u,v,M false])/\Jt w' u []/\Jt w' v []/\Bl V w' by
    have h:=Ua.o V va vb ha b;rw[show decide (qs≠[])=false from BI λh=>h h0]at h;simp only[BR h0]at h;exact h))
   clear ad Ua;go_enter func5,ntmps5
   go_upto_region 2 with(go_at_call 24;refine(Qr.o _).mono ?_;clear Qr;rintro e w1 ⟨u,rfl,B,b⟩;obtain⟨ax,lx,cx,rfl⟩:=B.form)
   replace f:=Z (Bt f.o b);have n:=B;clear B b;go_upto_region 3 with(go_at_call 24;refine(Qo.o _).mono ?_;clear Qo;rintro e w2 ⟨u,rfl,B,b⟩;obtain⟨ay,cy,ee,_⟩:=id B;rw[Ul.o]at ee;subst ee)
   replace n:=n.below b;replace f:=Z (Bt f.o b);clear b;have A:=B;clear B;go_upto_region 4 with(go_at_call 25;refine(Qt.o _).mono ?_;clear Qt;rintro e w3 ⟨u,rfl,B,b⟩;obtain⟨a3,l3,c3,rfl⟩:=B.form)
   replace n:=n.below b;replace A:=A.below b;replace f:=Z (Bt f.o b);clear b;have c:Bl w3 (w3.alloc (E #[C a3 l3 c3] 25)):=Ba w3 _;have d:=BK w3 25 (C a3 l3 c3);have Q:=B.row.below c;replace n:=n.below c;replace A:=A.below c;replace f:=Z (Bt f.o c);clear c;obtain⟨VP,T⟩:=ex (w3.alloc (E #[C a3 l3 c3] 25));obtain⟨BP,W⟩:=ex (w3.heap.size);rw[T]at n A Q f;rw[T,W]at d;rw[T];rw[W];clear T W;clear B;go_upto_region 5 with(go_at_call 25;refine(Qn.o _).mono ?_;clear Qn;rintro e w4 ⟨u,rfl,B,b⟩;obtain⟨a4,l4,c4,rfl⟩:=B.form)
   replace n:=n.below b;replace A:=A.below b;replace d:=d.bel b;replace Q:=Q.below b;replace f:=Z (Bt f.o b);clear b;have c:Bl w4 (w4.alloc (E #[C a4 l4 c4] 25)):=Ba w4 _;have g:=BK w4 25 (C a4 l4 c4);have U:=B.row.below c;replace n:=n.below c;replace A:=A.below c;replace d:=d.bel c;replace Q:=Q.below c;replace f:=Z (Bt f.o c);clear c;obtain⟨VQ,T⟩:=ex (w4.alloc (E #[C a4 l4 c4] 25));obtain⟨BQ,W⟩:=ex (w4.heap.size);rw[T]at n A d Q U f;rw[T,W]at g;rw[T];rw[W];clear T W;clear B;have H1:=Z λ(V:G) (h:Bl VQ V)=>Nd _ _ ps qs V (Q.below h).isPoly (U.below h).isPoly HP.o HQ.o HA.o;have a:Bl VQ VQ:=BF _ _;have j:=(d.bel a).cell;have l:=(g.bel a).cell;go_upto_region 6 with(go_at_call 26;refine(H1.o _ a).mono ?_;clear H1;rintro e w5 ⟨u,rfl,B,_,b⟩;obtain⟨a5,l5,c5,rfl⟩:=B.form)
   replace b:=Bt a b
   clear a j l;replace n:=n.below b;replace A:=A.below b;replace d:=d.bel b;replace Q:=Q.below b;replace g:=g.bel b;replace U:=U.below b;replace f:=Z (Bt f.o b);clear b;have c:Bl w5 (w5.alloc (E #[C a5 l5 c5] 25)):=Ba w5 _;have z:=BK w5 25 (C a5 l5 c5);have rA:=B.row.below c;replace n:=n.below c;replace A:=A.below c;replace d:=d.bel c;replace Q:=Q.below c;replace g:=g.bel c;replace U:=U.below c;replace f:=Z (Bt f.o c);clear c;obtain⟨VA,T⟩:=ex (w5.alloc (E #[C a5 l5 c5] 25));obtain⟨BA,W⟩:=ex (w5.heap.size);rw[T]at n A d Q g U rA f;rw[T,W]at z;rw[T];rw[W];clear T W;clear B;have H1:=Z λ(V:G) (h:Bl VA V)=>Nf _ _ ps qs V (Q.below h).isPoly (U.below h).isPoly HP.o HQ.o HB.o;have a:Bl VA VA:=BF _ _;have j:=(d.bel a).cell;have l:=(g.bel a).cell;go_upto_region 7 with(go_at_call 27;refine(H1.o _ a).mono ?_;clear H1;rintro e w6 ⟨u,rfl,B,_,b⟩;obtain⟨a6,l6,c6,rfl⟩:=B.form)
   replace b:=Bt a b
   clear a j l;replace n:=n.below b;replace A:=A.below b;replace d:=d.bel b;replace Q:=Q.below b;replace g:=g.bel b;replace U:=U.below b;replace z:=z.bel b;replace rA:=rA.below b;replace f:=Z (Bt f.o b);clear b;have c:Bl w6 (w6.alloc (E #[C a6 l6 c6] 25)):=Ba w6 _;have R:=BK w6 25 (C a6 l6 c6);have rB:=B.row.below c;replace n:=n.below c;replace A:=A.below c;replace d:=d.bel c;replace Q:=Q.below c;replace g:=g.bel c;replace U:=U.below c;replace z:=z.bel c;replace rA:=rA.below c;replace f:=Z (Bt f.o c);clear c;obtain⟨VB,T⟩:=ex (w6.alloc (E #[C a6 l6 c6] 25));obtain⟨BB,W⟩:=ex (w6.heap.size);rw[T]at n A d Q g U z rA rB f;rw[T,W]at R;rw[T];rw[W];clear T W;clear B;have H1:=Z λ(V:G) (h:Bl VB V)=>M3.LL _ _ ps qs V (Q.below h).isPoly (U.below h).isPoly HP.o HQ.o Uc.o (by have:=Qe.o;omega);have a:Bl VB VB:=BF _ _;have j:=(d.bel a).cell;have l:=(g.bel a).cell;go_upto_region 8 with(go_at_call 28;refine(H1.o _ a).mono ?_;clear H1;rintro e w7 ⟨u,rfl,B,_,b⟩;obtain⟨a7,l7,c7,rfl⟩:=B.form)
   replace b:=Bt a b
   clear a j l;replace n:=n.below b;replace A:=A.below b;replace d:=d.bel b;replace Q:=Q.below b;replace g:=g.bel b;replace U:=U.below b;replace z:=z.bel b;replace rA:=rA.below b;replace R:=R.bel b;replace rB:=rB.below b;replace f:=Z (Bt f.o b);clear b;have c:Bl w7 (w7.alloc (E #[C a7 l7 c7] 25)):=Ba w7 _;have X:=BK w7 25 (C a7 l7 c7);have rC:=B.row.below c;replace n:=n.below c;replace A:=A.below c;replace d:=d.bel c;replace Q:=Q.below c;replace g:=g.bel c;replace U:=U.below c;replace z:=z.bel c;replace rA:=rA.below c;replace R:=R.bel c;replace rB:=rB.below c;replace f:=Z (Bt f.o c);clear c;obtain⟨VC,T⟩:=ex (w7.alloc (E #[C a7 l7 c7] 25));obtain⟨BC,W⟩:=ex (w7.heap.size);rw[T]at n A d Q g U z rA R rB rC f;rw[T,W]at X;rw[T];rw[W];clear T W;clear B;have H1:=Z λ(V:G) (h:Bl VC V)=>Qk.o V _ _ (Q.below h).isPoly (U.below h).isPoly;have a:Bl VC VC:=BF _ _;have j:=(d.bel a).cell;have l:=(g.bel a).cell;go_upto_region 9 with(go_at_call 29;refine(H1.o _ a).mono ?_;clear H1;rintro e w8 ⟨u,v,rfl,B,hv,b⟩;obtain⟨a8,l8,c8,rfl⟩:=B.form;obtain⟨a9,l9,c9,rfl⟩:=hv.form)
   replace b:=Bt a b
   clear a j l;replace n:=n.below b;replace A:=A.below b;replace d:=d.bel b;replace Q:=Q.below b;replace g:=g.bel b;replace U:=U.below b;replace z:=z.bel b;replace rA:=rA.below b;replace R:=R.bel b;replace rB:=rB.below b;replace X:=X.bel b;replace rC:=rC.below b;replace f:=Z (Bt f.o b);clear b;have c:Bl w8 ((w8.alloc (E #[C a8 l8 c8] 25)).alloc (E #[C a9 l9 c9] 25)):=(Ba w8 _).alloc (by rw[A1];omega) _;have nD:=(BK w8 25 (C a8 l8 c8)).alloc (E #[C a9 l9 c9] 25);have nR:=BK (w8.alloc (E #[C a8 l8 c8] 25)) 25 (C a9 l9 c9);rw[A1]at nR;have rD:=B.row.below c;have rR:=hv.row.below c;replace n:=n.below c;replace A:=A.below c;replace d:=d.bel c;replace Q:=Q.below c;replace g:=g.bel c;replace U:=U.below c;replace z:=z.bel c;replace rA:=rA.below c;replace R:=R.bel c;replace rB:=rB.below c;replace X:=X.bel c;replace rC:=rC.below c;replace f:=Z (Bt f.o c);clear c;obtain⟨VS,T⟩:=ex ((w8.alloc (E #[C a8 l8 c8] 25)).alloc (E #[C a9 l9 c9] 25));obtain⟨BD,W⟩:=ex (w8.heap.size);rw[T]at n A d Q g U z rA R rB X rC rD rR f;rw[T,W]at nD nR;rw[T];rw[W];clear T W B hv;have Qb:=Z λ(V:G) (h:Bl VS V)=>Js HT.o (Bt f.o h);have H1:=Z λ(V:G) (h:Bl VS V)=>Yt _ (Xb ps qs) V (rA.below h).isPoly HA.o Ud.o (Js HT.o (Bt f.o h));rw[Ub.o]at H1;have H2:=Z λ(V:G) (h:Bl VS V)=>Gr _ _ ps qs V (n.below h) (A.below h) HP.o HQ.o (by have:=Qe.o;omega);have H3:=Z λ(V:G) (h:Bl VS V) (v:K) (hv:RowK false V v (Xb ps qs))=>YZ v (Xb ps qs) V hv HA.o Ud.o (Xu _ _) (Qb.o V h);rw[Ub.o]at H3;have H4:=Z λ(V:G) (h:Bl VS V)=>Yt _ (Y9 ps qs) V (rB.below h).isPoly HB.o Qu.o (Js HT.o (Bt f.o h));rw[Qz.o]at H4;have H5:=Z λ(V:G) (h:Bl VS V)=>Il _ _ ps qs V (n.below h) (A.below h) HP.o HQ.o (by have:=Qe.o;omega);have H6:=Z λ(V:G) (h:Bl VS V) (v:K) (hv:RowK false V v (Y9 ps qs))=>YZ v (Y9 ps qs) V hv HB.o Qu.o (Xv _ _) (Qb.o V h);rw[Qz.o]at H6;have H7:=Z λ(V:G) (h:Bl VS V)=>Yt _ (YM ps qs) V (rC.below h).isPoly HC.o Ue.o (Js HT.o (Bt f.o h));rw[Qw.o]at H7;have H8:=Z λ(V:G) (h:Bl VS V)=>LX _ _ ps qs V (n.below h) (A.below h) HP.o HQ.o Uc.o (by have:=Qe.o;omega);have H9:=Z λ(V:G) (h:Bl VS V) (v:K) (hv:RowK false V v (YM ps qs))=>YZ v (YM ps qs) V hv HC.o Ue.o (GF _ _) (Qb.o V h);rw[Qw.o]at H9;have a:Bl VS VS:=BF _ _;have o:=(z.bel a).cell;have p:=(R.bel a).cell;have q:=(X.bel a).cell;have x:=(nD.bel a).cell;have y:=(nR.bel a).cell;have j:=(d.bel a).cell;have l:=(g.bel a).cell;have Qg:=Z λ(V:G) (h:Bl VS V)=>Yt _ [] V (rD.below h).isPoly (Sqs.of λi=>Sq.of (k:=1) (by rw[YO];exact DO.zero 1 O) O) (λm=>by simp[JO]) (Js HT.o (Bt f.o h));rw[Oh]at Qg;have Ql:=Z λ(V:G) (h:Bl VS V)=>Yt _ [] V (rR.below h).isPoly (Sqs.of λi=>Sq.of (k:=1) (by rw[YO];exact DO.zero 1 O) O) (λm=>by simp[JO]) (Js HT.o (Bt f.o h));rw[Oh]at Ql;have Qi:=Z λ(V:G) (h:Bl VS V)=>Yt _ ps V (Q.below h).isPoly HP.o Ug.o (Js HT.o (Bt f.o h));rw[Qy.o]at Qi;have Qj:=Z λ(V:G) (h:Bl VS V)=>YZ _ ps V (n.below h) HP.o Ug.o Uj.o (Js HT.o (Bt f.o h))
   rw[Qy.o]at Qj;have Qm:=Z λ(V:G) (h:Bl VS V)=>Yt _ qs V (U.below h).isPoly HQ.o Qx.o (Js HT.o (Bt f.o h));rw[Uf.o]at Qm;have Qh:=Z λ(V:G) (h:Bl VS V)=>YZ _ qs V (A.below h) HQ.o Qx.o Up.o (Js HT.o (Bt f.o h));rw[Uf.o]at Qh;have Qq:=Z λ(V:G) (h:Bl VS V)=>Og V (Js HT.o (Bt f.o h));go_wp2_with(first
    |(go_at_call 13;refine(H1.o _ a).mono ?_;clear H1;rintro e x1 ⟨rfl,b⟩;replace a:=Bt a b;clear b o p q x y j l;have o:=(z.bel a).cell;have p:=(R.bel a).cell;have q:=(X.bel a).cell;have x:=(nD.bel a).cell;have y:=(nR.bel a).cell;have j:=(d.bel a).cell;have l:=(g.bel a).cell)
    |(go_at_call 30;refine(H2.o _ a).mono ?_;clear H2;rintro e x2 ⟨v2,rfl,gv,b⟩;replace a:=Bt a b;clear b o p q x y j l;have o:=(z.bel a).cell;have p:=(R.bel a).cell;have q:=(X.bel a).cell;have x:=(nD.bel a).cell;have y:=(nR.bel a).cell;have j:=(d.bel a).cell;have l:=(g.bel a).cell)
    |(go_at_call 14;refine(H3.o _ a _ gv).mono ?_;clear H3;rintro e x3 ⟨rfl,b⟩;replace a:=Bt a b;clear b gv o p q x y j l;have o:=(z.bel a).cell;have p:=(R.bel a).cell;have q:=(X.bel a).cell;have x:=(nD.bel a).cell;have y:=(nR.bel a).cell;have j:=(d.bel a).cell;have l:=(g.bel a).cell)
    |(go_at_call 13;refine(H4.o _ a).mono ?_;clear H4;rintro e x4 ⟨rfl,b⟩;replace a:=Bt a b;clear b o p q x y j l;have o:=(z.bel a).cell;have p:=(R.bel a).cell;have q:=(X.bel a).cell;have x:=(nD.bel a).cell;have y:=(nR.bel a).cell;have j:=(d.bel a).cell;have l:=(g.bel a).cell)
    |(go_at_call 31;refine(H5.o _ a).mono ?_;clear H5;rintro e x5 ⟨v5,rfl,gv,b⟩;replace a:=Bt a b;clear b o p q x y j l;have o:=(z.bel a).cell;have p:=(R.bel a).cell;have q:=(X.bel a).cell;have x:=(nD.bel a).cell;have y:=(nR.bel a).cell;have j:=(d.bel a).cell;have l:=(g.bel a).cell)
    |(go_at_call 14;refine(H6.o _ a _ gv).mono ?_;clear H6;rintro e x6 ⟨rfl,b⟩;replace a:=Bt a b;clear b gv o p q x y j l;have o:=(z.bel a).cell;have p:=(R.bel a).cell;have q:=(X.bel a).cell;have x:=(nD.bel a).cell;have y:=(nR.bel a).cell;have j:=(d.bel a).cell;have l:=(g.bel a).cell)
    |(go_at_call 13;refine(H7.o _ a).mono ?_;clear H7;rintro e x7 ⟨rfl,b⟩;replace a:=Bt a b;clear b o p q x y j l;have o:=(z.bel a).cell;have p:=(R.bel a).cell;have q:=(X.bel a).cell;have x:=(nD.bel a).cell;have y:=(nR.bel a).cell;have j:=(d.bel a).cell;have l:=(g.bel a).cell)
    |(go_at_call 32;refine(H8.o _ a).mono ?_;clear H8;rintro e x8 ⟨v8,rfl,gv,b⟩;replace a:=Bt a b;clear b o p q x y j l;have o:=(z.bel a).cell;have p:=(R.bel a).cell;have q:=(X.bel a).cell;have x:=(nD.bel a).cell;have y:=(nR.bel a).cell;have j:=(d.bel a).cell;have l:=(g.bel a).cell)
    |(go_at_call 14;refine(H9.o _ a _ gv).mono ?_;clear H9;rintro e x9 ⟨rfl,b⟩;replace a:=Bt a b;clear b gv o p q x y j l;have o:=(z.bel a).cell;have p:=(R.bel a).cell;have q:=(X.bel a).cell;have x:=(nD.bel a).cell;have y:=(nR.bel a).cell;have j:=(d.bel a).cell;have l:=(g.bel a).cell)
    |(go_at_call 13;refine(Qg.o _ a).mono ?_;clear Qg;rintro e bc ⟨rfl,b⟩;replace a:=Bt a b;clear b o p q x y j l;have o:=(z.bel a).cell;have p:=(R.bel a).cell;have q:=(X.bel a).cell;have x:=(nD.bel a).cell;have y:=(nR.bel a).cell;have j:=(d.bel a).cell;have l:=(g.bel a).cell)
    |(go_at_call 13;refine(Ql.o _ a).mono ?_;clear Ql;rintro e bd ⟨rfl,b⟩;replace a:=Bt a b;clear b o p q x y j l;have o:=(z.bel a).cell;have p:=(R.bel a).cell;have q:=(X.bel a).cell;have x:=(nD.bel a).cell;have y:=(nR.bel a).cell;have j:=(d.bel a).cell;have l:=(g.bel a).cell)
    |(go_at_call 13;refine(Qi.o _ a).mono ?_;clear Qi;rintro e bf ⟨rfl,b⟩;replace a:=Bt a b;clear b o p q x y j l;have o:=(z.bel a).cell;have p:=(R.bel a).cell;have q:=(X.bel a).cell;have x:=(nD.bel a).cell;have y:=(nR.bel a).cell;have j:=(d.bel a).cell;have l:=(g.bel a).cell)
    |(go_at_call 14;refine(Qj.o _ a).mono ?_;clear Qj;rintro e bg ⟨rfl,b⟩;replace a:=Bt a b;clear b o p q x y j l;have o:=(z.bel a).cell;have p:=(R.bel a).cell;have q:=(X.bel a).cell;have x:=(nD.bel a).cell;have y:=(nR.bel a).cell;have j:=(d.bel a).cell;have l:=(g.bel a).cell)
    |(go_at_call 13;refine(Qm.o _ a).mono ?_;clear Qm;rintro e bh ⟨rfl,b⟩;replace a:=Bt a b;clear b o p q x y j l;have o:=(z.bel a).cell;have p:=(R.bel a).cell;have q:=(X.bel a).cell;have x:=(nD.bel a).cell;have y:=(nR.bel a).cell;have j:=(d.bel a).cell;have l:=(g.bel a).cell)
    |(go_at_call 14;refine(Qh.o _ a).mono ?_;clear Qh;rintro e bi ⟨rfl,b⟩;replace a:=Bt a b;clear b o p q x y j l;have o:=(z.bel a).cell;have p:=(R.bel a).cell;have q:=(X.bel a).cell;have x:=(nD.bel a).cell;have y:=(nR.bel a).cell;have j:=(d.bel a).cell;have l:=(g.bel a).cell)
    |(go_at_call 19;refine(Qq.o _ a).mono ?_;clear Qq;rintro e bj ⟨rfl,b⟩;replace a:=Bt a b;clear b o p q x y j l;have o:=(z.bel a).cell;have p:=(R.bel a).cell;have q:=(X.bel a).cell;have x:=(nD.bel a).cell;have y:=(nR.bel a).cell;have j:=(d.bel a).cell;have l:=(g.bel a).cell))
   go_ret;exact⟨J,Bt f.o a⟩
 have Qp:(0:Int)<(lq:Int):=by have:=Ap.2 h0;omega
 have bk:0<lq:=O
 have Qk:=Z (λ(V:G) (va vb:K) (ha:Jt V va ps) (b:Jt V vb qs)=>(show Calls I 29 #[va,vb] V λe w'=>∃u v,e=.returned (P #[u,v,M true])/\Jt w' u (XZ ps qs)/\Jt w' v (XP ps qs)/\Bl V w' by
  have h:=Ua.o V va vb ha b;rw[show decide (qs≠[])=true from BM h0]at h;simp only[BL h0]at h;exact h))
 clear ad Ua;go_enter func5,ntmps5
 go_upto_region 2 with(go_at_call 24;refine(Qr.o _).mono ?_;clear Qr;rintro e w1 ⟨u,rfl,B,b⟩;obtain⟨ax,lx,cx,rfl⟩:=B.form)
 replace f:=Z (Bt f.o b);have n:=B;clear B b;go_upto_region 3 with(go_at_call 24;refine(Qo.o _).mono ?_;clear Qo;rintro e w2 ⟨u,rfl,B,b⟩;obtain⟨ay,cy,ee,_⟩:=id B;rw[Ul.o]at ee;subst ee)
 replace n:=n.below b;replace f:=Z (Bt f.o b);clear b;have A:=B;clear B;go_upto_region 4 with(go_at_call 25;refine(Qt.o _).mono ?_;clear Qt;rintro e w3 ⟨u,rfl,B,b⟩;obtain⟨a3,l3,c3,rfl⟩:=B.form)
 replace n:=n.below b;replace A:=A.below b;replace f:=Z (Bt f.o b);clear b;have c:Bl w3 (w3.alloc (E #[C a3 l3 c3] 25)):=Ba w3 _;have d:=BK w3 25 (C a3 l3 c3);have Q:=B.row.below c;replace n:=n.below c;replace A:=A.below c;replace f:=Z (Bt f.o c);clear c;obtain⟨VP,T⟩:=ex (w3.alloc (E #[C a3 l3 c3] 25));obtain⟨BP,W⟩:=ex (w3.heap.size);rw[T]at n A Q f;rw[T,W]at d;rw[T];rw[W];clear T W;clear B;go_upto_region 5 with(go_at_call 25;refine(Qn.o _).mono ?_;clear Qn;rintro e w4 ⟨u,rfl,B,b⟩;obtain⟨a4,l4,c4,rfl⟩:=B.form)
 replace n:=n.below b;replace A:=A.below b;replace d:=d.bel b;replace Q:=Q.below b;replace f:=Z (Bt f.o b);clear b;have c:Bl w4 (w4.alloc (E #[C a4 l4 c4] 25)):=Ba w4 _;have g:=BK w4 25 (C a4 l4 c4);have U:=B.row.below c;replace n:=n.below c;replace A:=A.below c;replace d:=d.bel c;replace Q:=Q.below c;replace f:=Z (Bt f.o c);clear c;obtain⟨VQ,T⟩:=ex (w4.alloc (E #[C a4 l4 c4] 25));obtain⟨BQ,W⟩:=ex (w4.heap.size);rw[T]at n A d Q U f;rw[T,W]at g;rw[T];rw[W];clear T W;clear B;have H1:=Z λ(V:G) (h:Bl VQ V)=>Nd _ _ ps qs V (Q.below h).isPoly (U.below h).isPoly HP.o HQ.o HA.o;have a:Bl VQ VQ:=BF _ _;have j:=(d.bel a).cell;have l:=(g.bel a).cell;go_upto_region 6 with(go_at_call 26;refine(H1.o _ a).mono ?_;clear H1;rintro e w5 ⟨u,rfl,B,_,b⟩;obtain⟨a5,l5,c5,rfl⟩:=B.form)
 replace b:=Bt a b
 clear a j l;replace n:=n.below b;replace A:=A.below b;replace d:=d.bel b;replace Q:=Q.below b;replace g:=g.bel b;replace U:=U.below b;replace f:=Z (Bt f.o b);clear b;have c:Bl w5 (w5.alloc (E #[C a5 l5 c5] 25)):=Ba w5 _;have z:=BK w5 25 (C a5 l5 c5);have rA:=B.row.below c;replace n:=n.below c;replace A:=A.below c;replace d:=d.bel c;replace Q:=Q.below c;replace g:=g.bel c;replace U:=U.below c;replace f:=Z (Bt f.o c);clear c;obtain⟨VA,T⟩:=ex (w5.alloc (E #[C a5 l5 c5] 25));obtain⟨BA,W⟩:=ex (w5.heap.size);rw[T]at n A d Q g U rA f;rw[T,W]at z;rw[T];rw[W];clear T W;clear B;have H1:=Z λ(V:G) (h:Bl VA V)=>Nf _ _ ps qs V (Q.below h).isPoly (U.below h).isPoly HP.o HQ.o HB.o;have a:Bl VA VA:=BF _ _;have j:=(d.bel a).cell;have l:=(g.bel a).cell;go_upto_region 7 with(go_at_call 27;refine(H1.o _ a).mono ?_;clear H1;rintro e w6 ⟨u,rfl,B,_,b⟩;obtain⟨a6,l6,c6,rfl⟩:=B.form)
 replace b:=Bt a b
 clear a j l;replace n:=n.below b;replace A:=A.below b;replace d:=d.bel b;replace Q:=Q.below b;replace g:=g.bel b;replace U:=U.below b;replace z:=z.bel b;replace rA:=rA.below b;replace f:=Z (Bt f.o b);clear b;have c:Bl w6 (w6.alloc (E #[C a6 l6 c6] 25)):=Ba w6 _;have R:=BK w6 25 (C a6 l6 c6);have rB:=B.row.below c;replace n:=n.below c;replace A:=A.below c;replace d:=d.bel c;replace Q:=Q.below c;replace g:=g.bel c;replace U:=U.below c;replace z:=z.bel c;replace rA:=rA.below c;replace f:=Z (Bt f.o c);clear c;obtain⟨VB,T⟩:=ex (w6.alloc (E #[C a6 l6 c6] 25));obtain⟨BB,W⟩:=ex (w6.heap.size);rw[T]at n A d Q g U z rA rB f;rw[T,W]at R;rw[T];rw[W];clear T W;clear B;have H1:=Z λ(V:G) (h:Bl VB V)=>M3.LL _ _ ps qs V (Q.below h).isPoly (U.below h).isPoly HP.o HQ.o Uc.o (by have:=Qe.o;omega);have a:Bl VB VB:=BF _ _;have j:=(d.bel a).cell;have l:=(g.bel a).cell;go_upto_region 8 with(go_at_call 28;refine(H1.o _ a).mono ?_;clear H1;rintro e w7 ⟨u,rfl,B,_,b⟩;obtain⟨a7,l7,c7,rfl⟩:=B.form)
 replace b:=Bt a b
 clear a j l;replace n:=n.below b;replace A:=A.below b;replace d:=d.bel b;replace Q:=Q.below b;replace g:=g.bel b;replace U:=U.below b;replace z:=z.bel b;replace rA:=rA.below b;replace R:=R.bel b;replace rB:=rB.below b;replace f:=Z (Bt f.o b);clear b;have c:Bl w7 (w7.alloc (E #[C a7 l7 c7] 25)):=Ba w7 _;have X:=BK w7 25 (C a7 l7 c7);have rC:=B.row.below c;replace n:=n.below c;replace A:=A.below c;replace d:=d.bel c;replace Q:=Q.below c;replace g:=g.bel c;replace U:=U.below c;replace z:=z.bel c;replace rA:=rA.below c;replace R:=R.bel c;replace rB:=rB.below c;replace f:=Z (Bt f.o c);clear c;obtain⟨VC,T⟩:=ex (w7.alloc (E #[C a7 l7 c7] 25));obtain⟨BC,W⟩:=ex (w7.heap.size);rw[T]at n A d Q g U z rA R rB rC f;rw[T,W]at X;rw[T];rw[W];clear T W;clear B;have H1:=Z λ(V:G) (h:Bl VC V)=>Qk.o V _ _ (Q.below h).isPoly (U.below h).isPoly;have a:Bl VC VC:=BF _ _;have j:=(d.bel a).cell;have l:=(g.bel a).cell;go_upto_region 9 with(go_at_call 29;refine(H1.o _ a).mono ?_;clear H1;rintro e w8 ⟨u,v,rfl,B,hv,b⟩;obtain⟨a8,l8,c8,rfl⟩:=B.form;obtain⟨a9,l9,c9,rfl⟩:=hv.form)
 replace b:=Bt a b
 clear a j l;replace n:=n.below b;replace A:=A.below b;replace d:=d.bel b;replace Q:=Q.below b;replace g:=g.bel b;replace U:=U.below b;replace z:=z.bel b;replace rA:=rA.below b;replace R:=R.bel b;replace rB:=rB.below b;replace X:=X.bel b;replace rC:=rC.below b;replace f:=Z (Bt f.o b);clear b;have c:Bl w8 ((w8.alloc (E #[C a8 l8 c8] 25)).alloc (E #[C a9 l9 c9] 25)):=(Ba w8 _).alloc (by rw[A1];omega) _;have nD:=(BK w8 25 (C a8 l8 c8)).alloc (E #[C a9 l9 c9] 25);have nR:=BK (w8.alloc (E #[C a8 l8 c8] 25)) 25 (C a9 l9 c9);rw[A1]at nR;have rD:=B.row.below c;have rR:=hv.row.below c;replace n:=n.below c;replace A:=A.below c;replace d:=d.bel c;replace Q:=Q.below c;replace g:=g.bel c;replace U:=U.below c;replace z:=z.bel c;replace rA:=rA.below c;replace R:=R.bel c;replace rB:=rB.below c;replace X:=X.bel c;replace rC:=rC.below c;replace f:=Z (Bt f.o c);clear c;obtain⟨VS,T⟩:=ex ((w8.alloc (E #[C a8 l8 c8] 25)).alloc (E #[C a9 l9 c9] 25));obtain⟨BD,W⟩:=ex (w8.heap.size);rw[T]at n A d Q g U z rA R rB X rC rD rR f;rw[T,W]at nD nR;rw[T];rw[W];clear T W B hv;have Qb:=Z λ(V:G) (h:Bl VS V)=>Js HT.o (Bt f.o h);have H1:=Z λ(V:G) (h:Bl VS V)=>Yt _ (Xb ps qs) V (rA.below h).isPoly HA.o Ud.o (Js HT.o (Bt f.o h));rw[Ub.o]at H1;have H2:=Z λ(V:G) (h:Bl VS V)=>Gr _ _ ps qs V (n.below h) (A.below h) HP.o HQ.o (by have:=Qe.o;omega);have H3:=Z λ(V:G) (h:Bl VS V) (v:K) (hv:RowK false V v (Xb ps qs))=>YZ v (Xb ps qs) V hv HA.o Ud.o (Xu _ _) (Qb.o V h);rw[Ub.o]at H3;have H4:=Z λ(V:G) (h:Bl VS V)=>Yt _ (Y9 ps qs) V (rB.below h).isPoly HB.o Qu.o (Js HT.o (Bt f.o h));rw[Qz.o]at H4;have H5:=Z λ(V:G) (h:Bl VS V)=>Il _ _ ps qs V (n.below h) (A.below h) HP.o HQ.o (by have:=Qe.o;omega);have H6:=Z λ(V:G) (h:Bl VS V) (v:K) (hv:RowK false V v (Y9 ps qs))=>YZ v (Y9 ps qs) V hv HB.o Qu.o (Xv _ _) (Qb.o V h);rw[Qz.o]at H6;have H7:=Z λ(V:G) (h:Bl VS V)=>Yt _ (YM ps qs) V (rC.below h).isPoly HC.o Ue.o (Js HT.o (Bt f.o h));rw[Qw.o]at H7;have H8:=Z λ(V:G) (h:Bl VS V)=>LX _ _ ps qs V (n.below h) (A.below h) HP.o HQ.o Uc.o (by have:=Qe.o;omega);have H9:=Z λ(V:G) (h:Bl VS V) (v:K) (hv:RowK false V v (YM ps qs))=>YZ v (YM ps qs) V hv HC.o Ue.o (GF _ _) (Qb.o V h);rw[Qw.o]at H9;have a:Bl VS VS:=BF _ _;have o:=(z.bel a).cell;have p:=(R.bel a).cell;have q:=(X.bel a).cell;have x:=(nD.bel a).cell;have y:=(nR.bel a).cell;have j:=(d.bel a).cell;have l:=(g.bel a).cell;have Qf:=Z (Us.o h0);have Uk:=Z (Ut.o h0);obtain⟨TD,ae⟩:∃S:ByteArray,⟨(Xm (XZ ps qs)).toArray⟩=S:=⟨_,J⟩;obtain⟨TR,ah⟩:∃S:ByteArray,⟨(Xm (XP ps qs)).toArray⟩=S:=⟨_,J⟩;obtain⟨Uo,Un,Uq⟩:=DY (λm=>XO Qf.o.1 (by have:=Qf.o;have:=Qe.o;omega) m) (λm=>XO Qf.o.2.1 (by have:=Qf.o;have:=Qe.o;omega) m) λ(V:G) (h:Bl VS V)=>Ur.o V _ _ (n.below h) (A.below h) h0;have Qg:=Z λ(V:G) (h:Bl VS V)=>Yt _ (XZ ps qs) V (rD.below h).isPoly Qf.o.1 Uo.o (Js HT.o (Bt f.o h));rw[ae]at Qg;have Uh:=Z λ(V:G) (h:Bl VS V) (v:K) (hv:RowK false V v (XZ ps qs))=>YZ v (XZ ps qs) V hv Qf.o.1 Uo.o Uk.o.2.2.1 (Qb.o V h)
 rw[ae]at Uh;have Ql:=Z λ(V:G) (h:Bl VS V)=>Yt _ (XP ps qs) V (rR.below h).isPoly Qf.o.2.1 Un.o (Js HT.o (Bt f.o h));rw[ah]at Ql;have Ui:=Z λ(V:G) (h:Bl VS V) (v:K) (hv:RowK false V v (XP ps qs))=>YZ v (XP ps qs) V hv Qf.o.2.1 Un.o Uk.o.2.2.2 (Qb.o V h);rw[ah]at Ui;clear ae ah;have Qi:=Z λ(V:G) (h:Bl VS V)=>Yt _ ps V (Q.below h).isPoly HP.o Ug.o (Js HT.o (Bt f.o h));rw[Qy.o]at Qi;have Qj:=Z λ(V:G) (h:Bl VS V)=>YZ _ ps V (n.below h) HP.o Ug.o Uj.o (Js HT.o (Bt f.o h));rw[Qy.o]at Qj;have Qm:=Z λ(V:G) (h:Bl VS V)=>Yt _ qs V (U.below h).isPoly HQ.o Qx.o (Js HT.o (Bt f.o h));rw[Uf.o]at Qm;have Qh:=Z λ(V:G) (h:Bl VS V)=>YZ _ qs V (A.below h) HQ.o Qx.o Up.o (Js HT.o (Bt f.o h));rw[Uf.o]at Qh;have Qq:=Z λ(V:G) (h:Bl VS V)=>Og V (Js HT.o (Bt f.o h));go_wp2_with(first
  |(go_at_call 13;refine(H1.o _ a).mono ?_;clear H1;rintro e x1 ⟨rfl,b⟩;replace a:=Bt a b;clear b o p q x y j l;have o:=(z.bel a).cell;have p:=(R.bel a).cell;have q:=(X.bel a).cell;have x:=(nD.bel a).cell;have y:=(nR.bel a).cell;have j:=(d.bel a).cell;have l:=(g.bel a).cell)
  |(go_at_call 30;refine(H2.o _ a).mono ?_;clear H2;rintro e x2 ⟨v2,rfl,gv,b⟩;replace a:=Bt a b;clear b o p q x y j l;have o:=(z.bel a).cell;have p:=(R.bel a).cell;have q:=(X.bel a).cell;have x:=(nD.bel a).cell;have y:=(nR.bel a).cell;have j:=(d.bel a).cell;have l:=(g.bel a).cell)
  |(go_at_call 14;refine(H3.o _ a _ gv).mono ?_;clear H3;rintro e x3 ⟨rfl,b⟩;replace a:=Bt a b;clear b gv o p q x y j l;have o:=(z.bel a).cell;have p:=(R.bel a).cell;have q:=(X.bel a).cell;have x:=(nD.bel a).cell;have y:=(nR.bel a).cell;have j:=(d.bel a).cell;have l:=(g.bel a).cell)
  |(go_at_call 13;refine(H4.o _ a).mono ?_;clear H4;rintro e x4 ⟨rfl,b⟩;replace a:=Bt a b;clear b o p q x y j l;have o:=(z.bel a).cell;have p:=(R.bel a).cell;have q:=(X.bel a).cell;have x:=(nD.bel a).cell;have y:=(nR.bel a).cell;have j:=(d.bel a).cell;have l:=(g.bel a).cell)
  |(go_at_call 31;refine(H5.o _ a).mono ?_;clear H5;rintro e x5 ⟨v5,rfl,gv,b⟩;replace a:=Bt a b;clear b o p q x y j l;have o:=(z.bel a).cell;have p:=(R.bel a).cell;have q:=(X.bel a).cell;have x:=(nD.bel a).cell;have y:=(nR.bel a).cell;have j:=(d.bel a).cell;have l:=(g.bel a).cell)
  |(go_at_call 14;refine(H6.o _ a _ gv).mono ?_;clear H6;rintro e x6 ⟨rfl,b⟩;replace a:=Bt a b;clear b gv o p q x y j l;have o:=(z.bel a).cell;have p:=(R.bel a).cell;have q:=(X.bel a).cell;have x:=(nD.bel a).cell;have y:=(nR.bel a).cell;have j:=(d.bel a).cell;have l:=(g.bel a).cell)
  |(go_at_call 13;refine(H7.o _ a).mono ?_;clear H7;rintro e x7 ⟨rfl,b⟩;replace a:=Bt a b;clear b o p q x y j l;have o:=(z.bel a).cell;have p:=(R.bel a).cell;have q:=(X.bel a).cell;have x:=(nD.bel a).cell;have y:=(nR.bel a).cell;have j:=(d.bel a).cell;have l:=(g.bel a).cell)
  |(go_at_call 32;refine(H8.o _ a).mono ?_;clear H8;rintro e x8 ⟨v8,rfl,gv,b⟩;replace a:=Bt a b;clear b o p q x y j l;have o:=(z.bel a).cell;have p:=(R.bel a).cell;have q:=(X.bel a).cell;have x:=(nD.bel a).cell;have y:=(nR.bel a).cell;have j:=(d.bel a).cell;have l:=(g.bel a).cell)
  |(go_at_call 14;refine(H9.o _ a _ gv).mono ?_;clear H9;rintro e x9 ⟨rfl,b⟩;replace a:=Bt a b;clear b gv o p q x y j l;have o:=(z.bel a).cell;have p:=(R.bel a).cell;have q:=(X.bel a).cell;have x:=(nD.bel a).cell;have y:=(nR.bel a).cell;have j:=(d.bel a).cell;have l:=(g.bel a).cell)
  |(go_at_call 33;refine(Uq.o _ a).mono ?_;clear Uq;rintro e bc ⟨bm,u10,rfl,gu,gv,b⟩;replace a:=Bt a b;clear b o p q x y j l;have o:=(z.bel a).cell;have p:=(R.bel a).cell;have q:=(X.bel a).cell;have x:=(nD.bel a).cell;have y:=(nR.bel a).cell;have j:=(d.bel a).cell;have l:=(g.bel a).cell)
  |(go_at_call 13;refine(Qg.o _ a).mono ?_;clear Qg;rintro e bd ⟨rfl,b⟩;replace gu:=gu.below b;replace gv:=gv.below b;replace a:=Bt a b;clear b o p q x y j l;have o:=(z.bel a).cell;have p:=(R.bel a).cell;have q:=(X.bel a).cell;have x:=(nD.bel a).cell;have y:=(nR.bel a).cell;have j:=(d.bel a).cell;have l:=(g.bel a).cell)
  |(go_at_call 14;refine(Uh.o _ a _ gu).mono ?_;clear Uh;rintro e bf ⟨rfl,b⟩;replace gv:=gv.below b;clear gu;replace a:=Bt a b;clear b o p q x y j l;have o:=(z.bel a).cell;have p:=(R.bel a).cell;have q:=(X.bel a).cell;have x:=(nD.bel a).cell;have y:=(nR.bel a).cell;have j:=(d.bel a).cell;have l:=(g.bel a).cell)
  |(go_at_call 13;refine(Ql.o _ a).mono ?_;clear Ql;rintro e bg ⟨rfl,b⟩;replace gv:=gv.below b;replace a:=Bt a b;clear b o p q x y j l;have o:=(z.bel a).cell;have p:=(R.bel a).cell;have q:=(X.bel a).cell;have x:=(nD.bel a).cell;have y:=(nR.bel a).cell;have j:=(d.bel a).cell;have l:=(g.bel a).cell)
  |(go_at_call 14;refine(Ui.o _ a _ gv).mono ?_;clear Ui;rintro e bh ⟨rfl,b⟩;clear gv;replace a:=Bt a b;clear b o p q x y j l;have o:=(z.bel a).cell;have p:=(R.bel a).cell;have q:=(X.bel a).cell;have x:=(nD.bel a).cell;have y:=(nR.bel a).cell;have j:=(d.bel a).cell;have l:=(g.bel a).cell)
  |(go_at_call 13;refine(Qi.o _ a).mono ?_;clear Qi;rintro e bi ⟨rfl,b⟩;replace a:=Bt a b;clear b o p q x y j l;have o:=(z.bel a).cell;have p:=(R.bel a).cell;have q:=(X.bel a).cell;have x:=(nD.bel a).cell;have y:=(nR.bel a).cell;have j:=(d.bel a).cell;have l:=(g.bel a).cell)
  |(go_at_call 14;refine(Qj.o _ a).mono ?_;clear Qj;rintro e bj ⟨rfl,b⟩;replace a:=Bt a b;clear b o p q x y j l;have o:=(z.bel a).cell;have p:=(R.bel a).cell;have q:=(X.bel a).cell;have x:=(nD.bel a).cell;have y:=(nR.bel a).cell;have j:=(d.bel a).cell;have l:=(g.bel a).cell)
  |(go_at_call 13;refine(Qm.o _ a).mono ?_;clear Qm;rintro e bn ⟨rfl,b⟩;replace a:=Bt a b;clear b o p q x y j l;have o:=(z.bel a).cell;have p:=(R.bel a).cell;have q:=(X.bel a).cell;have x:=(nD.bel a).cell;have y:=(nR.bel a).cell;have j:=(d.bel a).cell;have l:=(g.bel a).cell)
  |(go_at_call 14;refine(Qh.o _ a).mono ?_;clear Qh;rintro e bt ⟨rfl,b⟩;replace a:=Bt a b;clear b o p q x y j l;have o:=(z.bel a).cell;have p:=(R.bel a).cell;have q:=(X.bel a).cell;have x:=(nD.bel a).cell;have y:=(nR.bel a).cell;have j:=(d.bel a).cell;have l:=(g.bel a).cell)
  |(go_at_call 19;refine(Qq.o _ a).mono ?_;clear Qq;rintro e bu ⟨rfl,b⟩;replace a:=Bt a b;clear b o p q x y j l;have o:=(z.bel a).cell;have p:=(R.bel a).cell;have q:=(X.bel a).cell;have x:=(nD.bel a).cell;have y:=(nR.bel a).cell;have j:=(d.bel a).cell;have l:=(g.bel a).cell))
 go_ret;exact⟨J,Bt f.o a⟩

