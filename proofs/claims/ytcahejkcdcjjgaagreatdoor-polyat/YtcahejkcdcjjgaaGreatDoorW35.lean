import Derived.Test.YtcahejkcdcjjgaaGreatDoorW34
set_option linter.all false
open Go.Value renaming int->C,slice->F,string->D,pointer->B
open Go.IntKind renaming i64->E
open Go.Obj renaming cells->G
open Go renaming World->H,Value->L
open Go.Proofs.Tryz renaming prog->I
set_option maxRecDepth 99999
set_option maxHeartbeats 0
namespace Go.Proofs.YtcahejkcdcjjgaaGreatDoor
open Proofs.Tryz
open Go.RowKit Go.Shelf
attribute [local go_sem] Oper.semAt_some
section
variable{cs:Array L}{l:List UInt8}{m:Nat × Nat}{t:TypeId}{W W':H}
def WV(p q:Addr)(w:H):
 CallsD I 89 #[B (some p),B (some q)] .returning w λe d f=>e=.returned (.tuple #[])/\d=.returning/\f=w.alloc (G #[C E 0,C E 0] 77):=by
 have a:∀w:H,(Instr.typeAssert Value.nilIface 20 77 true).run I w=.ok (.tuple #[.agg #[C E 0,C E 0],.bool false]) w:=λ_=>by kernel_rfl
 refine callsD_of_wpS func89 J λb cs c=>?_;apply wpS_seq;apply wpS_region;simp[wpOpsS,go_sem,recoverD,c,ntmps89,Exit.thenS,a];apply wpS_seq;apply wpS_region;simp[wpOpsS,go_sem,Exit.thenS];refine wpS_cond (t:=false) (by simp[Act.eval,Array.replicate]) ?_;simp only[Cy,if_false];refine wpS_of_wp (wp_skip ?_);cases b;simp_all [bodyPostS,results,results89]
def WW(p q:Nat)(a p0:Int)(w:H)(g:Boxed w p 25 (F none 0 0))(i:Ji w q 77 (C E 0) (C E 0))(l:p≠q):
 CallsD I 89 #[B (some ⟨p,0,none⟩),B (some ⟨q,0,none⟩)] (.panicking [{ v:=E0 a p0,recovered:=false }]) w λe Q m=>e=.returned (.tuple #[])/\Q=.panicking [{ v:=E0 a p0,recovered:=true }]/\Boxed m p 25 (F none 0 0)/\Ji m q 77 (C E a) (C E p0)/\∀n w0,Below n w0 w->n<=w.heap.size->n<=p->n<=q->Below n w0 m:=by
 unfold E0;have o:∀w:H,(Instr.typeAssert (.iface 77 (.agg #[C E a,C E p0])) 20 77 true).run I w=.ok (.tuple #[.agg #[C E a,C E p0],.bool true]) w:=λ_=>by kernel_rfl
 refine callsD_of_wpS func89 J λR cs z=>?_;apply wpS_seq;apply wpS_region;simp[wpOpsS,go_sem,recoverD,z,ntmps89,Exit.thenS,o];apply wpS_seq;apply wpS_region;simp[wpOpsS,go_sem,Exit.thenS];refine wpS_cond (t:=true) (by simp[Act.eval,Array.replicate]) ?_;simp only[if_true];refine wpS_of_wp ?_;simp[Array.replicate];have d:=Ji.new w 77 (C E a) (C E p0);have c:=g.alloc (G #[C E a,C E p0] 77);have b:=i.alloc (G #[C E a,C E p0] 77);have M:p≠w.heap.size:=by have:=g.lt;omega
 have N:q≠w.heap.size:=by have:=i.lt;omega
 have f:=Z λ(n:Nat) (w0:H) (h:Below n w0 w) (k:n<=w.heap.size)=>h.alloc k (G #[C E a,C E p0] 77);obtain⟨W,j⟩:=ex (w.alloc (G #[C E a,C E p0] 77));rw[j]at d c b f;rw[j];obtain⟨D,s⟩:=ex (w.heap.size);rw[s]at d M N f;rw[s];clear j g i o z;obtain⟨d0,d1⟩:=d.cp;have x0:=c.cell;have x1:=c.frozen;obtain⟨S,T⟩:=b.cp;obtain⟨z0,U⟩:=b.fp;have A:=Z c;have K:=Z b;clear c b d;go_region
 have u:Boxed (((W.setCell ⟨p,0,none⟩ (F none 0 0)).setCell ⟨q,0,none⟩ (C E a)).setCell ⟨q,1,none⟩ (C E p0)).drew p 25 (F none 0 0):=
  (BE _ ⟨q,1,none⟩ (C E p0) p l).trans ((BE _ ⟨q,0,none⟩ (C E a) p l).trans (A.o.set (F none 0 0)))
 have x:Ji (((W.setCell ⟨p,0,none⟩ (F none 0 0)).setCell ⟨q,0,none⟩ (C E a)).setCell ⟨q,1,none⟩ (C E p0)).drew q 77 (C E a) (C E p0):=
  (((K.o.far (p:=⟨p,0,none⟩) (λe=>l e.symm) _).set0 _).set1 _).drew
 have y:∀n w0,Below n w0 w->n<=D->n<=p->n<=q->Below n w0 (((W.setCell ⟨p,0,none⟩ (F none 0 0)).setCell ⟨q,0,none⟩ (C E a)).setCell ⟨q,1,none⟩ (C E p0)).drew:=
  λn w0 h k P r=>((((f.o n w0 h k).setCell (p:=⟨p,0,none⟩) P _).setCell (p:=⟨q,0,none⟩) r _).setCell (p:=⟨q,1,none⟩) r _).drew
 generalize (((W.setCell ⟨p,0,none⟩ (F none 0 0)).setCell ⟨q,0,none⟩ (C E a)).setCell ⟨q,1,none⟩ (C E p0)).drew=V at u x y ⊢;simp[bodyPostS,results,results89];exact⟨u,x,y⟩
theorem WX(s:ByteArray)(g q0:Int)(w:H)(q:∀V R,DW V R s 0->Calls I 90 #[B (some ⟨R,0,none⟩)] V λr l=>V.grownBy l (some R)/\r=.panicked [{ v:=E0 g q0,recovered:=false }]):
 Calls I 44 #[D s] w λr l=>r=.returned (.tuple #[.agg #[F none 0 0],.agg #[C E g,C E q0]])/\Bl w l:=by
 have U:∀(fn:Fn) (first cap:Array L) (w:H),(Instr.makeFunc fn first cap).run I w=.ok (.func fn first cap) w:=λ_ _ _ _=>rfl;have o:=Z q;clear q;go_enter_defers func44,ntmps44
 go_upto_region 3 with fail
 have b:=BJ w 25 (F none 0 0);have a:=Ji.new (w.alloc (G #[F none 0 0] 25)) 77 (C E 0) (C E 0);have c:DW (((w.alloc (G #[F none 0 0] 25)).alloc (G #[C E 0,C E 0] 77)).alloc (G #[D s,C E 0] 124)) ((w.alloc (G #[F none 0 0] 25)).alloc (G #[C E 0,C E 0] 77)).heap.size s 0:=BC _ _;rw[A1,A1]at c;rw[A1]at a;replace b:=(b.alloc (G #[C E 0,C E 0] 77)).alloc (G #[D s,C E 0] 124);replace a:=a.alloc (G #[D s,C E 0] 124);have j:Bl w (((w.alloc (G #[F none 0 0] 25)).alloc (G #[C E 0,C E 0] 77)).alloc (G #[D s,C E 0] 124)):=((Ba w _).alloc (by rw[A1];omega) _).alloc (by rw[A1,A1];omega) _;have u:(((w.alloc (G #[F none 0 0] 25)).alloc (G #[C E 0,C E 0] 77)).alloc (G #[D s,C E 0] 124)).heap.size=w.heap.size+1+1+1:=by rw[A1,A1,A1]
 obtain⟨V,i⟩:=ex (((w.alloc (G #[F none 0 0] 25)).alloc (G #[C E 0,C E 0] 77)).alloc (G #[D s,C E 0] 124));rw[i]at b a c j u;rw[i];obtain⟨y,m,n,z⟩:=Dn b a j (o.o _ _ c);clear b a c j i o u;go_wp2_with(go_at_call 90;refine z.o.mono ?_;rintro e x ⟨t,rfl⟩;have d:=Z t;clear t)
 have K:Boxed x w.heap.size 25 (F none 0 0):=y.o.kept d.o (λe=>by have:=AW e;omega);have A:Ji x (w.heap.size+1) 77 (C E 0) (C E 0):=(d.o.block _ m.o.lt λe=>by have:=AW e;omega).trans m.o;have p:=n.o.grown d.o n.o.size (λk e=>by grind);refine leaves_cons (f:=89) (args:=#[B (some ⟨w.heap.size,0,none⟩),B (some ⟨w.heap.size+1,0,none⟩)]) DJ (by simp[go_sem]) ?_;refine(WW w.heap.size (w.heap.size+1) g q0 _ K A O).mono ?_;rintro e W X ⟨rfl,rfl,M,N,P⟩;have Q:=P _ _ p p.size (Aa _) O;have x0:=M.cell;obtain⟨S,T⟩:=N.cp;simp[Leaves,settle,results,results44,go_sem,x0,S,T];exact Q
theorem WY{F:Nat}(hF:W.heap[F]?=some (G cs t m))(j:t=77)(hg:W.grownBy W' (some F)):∀k v ds,Row k W v ds->Row k W' v ds:=by
 intro k v ds c;obtain⟨a,cap,e,_⟩:=id c;subst e;refine c.grown hg λp g hl=>?_;obtain⟨b,n,f,d,l,i⟩:=c.typ hl;grind
def PS{F:Nat}(hF:W.heap[F]?=some (G cs t m))(g:t=77)(hg:W.grownBy W' (some F)){r:Bool}{v:L}{qs:K}(h:RowK r W v qs):RowK r W' v qs:=by
 obtain⟨a,cap,e,k,c,l,d⟩:=h;refine⟨a,cap,e,k,c,l,?_⟩;rcases d with d|⟨b,i,f⟩
 . exact Ar d
 . refine Ax ⟨b,i,f.keep (hg.block b f.lt λe=>?_) (WY hF g hg)⟩;obtain⟨n,j,_⟩:=f;have e:=AW e;subst e;have:=j.symm.trans hF;simp only[Ay,Obj.cells.injEq]at this;subst g;have c:=this.2.1;revert c;cases r<;>(show ¬(_=_);decide)
theorem WZ(s:ByteArray)(ps:List Rat)(w:H)(hP:∀V R,DW V R s 0->Calls I 90 #[B (some ⟨R,0,none⟩)] V λr i=>V.grownBy i (some R)/\∃u,r=.returned u/\JB i u ps):
 Calls I 44 #[D s] w λr i=>∃u,r=.returned (.tuple #[u,.agg #[C E 0,C E 0]])/\JB i u ps/\Bl w i:=by
 have ae:∀(fn:Fn) (first cap:Array L) (w:H),(Instr.makeFunc fn first cap).run I w=.ok (.func fn first cap) w:=λ_ _ _ _=>rfl;have U:=Z hP;clear hP;go_enter_defers func44,ntmps44
 go_upto_region 3 with fail
 have g:=BJ w 25 (F none 0 0);have c:=Ji.new (w.alloc (G #[F none 0 0] 25)) 77 (C E 0) (C E 0);have m:DW (((w.alloc (G #[F none 0 0] 25)).alloc (G #[C E 0,C E 0] 77)).alloc (G #[D s,C E 0] 124)) ((w.alloc (G #[F none 0 0] 25)).alloc (G #[C E 0,C E 0] 77)).heap.size s 0:=BC _ _;rw[A1,A1]at m;rw[A1]at c;replace g:=(g.alloc (G #[C E 0,C E 0] 77)).alloc (G #[D s,C E 0] 124);replace c:=c.alloc (G #[D s,C E 0] 124);have M:Bl w (((w.alloc (G #[F none 0 0] 25)).alloc (G #[C E 0,C E 0] 77)).alloc (G #[D s,C E 0] 124)):=((Ba w _).alloc (by rw[A1];omega) _).alloc (by rw[A1,A1];omega) _;have hz:(((w.alloc (G #[F none 0 0] 25)).alloc (G #[C E 0,C E 0] 77)).alloc (G #[D s,C E 0] 124)).heap.size=w.heap.size+1+1+1:=by rw[A1,A1,A1]
 obtain⟨V,K⟩:=ex (((w.alloc (G #[F none 0 0] 25)).alloc (G #[C E 0,C E 0] 77)).alloc (G #[D s,C E 0] 124));rw[K]at g c m M hz;rw[K];obtain⟨H0,Q,T,HC⟩:=Dn g c M (U.o _ _ m);clear g c m M K U hz;go_wp2_with(go_at_call 90;refine HC.o.mono ?_;rintro e P ⟨ad,u1,rfl,N⟩;have n:=Z ad;obtain⟨a,d,b,rfl⟩:=N.form;have HU:=Z N.row;have l:Boxed P w.heap.size 25 (F none 0 0):=H0.o.kept n.o (λe=>by have:=AW e;omega);have j:Ji P (w.heap.size+1) 77 (C E 0) (C E 0):=(n.o.block _ Q.o.lt λe=>by have:=AW e;omega).trans Q.o;have x0:=l.cell;have x1:=l.frozen;obtain⟨y0,y1⟩:=j.cp;obtain⟨z0,z1⟩:=j.fp;have S:=Z l;have H3:=Z j;clear ad N l j)
 have o:w.heap.size+1≠w.heap.size:=O
 have Qd:=T.o.grown n.o T.o.size (λk e=>by grind);have W:=S.o.set (F a d b);have X:=EI S.o (F a d b) HU.o;have x:=H3.o.far (p:=⟨w.heap.size,0,none⟩) o (F a d b);have a4:=Qd.setCell (p:=⟨w.heap.size,0,none⟩) (Aa _) (F a d b);generalize P.setCell ⟨w.heap.size,0,none⟩ (F a d b)=q at W X x a4 ⊢;have b1:=(BE q ⟨w.heap.size+1,0,none⟩ (C E 0) w.heap.size λe=>o e.symm).trans W;have b2:=PS x J (Jy q (w.heap.size+1) 0 (C E 0)) X;have y:=x.set0 (C E 0);have b4:=a4.setCell (p:=⟨w.heap.size+1,0,none⟩) DY (C E 0);generalize q.setCell ⟨w.heap.size+1,0,none⟩ (C E 0)=t at b1 b2 y b4 ⊢;have d1:=(BE t ⟨w.heap.size+1,1,none⟩ (C E 0) w.heap.size λe=>o e.symm).trans b1;have d2:=PS y J (Jy t (w.heap.size+1) 1 (C E 0)) b2;have z:=y.set1 (C E 0);have A:=b4.setCell (p:=⟨w.heap.size+1,1,none⟩) DY (C E 0);generalize t.setCell ⟨w.heap.size+1,1,none⟩ (C E 0)=v at d1 d2 z A ⊢;refine leaves_cons (f:=89) (args:=#[B (some ⟨w.heap.size,0,none⟩),B (some ⟨w.heap.size+1,0,none⟩)]) DJ (by simp[go_sem]) ?_;refine(WV ⟨w.heap.size,0,none⟩ ⟨w.heap.size+1,0,none⟩ _).mono ?_;rintro e u' w2 ⟨rfl,rfl,rfl⟩;have e1:Boxed v w.heap.size 25 (F a d b):=d1;have f1:=(e1.alloc (G #[C E 0,C E 0] 77)).cell;have f2:=(z.alloc (G #[C E 0,C E 0] 77)).c0;have f3:=(z.alloc (G #[C E 0,C E 0] 77)).c1;have f4:=A.alloc A.size (G #[C E 0,C E 0] 77);have f5:=d2.below (Ba v (G #[C E 0,C E 0] 77));generalize v.alloc (G #[C E 0,C E 0] 77)=W5 at f1 f2 f3 f4 f5 ⊢;simp[Leaves,settle,results,results44,go_sem,f1,f2,f3];exact⟨⟨_,J,f5⟩,f4⟩
def PT:∀(f:Nat) (b:Bool) (I m:Nat) (S d:K) (k:Nat),I<=l.length->m<=I->YJ S m->EC l f b I S=.ok d k->∃s,s<=l.length/\YJ d s:=by
 intro f;induction f with
 |zero=>intro b I m S d k _ _ _ h;cases h
 |succ f r=>
  intro b I m S d k q x t h;cases g:J5 l I with
  |error e p=>rw[MD g]at h;cases h
  |ok a u=>
   obtain⟨c,n⟩:=a;have o:=K0 q g;have i:=t.next (PO q g) o.2.2 b;have v:=Fv l u;have w:=Yq o.2.1;rw[ME g]at h;split at h
   . rename_i j;have:=Yc j;exact r _ _ (m+1) _ _ _ O O i h
   . split at h
     . rename_i j;have:=Yc j;exact r _ _ (m+1) _ _ _ O O i h
     . split at h
       . cases h;exact⟨m+1,O,i⟩
       . cases h
def Wf{S:K}{k:Nat}(h:EA l=.ok S k):∃m,m<=l.length/\YJ S m:=by
 unfold EA at h;have a:=Yq (l:=l) (i:=0) O;split at h
 . rename_i b;have:=Yc b;exact PT _ _ _ 0 _ _ _ O O YJ.start h
 . exact PT _ _ _ 0 _ _ _ a O YJ.start h
theorem W2(l:List UInt8):(J1 l).1.length<=9/\∀i,DR 601 (cf (J1 l).1 i):=by
 by_cases h:300<l.length
 . grind[J1,YZ,DR.zero]
 . rw[KP h];cases a:EA l with
   |error e p=>grind[KO,YZ,DR.zero]
   |ok S k=>
    obtain⟨m,b,hs⟩:=Wf a;rw[show(KO (EStateM.Result.ok S k)).1=Jg S from J];exact⟨AK (J3 _) (by rw[hs.1];exact Aa _),λi=>by rw[J0];exact(hs.2 i).mono O⟩
def Gp(l:List UInt8)(a:H)(u:L)(e p:Int):Prop:=e=((J1 l).2.1:Int)/\p=((J1 l).2.2:Int)/\JB a u (J1 l).1
def W4(s:ByteArray)(hs:s.size<=300)(w:H):
 Calls I 44 #[D s] w λr a=>∃u e p,r=.returned (.tuple #[u,.agg #[C E e,C E p]])/\Gp (Jc s) a u e p/\Bl w a:=by
 have b:=KP (l:=Jc s) (by rw[Jh];omega);cases c:EA (Jc s)with
 |error g q0=>
  rw[c]at b;refine(WX s g q0 w λV R d=>(PP R s V d hs).mono λr a h=>⟨h.1,h.2.1 _ _ c⟩).mono ?_;rintro r a ⟨rfl,f⟩;refine⟨_,_,_,J,?_,f⟩;rw[Gp,b];exact⟨J,J,_,J,RowK.nil _ _⟩
 |ok S k=>
  rw[c]at b;refine(WZ s (Jg S) w λV R d=>(PP R s V d hs).mono λr a h=>⟨h.1,by obtain⟨u,i,j,_⟩:=h.2.2 _ _ c;exact⟨u,i,j⟩⟩).mono ?_;rintro r a ⟨u,rfl,m,f⟩;refine⟨_,_,_,J,?_,f⟩;rw[Gp,b];exact⟨J,J,m⟩
def PU(s:ByteArray)(w:H):
 Calls I 9 #[D s] w λr M=>∃u e p,r=.returned (.tuple #[u,C E e,C E p])/\Gp (Jc s) M u e p/\Bl w M:=by
 by_cases t:300<s.size
 . have X:(300:Int)<(s.size:Int):=O
   have N:=Z (show J1 (Jc s)=([],1,0)by unfold J1;rw[BL (by rw[Jh];exact t)]);clear t;go_enter func9,ntmps9
   go_wp2;exact BA (v:=.tuple #[.agg #[F none 0 0],C E 1,C E 0]) (by simp[results,results9,go_sem]) J ⟨_,_,_,J,by rw[Gp,N.o];exact⟨J,J,_,J,RowK.nil _ _⟩,Ba w _⟩
 . have X:¬(300:Int)<(s.size:Int):=O
   have x:=Z λ(V:H)=>W4 s O V;clear t;go_enter func9,ntmps9
   go_upto_region 4 with(go_at_call 44;refine(x.o _).mono ?_;clear x;rintro e a ⟨u1,g,p1,rfl,b,c⟩;obtain⟨d,j,f,rfl⟩:=b.2.2.form;have n:=Z b;have m:=Z c;clear b c)
   have T:w.heap.size<a.heap.size:=by have:=m.o.size;rw[A1]at this;omega
   have q0:Boxed a w.heap.size 25 (F none 0 0):=(m.o.block _ (by rw[A1];omega)).trans (BJ w 25 (F none 0 0));have A:=(Ba w _).trans (m.o.mono (by rw[A1];omega));have i:=BJ a 25 (F d j f);have k:=Ji.new (a.alloc (G #[F d j f] 25)) 77 (C E g) (C E p1);rw[A1]at k;replace i:=i.alloc (G #[C E g,C E p1] 77);have l:Bl a ((a.alloc (G #[F d j f] 25)).alloc (G #[C E g,C E p1] 77)):=(Ba a _).alloc (by rw[A1];omega) _;have q1:=(l.block _ q0.lt).trans q0;have c:=Bt A l;have b:=n.o.2.2.row.below l;have K:=Z (⟨n.o.1,n.o.2.1⟩:g=_/\p1=_);have y:w.heap.size≠a.heap.size:=O
   have z:w.heap.size≠a.heap.size+1:=O
   generalize (a.alloc (G #[F d j f] 25)).alloc (G #[C E g,C E p1] 77)=W at i k l q1 c b ⊢;clear l q0 A m n T;obtain⟨Q,o⟩:=ex (w.heap.size);obtain⟨B,q⟩:=ex (a.heap.size);rw[q]at i k y z;rw[o]at q1 y z;rw[q,o];have q2:Boxed W Q 25 (F none 0 0):=q1;have x0:=i.cell;obtain⟨y0,y1⟩:=k.cp;have z0:=q2.cell;have z1:=q2.frozen;obtain⟨S,R,U,P⟩:=Dn q2 o c b;clear i k q1 q2 o q c b;go_region
   go_wp2_with fail
   have r0:=z0;refine BA (v:=.tuple #[.agg #[F d j f],C E g,C E p1]) (by simp[results,results9,go_sem,r0]) J ⟨_,_,_,J,⟨K.o.1,K.o.2,_,J,?_⟩,?_⟩
   . exact(EI S.o (F d j f) P.o).below ((BB _ _).drew)
   . exact(U.o.setCell (p:=⟨Q,0,none⟩) (by rw[R.o];exact Aa _) _).drew
end
section
variable{ps qs:K}{A k:Nat}{q:Rat}
theorem W7(h:DR k q):(JP q).length<=40*k+5:=by
 have a:=GE q.num;have b:=GE (q.den:Int);have c:=h.1.words;have d:=h.2.words;grind[JP]
theorem DR.abs(h:DR k q):DR k (Y1 q):=by
 grind[Hw,DR,Sm]
theorem W9{c:Rat}(h:DR k c){i:Nat}(e:i<Y)(f:Bool):(Xq c i f).length<=40*k+40:=by
 have a:=W7 h.abs;have b:=X9 i;have d:(Jb Y i).length<=1:=JE Jd DY;grind[XQ,YF,Dz,Xq]
theorem ZA(h:∀i,DR k (cf ps i))(hl:ps.length<=Y):∀(d m:Nat),ps.length-m=d->(JR (ps.drop m) m).length<=d*(40*k+40):=by
 intro d;induction d with
 |zero=>
  intro m b;grind[List.drop_of_length_le,JR]
 |succ d a=>
  intro m b;have a:=a (m+1) O;rw[XC ps (by omega:m<ps.length)];have c:=W9 (h m) (by omega:m<Y) (JR (ps.drop (m+1)) (m+1)).isEmpty;grind
def MQ(h:Sqs ps)(hl:ps.length<=3000)(m:Nat):(JR (ps.drop m) m).length<=140737488355328:=by
 have a:=ZA (λi=>(h.at i).sm) uo _ m J;omega
theorem ZB(z:K)(i:Nat)(a:Rat)(q:K):∀(j k:Nat),i+j<=k->cf (YW z i a q j) k=cf z k:=by
 intro j;induction j with
 |zero=>intro k _;rfl
 |succ j c=>
  intro k b;grind[YW,XS,CQ]
theorem KU(z:K)(i:Nat)(a:Rat)(q:K):∀(j k:Nat),cf (YW z i a q j) k=cf z k\/cf (YW z i a q j) k=cf z k+a*cf q (k-i):=by
 intro j;induction j with
 |zero=>intro k;exact Ar J
 |succ j b=>
  intro k;grind[YW,XS,ZB,CQ]
theorem PV(hp:∀i,DR A (cf ps i))(b:∀j,DR A (cf qs j))(n:Nat):∀(i k:Nat),DR (min i ps.length*(A+A+1)+1) (cf (YC ps qs n i) k):=by
 intro i;induction i with
 |zero=>intro k;grind[YC,J2,DR.zero]
 |succ i a=>
  intro k;rw[YC];rcases KU (YC ps qs n i) i (cf ps i) qs qs.length k with e|e
  . rw[e];exact(a k).mono (by have:min i ps.length*(A+A+1)<=min (i+1) ps.length*(A+A+1):=Ae _ O;omega)
  . rw[e];by_cases c:i<ps.length
    . rw[show min (i+1) ps.length=min i ps.length+1 from by omega,A9];exact((a k).add2 ((hp i).mul (b (k-i)))).mono O
    grind[JV]
def ZC(hp:∀i,DR A (cf ps i))(a:∀j,DR A (cf qs j))(c:(ps.length+1)*(A+A+1)+1<=1000000000):M3.GF ps qs:=by
 have hle:A+A+1<=(ps.length+1)*(A+A+1):=Ch _ O;refine⟨λi j=>Sq.of ((hp i).mul (a j)) O,λn i j k=>?_⟩;have b:=PV hp a n i k;have d:min i ps.length*(A+A+1)<=ps.length*(A+A+1):=Ae _ O;rw[A9]at c;rcases KU (YC ps qs n i) i (cf ps i) qs j k with e|e
 . rw[e];exact Sq.of b O
 . rw[e];exact Sq.of (b.add2 ((hp i).mul (a (k-i)))) O
theorem ZD(hp:∀i,DR A (cf ps i))(a:∀j,DR A (cf qs j))(k:Nat):DR (ps.length*(A+A+1)+1) (cf (YV ps qs) k):=by
 unfold YV;rw[J0,Fs];have h:=PV hp a (ps.length+qs.length) ps.length k;grind[IU]
def XW:K:=[Rat.divInt 1 2,1]
def GI:K:=[Rat.divInt 1 4,1,1]
def ZE:J1 [120,32,43,32,49,47,50]=(XW,0,0):=Gt
def PW:YV XW XW=GI:=Gt
def _root_.Go.Boxed.bel{W W':H}{B:Nat}{t:TypeId}{v:L}(h:Boxed W B t v)(a:Bl W W'):Boxed W' B t v:=(a.block B h.lt).trans h
def ZF:Ei GI=[120,94,50,43,120,43,49,47,52]:=Gt
def IG(i:Nat):DR 1 (cf XW i):=by
 rcases i with _|_|i
 . exact⟨by show Sm 1 1;unfold Sm Y;decide,by show Sm 1 2;unfold Sm Y;decide⟩
 . exact⟨by show Sm 1 1;unfold Sm Y;decide,by show Sm 1 1;unfold Sm Y;decide⟩
 . rw[JV (by simp[XW])];exact DR.zero 1 O
def PX:Sqs XW:=Sqs.of λi=>Sq.of (IG i) O
def PY:Sqs GI:=Sqs.of λi=>by rw[<-PW];exact Sq.of (ZD IG IG i) (by simp[XW])
def ZG(e:Int)(w:H):Calls I 12 #[C E e] w λr a=>r=.returned (C E e)/\Bl w a:=by
 go_enter func12,ntmps12
 go_wp2;go_ret;exact⟨J,BB _ _⟩
def ZH(w:H)(S:GG w):Calls I 19 #[] w λr t=>r=.returned (.bool true)/\Bl w t:=by
 have T:=Z S;have Q:=Z (λ(V:H)=>show Calls I 9 #[D ⟨#[120,32,43,32,49,47,50]⟩] V λr t=>∃u,r=.returned (.tuple #[u,C E 0,C E 0])/\JB t u XW/\Bl V t from
  (PU ⟨#[120,32,43,32,49,47,50]⟩ V).mono (λr t h=>by
   obtain⟨u,e,p,W,R,X⟩:=h;rw[Gp,show Jc ⟨#[120,32,43,32,49,47,50]⟩=[120,32,43,32,49,47,50]from J,ZE]at R;obtain⟨rfl,rfl,h4⟩:=R;exact⟨u,W,h4,X⟩))
 have M:=Z (BB w.heap.size w);clear S;go_enter func19,ntmps19
 go_upto_region 2 with(go_at_call 9;refine(Q.o _).mono ?_;clear Q;rintro e n ⟨u,rfl,i,b⟩;obtain⟨z,K,c1,rfl⟩:=i.form)
 replace M:=Z (Bt M.o b);have c:Bl n (n.alloc (G #[F z K c1] 25)):=Ba n _;have j:=BJ n 25 (F z K c1);have f:=i.below c;replace M:=Z (Bt M.o c);clear c;obtain⟨y,d⟩:=ex (n.alloc (G #[F z K c1] 25));obtain⟨BP,g⟩:=ex (n.heap.size);rw[d]at f M;rw[d,g]at j;rw[d];rw[g];clear d g;clear i b;have k:=Z λ(V:H) (h:Bl y V)=>M3.On _ _ XW XW V (f.below h) (f.below h) PX PX (ZC IG IG (by simp[XW])) (by simp[XW]);rw[PW]at k;have a:Bl y y:=BB _ _;have U:=(j.bel a).cell;go_upto_region 3 with(go_at_call 28;refine(k.o _ a).mono ?_;clear k;rintro e o ⟨u,rfl,i,_,b⟩;obtain⟨A,N,c2,rfl⟩:=i.form)
 replace b:=Bt a b
 clear a U;replace j:=j.bel b;replace f:=f.below b;replace M:=Z (Bt M.o b);clear b;have c:Bl o (o.alloc (G #[F A N c2] 25)):=Ba o _;have s:=BJ o 25 (F A N c2);have P:=i.below c;replace j:=j.bel c;replace f:=f.below c;replace M:=Z (Bt M.o c);clear c;obtain⟨q,d⟩:=ex (o.alloc (G #[F A N c2] 25));obtain⟨BQ,g⟩:=ex (o.heap.size);rw[d]at j f P M;rw[d,g]at s;rw[d];rw[g];clear d g;clear i;have k:=Z λ(V:H) (h:Bl q V)=>ZG 0 V;have v:=Z λ(V:H) (h:Bl q V)=>L5 _ GI V (P.below h) PY (λm=>MQ PY (by simp[GI]) m) (JX T.o (Bt M.o h));rw[ZF]at v;have x:=Z λ(V:H) (h:Bl q V)=>OZ _ GI V (P.below h);rw[show((GI.length:Int)-1)=2 from J]at x;have a:Bl q q:=BB _ _;have l:=(s.bel a).cell;go_wp2_with(first
  |(go_at_call 12;refine(k.o _ a).mono ?_;clear k;rintro e x1 ⟨rfl,b⟩;replace a:=Bt a b;clear b l;have l:=(s.bel a).cell)
  |(go_at_call 13;refine(v.o _ a).mono ?_;clear v;rintro e x2 ⟨rfl,b⟩;replace a:=Bt a b;clear b l;have l:=(s.bel a).cell)
  |(go_at_call 15;refine(x.o _ a).mono ?_;clear x;rintro e x3 ⟨rfl,b⟩;replace a:=Bt a b;clear b l;have l:=(s.bel a).cell))
 go_ret;exact⟨J,Bt M.o a⟩
def ZI(l:List UInt8):Jg (J1 l).1=(J1 l).1:=by
 by_cases h:300<l.length
 . rw[show J1 l=([],1,0)by unfold J1;rw[BL h]];rfl
 . rw[KP h];cases EA l with
   |error e p=>rfl
   |ok S k=>exact YS _
def _root_.Go.Proofs.YtcahejkcdcjjgaaGreatDoor.RowK.isPoly{V:H}{a:Zu}{l c:Nat}(h:RowK true V (F a l c) ps):JB V (.agg #[F a l c]) ps:=⟨_,J,h⟩
end
section
variable{Q R ps qs:K}{A k la m n:Nat}{a p q:Rat}
def DR.mul2(hp:DR k p)(a:DR m q):DR (k+m) (p*q):=by
 rw[<-LB];refine DR.divInt ?_ (hp.1.mul a.1) (hp.2.mul a.2);exact Cd (by have:=p.den_nz;omega) (by have:=q.den_nz;omega)
def DR.inv(a:DR m q)(b:q≠0):DR m q⁻¹:=by
 rw[Rat.inv_def];exact DR.divInt (λe=>b (Rat.num_eq_zero.1 e)) a.2 a.1
def DR.div2(hp:DR k p)(b:DR m q)(a:q≠0):DR (k+m) (p/q):=by
 rw[Rat.div_def];exact hp.mul2 (b.inv a)
def DR.sub2(hp:DR k p)(a:DR m q):DR (k+m+1) (p-q):=by
 rw[Rat.sub_eq_add_neg];exact hp.add2 a.neg
def KV{p:K}(hp:Jg p=p)(h:∀i,m<=i->cf p i=0):p.length<=m:=by
 by_cases hl:p.length<=m
 . exact hl
 . exfalso
   exact YT hp DY (h _ O)
theorem PZ(n:Nat)(a:Rat)(i:Nat):cf (Jg (Da n [a])) i=if i=n then a else 0:=by rw[J0,KN]
def ZJ(n:Nat)(a:Rat):(Jg (Da n [a])).length<=n+1:=MC n a
theorem Pa(n:Nat)(a:Rat)(x:Rat):ev (Jg (Da n [a])) x=x^n*a:=by
 rw[Fr,IR];show x^n*(a+x*0)=_;grind
theorem MR(n:Nat)(a:Rat)(q:K)(i:Nat):cf (YV (Jg (Da n [a])) q) i=if n<=i then a*cf q (i-n)else 0:=by
 have e:YV (Jg (Da n [a])) q=Jg (YA a (Da n q)):=by
  rw[<-Md];refine Kj λx=>?_;rw[Kp,Pa,Xu,IR];grind
 grind[J0,YU,Ft]
def GJ(A la:Nat)(ps qs R Q:K)(k:Nat):Prop:=
 Jg R=R/\Jg Q=Q/\k+R.length<=la/\Q.length<=la/\(∀x,ev ps x=ev qs x*ev Q x+ev R x)/\(∀i,i+qs.length<=R.length->cf Q i=0)/\
  ∃z,z+(2*A+1)<=2^k*(3*A+1)/\(∀i,DR z (cf R i))/\∀i,DR (z+A) (cf Q i)
theorem GJ.start(b:1<=A)(a:Jg ps=ps)(hp:∀i,DR A (cf ps i)):GJ A ps.length ps qs ps [] 0:=by
 refine⟨a,J,O,DJ,λx=>?_,λi _=>YZ i,A,O,hp,λi=>?_⟩
 . show _=ev qs x*0+_;grind
 . rw[YZ];exact DR.zero _ O
theorem Pb(c:Jg qs=qs)(b:qs≠[])(hl:qs.length<=R.length)(g:n=R.length-qs.length)
(d:a=cf R (R.length-1)/cf qs (qs.length-1)):(EF R (YV (Jg (Da n [a])) qs)).length<=R.length-1:=by
 have j:0<qs.length:=AP.2 b;have f:=YT c b;refine KV (Ko _ _) λi e=>?_;grind[Kq,MR,JV]
theorem GJ.next(h:GJ A la ps qs R Q k)(g:∀i,DR A (cf qs i))(j:Jg qs=qs)(c:qs≠[])(hl:qs.length<=R.length)(q:n=R.length-qs.length)
(f:a=cf R (R.length-1)/cf qs (qs.length-1)):GJ A la ps qs (EF R (YV (Jg (Da n [a])) qs)) (XY Q (Jg (Da n [a]))) (k+1):=by
 obtain⟨r,s,t,u,v,w,z,y,b,o⟩:=h;have M:0<qs.length:=AP.2 c;have l:=YT j c;have m:∀i,cf (EF R (YV (Jg (Da n [a])) qs)) i=cf R i-(if n<=i then a*cf qs (i-n)else 0):=λi=>by rw[Kq,MR]
 have e:∀i,cf (XY Q (Jg (Da n [a]))) i=if i=n then a else cf Q i:=λi=>by
  grind[Gw,PZ]
 have K:=Pb j c hl q f;have d:DR (z+A) a:=by rw[f];exact(b _).div2 (g _) l
 refine⟨Ko _ _,X1 _ _,O,KV (X1 _ _) λi p=>?_,λx=>?_,λi p=>?_,2*z+(2*A+1),?_,λi=>?_,λi=>?_⟩
 . rw[e,BH O,JV O]
 . grind[Me,Mf,Kp]
 . grind
 . grind[Cg]
 . rw[m];split
   . exact((b i).sub2 (d.mul2 (g _))).mono O
   . rw[Rat.sub_eq_add_neg,Rat.neg_zero,Rat.add_zero];exact(b i).mono O
 . rw[e];split
   . exact d.mono O
   . exact(o i).mono O
def GJ.done(h:GJ A la ps qs R Q k)(b:Jg qs=qs)(a:qs≠[])(hl:R.length<qs.length):Q=GQ ps qs/\R=FW ps qs:=by
 obtain⟨f,g,_,_,i,_⟩:=h;obtain⟨c,d,e,g4⟩:=Mc ps qs b a;exact Ma b a g e f g4 hl d (λx=>by rw[<-i x,<-c x])
end
namespace M3
def ZQ(V:H)(g r:Nat):Prop:=∀j,j<r->V.cell? ⟨g,j*4,none⟩=some (.bool false)/\V.cell? ⟨g,j*4+1,none⟩=some (F none 0 0)/\V.cell? ⟨g,j*4+2,none⟩=some (.bool false)/\V.cell? ⟨g,j*4+3,none⟩=some (F none 0 0)
variable{cs:Array L}{n:Int}{bs bs':List (Option (Nat × Dat))}{X c d g gQ l r:Nat}{a:Zu}{t:TypeId}{v:L}{V V' W w:H}
theorem ZQ.of(h:ZQ V g r)(e:V'.heap[g]?=V.heap[g]?):ZQ V' g r:=λj a=>by
 obtain⟨b,c,d,f⟩:=h j a;grind[BR]
def FG(w V:H)(bs:List (Option (Nat × Dat)))(a:Nat)(n:Int)(gQ r:Nat):Prop:=DL w V bs/\Boxed V a 3 (.int E n)/\ZQ V gQ r/\gQ<V.heap.size
def FG.below{w V V':H}{bs:List (Option (Nat × Dat))}{b:Nat}{n:Int}{gQ r:Nat}(h:FG w V bs b n gQ r)(a:Bl V V'):FG w V' bs b n gQ r:=
 ⟨h.1.below a,(a.block b h.2.1.lt).trans h.2.1,h.2.2.1.of (a.block gQ h.2.2.2),Ao h.2.2.2 a.size⟩
def FG.own{w V V':H}{bs:List (Option (Nat × Dat))}{a:Nat}{n:Int}{gQ r:Nat}{row:Option Nat}(h:FG w V bs a n gQ r)(g:∃cs t m,V.heap[gQ]?=some (G cs t m))(hg:V.grownBy V' row)(d:∀x,row=some x->w.heap.size<=x/\∃o:Obj,V.heap[x]?=some o/\o.isCells=false):FG w V' bs a n gQ r:=by
 have b:∀r,row=some r->∃o:Obj,V.heap[r]?=some o/\o.isCells=false:=λr e=>(d r e).2;refine⟨h.1.own hg d,Hx hg b (show Bx V a 3 #[C E n]from h.2.1),h.2.2.1.of ?_,Ao h.2.2.2 hg.size⟩;obtain⟨cs,t,m,e⟩:=g;refine hg.block gQ h.2.2.2 λf=>?_;obtain⟨o,c,i⟩:=b gQ f.symm;rw[e]at c;cases c;cases i
def ZK(V:H)(m:Nat):Has V (.agg (YY m)) (.rats (List.replicate m 0)):=by
 refine⟨YY m,J,λj a=>?_⟩;rw[AM]at a;obtain⟨b,c,d,e⟩:=Lx a;exact⟨_,_,_,_,b,c,d,e,by rw[J2];exact D9 _⟩
def g4(la g:Nat)(R:K):Option (Nat × Dat):=if la=0 then none else some (g,.rats R)
def FG.upd(h:FG w V bs d n gQ r)(g:DL w V' bs')(b:∀B,B≠X->V'.heap[B]?=V.heap[B]?)(c:d≠X)(f:gQ≠X):FG w V' bs' d n gQ r:=by
 have e:=b gQ f;refine⟨g,(b d c).trans h.2.1,h.2.2.1.of e,?_⟩;refine Nat.lt_of_not_le λhle=>?_;have a:=Array.getElem?_eq_none_iff.2 hle;rw[e]at a;exact absurd (Array.getElem?_eq_none_iff.1 a) (by have:=h.2.2.2;omega)
def Fqq(w W V:H)(bs:List (Option (Nat × Dat)))(a:Nat)(n:Int)(gQ r:Nat):Prop:=FG w V bs a n gQ r/\KeepsOthers W V
def Fqq.below{w W V V':H}{bs:List (Option (Nat × Dat))}{a:Nat}{n:Int}{gQ r:Nat}(h:Fqq w W V bs a n gQ r)(b:Bl V V'):Fqq w W V' bs a n gQ r:=⟨h.1.below b,h.2.trans (J6 b)⟩
theorem ZL{m:Nat × Nat}(h:Boxed V d 3 v)(a:V.heap[X]?=some (G cs 38 m)):d≠X:=λe=>by
 subst e;have:=a.symm.trans h;grind
def Fqq.al(h:Fqq w W V bs d n gQ r){o:Obj}(m:DL w (V.alloc o) bs'):Fqq w W (V.alloc o) bs' d n gQ r:=
 have k:=h.below (Ba V o)
 ⟨⟨m,k.1.2⟩,k.2⟩
def Fqq.up{p:Nat × Nat}(h:Fqq w W V bs d n gQ r)(m:DL w V' bs')(c:V.heap[X]?=some (G cs 38 p))(b:∀B,B≠X->V'.heap[B]?=V.heap[B]?)(a:gQ≠X)(k:KeepsOthers V V'):Fqq w W V' bs' d n gQ r:=
 ⟨h.1.upd m b (ZL h.1.2.1 c) a,h.2.trans k⟩
theorem ZM{o:Nat}{x:L}(h:o≠d):(V.setCell ⟨g,d,none⟩ x).cell? ⟨g,o,none⟩=V.cell? ⟨g,o,none⟩:=World.cell?_setCell_other _ _ _ _ DY
theorem ZQ.put{i:Nat}(h:ZQ V g (i+1))(x y z u:L):ZQ (putAt V g (i*4) x y z u) g i:=λj e=>by
 obtain⟨a,b,c,d⟩:=h j O;grind[putAt,ZM]
def _root_.Go.Proofs.YtcahejkcdcjjgaaGreatDoor.JB.setP{ps:K}(h:JB V v ps){B:Nat}(b:Boxed V B 25 (F a l c))(x:L):JB (V.setCell ⟨B,0,none⟩ x) v ps:=by
 obtain⟨u,e,d⟩:=h;exact⟨u,e,EI b x d⟩
def boxed_below{B:Nat}(h:Boxed V B t v)(a:Bl V V'):Boxed V' B t v:=(a.block B h.lt).trans h
def Gq(V:H)(D:Nat)(rs a:L)(R Q:K):Prop:=RowK true V rs R/\RowK true V a Q/\V.heap[D]?=some (.deferred (some []))
def Gq.below{V V':H}{D:Nat}{rs b:L}{R Q:K}(h:Gq V D rs b R Q)(a:Bl V V'):Gq V' D rs b R Q:=⟨h.1.below a,h.2.1.below a,(a.block D (Ab.1 h.2.2).1).trans h.2.2⟩
def Gq.set{D B:Nat}{rs f:L}{R Q:K}(h:Gq V D rs f R Q)(b:Boxed V B 25 (F a l c))(x:L):Gq (V.setCell ⟨B,0,none⟩ x) D rs f R Q:=
 ⟨EI b x h.1,EI b x h.2.1,(BE _ ⟨B,0,none⟩ x D λe=>by
  have e:D=B:=e;have d:=h.2.2;rw[e,show V.heap[B]?=_ from b]at d;cases d).trans h.2.2⟩
def boxed_own{row:Option Nat}(hg:V.grownBy V' row)(a:∀r,row=some r->∃o:Obj,V.heap[r]?=some o/\o.isCells=false){B:Nat}(h:Boxed V B t v):Boxed V' B t v:=Hx hg a (show Bx V B t #[v]from h)
end M3
section
def KW(w V:H)(a rv:L)(Q R:K):Prop:=RowK false V a Q/\RowK false V rv R/\Bl w V
def KW.below{w V V':H}{b rv:L}{Q R:K}(h:KW w V b rv Q R)(a:Bl V V'):KW w V' b rv Q R:=⟨h.1.below a,h.2.1.below a,Bt h.2.2 a⟩
def MS(w wr V:H)(a rv:L)(Q R:K):Prop:=KW w V a rv Q R/\Bl wr V
def MS.below{w wr V V':H}{b rv:L}{Q R:K}(h:MS w wr V b rv Q R)(a:Bl V V'):MS w wr V' b rv Q R:=⟨h.1.below a,Bt h.2 a⟩
def GK(S:Nat->K->K->Prop)(la:Nat)(ps qs R Q:K)(k:Nat):Prop:=
 Jg R=R/\Jg Q=Q/\k+R.length<=la/\Q.length<=la/\(∀x,ev ps x=ev qs x*ev Q x+ev R x)/\(∀i,i+qs.length<=R.length->cf Q i=0)/\S k R Q
structure DivS(A la:Nat)(S:Nat->K->K->Prop)(qs:K):Prop where
 next:∀(k:Nat) (R Q:K) (n:Nat) (a:Rat),S k R Q->(∀i,i+qs.length<=R.length->cf Q i=0)->qs.length<=R.length->n=R.length-qs.length->a=cf R (R.length-1)/cf qs (qs.length-1)->
  (∀i,cf (EF R (YV (Jg (Da n [a])) qs)) i=cf R i-(if n<=i then a*cf qs (i-n)else 0))->(∀i,cf (XY Q (Jg (Da n [a]))) i=if i=n then a else cf Q i)->S (k+1) (EF R (YV (Jg (Da n [a])) qs)) (XY Q (Jg (Da n [a])))
 size:∀(k:Nat) (R Q:K),k<=la->S k R Q->Sqs R/\Sqs Q/\∃z,z+(2*A+1)<=1000000000/\∀i,DR z (cf R i)
variable{ps qs:K}{S:Nat->K->K->Prop}
theorem GK.start(a:Jg ps=ps)(h:S 0 ps []):GK S ps.length ps qs ps [] 0:=by
 refine⟨a,J,O,DJ,λx=>?_,λi _=>YZ i,h⟩;show _=ev qs x*0+_;grind
theorem GK.next{A la:Nat}{S:Nat->K->K->Prop}{ps qs R Q:K}{k n:Nat}{a:Rat}(o:DivS A la S qs)(h:GK S la ps qs R Q k)(q:Jg qs=qs)(g:qs≠[])(hl:qs.length<=R.length)(f:n=R.length-qs.length)
(d:a=cf R (R.length-1)/cf qs (qs.length-1)):GK S la ps qs (EF R (YV (Jg (Da n [a])) qs)) (XY Q (Jg (Da n [a]))) (k+1):=by
 obtain⟨r,s,t,u,l,c,m⟩:=h;have w:0<qs.length:=AP.2 g;have j:∀i,cf (EF R (YV (Jg (Da n [a])) qs)) i=cf R i-(if n<=i then a*cf qs (i-n)else 0):=λi=>by rw[Kq,MR]
 have b:∀i,cf (XY Q (Jg (Da n [a]))) i=if i=n then a else cf Q i:=λi=>by
  rw[Gw,PZ];split
  . rename_i e;rw[e,c n O,Rat.zero_add]
  . exact Rat.add_zero _
 have v:=Pb q g hl f d;refine⟨Ko _ _,X1 _ _,O,KV (X1 _ _) λi p=>?_,λx=>?_,λi p=>?_,o.next k R Q n a m c hl f d j b⟩
 . rw[b,BH O,JV O]
 . rw[Me,Mf,Kp,Pa,l x];grind
 . rw[b,BH O];exact c i O
def GK.done{la:Nat}{R Q:K}{k:Nat}(h:GK S la ps qs R Q k)(b:Jg qs=qs)(a:qs≠[])(hl:R.length<qs.length):Q=GQ ps qs/\R=FW ps qs:=by
 obtain⟨f,g,_,_,i,_⟩:=h;obtain⟨c,d,e,g4⟩:=Mc ps qs b a;exact Ma b a g e f g4 hl d (λx=>by rw[<-i x,<-c x])
def ZN(s:ByteArray)(hs:s.size<=140737488351232)(w:H):
 Calls I 24 #[D s] w λe c=>∃u,e=.returned u/\RowK false c u (J1 (Jc s)).1/\Bl w c:=by
 have a:=Z λ(V:H)=>Vc s hs V;clear hs;go_enter func24,ntmps24
 go_wp2_with(go_at_call 10;refine(a.o _).mono ?_;clear a;rintro e k ⟨u,g,j,rfl,⟨rfl,rfl,b,_,_⟩,d⟩;obtain⟨f,i,c2,rfl⟩:=b.form)
 go_ret;exact⟨_,J,b,d⟩
def ZO(s:ByteArray)(w:H):
 Calls I 25 #[D s] w λe z=>∃u,e=.returned u/\JB z u (J1 (Jc s)).1/\Bl w z:=by
 have t:=Z λ(V:H)=>PU s V;have b0:=BJ w 25 (F none 0 0);have j:Bl w (w.alloc (G #[F none 0 0] 25)):=Ba w _;obtain⟨R,n⟩:=ex (w.alloc (G #[F none 0 0] 25));obtain⟨A,l⟩:=ex (w.heap.size);rw[n]at b0 j;rw[l]at b0;obtain⟨K,x,P,y⟩:=Dn b0 j n l;clear b0 j n l;go_enter func25,ntmps25
 go_upto_region 1 with fail
 rw[P.o,y.o];go_upto_region 2 with(go_at_call 9;refine(t.o _).mono ?_;clear t;rintro e c ⟨u,T,p1,rfl,⟨rfl,rfl,o⟩,i⟩;obtain⟨a,b,c1,rfl⟩:=o.form)
 have f:Bl c (c.alloc (G #[F a b c1] 25)):=Ba c _;have q:=BJ c 25 (F a b c1);have d:=(K.o.bel i).bel f;have r:=o.row.below f;have k:=(Bt x.o i).trans (f.mono (Bt x.o i).size);obtain⟨S,g⟩:=ex (c.alloc (G #[F a b c1] 25));obtain⟨Q,m⟩:=ex (c.heap.size);rw[g,m]at q;rw[g]at d r k;rw[g,m];have x1:=q.cell;have x0:=d.cell;have f0:=d.frozen;have M:=Z (EI d (F a b c1) r);have N:=Z (k.setCell (p:=⟨A,0,none⟩) (by rw[y.o];exact Aa _) (F a b c1));clear f q d r k g m o i;go_wp2_with fail
 exact BA (v:=.agg #[F a b c1]) (by simp[results,results25,go_sem,x0]) J ⟨_,J,⟨_,J,M.o⟩,N.o⟩
end
namespace M3
def Gr(ps:K)(n i:Nat)(S:K):Prop:=S.length=n/\∀j,cf S j=if j<i then ED ps j else 0
variable{S ps:K}{n:Nat}
theorem Gr.next{i:Nat}(h:Gr ps n i S)(a:i<n):Gr ps n (i+1) (S.set i (ED ps i)):=by
 refine⟨by rw[CM];exact h.1,λj=>?_⟩;rw[XS _ _ _ _ (by rw[h.1];exact a),h.2 j];grind
def Gr.done(h:Gr ps n n S)(a:n=ps.length-1):Jg S=Xv ps:=Yt λj=>by
 rw[h.2 j,Kl];split
 . rfl
 . rw[JV (p:=ps) O,Rat.zero_mul]
def ZP(v:L)(ps:List Rat)(w:H)(h:JB w v ps)(ap:Sqs ps)(aq:∀i,Sq (ED ps i)):
 Calls I 35 #[v] w λe w'=>∃u,e=.returned u/\JB w' u (Xv ps)/\Bl w w':=by
 obtain⟨y,la,g,rfl⟩:=h.form;have ha:=h.row;obtain⟨ak,ay,az,bg,s,t,aa,bb,ll,cc,kk,dd,ai⟩:=ha.forms;obtain⟨V0,ae,o⟩:=Lm 25 (.cell 25 (F y la g)) Ll 25 (.cell 25 (F none 0 0)) Ll (w:=w);have M1:=o.o;obtain⟨d,hd⟩:=ex ((ps.length:Int)-1:Int);have R:=Z (OZ (.agg #[F y la g]) ps V0 (h.below M1.2.2));rw[hd]at R;obtain⟨n,hn⟩:=ex (ps.length-1:Nat);have Qd:max (0:Int) d=(n:Int):=O
 have Qn:∀W:H,(Instr.makeSlice 23 (C E (n:Int)) (C E (n:Int))).run I W=.ok (F (some ⟨W.heap.size,0,none⟩) n n) (W.alloc (G (YY n) 38)):=λW=>KG n O W;obtain⟨HP,Qi,Qk,A⟩:=Dn ai ap aq (show n=ps.length-1/\la=ps.length from⟨hn.symm,ak⟩);have Qc:n<=1099511627776:=O
 clear h ha ai ap aq ak ay az hn hd M1;go_enter func35,ntmps35
 go_upto_region 1 with fail
 rw[ae.o];have c0:=(o.o.cell (i:=0) J).1.cell;go_upto_region 2 with(go_at_call 15;refine R.o.mono ?_;clear R;rintro e z ⟨rfl,ah⟩)
 have P:DL w (z.alloc (G (YY n) 38)) [some (w.heap.size,.cell 25 (F y la g)),some (w.heap.size+1,.cell 25 (F none 0 0)),some (z.heap.size,.rats (List.replicate n 0))]:=(o.o.below ah).push (.rats (List.replicate n 0)) (ZK _ n);obtain⟨V1,T⟩:=ex (z.alloc (G (YY n) 38));obtain⟨r,X⟩:=ex (z.heap.size);rw[T,X]at P;rw[T,X];have Qh:=Z P;clear P T X ah c0 o ae Qn Qd;go_wp2;go_loopw [11] (λiv wr=>∃(i:Nat) (S:List Rat),i<=n/\iv=C E (i:Int)/\Hid (Gr ps n i S)/\Hid (DL w wr [some (w.heap.size,.cell 25 (F y la g)),some (w.heap.size+1,.cell 25 (F none 0 0)),some (r,.rats S)])) λiv _=>n-(intOf iv).toNat
 case atStart=>exact⟨0,_,AJ _,J,Z ⟨AM,λj=>by rw[J2,BH O]⟩,Qh⟩
 case round=>
  obtain⟨i,S,hi,rfl,c,m⟩:=hrel;clear Qh;by_cases an:i<n
  . have bh:(i:Int)<(n:Int):=O
    obtain⟨K,hK⟩:=ex (i+1:Nat);have bc:(i:Int)+1=(K:Int):=O
    have bf:E.wrap (K:Int)=(K:Int):=by rw[Bg];omega
    have bd:(K:Int)<(la:Int):=by have:=A.o;omega
    obtain⟨aj,a,rfl,l,p0,p1,p2,p3⟩:=HP.o K (by have:=A.o;omega);have Qo:=Z (show ∀V,Bl w V->(V.cell? ⟨a,K*4,none⟩=some (.bool (s K))/\V.cell? ⟨a,K*4+1,none⟩=some (F (aa K) (ll K) (cc K))/\V.cell? ⟨a,K*4+2,none⟩=some (.bool (t K))/\V.cell? ⟨a,K*4+3,none⟩=some (F (bb K) (kk K) (dd K)))/\Jk V (.agg #[.bool (s K),F (aa K) (ll K) (cc K),.bool (t K),F (bb K) (kk K) (dd K)]) (cf ps K)from λV k=>by
     exact⟨⟨(k.cell (p:=⟨a,_,none⟩) l).trans p0,(k.cell (p:=⟨a,_,none⟩) l).trans p1,(k.cell (p:=⟨a,_,none⟩) l).trans p2,(k.cell (p:=⟨a,_,none⟩) l).trans p3⟩,aj.below k⟩)
    have N:=Z (show K<=1099511627776/\K=i+1 by omega);have Qm:=Z (show cf ps K*((K:Int):Rat)=ED ps i by rw[N.o.2];rfl);have Qp:=Z (show i<S.length by rw[c.o.1];exact an);clear aj l p0 p1 p2 p3 hK;go_wp2_with fail
    have Qj:=m.o.drew;refine Es Di [[],[],[],[2],[],[4],[3,5],[6],[],[8],[9],[7,10,10],[0,1,0,1,2,3,4,5,6,7,8,9,10,11],[12,11,11,0,1,2,3,4,5,6,7,8,9,10,11]] [.eq (F (some ⟨r,0,none⟩) n n),.eq (C E (i:Int)),.eq (B (some ⟨w.heap.size,0,none⟩)),.eq (F (some ⟨a,0,none⟩) la g),.eq (C E (i:Int)),.eq (C E (K:Int)),.eq (B (some ⟨a,K*4,none⟩)),.rat (cf ps K),.eq (C E (i:Int)),.eq (C E (K:Int)),.rat ((K:Int):Rat),.rat (ED ps i),.eq (B (some ⟨r,i*4,none⟩)),.eq undef] [13] (λb _ V=>DL w V [some (w.heap.size,.cell 25 (F (some ⟨a,0,none⟩) la g)),some (w.heap.size+1,.cell 25 (F none 0 0)),some (r,if b.getD 0 false then .rats (S.set i (ED ps i))else .rats S)]) Qj (No (.vl J λ_ _=>mv)<|No (.vl J λ_ _=>mv)<|No (.vl J λ_ _=>⟨_,by refine DX ?_;go_simp,J⟩)<|No (.vl J λh j=>⟨_,by have e0:=(j.cell (i:=0) J).1.cell;refine DX ?_;rw[h.e 2];go_simp,J⟩)<|No (.vl J λ_ _=>mv)<|No (.vl J λh _=>⟨_,by refine DX ?_;rw[h.e 4];go_simp,J⟩)<|No (.vl J λh _=>⟨_,by refine DX ?_;rw[h.e 3,h.e 5];go_simp,J⟩)<|No (.vl J λh j=>by obtain⟨⟨e0,e1,e2,e3⟩,hr⟩:=Qo.o _ j.2.2;exact⟨_,by refine DX ?_;rw[h.e 6];go_simp,hr⟩)<|No (.vl J λ_ _=>mv)<|No (.vl J λh _=>⟨_,by refine DX ?_;rw[h.e 8];go_simp,J⟩)<|No (.cl λh _=>c1 (h.e 9) (L3 (K:Int) O (by have:=N.o;omega) _))<|No (.cl λh _=>Qm.o ▸ Lt _ _ (cf ps K) ((K:Int):Rat) _ (h.g 7) (h.g 10) (Qi.o.at K) (PJ N.o.1))<|No (.vl J λh _=>⟨_,by refine DX ?_;rw[h.e 0,h.e 1];go_simp,J⟩)<|No (.wr J λh j=>OK 2 j Qp.o (h.g 11) (h.e 12)) Stp.end_)
     λf V hF q=>?_
    refine DX ?_;rw[hF.e 0,hF.e 1,hF.e 2,hF.e 3,hF.e 4,hF.e 5,hF.e 6,hF.e 8,hF.e 9,hF.e 12];have q:=GA q;have HO:=Z q;clear q hF;go_wp2_with fail
    go_roundw
    case rel=>exact⟨i+1,_,O,by go_num,Z (c.o.next an),HO⟩
    case measure=>simp[intOf];omega
  . obtain rfl:i=n:=O
    have hE:=m.o.rats (i:=2) J;have M:=hE.row (n:=i) (cap:=i) (by rw[c.o.1];exact Aa _) (Aa _) O Qc;rw[Ac (by rw[c.o.1];exact Aa _)]at M;have Q:=Z (Gi _ S wr M (Sqs.of λj=>by
     rw[c.o.2 j];split
     . exact Qk.o j
     . exact Fl))
    rw[c.o.done A.o.1]at Q;clear hE M;go_wp2_with(go_at_call 65;refine Q.o.mono ?_;clear Q;rintro e w5 ⟨u5,rfl,ad,_,U⟩;obtain⟨a7,l7,c7,rfl⟩:=ad.form;have x:=boxed_below (m.o.cell (i:=1) J).1 U;have x0:=x.cell;have x1:=x.frozen;have Qq:=Z (EI x (F a7 l7 c7) ad.row);have Ql:=Z ((Bt m.o.2.2 U).setCell (p:=⟨w.heap.size+1,0,none⟩) (by show w.heap.size<=w.heap.size+1;omega) (F a7 l7 c7));clear ad U x)
    exact BA (by simp[results,results35,go_sem,x0]) J ⟨_,J,⟨_,J,Qq.o⟩,Ql.o⟩
end M3
variable{ps:K}{A X:Nat}{x:Rat}
def ZR(d:DR X x):∀l:K,(∀i,DR A (cf l i))->DR (l.length*(A+X+1)+1) (ev l x):=by
 intro l;induction l with
 |nil=>intro _;exact DR.zero _ DJ
 |cons c t e=>
  intro h;have b:=e (λi=>by have:=h (i+1);rwa[Yb]at this);have a:=h 0;rw[Yg]at a;rw[ev,Af,A9];exact(a.add2 (d.mul2 b)).mono O
def ZS(b:DR X x)(hp:∀i,DR A (cf ps i))(d:ps.length*(A+X+1)+1+X<=1000000000):M3.Hy ps x:=λn=>by
 have a:=ZR b (ps.drop n) (λi=>by
  have e:cf (ps.drop n) i=cf ps (n+i):=by simp[cf]
  rw[e];exact hp _)
 have c:(ps.drop n).length*(A+X+1)<=ps.length*(A+X+1):=Ae _ (by rw[AY];omega);exact⟨Sq.of a O,Sq.of (a.mul2 b) O⟩
def ZT(hp:∀i,DR A (cf ps i))(hl:ps.length<=1000000000)(b:A+1<=1000000000)(i:Nat):Sq (ED ps i):=by
 unfold ED;by_cases h:i+1<ps.length
 . have a:DR 1 ((((i+1:Nat):Int)):Rat):=⟨by unfold Sm;rw[Rat.num_intCast];unfold Y;simp;omega,by unfold Sm;rw[Rat.den_intCast];unfold Y;decide⟩;exact Sq.of ((hp (i+1)).mul2 a) b
 . rw[JV O,Rat.zero_mul];exact Fl
def ZU(h:∀i,Sq (ED ps i)):Sqs (Xv ps):=Sqs.of λi=>by unfold Xv;rw[J0,Kl];exact h i
def ZV(ps:K):(Xv ps).length<=ps.length:=AK (J3 _) (by simp[IQ])

