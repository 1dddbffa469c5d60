import Derived.Test.YtcahejkcdcjjgaaGreatDoorQ34
set_option linter.all false
open Go.Value renaming slice->C,int->E,bool->L,string->M,pointer->N
open Go.IntKind renaming i64->F
open Go.Obj renaming cells->G
open Go renaming undef->B,World->H
open Go.Proofs.Tryz renaming prog->I
set_option maxRecDepth 99999
set_option maxHeartbeats 0
namespace Go.Proofs.YtcahejkcdcjjgaaGreatDoor
open Proofs.Tryz
open Go.RowKit Go.Shelf
attribute [local go_sem] Oper.semAt_some
section
variable{cs:Array Value}{m:Nat × Nat}{t:TypeId}
def Sr(p q:Addr)(w:H):
 CallsD I 89 #[N (some p),N (some q)] .returning w λe d f=>e=.returned (.tuple #[])/\d=.returning/\f=w.alloc (G #[E F 0,E F 0] 77):=by
 have a:∀w:H,(Instr.typeAssert Value.nilIface 20 77 true).run I w=.ok (.tuple #[.agg #[E F 0,E F 0],L false]) w:=λ_=>by kernel_rfl
 refine callsD_of_wpS func89 J λb cs c=>?_;apply wpS_seq;apply wpS_region;simp[wpOpsS,go_sem,recoverD,c,ntmps89,Exit.thenS,a];apply wpS_seq;apply wpS_region;simp[wpOpsS,go_sem,Exit.thenS];refine wpS_cond (t:=false) (by simp[Act.eval,Array.replicate]) ?_;simp only[CC,if_false];refine wpS_of_wp (wp_skip ?_);cases b;simp_all [bodyPostS,results,results89]
def Ss(p q:Nat)(a p0:Int)(w:H)(g:Boxed w p 25 (C none 0 0))(i:Jf w q 77 (E F 0) (E F 0))(l:p≠q):
 CallsD I 89 #[N (some ⟨p,0,none⟩),N (some ⟨q,0,none⟩)] (.panicking [{ v:=XH a p0,recovered:=false }]) w λe S m=>e=.returned (.tuple #[])/\S=.panicking [{ v:=XH a p0,recovered:=true }]/\Boxed m p 25 (C none 0 0)/\Jf m q 77 (E F a) (E F p0)/\∀n w0,Below n w0 w->n<=w.heap.size->n<=p->n<=q->Below n w0 m:=by
 unfold XH;have o:∀w:H,(Instr.typeAssert (.iface 77 (.agg #[E F a,E F p0])) 20 77 true).run I w=.ok (.tuple #[.agg #[E F a,E F p0],L true]) w:=λ_=>by kernel_rfl
 refine callsD_of_wpS func89 J λT cs z=>?_;apply wpS_seq;apply wpS_region;simp[wpOpsS,go_sem,recoverD,z,ntmps89,Exit.thenS,o];apply wpS_seq;apply wpS_region;simp[wpOpsS,go_sem,Exit.thenS];refine wpS_cond (t:=true) (by simp[Act.eval,Array.replicate]) ?_;simp only[if_true];refine wpS_of_wp ?_;simp[Array.replicate];have d:=Jf.new w 77 (E F a) (E F p0);have c:=g.alloc (G #[E F a,E F p0] 77);have b:=i.alloc (G #[E F a,E F p0] 77);have P:p≠w.heap.size:=by have:=g.lt;omega
 have Q:q≠w.heap.size:=by have:=i.lt;omega
 have f:=Z λ(n:Nat) (w0:H) (h:Below n w0 w) (k:n<=w.heap.size)=>h.alloc k (G #[E F a,E F p0] 77);obtain⟨W,j⟩:=ex (w.alloc (G #[E F a,E F p0] 77));rw[j]at d c b f;rw[j];obtain⟨D,s⟩:=ex (w.heap.size);rw[s]at d P Q f;rw[s];clear j g i o z;obtain⟨d0,d1⟩:=d.cp;have x0:=c.cell;have x1:=c.frozen;obtain⟨U,X⟩:=b.cp;obtain⟨z0,z1⟩:=b.fp;have A:=Z c;have K:=Z b;clear c b d;go_region
 have u:Boxed (((W.setCell ⟨p,0,none⟩ (C none 0 0)).setCell ⟨q,0,none⟩ (E F a)).setCell ⟨q,1,none⟩ (E F p0)).drew p 25 (C none 0 0):=
  (BF _ ⟨q,1,none⟩ (E F p0) p l).trans ((BF _ ⟨q,0,none⟩ (E F a) p l).trans (A.o.set (C none 0 0)))
 have x:Jf (((W.setCell ⟨p,0,none⟩ (C none 0 0)).setCell ⟨q,0,none⟩ (E F a)).setCell ⟨q,1,none⟩ (E F p0)).drew q 77 (E F a) (E F p0):=
  (((K.o.far (p:=⟨p,0,none⟩) (λe=>l e.symm) _).set0 _).set1 _).drew
 have y:∀n w0,Below n w0 w->n<=D->n<=p->n<=q->Below n w0 (((W.setCell ⟨p,0,none⟩ (C none 0 0)).setCell ⟨q,0,none⟩ (E F a)).setCell ⟨q,1,none⟩ (E F p0)).drew:=
  λn w0 h k R r=>((((f.o n w0 h k).setCell (p:=⟨p,0,none⟩) R _).setCell (p:=⟨q,0,none⟩) r _).setCell (p:=⟨q,1,none⟩) r _).drew
 generalize (((W.setCell ⟨p,0,none⟩ (C none 0 0)).setCell ⟨q,0,none⟩ (E F a)).setCell ⟨q,1,none⟩ (E F p0)).drew=V at u x y ⊢;simp[bodyPostS,results,results89];exact⟨u,x,y⟩
theorem Su(s:ByteArray)(g q0:Int)(w:H)(q:∀V R,DM V R s 0->Calls I 90 #[N (some ⟨R,0,none⟩)] V λr l=>V.grownBy l (some R)/\r=.panicked [{ v:=XH g q0,recovered:=false }]):
 Calls I 44 #[M s] w λr l=>r=.returned (.tuple #[.agg #[C none 0 0],.agg #[E F g,E F q0]])/\Bl w l:=by
 have W:∀(fn:Fn) (first cap:Array Value) (w:H),(Instr.makeFunc fn first cap).run I w=.ok (.func fn first cap) w:=λ_ _ _ _=>rfl;have o:=Z q;clear q;go_enter_defers func44,ntmps44
 go_upto_region 3 with fail
 have b:=BI w 25 (C none 0 0);have a:=Jf.new (w.alloc (G #[C none 0 0] 25)) 77 (E F 0) (E F 0);have c:DM (((w.alloc (G #[C none 0 0] 25)).alloc (G #[E F 0,E F 0] 77)).alloc (G #[M s,E F 0] 124)) ((w.alloc (G #[C none 0 0] 25)).alloc (G #[E F 0,E F 0] 77)).heap.size s 0:=BD _ _;rw[A1,A1]at c;rw[A1]at a;replace b:=(b.alloc (G #[E F 0,E F 0] 77)).alloc (G #[M s,E F 0] 124);replace a:=a.alloc (G #[M s,E F 0] 124);have j:Bl w (((w.alloc (G #[C none 0 0] 25)).alloc (G #[E F 0,E F 0] 77)).alloc (G #[M s,E F 0] 124)):=((Ba w _).alloc (by rw[A1];omega) _).alloc (by rw[A1,A1];omega) _;have u:(((w.alloc (G #[C none 0 0] 25)).alloc (G #[E F 0,E F 0] 77)).alloc (G #[M s,E F 0] 124)).heap.size=w.heap.size+1+1+1:=by rw[A1,A1,A1]
 obtain⟨V,i⟩:=ex (((w.alloc (G #[C none 0 0] 25)).alloc (G #[E F 0,E F 0] 77)).alloc (G #[M s,E F 0] 124));rw[i]at b a c j u;rw[i];obtain⟨y,m,n,z⟩:=Dl b a j (o.o _ _ c);clear b a c j i o u;go_wp2_with(go_at_call 90;refine z.o.mono ?_;rintro e x ⟨t,rfl⟩;have d:=Z t;clear t)
 have D:Boxed x w.heap.size 25 (C none 0 0):=y.o.kept d.o (λe=>by have:=AP e;omega);have A:Jf x (w.heap.size+1) 77 (E F 0) (E F 0):=(d.o.block _ m.o.lt λe=>by have:=AP e;omega).trans m.o;have p:=n.o.grown d.o n.o.size (λk e=>by grind);refine leaves_cons (f:=89) (args:=#[N (some ⟨w.heap.size,0,none⟩),N (some ⟨w.heap.size+1,0,none⟩)]) sp (by simp[go_sem]) ?_;refine(Ss w.heap.size (w.heap.size+1) g q0 _ D A O).mono ?_;rintro e X w2 ⟨rfl,rfl,K,P,Q⟩;have S:=Q _ _ p p.size (Aa _) O;have x0:=K.cell;obtain⟨T,U⟩:=P.cp;simp[Leaves,settle,results,results44,go_sem,x0,T,U];exact S
theorem Sv{W W':H}{F:Nat}(hF:W.heap[F]?=some (G cs t m))(j:t=77)(hg:W.grownBy W' (some F)):∀k v ds,Row k W v ds->Row k W' v ds:=by
 intro k v ds c;obtain⟨a,cap,e,_⟩:=id c;subst e;refine c.grown hg λp g hl=>?_;obtain⟨b,n,f,d,l,i⟩:=c.typ hl;grind
def Mp{W W':H}{F:Nat}(hF:W.heap[F]?=some (G cs t m))(g:t=77)(hg:W.grownBy W' (some F)){r:Bool}{v:Value}{qs:X}(h:RowK r W v qs):RowK r W' v qs:=by
 obtain⟨a,cap,e,k,c,l,d⟩:=h;refine⟨a,cap,e,k,c,l,?_⟩;rcases d with d|⟨b,i,f⟩
 . exact Al d
 . refine Au ⟨b,i,f.keep (hg.block b f.lt λe=>?_) (Sv hF g hg)⟩;obtain⟨n,j,_⟩:=f;have e:=AP e;subst e;have:=j.symm.trans hF;simp only[AU,Obj.cells.injEq]at this;subst g;have c:=this.2.1;revert c;cases r<;>(show ¬(_=_);decide)
theorem Sw(s:ByteArray)(ps:List Rat)(w:H)(hP:∀V R,DM V R s 0->Calls I 90 #[N (some ⟨R,0,none⟩)] V λr i=>V.grownBy i (some R)/\∃u,r=.returned u/\Yf i u ps):
 Calls I 44 #[M s] w λr i=>∃u,r=.returned (.tuple #[u,.agg #[E F 0,E F 0]])/\Yf i u ps/\Bl w i:=by
 have ae:∀(fn:Fn) (first cap:Array Value) (w:H),(Instr.makeFunc fn first cap).run I w=.ok (.func fn first cap) w:=λ_ _ _ _=>rfl;have W:=Z hP;clear hP;go_enter_defers func44,ntmps44
 go_upto_region 3 with fail
 have g:=BI w 25 (C none 0 0);have c:=Jf.new (w.alloc (G #[C none 0 0] 25)) 77 (E F 0) (E F 0);have m:DM (((w.alloc (G #[C none 0 0] 25)).alloc (G #[E F 0,E F 0] 77)).alloc (G #[M s,E F 0] 124)) ((w.alloc (G #[C none 0 0] 25)).alloc (G #[E F 0,E F 0] 77)).heap.size s 0:=BD _ _;rw[A1,A1]at m;rw[A1]at c;replace g:=(g.alloc (G #[E F 0,E F 0] 77)).alloc (G #[M s,E F 0] 124);replace c:=c.alloc (G #[M s,E F 0] 124);have K:Bl w (((w.alloc (G #[C none 0 0] 25)).alloc (G #[E F 0,E F 0] 77)).alloc (G #[M s,E F 0] 124)):=((Ba w _).alloc (by rw[A1];omega) _).alloc (by rw[A1,A1];omega) _;have hz:(((w.alloc (G #[C none 0 0] 25)).alloc (G #[E F 0,E F 0] 77)).alloc (G #[M s,E F 0] 124)).heap.size=w.heap.size+1+1+1:=by rw[A1,A1,A1]
 obtain⟨V,D⟩:=ex (((w.alloc (G #[C none 0 0] 25)).alloc (G #[E F 0,E F 0] 77)).alloc (G #[M s,E F 0] 124));rw[D]at g c m K hz;rw[D];obtain⟨H0,S,U,HC⟩:=Dl g c K (W.o _ _ m);clear g c m K D W hz;go_wp2_with(go_at_call 90;refine HC.o.mono ?_;rintro e Q ⟨ad,u1,rfl,P⟩;have n:=Z ad;obtain⟨a,d,b,rfl⟩:=P.form;have HU:=Z P.row;have l:Boxed Q w.heap.size 25 (C none 0 0):=H0.o.kept n.o (λe=>by have:=AP e;omega);have j:Jf Q (w.heap.size+1) 77 (E F 0) (E F 0):=(n.o.block _ S.o.lt λe=>by have:=AP e;omega).trans S.o;have x0:=l.cell;have x1:=l.frozen;obtain⟨y0,y1⟩:=j.cp;obtain⟨z0,z1⟩:=j.fp;have T:=Z l;have H3:=Z j;clear ad P l j)
 have o:w.heap.size+1≠w.heap.size:=O
 have Qd:=U.o.grown n.o U.o.size (λk e=>by grind);have X:=T.o.set (C a d b);have a2:=FJ T.o (C a d b) HU.o;have x:=H3.o.far (p:=⟨w.heap.size,0,none⟩) o (C a d b);have a4:=Qd.setCell (p:=⟨w.heap.size,0,none⟩) (Aa _) (C a d b);generalize Q.setCell ⟨w.heap.size,0,none⟩ (C a d b)=q at X a2 x a4 ⊢;have b1:=(BF q ⟨w.heap.size+1,0,none⟩ (E F 0) w.heap.size λe=>o e.symm).trans X;have b2:=Mp x J (JB q (w.heap.size+1) 0 (E F 0)) a2;have y:=x.set0 (E F 0);have b4:=a4.setCell (p:=⟨w.heap.size+1,0,none⟩) DO (E F 0);generalize q.setCell ⟨w.heap.size+1,0,none⟩ (E F 0)=t at b1 b2 y b4 ⊢;have d1:=(BF t ⟨w.heap.size+1,1,none⟩ (E F 0) w.heap.size λe=>o e.symm).trans b1;have d2:=Mp y J (JB t (w.heap.size+1) 1 (E F 0)) b2;have z:=y.set1 (E F 0);have A:=b4.setCell (p:=⟨w.heap.size+1,1,none⟩) DO (E F 0);generalize t.setCell ⟨w.heap.size+1,1,none⟩ (E F 0)=v at d1 d2 z A ⊢;refine leaves_cons (f:=89) (args:=#[N (some ⟨w.heap.size,0,none⟩),N (some ⟨w.heap.size+1,0,none⟩)]) sp (by simp[go_sem]) ?_;refine(Sr ⟨w.heap.size,0,none⟩ ⟨w.heap.size+1,0,none⟩ _).mono ?_;rintro e u' w2 ⟨rfl,rfl,rfl⟩;have e1:Boxed v w.heap.size 25 (C a d b):=d1;have f1:=(e1.alloc (G #[E F 0,E F 0] 77)).cell;have f2:=(z.alloc (G #[E F 0,E F 0] 77)).c0;have f3:=(z.alloc (G #[E F 0,E F 0] 77)).c1;have f4:=A.alloc A.size (G #[E F 0,E F 0] 77);have f5:=d2.below (Ba v (G #[E F 0,E F 0] 77));generalize v.alloc (G #[E F 0,E F 0] 77)=W5 at f1 f2 f3 f4 f5 ⊢;simp[Leaves,settle,results,results44,go_sem,f1,f2,f3];exact⟨⟨_,J,f5⟩,f4⟩
def FO(l:List UInt8)(a:H)(u:Value)(e p:Int):Prop:=e=((YD l).2.1:Int)/\p=((YD l).2.2:Int)/\Yf a u (YD l).1
def Sx(s:ByteArray)(hs:s.size<=300)(w:H):
 Calls I 44 #[M s] w λr a=>∃u e p,r=.returned (.tuple #[u,.agg #[E F e,E F p]])/\FO (Jd s) a u e p/\Bl w a:=by
 have b:=R3 (l:=Jd s) (by rw[Jq];omega);cases c:D9 (Jd s)with
 |error g q0=>
  rw[c]at b;refine(Su s g q0 w λV R d=>(Mn R s V d hs).mono λr a h=>⟨h.1,h.2.1 _ _ c⟩).mono ?_;rintro r a ⟨rfl,f⟩;refine⟨_,_,_,J,?_,f⟩;rw[FO,b];exact⟨J,J,_,J,RowK.nil _ _⟩
 |ok S k=>
  rw[c]at b;refine(Sw s (JE S) w λV R d=>(Mn R s V d hs).mono λr a h=>⟨h.1,by obtain⟨u,i,j,_⟩:=h.2.2 _ _ c;exact⟨u,i,j⟩⟩).mono ?_;rintro r a ⟨u,rfl,m,f⟩;refine⟨_,_,_,J,?_,f⟩;rw[FO,b];exact⟨J,J,m⟩
def Sy(s:ByteArray)(w:H):
 Calls I 9 #[M s] w λr K=>∃u e p,r=.returned (.tuple #[u,E F e,E F p])/\FO (Jd s) K u e p/\Bl w K:=by
 by_cases t:300<s.size
 . have ad:(300:Int)<(s.size:Int):=O
   have P:=Z (show YD (Jd s)=([],1,0)by unfold YD;rw[BM (by rw[Jq];exact t)]);clear t;go_enter func9,ntmps9
   go_wp2;exact BA (v:=.tuple #[.agg #[C none 0 0],E F 1,E F 0]) (by simp[results,results9,go_sem]) J ⟨_,_,_,J,by rw[FO,P.o];exact⟨J,J,_,J,RowK.nil _ _⟩,Ba w _⟩
 . have ad:¬(300:Int)<(s.size:Int):=O
   have x:=Z λ(V:H)=>Sx s O V;clear t;go_enter func9,ntmps9
   go_upto_region 4 with(go_at_call 44;refine(x.o _).mono ?_;clear x;rintro e a ⟨u1,g,p1,rfl,b,c⟩;obtain⟨d,j,f,rfl⟩:=b.2.2.form;have n:=Z b;have m:=Z c;clear b c)
   have U:w.heap.size<a.heap.size:=by have:=m.o.size;rw[A1]at this;omega
   have q0:Boxed a w.heap.size 25 (C none 0 0):=(m.o.block _ (by rw[A1];omega)).trans (BI w 25 (C none 0 0));have A:=(Ba w _).trans (m.o.mono (by rw[A1];omega));have i:=BI a 25 (C d j f);have k:=Jf.new (a.alloc (G #[C d j f] 25)) 77 (E F g) (E F p1);rw[A1]at k;replace i:=i.alloc (G #[E F g,E F p1] 77);have l:Bl a ((a.alloc (G #[C d j f] 25)).alloc (G #[E F g,E F p1] 77)):=(Ba a _).alloc (by rw[A1];omega) _;have q1:=(l.block _ q0.lt).trans q0;have c:=Bt A l;have b:=n.o.2.2.row.below l;have D:=Z (⟨n.o.1,n.o.2.1⟩:g=_/\p1=_);have y:w.heap.size≠a.heap.size:=O
   have z:w.heap.size≠a.heap.size+1:=O
   generalize (a.alloc (G #[C d j f] 25)).alloc (G #[E F g,E F p1] 77)=X at i k l q1 c b ⊢;clear l q0 A m n U;obtain⟨Q,o⟩:=ex (w.heap.size);obtain⟨B,q⟩:=ex (a.heap.size);rw[q]at i k y z;rw[o]at q1 y z;rw[q,o];have q2:Boxed X Q 25 (C none 0 0):=q1;have x0:=i.cell;obtain⟨y0,y1⟩:=k.cp;have z0:=q2.cell;have z1:=q2.frozen;obtain⟨T,S,W,R⟩:=Dl q2 o c b;clear i k q1 q2 o q c b;go_region
   go_wp2_with fail
   have r0:=z0;refine BA (v:=.tuple #[.agg #[C d j f],E F g,E F p1]) (by simp[results,results9,go_sem,r0]) J ⟨_,_,_,J,⟨D.o.1,D.o.2,_,J,?_⟩,?_⟩
   . exact(FJ T.o (C d j f) R.o).below ((BB _ _).drew)
   . exact(W.o.setCell (p:=⟨Q,0,none⟩) (by rw[S.o];exact Aa _) _).drew
end
section
variable{ps qs:X}{A:Nat}{q:Rat}
theorem Sz{k:Nat}(h:DN k q):(JL q).length<=40*k+5:=by
 have a:=XE q.num;have b:=XE (q.den:Int);have c:=h.1.words;have d:=h.2.words;grind[JL]
theorem DN.abs{k:Nat}(h:DN k q):DN k (Yx q):=by
 grind[Fs,DN,Sm]
theorem S0{k:Nat}{c:Rat}(h:DN k c){i:Nat}(e:i<Y)(f:Bool):(YZ c i f).length<=40*k+40:=by
 have a:=Sz h.abs;have b:=XC i;have d:(Jb Y i).length<=1:=Jw Jc DO;grind[Xo,Yl,XF,YZ]
theorem Mq{k:Nat}(h:∀i,DN k (cf ps i))(hl:ps.length<=Y):∀(d m:Nat),ps.length-m=d->(JM (ps.drop m) m).length<=d*(40*k+40):=by
 intro d;induction d with
 |zero=>
  intro m b;grind[List.drop_of_length_le,JM]
 |succ d a=>
  intro m b;have a:=a (m+1) O;rw[Xb ps (by omega:m<ps.length)];have c:=S0 (h m) (by omega:m<Y) (JM (ps.drop (m+1)) (m+1)).isEmpty;grind
def TA(h:Sqs ps)(hl:ps.length<=3000)(m:Nat):(JM (ps.drop m) m).length<=140737488355328:=by
 have a:=Mq (λi=>(h.at i).sm) uo _ m J;omega
theorem TB(z:X)(i:Nat)(a:Rat)(q:X):∀(j k:Nat),i+j<=k->cf (Y3 z i a q j) k=cf z k:=by
 intro j;induction j with
 |zero=>intro k _;rfl
 |succ j c=>
  intro k b;grind[Y3,Ee,CJ]
theorem Mr(z:X)(i:Nat)(a:Rat)(q:X):∀(j k:Nat),cf (Y3 z i a q j) k=cf z k\/cf (Y3 z i a q j) k=cf z k+a*cf q (k-i):=by
 intro j;induction j with
 |zero=>intro k;exact Al J
 |succ j b=>
  intro k;grind[Y3,Ee,TB,CJ]
theorem Ms(hp:∀i,DN A (cf ps i))(b:∀j,DN A (cf qs j))(n:Nat):∀(i k:Nat),DN (min i ps.length*(A+A+1)+1) (cf (Y4 ps qs n i) k):=by
 intro i;induction i with
 |zero=>intro k;grind[Y4,YN,DN.zero]
 |succ i a=>
  intro k;rw[Y4];rcases Mr (Y4 ps qs n i) i (cf ps i) qs qs.length k with e|e
  . rw[e];exact(a k).mono (by have:min i ps.length*(A+A+1)<=min (i+1) ps.length*(A+A+1):=Af _ O;omega)
  . rw[e];by_cases c:i<ps.length
    . rw[show min (i+1) ps.length=min i ps.length+1 from by omega,Cm];exact((a k).add2 ((hp i).mul (b (k-i)))).mono O
    grind[Ed]
def TC(hp:∀i,DN A (cf ps i))(a:∀j,DN A (cf qs j))(c:(ps.length+1)*(A+A+1)+1<=1000000000):M3.Iu ps qs:=by
 have hle:A+A+1<=(ps.length+1)*(A+A+1):=Cc _ O;refine⟨λi j=>Sq.of ((hp i).mul (a j)) O,λn i j k=>?_⟩;have b:=Ms hp a n i k;have d:min i ps.length*(A+A+1)<=ps.length*(A+A+1):=Af _ O;rw[Cm]at c;rcases Mr (Y4 ps qs n i) i (cf ps i) qs j k with e|e
 . rw[e];exact Sq.of b O
 . rw[e];exact Sq.of (b.add2 ((hp i).mul (a (k-i)))) O
theorem TD(hp:∀i,DN A (cf ps i))(a:∀j,DN A (cf qs j))(k:Nat):DN (ps.length*(A+A+1)+1) (cf (FU ps qs) k):=by
 unfold FU;rw[FT,KB];have h:=Ms hp a (ps.length+qs.length) ps.length k;grind[KD]
def Xt:X:=[Rat.divInt 1 2,1]
def Ey:X:=[Rat.divInt 1 4,1,1]
def TE:YD [120,32,43,32,49,47,50]=(Xt,0,0):=FP
def Mt:FU Xt Xt=Ey:=FP
def _root_.Go.Boxed.bel{W W':H}{B:Nat}{t:TypeId}{v:Value}(h:Boxed W B t v)(a:Bl W W'):Boxed W' B t v:=(a.block B h.lt).trans h
def TF:D8 Ey=[120,94,50,43,120,43,49,47,52]:=FP
def X5(i:Nat):DN 1 (cf Xt i):=by
 rcases i with _|_|i
 . exact⟨by show Sm 1 1;unfold Sm Y;decide,by show Sm 1 2;unfold Sm Y;decide⟩
 . exact⟨by show Sm 1 1;unfold Sm Y;decide,by show Sm 1 1;unfold Sm Y;decide⟩
 . rw[Ed (by simp[Xt])];exact DN.zero 1 O
def Mu:Sqs Xt:=Sqs.of λi=>Sq.of (X5 i) O
def Mv:Sqs Ey:=Sqs.of λi=>by rw[<-Mt];exact Sq.of (TD X5 X5 i) (by simp[Xt])
def TG(e:Int)(w:H):Calls I 12 #[E F e] w λr a=>r=.returned (E F e)/\Bl w a:=by
 go_enter func12,ntmps12
 go_wp2;go_ret;exact⟨J,BB _ _⟩
def TH(w:H)(T:Ev w):Calls I 19 #[] w λr v=>r=.returned (L true)/\Bl w v:=by
 have U:=Z T;have R:=Z (λ(V:H)=>show Calls I 9 #[M ⟨#[120,32,43,32,49,47,50]⟩] V λr v=>∃u,r=.returned (.tuple #[u,E F 0,E F 0])/\Yf v u Xt/\Bl V v from
  (Sy ⟨#[120,32,43,32,49,47,50]⟩ V).mono (λr v h=>by
   obtain⟨u,e,p,X,S,h3⟩:=h;rw[FO,show Jd ⟨#[120,32,43,32,49,47,50]⟩=[120,32,43,32,49,47,50]from J,TE]at S;obtain⟨rfl,rfl,h4⟩:=S;exact⟨u,X,h4,h3⟩))
 have c:=Z (BB w.heap.size w);clear T;go_enter func19,ntmps19
 go_upto_region 2 with(go_at_call 9;refine(R.o _).mono ?_;clear R;rintro e o ⟨u,rfl,j,b⟩;obtain⟨A,K,c1,rfl⟩:=j.form)
 replace c:=Z (Bt c.o b);have d:Bl o (o.alloc (G #[C A K c1] 25)):=Ba o _;have k:=BI o 25 (C A K c1);have g:=j.below d;replace c:=Z (Bt c.o d);clear d;obtain⟨z,f⟩:=ex (o.alloc (G #[C A K c1] 25));obtain⟨BP,i⟩:=ex (o.heap.size);rw[f]at g c;rw[f,i]at k;rw[f];rw[i];clear f i;clear j b;have l:=Z λ(V:H) (h:Bl z V)=>M3.Ra _ _ Xt Xt V (g.below h) (g.below h) Mu Mu (TC X5 X5 (by simp[Xt])) (by simp[Xt]);rw[Mt]at l;have a:Bl z z:=BB _ _;have W:=(k.bel a).cell;go_upto_region 3 with(go_at_call 28;refine(l.o _ a).mono ?_;clear l;rintro e q ⟨u,rfl,j,_,b⟩;obtain⟨D,P,c2,rfl⟩:=j.form)
 replace b:=Bt a b
 clear a W;replace k:=k.bel b;replace g:=g.below b;replace c:=Z (Bt c.o b);clear b;have d:Bl q (q.alloc (G #[C D P c2] 25)):=Ba q _;have t:=BI q 25 (C D P c2);have Q:=j.below d;replace k:=k.bel d;replace g:=g.below d;replace c:=Z (Bt c.o d);clear d;obtain⟨s,f⟩:=ex (q.alloc (G #[C D P c2] 25));obtain⟨BQ,i⟩:=ex (q.heap.size);rw[f]at k g Q c;rw[f,i]at t;rw[f];rw[i];clear f i;clear j;have l:=Z λ(V:H) (h:Bl s V)=>TG 0 V;have x:=Z λ(V:H) (h:Bl s V)=>MN _ Ey V (Q.below h) Mv (λm=>TA Mv (by simp[Ey]) m) (JV U.o (Bt c.o h));rw[TF]at x;have y:=Z λ(V:H) (h:Bl s V)=>L3 _ Ey V (Q.below h);rw[show((Ey.length:Int)-1)=2 from J]at y;have a:Bl s s:=BB _ _;have n:=(t.bel a).cell;go_wp2_with(first
  |(go_at_call 12;refine(l.o _ a).mono ?_;clear l;rintro e x1 ⟨rfl,b⟩;replace a:=Bt a b;clear b n;have n:=(t.bel a).cell)
  |(go_at_call 13;refine(x.o _ a).mono ?_;clear x;rintro e x2 ⟨rfl,b⟩;replace a:=Bt a b;clear b n;have n:=(t.bel a).cell)
  |(go_at_call 15;refine(y.o _ a).mono ?_;clear y;rintro e x3 ⟨rfl,b⟩;replace a:=Bt a b;clear b n;have n:=(t.bel a).cell))
 go_ret;exact⟨J,Bt c.o a⟩
end
def Mw(a:List UInt8):Prop:=a=[]\/∃t,a=43::t\/a=45::t
def Mw.head{b:List UInt8}(h:Mw b){c:UInt8}(a:b.head?=some c):DK c=false/\c≠47/\c≠32/\c≠120/\c≠94:=by
 rcases h with rfl|⟨t,rfl|rfl⟩
 . cases a
 . cases a;decide
 . cases a;decide
def Df(a V:H):Prop:=Bl a V
def Df.below{a V V':H}(h:Df a V)(b:Bl V V'):Df a V':=Bt h b
def Df.drew(V:H):Df V V.drew:=(BB _ V).drew
section
variable{r:Bool}{qs:X}{b:Nat}{q:Rat}{t x y z:Value}
def Mx(r:Bool)(ad:Nat)(W:H)(v:Value)(qs:List Rat)(h:Yw r ad W v qs){u:Value}(hq:Dd r W (.agg #[x,y,z,u]) q)(hl:qs.length+1<=1099511627776){v':Value}{T:H}
(f:(Builtin.append_ #[Dm r,Dm r] (Dm r) #[v,C (some ⟨W.heap.size,0,none⟩) 1 1]).run I (W.alloc (G #[x,y,z,u] (DW r)))=.ok v' T):
 ∀B,B<W.heap.size->(∀cs m,W.heap[B]?≠some (G cs (DW r) m))->T.heap[B]?=W.heap[B]?:=by
 obtain⟨i,w,S,p,R⟩:=L8 r;have A:=L7 r;have n:Bl W (W.alloc (G #[x,y,z,u] (DW r))):=Ba W _;obtain⟨a,Q⟩:=ex (W.alloc (G #[x,y,z,u] (DW r)));have U:a.heap[W.heap.size]?=some (G #[x,y,z,u] (DW r) (0,0)):=by rw[<-Q];exact BD W _
 rw[Q]at n f;have s:∀j c,[x,y,z,u][j]?=some c->a.cell? ((⟨W.heap.size,0,none⟩:Addr).add j)=some c:=λj c k=>by
  rw[Yj,Cd];exact cell_of U (by simpa using k)
 have D:(Value.agg (zK r)).cells=zK r:=rfl;have fin:∀o B,B<W.heap.size->(a.drew.alloc o).heap[B]?=W.heap[B]?:=λo B d=>by
  have Qg:Bl W (a.drew.alloc o):=(n.drew).alloc (by exact n.size) _;exact Qg.block B d
 rcases h with⟨rfl,rfl⟩|⟨g,cap,b,rfl,h2,t,h4,h5,h6,h7,h8⟩
 . have l:=run_append_nil (P:=I) a (Dm r) (Dm r) (DW r) i _ A w S ⟨W.heap.size,0,none⟩ 1 1 [x,y,z,u] (by rw[p];rfl) s O O (by rw[R];omega);rw[D]at l;rw[l]at f;cases f;intro B d _;exact fin _ B d
 . have K:a.heap[g]?=some (G b (DW r) (0,0)):=(n.block g (Ab.1 t).1).trans t;have V:(b.toList.take (qs.length*4)).length=qs.length*4:=by rw[Ae];have h0:b.toList.length=b.size:=CK;omega
   by_cases ah:qs.length+1<=cap
   . have l:=run_append_room (P:=I) a (Dm r) (Dm r) (DW r) i A w g qs.length cap b K ⟨W.heap.size,0,none⟩ 1 1 [x,y,z,u] (by rw[p];rfl) s hq.one ah (by rw[p];simp;omega);rw[l]at f;cases f;intro B d hn;have X:B≠g:=λe=>hn b (0,0) (by rw[e];exact t);exact(setRow_other a g B _ X).trans (n.block B d)
   . have ae:∀j c,(b.toList.take (qs.length*4))[j]?=some c->a.cell? ((⟨g,0,none⟩:Addr).add j)=some c:=λj c k=>by
      rw[Yj,Cd];rw[List.getElem?_take]at k;split at k
      . rw[Cn]at k;exact cell_of K k
      . cases k
     have l:=run_append_grow (P:=I) a (Dm r) (Dm r) (DW r) i _ A w S ⟨g,0,none⟩ qs.length cap (b.toList.take (qs.length*4)) (by rw[p];exact V) ae ⟨W.heap.size,0,none⟩ 1 1 [x,y,z,u] (by rw[p];rfl) s O O (by rw[R];exact growslice_fits O O);rw[D]at l;rw[l]at f;cases f;intro B d _;exact fin _ B d
def Yw.other{c:Bool}{W W':H}{v:Value}(h:Yw c b W v qs)(t:DW c≠DW r)(q:∀B,B<W.heap.size->(∀cs m,W.heap[B]?≠some (G cs (DW r) m))->W'.heap[B]?=W.heap[B]?)(s:∀k v ds,Row k W v ds->Row k W' v ds):Yw c b W' v qs:=by
 rcases h with h|⟨g,cap,d,f,i,a,j,l,n,o,p⟩
 . exact Al h
 . refine Au ⟨g,cap,d,f,i,(q g (Ab.1 a).1 λcs m e=>?_).trans a,j,l,n,o,p.keep s⟩;rw[a]at e;simp only[AU,Obj.cells.injEq]at e;exact t e.2.1
def TI(a:Nat)(W:H)(v u:Value)(qs:X)(h:Yw true a W v qs)(f:Yw false a W u qs)(d:Jj W (.agg #[x,y,z,t]) q)(hl:qs.length+1<=1099511627776)(k:a<=W.heap.size):
 ∃c b,(Builtin.append_ #[22,22] 22 #[v,C (some ⟨W.heap.size,0,none⟩) 1 1]).run I (W.alloc (G #[x,y,z,t] 38))=.ok c b/\Yw true a b c (qs++[q])/\Yw false a b u qs/\(∀n w0,n<=a->Below n w0 W->Below n w0 b):=by
 obtain⟨c,b,e,g,i,j⟩:=MA true a W v qs h d hl k;exact⟨c,b,e,g,f.other (r:=true) DI (Mx true a W v qs h d hl e) i,j⟩
def TJ(a:Nat)(W:H)(v u:Value)(qs ps:X)(h:Yw true a W v ps)(d:Yw false a W u qs)(f:Jv W (.agg #[x,y,z,t]) q)(hl:qs.length+1<=1099511627776)(k:a<=W.heap.size):
 ∃c b,(Builtin.append_ #[30,30] 30 #[u,C (some ⟨W.heap.size,0,none⟩) 1 1]).run I (W.alloc (G #[x,y,z,t] 49))=.ok c b/\Yw false a b c (qs++[q])/\Yw true a b v ps/\(∀n w0,n<=a->Below n w0 W->Below n w0 b):=by
 obtain⟨c,b,e,g,i,j⟩:=MA false a W u qs d f hl k;exact⟨c,b,e,g,h.other (r:=false) DI (Mx false a W u qs d f hl e) i,j⟩
def Yw.els{W:H}{a:TR}{n c:Nat}(h:Yw r b W (C a n c) qs)(t:0<qs.length):∃g,a=some ⟨g,0,none⟩/\b<=g/\DR r W g qs:=by
 rcases h with⟨_,rfl⟩|⟨g,cap,l,e,m,o,v,w,A,D,p⟩
 . simp at t
 . refine⟨g,by cases e;rfl,m,l,o,λj s=>?_⟩;obtain⟨x,y,z,u,d,f,i,k,q⟩:=p.2 j s;rw[A7 O,Cn]at d f i k;exact⟨x,y,z,u,d,f,i,k,q⟩
structure OfS(w:World)(n:Nat)(fs:X)(oa ma:TR)(BP:Nat)(ap:TR)(lp cp:Nat)(qv:Value)(k:Nat)(W:World):Prop where
 bel:Bl w W
 le:w.heap.size<=BP
 box:Boxed W BP 25 (.slice ap lp cp)
 pol:RowK true W (.slice ap lp cp) (JE fs)
 quo:RowK false W qv (JE fs)
 inn:0<n->∃g,oa=some ⟨g,0,none⟩/\w.heap.size<=g/\(∀p,ap=some p->p.block≠g)/\∃qs,qs.length=n/\(∀j,k<=j->cf qs j=cf fs j)/\DR true W g qs
 mro:0<n->∃g,ma=some ⟨g,0,none⟩/\DR false W g fs
section
variable {w:World} {n:Nat} {fs:X} {oa ma:TR} {BP:Nat} {ap:TR} {lp cp:Nat} {qv:Value} {k:Nat} {W W':World}
def OfS.below(h:OfS w n fs oa ma BP ap lp cp qv k W)(a:Bl W W'):OfS w n fs oa ma BP ap lp cp qv k W':=by
 refine⟨Bt h.bel a,h.le,h.box.bel a,h.pol.below a,h.quo.below a,λb=>?_,λb=>?_⟩
 . obtain⟨g,e,c,d,qs,f,i,j⟩:=h.inn b;exact⟨g,e,c,d,qs,f,i,j.below a⟩
 . obtain⟨g,e,c⟩:=h.mro b;exact⟨g,e,c.below a⟩
def OfS.drew(h:OfS w n fs oa ma BP ap lp cp qv k W):OfS w n fs oa ma BP ap lp cp qv k W.drew:=h.below (BB _ W).drew
variable{g:Nat}
def OfS.elem(h:OfS w n fs oa ma BP ap lp cp qv k W)(hg:oa=some ⟨g,0,none⟩)(A:k<n):
 ∃s a l c t b f d,W.cell? ⟨g,k*4,none⟩=some (L s)/\W.cell? ⟨g,k*4+1,none⟩=some (C a l c)/\W.cell? ⟨g,k*4+2,none⟩=some (L t)/\W.cell? ⟨g,k*4+3,none⟩=some (C b f d)/\Jj W (.agg #[L s,C a l c,L t,C b f d]) (cf fs k):=by
 obtain⟨p,e,q,r,qs,v,m,o⟩:=h.inn O;rw[hg]at e;cases e;obtain⟨x,y,z,u,c0,c1,c2,c3,i⟩:=o.at (j:=k) O;rw[m k (Aa _)]at i;obtain⟨s,a,l,c,t,b,f,d,e,_⟩:=(show Jj W _ _ from i);cases e;exact⟨s,a,l,c,t,b,f,d,c0,c1,c2,c3,i⟩
def OfS.melem(h:OfS w n fs oa ma BP ap lp cp qv k W)(hg:ma=some ⟨g,0,none⟩){j:Nat}(p:j<fs.length)(m:0<n):
 ∃a l c s b f d t,W.cell? ⟨g,j*4,none⟩=some (C a l c)/\W.cell? ⟨g,j*4+1,none⟩=some (L s)/\W.cell? ⟨g,j*4+2,none⟩=some (C b f d)/\W.cell? ⟨g,j*4+3,none⟩=some (L t)/\Jv W (.agg #[C a l c,L s,C b f d,L t]) (cf fs j):=by
 obtain⟨q,e,o⟩:=h.mro m;rw[hg]at e;cases e;obtain⟨x,y,z,u,c0,c1,c2,c3,i⟩:=o.at p;obtain⟨a,l,c,s,b,f,d,t,e,_⟩:=(show Jv W _ _ from i);cases e;exact⟨a,l,c,s,b,f,d,t,c0,c1,c2,c3,i⟩
def OfS.frozen(h:OfS w n fs oa ma BP ap lp cp qv k W){g:Nat}(hg:oa=some ⟨g,0,none⟩)(a:0<n)(o:Nat):W.frozen? ⟨g,o,none⟩=false:=by
 obtain⟨c,e,d,f,qs,i,j,b⟩:=h.inn a;rw[hg]at e;cases e;exact b.frozen o
def RowK.keepRow{r:Bool}{W W':H}{a:TR}{l c:Nat}{qs:X}(h:RowK r W (C a l c) qs)(o:∀b,a=some ⟨b,0,none⟩->(∃cs,W.heap[b]?=some (G cs (DW r) (0,0)))->W'.heap[b]?=W.heap[b]?)(p:∀k v ds,Row k W v ds->Row k W' v ds):RowK r W' (C a l c) qs:=by
 obtain⟨q,cap,e,i,j,m,d⟩:=h;cases e;refine⟨a,c,J,i,j,m,?_⟩;rcases d with d|⟨b,f,g⟩
 . exact Al d
 . exact Au ⟨b,f,g.keep (o b f (by obtain⟨cs,n,_⟩:=g;exact⟨cs,n⟩)) p⟩
def OfS.put(h:OfS w n fs oa ma BP ap lp cp qv k W)(hg:oa=some ⟨g,0,none⟩)(hk:k<n):OfS w n fs oa ma BP ap lp cp qv (k+1) (putAt W g (k*4) (L false) (C none 0 0) (L false) (C none 0 0)):=by
 obtain⟨g',e,p,r,qs,Q,R,m⟩:=h.inn O;rw[hg]at e;cases e;have d:=m.putKeep (j:=k) O (L false) (C none 0 0) (L false) (C none 0 0);have V:=m.set (j:=k) O (x:=L false) (y:=C none 0 0) (z:=L false) (u:=C none 0 0) (q:=0) (Dp W);obtain⟨cs,v,_⟩:=m;have far:∀B,B≠g->(putAt W g (k*4) (L false) (C none 0 0) (L false) (C none 0 0)).heap[B]?=W.heap[B]?:=λB U=>GV U _ _ _ _;have A:BP≠g:=λe=>by
  have:=h.box;unfold Boxed at this;rw[e,v]at this;cases this
 have o:∀b,(∃cs,W.heap[b]?=some (G cs (DW false) (0,0)))->b≠g:=λb ⟨f,t⟩ e=>by
  rw[e,v]at t;cases t
 refine⟨Lg h.bel p _ _ _ _,h.le,(far BP A).trans h.box,?_,?_,λ_=>⟨g,hg,p,r,qs.set k 0,by rw[CS];exact Q,λj hj=>?_,V⟩,λP=>?_⟩
 . exact h.pol.keepRow (λb D _=>far b (r _ D)) d
 . obtain⟨a,l,c,rfl⟩:=h.quo.form;exact h.quo.keepRow (λb _ X=>far b (o b X)) d
 . rw[Ee _ _ _ _ O,BJ O];exact R j O
 . obtain⟨i,K,S⟩:=h.mro P;refine⟨i,K,?_⟩;obtain⟨f,s,T⟩:=S;exact DR.keep ⟨f,s,T⟩ (far i (o i ⟨f,s⟩)) d
end
def TK{w wr W:H}{n:Nat}{fs:X}{oa ma:TR}{m l BP:Nat}{ap:TR}{lp cp:Nat}{qv:Value}(j:Yw true w.heap.size wr (C oa n m) fs)(i:Yw false w.heap.size wr (C ma n l) fs)(hl:fs.length=n)(f:Bl w wr)
(k:Gf wr.heap.size (.agg #[C ap lp cp]))(b:Bl wr W)(hle:w.heap.size<=BP)(box:Boxed W BP 25 (C ap lp cp))(pol:RowK true W (C ap lp cp) (JE fs))(quo:RowK false W qv (JE fs)):OfS w n fs oa ma BP ap lp cp qv 0 W:=by
 refine⟨Bt f b,hle,box,pol,quo,λd=>?_,λd=>?_⟩
 . obtain⟨g,e,c,a⟩:=j.els O;refine⟨g,e,c,λp hp=>?_,fs,hl,λ_ _=>rfl,a.below b⟩;have o:=k p lp cp (by rw[hp]);have q:=a.lt;omega
 . obtain⟨g,e,c,a⟩:=i.els O;exact⟨g,e,a.below b⟩
end
def My(a:TR)(n cap:Nat)(S:Nat->ByteArray)(w:H)(hc:∀j,j<n->∃b an,a=some ⟨b,an,none⟩/\b<w.heap.size/\w.cell? ⟨b,an+j,none⟩=some (M (S j)))(hn:n<=1048576)(hs:∀j,j<n->(S j).size<=140737488351232)(cg:Ev w):
 Calls I 4 #[C a n cap] w λr w'=>r=.returned (L true)/\Bl w w':=by
 obtain⟨HT,A,HG,Qk⟩:=Dl cg hc (λ(j:Nat) (V:H)=>So (S j) V) λ(j:Nat) (hj:j<n) (V:H)=>Sp (S j) (hs j hj) V;have Qp:∀j,DN 2000 (X3 (Jd (S j))):=λj=>SF _;obtain⟨f,hf⟩:∃f:Nat->Rat,∀j,X3 (Jd (S j))=f j:=⟨λj=>X3 (Jd (S j)),λ_=>rfl⟩;simp only[hf]at HG Qk Qp;obtain⟨fs,am⟩:=ex (ES f n);have Ql:∀j,DN 2000 (cf fs j):=λj=>by
  rw[<-am,Rs];split
  . exact Qp j
  . exact DN.zero _ O
 have Qu:fs.length=n:=by rw[<-am,Y0]
 have hQ:Sqs fs:=Sqs.of λi=>Sq.of (Ql i) O;have Qw:Sqs (JE fs):=Sqs.of λi=>by rw[FT];exact Sq.of (Ql i) O
 obtain⟨HQ,Qo,Uh,Qg⟩:=Dl hQ Qw am Qu;have Uc:=Z (λm=>show(JM ((JE fs).drop m) m).length<=140737488355328 from by
  have h1:=Mq (k:=2000) (ps:=JE fs) (λi=>by rw[FT];exact Ql i) (by have:=YO fs;unfold Y;omega) _ m J;have h2:=YO fs;omega)
 have Ui:=Z (M9 fs);obtain⟨TX,bc⟩:∃S:ByteArray,⟨(D8 (JE fs)).toArray⟩=S:=⟨_,J⟩;have Uj:=Z bc;have Ul:=Z (YO fs);clear cg hc hs Qp hf am Ql Qu hQ Qw bc;go_enter func4,ntmps4
 go_wp2;go_loopw [3,4,5] (λo m i wr=>∃k:Nat,k<=n/\i=E F (k:Int)/\(∃oa oc,o=C oa k oc)/\(∃ma mc,m=C ma k mc)/\Hid (Yw true w.heap.size wr o (ES f k)/\Yw false w.heap.size wr m (ES f k)/\Bl w wr)) λ_ _ i _=>n-(intOf i).toNat
 case atStart=>exact⟨0,AH _,J,⟨_,_,J⟩,⟨_,_,J⟩,Z ⟨Yw.nil _ _ _,Yw.nil _ _ _,BB _ _⟩⟩
 case round=>
  obtain⟨k,hk,rfl,⟨oa,oc,rfl⟩,⟨ma,mc,rfl⟩,Q⟩:=hrel;by_cases X:k<n
  . have Qh:(k:Int)<(n:Int):=O
    have Qy:=Z (show k+1<=1099511627776 by omega);obtain⟨b,an,rfl,bi,bj⟩:=A.o k X;have Qx:=Z λ(V:H) (h:Bl w V)=>(h.cell (p:=⟨b,an+k,none⟩) bi).trans bj;have Qm:=Qx.o wr Q.o.2.2;clear bi bj;go_wp2_with(first
     |(go_at_call 20;refine(HG.o k _).mono ?_;clear HG;rintro e w1 ⟨u1,rfl,aq,ai⟩;obtain⟨ew,di,er,dw,f7,dt,ei,dz,rfl⟩:=Jj.form aq;obtain⟨v9,w9,bd,ce,bu,bh⟩:=TI w.heap.size w1 _ _ _ (Q.o.1.below ai) (Q.o.2.1.below ai) aq (by rw[Y0];exact Qy.o) (AM Q.o.2.2.size ai.size);have Qt:=Z ce;have Qz:=Z bu;have Qf:=Z (bh w.heap.size w (Aa _) (Bt Q.o.2.2 ai));clear ce bu bh aq ai Qm;have Qm:=Qx.o w9 Qf.o)
     |(go_at_call 21;refine(Qk.o k X _).mono ?_;clear Qk;rintro e w2 ⟨u2,rfl,ay,aj⟩;obtain⟨dj,et,dx,f6,du,en,ed,f8,rfl⟩:=Jv.form ay;obtain⟨v8,w8,bf,bt,bz,bg⟩:=TJ w.heap.size w2 _ _ _ _ (Qt.o.below aj) (Qz.o.below aj) ay (by rw[Y0];exact Qy.o) (AM Qf.o.size aj.size);have Qr:=Z bz;have Ua:=Z bt;have Ue:=Z (bg w.heap.size w (Aa _) (Bt Qf.o aj));clear bz bt bg ay aj Qm Qt Qz Qf)
     |(at_builtin;refine Lib.wpList_append_run _ J _ _ 22 22 J _ _ J J _ _ bd ?_;clear bd)
     |(at_builtin;refine Lib.wpList_append_run _ J _ _ 30 30 J _ _ J J _ _ bf ?_;clear bf))
    obtain⟨a9,c9,e9,_⟩:=Qr.o.form;obtain⟨a8,c8,e8,_⟩:=Ua.o.form;go_roundw
    case rel=>
     refine⟨k+1,O,by go_num,⟨a9,c9,?_⟩,⟨a8,c8,?_⟩,Z ⟨?_,?_,Ue.o⟩⟩
     . rw[<-Gi,Y0]at e9;exact e9
     . rw[<-Gi,Y0]at e8;exact e8
     . rw[Gi];exact Qr.o
     . rw[Gi];exact Ua.o
    case measure=>simp[intOf];omega
  . obtain rfl:n=k:=O
    rw[Uh.o]at Q;clear A HG Qk X;have HO:=Z (RU (C oa n oc) fs wr (Q.o.1.row (by have:=Qg.o;omega)) HQ.o);go_upto_region 9 with(go_at_call 22;refine HO.o.mono ?_;clear HO;rintro e x ⟨u,rfl,hu,bm,y⟩;obtain⟨ap,lp,cp,rfl⟩:=hu.form)
    have hA:Bl x (x.alloc (G #[C ap lp cp] 25)):=Ba x _;have nP:=BI x 25 (C ap lp cp);have rP:=hu.row.below hA;have Qq:w.heap.size<=x.heap.size:=AM Q.o.2.2.size y.size;have Qj:Bl wr (x.alloc (G #[C ap lp cp] 25)):=Bt y hA
    obtain⟨VP,hV⟩:=ex (x.alloc (G #[C ap lp cp] 25));obtain⟨BP,P⟩:=ex (x.heap.size);rw[hV]at rP Qj;rw[hV,P]at nP;rw[P]at Qq;rw[hV];rw[P];have HM:=Z (Rr (C ma n mc) fs VP ((Q.o.2.1.row (by have:=Qg.o;omega)).below Qj));have Ub:=Z λ(W:H) (qv:Value) (h:Bl VP W) (quo:RowK false W qv (JE fs))=>TK Q.o.1 Q.o.2.1 Qg.o Q.o.2.2 bm (Bt Qj h) Qq (nP.bel h) (rP.below h) quo;clear hA hV P hu bm y nP rP Qq Qj Q;obtain⟨lq,bn⟩:=ex ((JE fs).length);have ef:lq<=1048576:=by have:=Ul.o;have:=Qg.o;omega
    have Qs:=Z bn;clear bn;go_wp2_with(go_at_call 23;refine HM.o.mono ?_;clear HM;rintro e w6 ⟨u,rfl,hu,y⟩;obtain⟨qa,qc,ee,-⟩:=id hu;rw[Qs.o]at ee;subst ee)
    have Qv:=Z (Ub.o _ _ y hu);clear Ub hu y;go_loopw [8] (λiv wr=>∃k:Nat,k<=n/\iv=E F (k:Int)/\Hid (OfS w n fs oa ma BP ap lp cp (C qa lq qc) k wr)) λiv _=>n-(intOf iv).toNat
    case atStart=>exact⟨0,AH _,J,Qv⟩
    case round=>
     obtain⟨k,co,rfl,HS⟩:=hrel;clear Qv;by_cases X:k<n
     . have Qh:(k:Int)<(n:Int):=O
       obtain⟨gI,rfl,-⟩:=HS.o.inn O;obtain⟨gM,rfl,-⟩:=HS.o.mro O;have Qd:=Z (show k<fs.length/\0<n by have:=Qg.o;omega);obtain⟨q,v⟩:=ex (cf fs k);obtain⟨HE,HF,Qc⟩:=DY (λ(V:H) (h:Df wr V)=>(HS.o.below h).elem J X) (λ(V:H) (h:Df wr V)=>(HS.o.below h).melem J Qd.o.1 Qd.o.2) (HQ.o.at k);rw[v]at HE HF Qc;obtain⟨TV,ah⟩:∃S:ByteArray,⟨(JL q).toArray⟩=S:=⟨_,J⟩;have Qe:=Z ah;have Qb:=Z λ(V:H) (h:Df wr V)=>JV HT.o (HS.o.below h).bel;clear v ah;go_wp2_with fail
       have Qn:Df wr wr.drew:=Df.drew wr;refine J4 Dj [[],[],[0,1],[2],[3],[],[],[5,6],[7],[8,4],[4,9]] TS DI
        (λD ad V=>∃(ta tb tc td te tf tg ti tj tk tl:Value),ad={ tmps:=#[C a n cap,B,u2,C (some ⟨gI,0,none⟩) n oc,C (some ⟨gM,0,none⟩) n mc,E F ↑n,N (some ⟨BP,0,none⟩),C qa lq qc,E F ↑k,B,B,E F ↑n,C a n cap,E F ↑n,L false,u15,u16,u17,u18,u19,u20,u21,u22,u23,u24,u25,u26,u27,u28,u29,u30,u31,u32,C (some ⟨gI,0,none⟩) n oc,.agg #[C ap lp cp],C (some ⟨gM,0,none⟩) n mc,C qa lq qc,E F ↑k,C (some ⟨gI,0,none⟩) n oc,E F ↑n,L true,u41,u42,ta,tb,tc,td,te,tf,tg,ti,tj,tk,tl,u54,u55,u56,u57,B,B,B,B,B,B,B,B,B,B,B,B,B,B,B,B,B,B,B,B,B,B,B,B,B,B,B,B,B,B,B,B,B],defers:=[] }/\Hid ((D 0=true->ta=C (some ⟨gI,0,none⟩) n oc)/\(D 1=true->tb=E F (k:Int))/\(D 2=true->tc=N (some ⟨gI,k*4,none⟩))/\(D 3=true->Jj V td q)/\(D 4=true->te=M TV)/\(D 5=true->tf=C (some ⟨gM,0,none⟩) n mc)/\(D 6=true->tg=E F (k:Int))/\(D 7=true->ti=N (some ⟨gM,k*4,none⟩))/\(D 8=true->Jv V tj q)/\(D 9=true->tk=M TV)/\(D 10=true->tl=L false))/\Hid (Df wr V))
        (E8 ⟨_,_,_,J,Z ⟨sp,sp,sp,sp,sp,sp,sp,sp,sp,sp,sp⟩,Z Qn⟩) ?step1 ?fin1
       case step1=>
        rintro D ad V i ds cn U g ck ⟨ta,tb,tc,td,te,tf,tg,ti,tj,tk,tl,rfl,d,c⟩;have Uf:i<11:=(As.1 U).1;obtain rfl|rfl|rfl|rfl|rfl|rfl|rfl|rfl|rfl|rfl|rfl:=Gr i O
        all_goals
         simp only[AY,AQ,AU]at U;subst U
        . have l:=c.o;clear g;refine Db ?_;exact⟨(Eg d),Z (c.o)⟩
        . have l:=c.o;clear g;refine Db ?_;exact⟨(Eh d),Z (c.o)⟩
        . have l:=c.o;obtain rfl:=d.o.1 (g 0 sp);obtain rfl:=d.o.2.1 (g 1 sp);clear g;refine Db ?_;exact⟨(Ei (Eh (Eg d))),Z (c.o)⟩
        . have l:=c.o;obtain rfl:=d.o.2.2.1 (g 2 sp);obtain⟨s9,a9,l9,c9,t9,b9,k9,d9,e0,e1,e2,e3,hr⟩:=HE.o V l;clear g;refine Db ?_;exact⟨(FB (Ei d) λ_=>hr),Z (c.o)⟩
        . have l:=c.o;have h0:=d.o.2.2.2.1 (g 3 sp);clear g;have A:=Z (Ir _ q V h0 Qc.o (Qb.o V l));rw[Qe.o]at A;clear h0;refine Ju J J λK hK=>?_;go_simp;go_wp2_with(go_at_call 16;refine A.o.mono ?_;rintro e x ⟨rfl,z⟩)
          obtain⟨G0,G1,G2,G3,_,G5,G6,G7,G8,G9⟩:=d.o;exact E8 ⟨_,_,_,J,Z ⟨G0,G1,G2,λh=>(G3 h).below z,λ_=>rfl,G5,G6,G7,λh=>(G8 h).below z,G9⟩,Z (c.o.below z)⟩
        . have l:=c.o;clear g;refine Db ?_;exact⟨(GI d),Z (c.o)⟩
        . have l:=c.o;clear g;refine Db ?_;exact⟨(FC d),Z (c.o)⟩
        . have l:=c.o;obtain rfl:=Hx d (g 5 sp);obtain rfl:=Hy d (g 6 sp);clear g;refine Db ?_;exact⟨(Fd (FC (GI d))),Z (c.o)⟩
        . have l:=c.o;obtain rfl:=Ko d (g 7 sp);obtain⟨a9,l9,c9,s9,b9,k9,d9,t9,e0,e1,e2,e3,hr⟩:=HF.o V l;clear g;refine Db ?_;exact⟨(GJ (Fd d) λ_=>hr),Z (c.o)⟩
        . have l:=c.o;have h0:=Kp d (g 8 sp);clear g;have A:=Z (Is _ q V h0 Qc.o);rw[Qe.o]at A;clear h0;refine Ju J J λK hK=>?_;go_simp;go_wp2_with(go_at_call 17;refine A.o.mono ?_;rintro e x ⟨rfl,z⟩)
          obtain⟨G0,G1,G2,G3,G4,G5,G6,G7,G8,_,cj⟩:=d.o;exact E8 ⟨_,_,_,J,Z ⟨G0,G1,G2,λh=>(G3 h).below z,G4,G5,G6,G7,λh=>(G8 h).below z,λ_=>rfl,cj⟩,Z (c.o.below z)⟩
        . have l:=c.o;obtain rfl:=d.o.2.2.2.2.1 (g 4 sp);obtain rfl:=Kq d (g 9 sp);clear g;refine Db ?_;exact⟨(Fg (GK (Fc d))),Z (c.o)⟩
       case fin1=>
        rintro D ad de ae ⟨ta,tb,tc,td,te,tf,tg,ti,tj,tk,tl,rfl,d,c⟩;obtain rfl:=d.o.2.2.2.2.2.2.2.2.2.2 (ae 10 DI);have hS:=HS.o.below c.o;obtain⟨s9,a9,l9,c9,t9,b9,k9,d9,e0,e1,e2,e3,_⟩:=hS.elem J X;have f0:=hS.frozen J Qd.o.2 (k*4);have f1:=hS.frozen J Qd.o.2 (k*4+1);have f2:=hS.frozen J Qd.o.2 (k*4+2);have f3:=hS.frozen J Qd.o.2 (k*4+3);have Ud:=Z (hS.put J X);clear d c ae hS;go_wp2_with fail
        go_roundw
        case rel=>exact⟨k+1,O,by go_num,Ud⟩
        case measure=>simp[intOf];omega
     . obtain rfl:n=k:=O
       clear X co hk;go_wp2_with fail
       go_loopw [9] (λiv wr=>∃k:Nat,k<=lq/\iv=E F (k:Int)/\Hid (OfS w n fs oa ma BP ap lp cp (C qa lq qc) n wr)) λiv _=>lq-(intOf iv).toNat
       case atStart=>exact⟨0,AH _,J,HS⟩
       case round=>
        obtain⟨k,cy,rfl,R⟩:=hrel;clear HS;by_cases X:k<lq
        . have Qh:(k:Int)<(lq:Int):=O
          have HY:=Z (RW (.agg #[C ap lp cp]) (JE fs) (k:Int) wr ⟨_,J,R.o.pol⟩);rw[BJ O,CG]at HY;have Qc:=Z (Qo.o.at k);obtain⟨cz,_,_,_,s,t,aa,bb,ll,cc,kk,dd,bk⟩:=R.o.quo.formsF;obtain⟨U,T,rfl,ak,c0,c1,c2,c3⟩:=bk k X;obtain⟨q,v⟩:=ex (cf (JE fs) k);rw[v]at HY Qc U;obtain⟨TV,ah⟩:∃S:ByteArray,⟨(JL q).toArray⟩=S:=⟨_,J⟩;have Qe:=Z ah;have Ug:=Z λ(V:H) (P:Bl wr V)=>(show(V.cell? ⟨T,k*4,none⟩=some (C (aa k) (ll k) (cc k))/\V.cell? ⟨T,k*4+1,none⟩=some (L (s k))/\V.cell? ⟨T,k*4+2,none⟩=some (C (bb k) (kk k) (dd k))/\V.cell? ⟨T,k*4+3,none⟩=some (L (t k)))/\Jv V (.agg #[C (aa k) (ll k) (cc k),L (s k),C (bb k) (kk k) (dd k),L (t k)]) q from⟨⟨(P.cell (p:=⟨T,_,none⟩) ak).trans c0,(P.cell (p:=⟨T,_,none⟩) ak).trans c1,(P.cell (p:=⟨T,_,none⟩) ak).trans c2,(P.cell (p:=⟨T,_,none⟩) ak).trans c3⟩,U.below P⟩);have eP:=R.o.box.cell;clear cz bk U ak c0 c1 c2 c3 v ah;go_wp2_with(go_at_call 11;refine HY.o.mono ?_;clear HY;rintro e x ⟨u5,rfl,az,z⟩;obtain⟨s5,a5,l5,c5,t5,b5,k5,d5,rfl⟩:=Jj.form az)
          have hA:Bl x (x.alloc (G #[L s5,C a5 l5 c5,L t5,C b5 k5 d5] 38)):=Ba x _;have nC:=JA.new x 38 (L s5) (C a5 l5 c5) (L t5) (C b5 k5 d5);have rC:=az.below hA;have Qi:=Z (Bt z hA);obtain⟨VC,hV⟩:=ex (x.alloc (G #[L s5,C a5 l5 c5,L t5,C b5 k5 d5] 38));obtain⟨BC,P⟩:=ex (x.heap.size);rw[hV]at rC Qi;rw[hV,P]at nC;rw[hV];rw[P];clear hA hV P az z eP;have Qb:=Z λ(V:H) (h:Df VC V)=>JV HT.o (R.o.below (Bt Qi.o h)).bel;have Qn:Df VC VC.drew:=Df.drew VC;refine J4 Dj [[],[0],[],[],[2,3],[4],[5,1],[1,6]] TS DI
           (λD ad V=>∃(tm tn tp tq tr ts tt tu:Value),ad={ tmps:=#[C a n cap,B,u2,C oa n oc,C ma n mc,E F ↑n,N (some ⟨BP,0,none⟩),C (some ⟨T,0,none⟩) lq qc,E F ↑n,E F ↑k,N (some ⟨BC,0,none⟩),E F ↑n,C a n cap,E F ↑n,L false,u15,u16,u17,u18,u19,u20,u21,u22,u23,u24,u25,u26,u27,u28,u29,u30,u31,u32,C oa n oc,.agg #[C ap lp cp],C ma n mc,C (some ⟨T,0,none⟩) lq qc,E F ↑n,C oa n oc,E F ↑n,L false,u41,u42,u43,u44,u45,u46,u47,u48,u49,u50,u51,u52,u53,u54,u55,u56,u57,E F ↑k,C (some ⟨T,0,none⟩) lq qc,E F ↑lq,L true,u62,u63,.agg #[C ap lp cp],E F ↑k,.agg #[L s5,C a5 l5 c5,L t5,C b5 k5 d5],tm,tn,tp,tq,tr,ts,tt,tu,B,B,B,B,B,B,B,B,B,B,B,B,B,B,B,B],defers:=[] }/\Hid ((D 0=true->tm=.agg #[L s5,C a5 l5 c5,L t5,C b5 k5 d5])/\(D 1=true->tn=M TV)/\(D 2=true->tp=C (some ⟨T,0,none⟩) lq qc)/\(D 3=true->tq=E F (k:Int))/\(D 4=true->tr=N (some ⟨T,k*4,none⟩))/\(D 5=true->Jv V ts q)/\(D 6=true->tt=M TV)/\(D 7=true->tu=L false))/\Hid (Df VC V))
           (E8 ⟨J,Z ⟨sp,sp,sp,sp,sp,sp,sp,sp⟩,Z Qn⟩) ?step2 ?fin2
          case step2=>
           rintro D ad V i ds cn U g ck ⟨tm,tn,tp,tq,tr,ts,tt,tu,rfl,d,c⟩;have Uf:i<8:=(As.1 U).1;obtain rfl|rfl|rfl|rfl|rfl|rfl|rfl|rfl:=M6 i O
           all_goals
            simp only[AY,AQ,AU]at U;subst U
           . have l:=c.o;obtain⟨e0,e1,e2,e3⟩:=(nC.below l).cq;clear g;refine Db ?_;exact⟨(Eg d),Z (c.o)⟩
           . have l:=c.o;obtain rfl:=d.o.1 (g 0 sp);clear g;have A:=Z (Ir _ q V (rC.below l) Qc.o (Qb.o V l));rw[Qe.o]at A;refine Ju J J λK hK=>?_;go_simp;go_wp2_with(go_at_call 16;refine A.o.mono ?_;rintro e x ⟨rfl,z⟩)
             obtain⟨_,_,G2,G3,G4,G5,G6⟩:=d.o;exact E8 ⟨J,Z ⟨λ_=>rfl,λ_=>rfl,G2,G3,G4,λh=>(G5 h).below z,G6⟩,Z (c.o.below z)⟩
           . have l:=c.o;clear g;refine Db ?_;exact⟨(Ei d),Z (c.o)⟩
           . have l:=c.o;clear g;refine Db ?_;exact⟨(FB d),Z (c.o)⟩
           . have l:=c.o;obtain rfl:=d.o.2.2.1 (g 2 sp);obtain rfl:=d.o.2.2.2.1 (g 3 sp);clear g;refine Db ?_;exact⟨(Fc (FB (Ei d))),Z (c.o)⟩
           . have l:=c.o;obtain rfl:=d.o.2.2.2.2.1 (g 4 sp);obtain⟨⟨e0,e1,e2,e3⟩,hr⟩:=Ug.o V (Bt Qi.o l);clear g;refine Db ?_;exact⟨(GI (Fc d) λ_=>hr),Z (c.o)⟩
           . have l:=c.o;have h0:=Hx d (g 5 sp);clear g;have A:=Z (Is _ q V h0 Qc.o);rw[Qe.o]at A;clear h0;refine Ju J J λK hK=>?_;go_simp;go_wp2_with(go_at_call 17;refine A.o.mono ?_;rintro e x ⟨rfl,z⟩)
             obtain⟨G0,G1,G2,G3,G4,G5,_,G7⟩:=d.o;exact E8 ⟨J,Z ⟨G0,G1,G2,G3,G4,λh=>(G5 h).below z,λ_=>rfl,G7⟩,Z (c.o.below z)⟩
           . have l:=c.o;obtain rfl:=d.o.2.1 (g 1 sp);obtain rfl:=Hy d (g 6 sp);clear g;refine Db ?_;exact⟨(Kn (FC (Eh d))),Z (c.o)⟩
          case fin2=>
           rintro D ad dh ae ⟨tm,tn,tp,tq,tr,ts,tt,tu,rfl,d,c⟩;obtain rfl:=d.o.2.2.2.2.2.2.2 (ae 7 DI);have Uk:=Z (R.o.below (Bt Qi.o c.o));clear d c ae;go_wp2_with fail
           go_roundw
           case rel=>exact⟨k+1,O,by go_num,Uk⟩
           case measure=>simp[intOf];omega
        . obtain rfl:lq=k:=O
          clear X cy;have eh:F.wrap ((lq:Int)-1)=(lq:Int)-1:=by rw[Bk];omega
          have Qb:=Z λ(V:H) (h:Df wr V)=>JV HT.o (R.o.below h).bel;obtain⟨H1,H2,H3,H4⟩:=Dl (λ(V:H) (h:Df wr V)=>MN (.agg #[C ap lp cp]) (JE fs) V ⟨_,J,(R.o.below h).pol⟩ Qo.o Uc.o (Qb.o V h)) (λ(V:H) (h:Df wr V)=>Si (C qa lq qc) (JE fs) V (R.o.below h).quo Qo.o Uc.o Ui.o (Qb.o V h)) (λ(V:H) (h:Df wr V)=>L3 (.agg #[C ap lp cp]) (JE fs) V ⟨_,J,(R.o.below h).pol⟩) λ(V:H) (h:Df wr V)=>TH V (Qb.o V h);rw[Uj.o]at H1 H2;rw[Qs.o]at H3;have v:Df wr wr:=BB _ _;have eP:=(R.o.below v).box.cell;go_wp2_with(first
           |(go_at_call 13;refine(H1.o _ v).mono ?_;clear H1;rintro e x1 ⟨rfl,y⟩;replace v:=Df.below v y;clear y eP;have eP:=(R.o.below v).box.cell)
           |(go_at_call 14;refine(H2.o _ v).mono ?_;clear H2;rintro e x2 ⟨rfl,y⟩;replace v:=Df.below v y;clear y eP;have eP:=(R.o.below v).box.cell)
           |(go_at_call 15;refine(H3.o _ v).mono ?_;clear H3;rintro e x3 ⟨rfl,y⟩;replace v:=Df.below v y;clear y eP)
           |(go_at_call 19;refine(H4.o _ v).mono ?_;clear H4;rintro e x4 ⟨rfl,y⟩;replace v:=Df.below v y;clear y))
          go_ret;exact⟨J,(R.o.below v).bel⟩

