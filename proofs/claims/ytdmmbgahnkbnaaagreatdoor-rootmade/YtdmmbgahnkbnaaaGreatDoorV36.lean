import Derived.Test.YtdmmbgahnkbnaaaGreatDoorV35
import Derived.Defers
import Derived.Recover
set_option linter.all false
open Go.Value renaming slice->C,int->G,pointer->L,bool->P,string->W
open Go.IntKind renaming i64->F
open Go.Obj renaming cells->H
open Go renaming undef->I,World->T
open Go.Proofs.Tryz renaming prog->U
set_option maxRecDepth 99999
set_option maxHeartbeats 0
namespace Go.Proofs.YtdmmbgahnkbnaaaGreatDoor
open Go.RowKit Go.Shelf
attribute [local go_sem] Oper.semAt_some
section
variable{cs:Array Value}{m:Nat × Nat}{t:TypeId}{W':T}
def nE(p q:Addr)(w:T):
 CallsD U 184 #[L (some p),L (some q)] .returning w λe d w'=>e=.returned (.tuple #[])/\d=.returning/\w'=w.alloc (H #[G F 0,G F 0] 152):=by
 have a:∀w:T,(Instr.typeAssert Value.nilIface 20 152 true).run U w=.ok (.tuple #[.agg #[G F 0,G F 0],P false]) w:=λ_=>by kernel_rfl
 refine callsD_of_wpS Tryz.func184 rfl λb cs c=>?_;apply wpS_seq;apply wpS_region;simp[wpOpsS,go_sem,recoverD,c,Tryz.ntmps184,Exit.thenS,a];apply wpS_seq;apply wpS_region;simp[wpOpsS,go_sem,Exit.thenS];refine wpS_cond (t:=false) (by simp[Act.eval,Array.replicate]) ?_;simp only[CR,if_false];refine wpS_of_wp (wp_skip ?_);cases b;simp_all [bodyPostS,results,Tryz.results184]
def nF(p q:Nat)(a p0:Int)(w:T)(g:Boxed w p 25 (C none 0 0))(i:JC w q 152 (G F 0) (G F 0))(k:p≠q):
 CallsD U 184 #[L (some ⟨p,0,none⟩),L (some ⟨q,0,none⟩)] (.panicking [{ v:=Hm a p0,recovered:=false }]) w λe A w'=>e=.returned (.tuple #[])/\A=.panicking [{ v:=Hm a p0,recovered:=true }]/\Boxed w' p 25 (C none 0 0)/\JC w' q 152 (G F a) (G F p0)/\∀n w0,Below n w0 w->n<=w.heap.size->n<=p->n<=q->Below n w0 w':=by
 unfold Hm;have l:∀w:T,(Instr.typeAssert (.iface 152 (.agg #[G F a,G F p0])) 20 152 true).run U w=.ok (.tuple #[.agg #[G F a,G F p0],P true]) w:=λ_=>by kernel_rfl
 refine callsD_of_wpS Tryz.func184 rfl λB cs r=>?_;apply wpS_seq;apply wpS_region;simp[wpOpsS,go_sem,recoverD,r,Tryz.ntmps184,Exit.thenS,l];apply wpS_seq;apply wpS_region;simp[wpOpsS,go_sem,Exit.thenS];refine wpS_cond (t:=true) (by simp[Act.eval,Array.replicate]) ?_;simp only[if_true];refine wpS_of_wp ?_;simp[Array.replicate];have d:=JC.new w 152 (G F a) (G F p0);have c:=g.alloc (H #[G F a,G F p0] 152);have b:=i.alloc (H #[G F a,G F p0] 152);have x:p≠w.heap.size:=by have:=g.lt;omega
 have y:q≠w.heap.size:=by have:=i.lt;omega
 have f:=Z λ(n:Nat) (w0:T) (h:Below n w0 w) (hn:n<=w.heap.size)=>h.alloc hn (H #[G F a,G F p0] 152);obtain⟨W,j⟩:=ex (w.alloc (H #[G F a,G F p0] 152));rw[j]at d c b f;rw[j];obtain⟨D,hD⟩:=ex (w.heap.size);rw[hD]at d x y f;rw[hD];clear j g i l r;obtain⟨d0,d1⟩:=d.cp;have x0:=c.cell;have x1:=c.frozen;obtain⟨y0,y1⟩:=b.cp;obtain⟨z0,E⟩:=b.fp;have s:=Z c;have u:=Z b;clear c b d;go_region
 have hX:Boxed (((W.setCell ⟨p,0,none⟩ (C none 0 0)).setCell ⟨q,0,none⟩ (G F a)).setCell ⟨q,1,none⟩ (G F p0)).drew p 25 (C none 0 0):=
  (BC _ ⟨q,1,none⟩ (G F p0) p k).trans ((BC _ ⟨q,0,none⟩ (G F a) p k).trans (s.o.set (C none 0 0)))
 have o:JC (((W.setCell ⟨p,0,none⟩ (C none 0 0)).setCell ⟨q,0,none⟩ (G F a)).setCell ⟨q,1,none⟩ (G F p0)).drew q 152 (G F a) (G F p0):=
  (((u.o.far (p:=⟨p,0,none⟩) (λe=>k e.symm) _).set0 _).set1 _).drew
 have hZ:∀n w0,Below n w0 w->n<=D->n<=p->n<=q->Below n w0 (((W.setCell ⟨p,0,none⟩ (C none 0 0)).setCell ⟨q,0,none⟩ (G F a)).setCell ⟨q,1,none⟩ (G F p0)).drew:=
  λn w0 h hn z m=>((((f.o n w0 h hn).setCell (p:=⟨p,0,none⟩) z _).setCell (p:=⟨q,0,none⟩) m _).setCell (p:=⟨q,1,none⟩) m _).drew
 generalize (((W.setCell ⟨p,0,none⟩ (C none 0 0)).setCell ⟨q,0,none⟩ (G F a)).setCell ⟨q,1,none⟩ (G F p0)).drew=V at hX o hZ ⊢;simp[bodyPostS,results,Tryz.results184];exact⟨hX,o,hZ⟩
theorem nG(s:ByteArray)(g q0:Int)(w:T)(p:∀V R,Db V R s 0->Calls U 185 #[L (some ⟨R,0,none⟩)] V λr w'=>V.grownBy w' (some R)/\r=.panicked [{ v:=Hm g q0,recovered:=false }]):
 Calls U 106 #[W s] w λr w'=>r=.returned (.tuple #[.agg #[C none 0 0],.agg #[G F g,G F q0]])/\Bl w w':=by
 have n:=Z p;clear p;go_enter_defers Tryz.func106,Tryz.ntmps106
 go_upto_region 3 with fail
 have b:=BG w 25 (C none 0 0);have a:=JC.new (w.alloc (H #[C none 0 0] 25)) 152 (G F 0) (G F 0);have c:Db (((w.alloc (H #[C none 0 0] 25)).alloc (H #[G F 0,G F 0] 152)).alloc (H #[W s,G F 0] 222)) ((w.alloc (H #[C none 0 0] 25)).alloc (H #[G F 0,G F 0] 152)).heap.size s 0:=BD _ _;rw[Ax,Ax]at c;rw[Ax]at a;replace b:=(b.alloc (H #[G F 0,G F 0] 152)).alloc (H #[W s,G F 0] 222);replace a:=a.alloc (H #[W s,G F 0] 222);have j:Bl w (((w.alloc (H #[C none 0 0] 25)).alloc (H #[G F 0,G F 0] 152)).alloc (H #[W s,G F 0] 222)):=((Ba w _).alloc (by rw[Ax];omega) _).alloc (by rw[Ax,Ax];omega) _;have t:(((w.alloc (H #[C none 0 0] 25)).alloc (H #[G F 0,G F 0] 152)).alloc (H #[W s,G F 0] 222)).heap.size=w.heap.size+1+1+1:=by rw[Ax,Ax,Ax]
 obtain⟨V,i⟩:=ex (((w.alloc (H #[C none 0 0] 25)).alloc (H #[G F 0,G F 0] 152)).alloc (H #[W s,G F 0] 222));rw[i]at b a c j t;rw[i];obtain⟨u,l,m,x⟩:=Dt b a j (n.o _ _ c);clear b a c j i n t;go_wp2_with(go_at_call 185;refine x.o.mono ?_;rintro e w1 ⟨q,rfl⟩;have d:=Z q;clear q)
 have z:Boxed w1 w.heap.size 25 (C none 0 0):=u.o.kept d.o (λe=>by have:=Co e;omega);have y:JC w1 (w.heap.size+1) 152 (G F 0) (G F 0):=(d.o.block _ l.o.lt λe=>by have:=Co e;omega).trans l.o;have o:=m.o.grown d.o m.o.size (λk e=>by grind);refine leaves_cons (f:=184) (args:=#[L (some ⟨w.heap.size,0,none⟩),L (some ⟨w.heap.size+1,0,none⟩)]) DI (by simp[go_sem]) ?_;refine(nF w.heap.size (w.heap.size+1) g q0 _ z y O).mono ?_;rintro e K w2 ⟨rfl,rfl,A,B,D⟩;have E:=D _ _ o o.size (Aa _) O;have x0:=A.cell;obtain⟨y0,y1⟩:=B.cp;simp[Leaves,settle,results,Tryz.results106,go_sem,x0,y0,y1];exact E
theorem nH{W:T}{F:Nat}(hF:W.heap[F]?=some (H cs t m))(j:t=152)(hg:W.grownBy W' (some F)):∀k v ds,Row k W v ds->Row k W' v ds:=by
 intro k v ds c;obtain⟨a,cap,e,_⟩:=id c;subst e;refine c.grown hg λp g hl=>?_;obtain⟨b,n,f,d,l,i⟩:=c.typ hl;grind
def WE{W:T}{F:Nat}(hF:W.heap[F]?=some (H cs t m))(g:t=152)(hg:W.grownBy W' (some F)){r:Bool}{v:Value}{qs:List Rat}(h:RowK r W v qs):RowK r W' v qs:=by
 obtain⟨a,cap,e,k,c,l,d⟩:=h;refine⟨a,cap,e,k,c,l,?_⟩;rcases d with d|⟨b,i,f⟩
 . exact Or.inl d
 . refine Or.inr ⟨b,i,f.keep (hg.block b f.lt λe=>?_) (nH hF g hg)⟩;obtain⟨n,j,_⟩:=f;have e:=Co e;subst e;have:=j.symm.trans hF;simp only[AR,DB]at this;subst g;have c:=this.2.1;revert c;cases r<;>(show ¬(_=_);decide)
theorem nI(s:ByteArray)(ps:List Rat)(w:T)(hP:∀V R,Db V R s 0->Calls U 185 #[L (some ⟨R,0,none⟩)] V λr w'=>V.grownBy w' (some R)/\∃u,r=.returned u/\Je w' u ps):
 Calls U 106 #[W s] w λr w'=>∃u,r=.returned (.tuple #[u,.agg #[G F 0,G F 0]])/\Je w' u ps/\Bl w w':=by
 have N:=Z hP;clear hP;go_enter_defers Tryz.func106,Tryz.ntmps106
 go_upto_region 3 with fail
 have g:=BG w 25 (C none 0 0);have c:=JC.new (w.alloc (H #[C none 0 0] 25)) 152 (G F 0) (G F 0);have l:Db (((w.alloc (H #[C none 0 0] 25)).alloc (H #[G F 0,G F 0] 152)).alloc (H #[W s,G F 0] 222)) ((w.alloc (H #[C none 0 0] 25)).alloc (H #[G F 0,G F 0] 152)).heap.size s 0:=BD _ _;rw[Ax,Ax]at l;rw[Ax]at c;replace g:=(g.alloc (H #[G F 0,G F 0] 152)).alloc (H #[W s,G F 0] 222);replace c:=c.alloc (H #[W s,G F 0] 222);have B:Bl w (((w.alloc (H #[C none 0 0] 25)).alloc (H #[G F 0,G F 0] 152)).alloc (H #[W s,G F 0] 222)):=((Ba w _).alloc (by rw[Ax];omega) _).alloc (by rw[Ax,Ax];omega) _;have hz:(((w.alloc (H #[C none 0 0] 25)).alloc (H #[G F 0,G F 0] 152)).alloc (H #[W s,G F 0] 222)).heap.size=w.heap.size+1+1+1:=by rw[Ax,Ax,Ax]
 obtain⟨V,A⟩:=ex (((w.alloc (H #[C none 0 0] 25)).alloc (H #[G F 0,G F 0] 152)).alloc (H #[W s,G F 0] 222));rw[A]at g c l B hz;rw[A];obtain⟨H0,E,M,HC⟩:=Dt g c B (N.o _ _ l);clear g c l B A N hz;go_wp2_with(go_at_call 185;refine HC.o.mono ?_;rintro e w1 ⟨ae,u1,rfl,D⟩;have m:=Z ae;obtain⟨a,d,b,rfl⟩:=D.form;have HU:=Z D.row;have j:Boxed w1 w.heap.size 25 (C none 0 0):=H0.o.kept m.o (λe=>by have:=Co e;omega);have i:JC w1 (w.heap.size+1) 152 (G F 0) (G F 0):=(m.o.block _ E.o.lt λe=>by have:=Co e;omega).trans E.o;have x0:=j.cell;have x1:=j.frozen;obtain⟨y0,y1⟩:=i.cp;obtain⟨z0,z1⟩:=i.fp;have K:=Z j;have H3:=Z i;clear ae D j i)
 have n:w.heap.size+1≠w.heap.size:=O
 have Qd:=M.o.grown m.o M.o.size (λk e=>by grind);have Q:=K.o.set (C a d b);have S:=GD K.o (C a d b) HU.o;have v:=H3.o.far (p:=⟨w.heap.size,0,none⟩) n (C a d b);have X:=Qd.setCell (p:=⟨w.heap.size,0,none⟩) (Aa _) (C a d b);generalize w1.setCell ⟨w.heap.size,0,none⟩ (C a d b)=o at Q S v X ⊢;have b1:=(BC o ⟨w.heap.size+1,0,none⟩ (G F 0) w.heap.size λe=>n e.symm).trans Q;have b2:=WE v rfl (J2 o (w.heap.size+1) 0 (G F 0)) S;have x:=v.set0 (G F 0);have b4:=X.setCell (p:=⟨w.heap.size+1,0,none⟩) DH (G F 0);generalize o.setCell ⟨w.heap.size+1,0,none⟩ (G F 0)=q at b1 b2 x b4 ⊢;have d1:=(BC q ⟨w.heap.size+1,1,none⟩ (G F 0) w.heap.size λe=>n e.symm).trans b1;have d2:=WE x rfl (J2 q (w.heap.size+1) 1 (G F 0)) b2;have y:=x.set1 (G F 0);have z:=b4.setCell (p:=⟨w.heap.size+1,1,none⟩) DH (G F 0);generalize q.setCell ⟨w.heap.size+1,1,none⟩ (G F 0)=t at d1 d2 y z ⊢;refine leaves_cons (f:=184) (args:=#[L (some ⟨w.heap.size,0,none⟩),L (some ⟨w.heap.size+1,0,none⟩)]) DI (by simp[go_sem]) ?_;refine(nE ⟨w.heap.size,0,none⟩ ⟨w.heap.size+1,0,none⟩ _).mono ?_;rintro e u' w2 ⟨rfl,rfl,rfl⟩;have e1:Boxed t w.heap.size 25 (C a d b):=d1;have f1:=(e1.alloc (H #[G F 0,G F 0] 152)).cell;have f2:=(y.alloc (H #[G F 0,G F 0] 152)).c0;have f3:=(y.alloc (H #[G F 0,G F 0] 152)).c1;have f4:=z.alloc z.size (H #[G F 0,G F 0] 152);have f5:=d2.below (Ba t (H #[G F 0,G F 0] 152));generalize t.alloc (H #[G F 0,G F 0] 152)=W5 at f1 f2 f3 f4 f5 ⊢;simp[Leaves,settle,results,Tryz.results106,go_sem,f1,f2,f3];exact⟨⟨_,rfl,f5⟩,f4⟩
def Ks(l:List UInt8)(w':T)(u:Value)(e p:Int):Prop:=e=((IR l).2.1:Int)/\p=((IR l).2.2:Int)/\Je w' u (IR l).1
def nJ(s:ByteArray)(hs:s.size<=300)(w:T):
 Calls U 106 #[W s] w λr w'=>∃u e p,r=.returned (.tuple #[u,.agg #[G F e,G F p]])/\Ks (Jk s) w' u e p/\Bl w w':=by
 have a:=lW (l:=Jk s) (by rw[JG];omega);cases b:Gv (Jk s)with
 |error f q0=>
  rw[b]at a;refine(nG s f q0 w λV R c=>(WB R s V c hs).mono λr w' h=>⟨h.1,h.2.1 _ _ b⟩).mono ?_;rintro r w' ⟨rfl,d⟩;refine⟨_,_,_,rfl,?_,d⟩;rw[Ks,a];exact⟨rfl,rfl,_,rfl,RowK.nil _ _⟩
 |ok S k=>
  rw[b]at a;refine(nI s (Jc S) w λV R c=>(WB R s V c hs).mono λr w' h=>⟨h.1,by obtain⟨u,g,i,_⟩:=h.2.2 _ _ b;exact⟨u,g,i⟩⟩).mono ?_;rintro r w' ⟨u,rfl,j,d⟩;refine⟨_,_,_,rfl,?_,d⟩;rw[Ks,a];exact⟨rfl,rfl,j⟩
def WF(s:ByteArray)(w:T):
 Calls U 42 #[W s] w λr w'=>∃u e p,r=.returned (.tuple #[u,G F e,G F p])/\Ks (Jk s) w' u e p/\Bl w w':=by
 by_cases o:300<s.size
 . have S:(300:Int)<(s.size:Int):=O
   have A:=Z (show IR (Jk s)=([],1,0)by unfold IR;rw[BF (by rw[JG];exact o)]);clear o;go_enter Tryz.func42,Tryz.ntmps42
   go_wp2;exact BA (v:=.tuple #[.agg #[C none 0 0],G F 1,G F 0]) (by simp[results,Tryz.results42,go_sem]) rfl ⟨_,_,_,rfl,by rw[Ks,A.o];exact⟨rfl,rfl,_,rfl,RowK.nil _ _⟩,Ba w _⟩
 . have S:¬(300:Int)<(s.size:Int):=O
   have q:=Z λ(V:T)=>nJ s O V;clear o;go_enter Tryz.func42,Tryz.ntmps42
   go_upto_region 4 with(go_at_call 106;refine(q.o _).mono ?_;clear q;rintro e w1 ⟨u1,f,p1,rfl,a,b⟩;obtain⟨c,i,d,rfl⟩:=a.2.2.form;have l:=Z a;have k:=Z b;clear a b)
   have M:w.heap.size<w1.heap.size:=by have:=k.o.size;rw[Ax]at this;omega
   have q0:Boxed w1 w.heap.size 25 (C none 0 0):=(k.o.block _ (by rw[Ax];omega)).trans (BG w 25 (C none 0 0));have y:=(Ba w _).trans (k.o.mono (by rw[Ax];omega));have g:=BG w1 25 (C c i d);have j:=JC.new (w1.alloc (H #[C c i d] 25)) 152 (G F f) (G F p1);rw[Ax]at j;replace g:=g.alloc (H #[G F f,G F p1] 152);have hA:Bl w1 ((w1.alloc (H #[C c i d] 25)).alloc (H #[G F f,G F p1] 152)):=(Ba w1 _).alloc (by rw[Ax];omega) _;have q1:=(hA.block _ q0.lt).trans q0;have b:=Bt y hA;have a:=l.o.2.2.row.below hA;have z:=Z (⟨l.o.1,l.o.2.1⟩:f=_/\p1=_);have t:w.heap.size≠w1.heap.size:=O
   have x:w.heap.size≠w1.heap.size+1:=O
   generalize (w1.alloc (H #[C c i d] 25)).alloc (H #[G F f,G F p1] 152)=R at g j hA q1 b a ⊢;clear hA q0 y k l M;obtain⟨Q,m⟩:=ex (w.heap.size);obtain⟨B,n⟩:=ex (w1.heap.size);rw[n]at g j t x;rw[m]at q1 t x;rw[n,m];have q2:Boxed R Q 25 (C none 0 0):=q1;have x0:=g.cell;obtain⟨y0,y1⟩:=j.cp;have z0:=q2.cell;have X:=q2.frozen;obtain⟨K,E,N,D⟩:=Dt q2 m b a;clear g j q1 q2 m n b a;go_region
   go_wp2_with fail
   have r0:=z0;refine BA (v:=.tuple #[.agg #[C c i d],G F f,G F p1]) (by simp[results,Tryz.results42,go_sem,r0]) rfl ⟨_,_,_,rfl,⟨z.o.1,z.o.2,_,rfl,?_⟩,?_⟩
   . exact(GD K.o (C c i d) D.o).below ((BB _ _).drew)
   . exact(N.o.setCell (p:=⟨Q,0,none⟩) (by rw[E.o];exact Aa _) _).drew
end
section
variable{k m:Nat}
theorem DQ.abs{q:Rat}(h:DQ k q):DQ k (Yn q):=by
 grind[kN,DQ,Sm]
theorem nK(z:List Rat)(i:Nat)(a:Rat)(q:List Rat):∀(j k:Nat),i+j<=k->cf (Xi z i a q j) k=cf z k:=by
 intro j;induction j with
 |zero=>intro k _;rfl
 |succ j b=>
  intro k hk;grind[Xi,Gk,Ff]
theorem OB(z:List Rat)(i:Nat)(a:Rat)(q:List Rat):∀(j k:Nat),cf (Xi z i a q j) k=cf z k\/cf (Xi z i a q j) k=cf z k+a*cf q (k-i):=by
 intro j;induction j with
 |zero=>intro k;exact Or.inl rfl
 |succ j b=>
  intro k;grind[Xi,Gk,nK,Ff]
def DQ.mul2{p q:Rat}(hp:DQ k p)(hq:DQ m q):DQ (k+m) (p*q):=by
 rw[<-Pj];refine DQ.divInt ?_ (hp.1.mul hq.1) (hp.2.mul hq.2);exact Cv (by have:=p.den_nz;omega) (by have:=q.den_nz;omega)
def DQ.inv{q:Rat}(hq:DQ m q)(a:q≠0):DQ m q⁻¹:=by
 rw[Rat.inv_def];exact DQ.divInt (λe=>a (Fo.1 e)) hq.2 hq.1
def DQ.div2{p q:Rat}(hp:DQ k p)(hq:DQ m q)(a:q≠0):DQ (k+m) (p/q):=by
 rw[FG];exact hp.mul2 (hq.inv a)
def Ig{p:List Rat}(hp:Jc p=p)(h:∀i,m<=i->cf p i=0):p.length<=m:=by
 by_cases hl:p.length<=m
 . exact hl
 . exfalso
   exact Jt hp DH (h _ O)
end
namespace M3
def ZQ(V:T)(g r:Nat):Prop:=∀j,j<r->V.cell? ⟨g,j*4,none⟩=some (P false)/\V.cell? ⟨g,j*4+1,none⟩=some (C none 0 0)/\V.cell? ⟨g,j*4+2,none⟩=some (P false)/\V.cell? ⟨g,j*4+3,none⟩=some (C none 0 0)
variable{cs:Array Value}{n:Int}{bs bs':List (Option (Nat × Dat))}{S:List Rat}{B B4 X g gQ i r:Nat}{t:TypeId}{v:Value}{V V' w:T}
theorem ZQ.of(h:ZQ V g r)(e:V'.heap[g]?=V.heap[g]?):ZQ V' g r:=λj a=>by
 obtain⟨b,c,d,f⟩:=h j a;grind[BT]
def Gf(w V:T)(bs:List (Option (Nat × Dat)))(B4:Nat)(n:Int)(gQ r:Nat):Prop:=DJ w V bs/\Boxed V B4 3 (.int F n)/\ZQ V gQ r/\gQ<V.heap.size
def Gf.below{w V V':T}{bs:List (Option (Nat × Dat))}{B4:Nat}{n:Int}{gQ r:Nat}(h:Gf w V bs B4 n gQ r)(a:Bl V V'):Gf w V' bs B4 n gQ r:=
 ⟨h.1.below a,(a.block B4 h.2.1.lt).trans h.2.1,h.2.2.1.of (a.block gQ h.2.2.2),An h.2.2.2 a.size⟩
def Gf.own{w V V':T}{bs:List (Option (Nat × Dat))}{B4:Nat}{n:Int}{gQ r:Nat}{row:Option Nat}(h:Gf w V bs B4 n gQ r)(f:∃cs t m,V.heap[gQ]?=some (H cs t m))(hg:V.grownBy V' row)(c:∀x,row=some x->w.heap.size<=x/\∃o:Obj,V.heap[x]?=some o/\o.isCells=false):Gf w V' bs B4 n gQ r:=by
 have a:∀r,row=some r->∃o:Obj,V.heap[r]?=some o/\o.isCells=false:=λr e=>(c r e).2;refine⟨h.1.own hg c,YM hg a (show Bx V B4 3 #[G F n]from h.2.1),h.2.2.1.of ?_,An h.2.2.2 hg.size⟩;obtain⟨cs,t,m,e⟩:=f;refine hg.block gQ h.2.2.2 λd=>?_;obtain⟨o,b,g⟩:=a gQ d.symm;rw[e]at b;cases b;cases g
def MV(V:T)(m:Nat):Has V (.agg (YH m)) (.rats (List.replicate m 0)):=by
 refine⟨YH m,rfl,λj a=>?_⟩;rw[AK]at a;obtain⟨b,c,d,e⟩:=Nx a;exact⟨_,_,_,_,b,c,d,e,by rw[Yg];exact Xx _⟩
def Gx(w:T)(a c:Option Addr)(la b lb d m:Nat)(e:Option Addr)(rc B5 gQ:Nat)(x:Option (Nat × Dat))(Q:List Rat):List (Option (Nat × Dat)):=
 [some (w.heap.size,.cell 25 (C a la b)),some (w.heap.size+1,.cell 25 (C c lb d)),some (w.heap.size+1+1,.cell 25 (C Option.none 0 0)),some (w.heap.size+1+1+1,.cell 25 (C Option.none 0 0)),
  x,some (B5,.cell 23 (C e la rc)),some (gQ,.rats Q),some (gQ+1,.cell 23 (C (some ⟨gQ,0,Option.none⟩) m m)),some (gQ+1+1,.cell 23 (C (some ⟨gQ,0,Option.none⟩) m m))]
def g4(la g:Nat)(R:List Rat):Option (Nat × Dat):=if la=0 then none else some (g,.rats R)
theorem nL(p:List Rat)(i:Nat)(c:Rat)(j:Nat):cf (p.set i c) j=c\/cf (p.set i c) j=cf p j:=by
 grind[Gk,Ff]
def Gf.upd(h:Gf w V bs B4 n gQ r)(f:DJ w V' bs')(b:∀B,B≠X->V'.heap[B]?=V.heap[B]?)(c:B4≠X)(d:gQ≠X):Gf w V' bs' B4 n gQ r:=by
 have e:=b gQ d;refine⟨f,(b B4 c).trans h.2.1,h.2.2.1.of e,?_⟩;refine Nat.lt_of_not_le λhle=>?_;have a:=Array.getElem?_eq_none_iff.2 hle;rw[e]at a;exact absurd (Array.getElem?_eq_none_iff.1 a) (by have:=h.2.2.2;omega)
def F1(w W V:T)(bs:List (Option (Nat × Dat)))(B4:Nat)(n:Int)(gQ r:Nat):Prop:=Gf w V bs B4 n gQ r/\KeepsOthers W V
def F1.below{w W V V':T}{bs:List (Option (Nat × Dat))}{B4:Nat}{n:Int}{gQ r:Nat}(h:F1 w W V bs B4 n gQ r)(a:Bl V V'):F1 w W V' bs B4 n gQ r:=⟨h.1.below a,h.2.trans (Xm a)⟩
theorem WG{m:Nat × Nat}(h:Boxed V B4 3 v)(a:V.heap[X]?=some (H cs 41 m)):B4≠X:=λe=>by
 subst e;have:=a.symm.trans h;grind
def nM(V:T)(C:Nat)(x y z u:Value)(B:Nat)(h:B≠C):(put4 V C x y z u).heap[B]?=V.heap[B]?:=
 (BC _ ⟨C,3,none⟩ u B h).trans ((BC _ ⟨C,2,none⟩ z B h).trans ((BC _ ⟨C,1,none⟩ y B h).trans (BC V ⟨C,0,none⟩ x B h)))
def F1.al{W:T}(h:F1 w W V bs B4 n gQ r){o:Obj}(m:DJ w (V.alloc o) bs'):F1 w W (V.alloc o) bs' B4 n gQ r:=
 have k:=h.below (Ba V o)
 ⟨⟨m,k.1.2⟩,k.2⟩
def F1.up{W:T}{p:Nat × Nat}(h:F1 w W V bs B4 n gQ r)(m:DJ w V' bs')(c:V.heap[X]?=some (H cs 41 p))(b:∀B,B≠X->V'.heap[B]?=V.heap[B]?)(a:gQ≠X)(k:KeepsOthers V V'):F1 w W V' bs' B4 n gQ r:=
 ⟨h.1.upd m b (WG h.1.2.1 c) a,h.2.trans k⟩
theorem nO{o a:Nat}{x:Value}(h:o≠a):(V.setCell ⟨g,a,none⟩ x).cell? ⟨g,o,none⟩=V.cell? ⟨g,o,none⟩:=World.cell?_setCell_other _ _ _ _ DH
theorem ZQ.put(h:ZQ V g (i+1))(x y z u:Value):ZQ (putAt V g (i*4) x y z u) g i:=λj e=>by
 obtain⟨a,b,c,d⟩:=h j O;grind[putAt,nO]
def boxed_below(h:Boxed V B t v)(a:Bl V V'):Boxed V' B t v:=(a.block B h.lt).trans h
def Ih(V:T)(D:Nat)(rs a:Value)(R Q:List Rat):Prop:=RowK true V rs R/\RowK true V a Q/\V.heap[D]?=some (.deferred (some []))
def Ih.below{V V':T}{D:Nat}{rs b:Value}{R Q:List Rat}(h:Ih V D rs b R Q)(a:Bl V V'):Ih V' D rs b R Q:=⟨h.1.below a,h.2.1.below a,(a.block D (Ab.1 h.2.2).1).trans h.2.2⟩
def Ih.set{D:Nat}{rs f:Value}{R Q:List Rat}(h:Ih V D rs f R Q){a:Option Addr}{l c:Nat}(b:Boxed V B 25 (C a l c))(x:Value):Ih (V.setCell ⟨B,0,none⟩ x) D rs f R Q:=
 ⟨GD b x h.1,GD b x h.2.1,(BC _ ⟨B,0,none⟩ x D λe=>by
  have e:D=B:=e;have d:=h.2.2;rw[e,show V.heap[B]?=_ from b]at d;cases d).trans h.2.2⟩
def DJ.asPoly(M:DJ w V bs)(h:bs[i]?=some (some (B,.cell 25 (C Option.none 0 0)))):DJ w V (bs.set i (some (B,.poly []))):=by
 have b:∀j B' d,(bs.set i (some (B,.poly [])))[j]?=some (some (B',d))->(∃a,bs[j]?=some (some (B',a)))/\((∃cs,Bx V B' d.ty cs/\Has V (.agg cs) d)/\w.heap.size<=B'):=λj B' d e=>by
  rw[List.getElem?_set]at e;split at e
  . rename_i m;subst m;split at e
    . cases e;exact⟨⟨_,h⟩,⟨_,(M.cell h).1,QJ V⟩,(M.1 i _ _ h).2⟩
    . cases e
  . exact⟨⟨_,e⟩,M.1 j _ _ e⟩
 exact⟨λj B' d e=>(b j B' d e).2,λj k B' d a c f=>by
  obtain⟨⟨_,g⟩,_⟩:=b j B' d c;obtain⟨⟨_,l⟩,_⟩:=b k B' a f;exact M.2.1 j k B' _ _ g l,M.2.2⟩
def MW(w2:T)(a:Option Addr)(la rc m:Nat):T:=(((w2.alloc (H #[C a la rc] 23)).alloc (H (YH m) 41)).alloc (H #[C (some ⟨w2.heap.size+1,0,none⟩) m m] 23)).alloc (H #[C (some ⟨w2.heap.size+1,0,none⟩) m m] 23)
theorem nR(A:Nat)(y qa:Option Addr)(la E lb x n m:Nat)(ps qs:List Rat)(w:T)(ha:RowK true w (C y la E) ps)(hb:RowK true w (C qa lb x) qs)(hq:∀i,DQ A (cf qs i))(dx:Jc qs=qs)(df:qs≠[])(hL:∀k,k<=m->∃z,z+(2*A+1)<=1000000000/\(k<m->2*z+2*(2*A+1)<=1000000000)/\(∀i,DQ z (cf (JO ps qs n m k).2 i))/\∀i,DQ (z+A) (cf (JO ps qs n m k).1 i))(hn:lb=n+1)(hm:la-n=m):
 Calls U 193 #[.agg #[C y la E],.agg #[C qa lb x]] w λe w'=>∃u v,e=.returned (.tuple #[u,v,P true])/\Je w' u (Jn ps qs)/\Je w' v (JU ps qs)/\Bl w w':=by
 obtain⟨co,fi,fo,gu,s,t,aa,bb,ll,cc,kk,dd,gh⟩:=ha.forms;obtain⟨Qk,fm,fx,ig,s',t',ah,ai,ay,aj,aq,am,cn⟩:=hb.forms;obtain⟨V0,ei,bg⟩:=U6 25 (.cell 25 (C y la E)) EO 25 (.cell 25 (C qa lb x)) EO 25 (.cell 25 (C none 0 0)) EO 25 (.cell 25 (C none 0 0)) EO (w:=w);have M1:=bg.o;have Wk:=Z (show Calls U 26 #[.agg #[C qa lb x]] V0 λe w'=>e=.returned (G F (n:Int))/\Bl V0 w' by
  have h:=Yv (.agg #[C qa lb x]) qs V0 ⟨_,rfl,hb.below M1.2.2⟩;rwa[show((qs.length:Int)-1)=(n:Int)by omega]at h)
 have Wg:=Z λ(V:T) (h:Bl w V)=>kV (C y la E) ps V (ha.below h);have ij:∀W:T,(Instr.makeSlice 23 (G F (m:Int)) (G F (m:Int))).run U W=.ok (C (some ⟨W.heap.size,0,none⟩) m m) (W.alloc (H (YH m) 41)):=λW=>MH m O W;obtain⟨d,iu⟩:=ex ((la:Int)-(n:Int):Int);have iy:IntKind.i64.wrap d=d:=by rw[BH];omega
 have ii:max (0:Int) d=(m:Int):=O
 have io:¬(n:Int)<0:=O
 obtain⟨HQ,Qb,Qe,S,Qr,Ug,Ui,HL⟩:=IX cn co Qk (show lb=n+1/\la-n=m from⟨hn,hm⟩) hq dx df hL;have Qj:m<=1099511627776:=O
 clear ha hb gh cn co Qk fi fo fm fx hq dx df hL hn hm M1;have c1:=(bg.o.cell (i:=1) rfl).1.cell;refine(BI (n:=3)).1 ?_;refine BO Tryz.func193 rfl trivial ?_ rfl;simp only[Tryz.ntmps193,Ar,Ah,AG,Nat.reduceAdd,Nat.reduceSub,At,Au,AC,Aw,Al,Ay];gi_wp2_with fail
 rw[ei.o];refine⟨trivial,?_⟩;refine((BI (n:=_)).2 Wk.o).mono ?_;rintro e w1 ⟨rfl,ck⟩;have Ue:Bl w1 (w1.alloc (H #[G F (n:Int)] 3)):=Ba w1 _;have Qo:=(bg.o.below ck).below Ue;have h4:=BG w1 3 (G F (n:Int));have c0:=(Qo.cell (i:=0) rfl).1.cell;obtain⟨Qg,Qt,H4⟩:=DX (Wg.o _ Qo.2.2) Qo h4;clear Ue Qo h4 ck c1;gi_wp2_with fail
 obtain⟨V1,bz⟩:=ex (w1.alloc (H #[G F (n:Int)] 3));obtain⟨B4,bi⟩:=ex (w1.heap.size);rw[bz]at Qg Qt H4 c0;rw[bi]at H4;rw[bz,bi];clear bz bi;refine⟨trivial,?_⟩;refine((BI (n:=_)).2 Qg.o).mono ?_;rintro e w2 ⟨u2,rfl,dz,_,bf,de⟩;have gi:∃a gR rc,u2=C a la rc/\(la≠0->a=some ⟨gR,0,none⟩)/\(la≠0->V1.heap.size<=gR/\Dm true w2 gR ps)/\la<=rc/\rc<=9223372036854775807:=by
  obtain⟨a7,fg,e7,h7,h8,_⟩:=id dz;rcases de with rfl|⟨g',cap,e1,e2,e3⟩
  . injection e7 with _ e7
    have h0:=Qb.o.trans e7.symm;exact⟨_,0,_,by rw[h0],λh=>absurd h0 h,λh=>absurd h0 h,O,O⟩
  . rw[e1]at e7;have e8:cap=fg:=by injection e7
    exact⟨_,g',cap,by rw[e1,Qb.o],λ_=>rfl,λ_=>⟨e2,e3⟩,by rw[Qb.o,e8];exact h7,by rw[e8];exact h8⟩
 obtain⟨a,gR,rc,rfl,dh,bu,di,dj⟩:=gi;have Qi:=Z (show(la≠0->a=some ⟨gR,0,none⟩)/\la<=rc/\rc<=9223372036854775807 from⟨dh,di,dj⟩);clear di dj dh;have Uf:DJ w w2 ([some (w.heap.size,.cell 25 (C y la E)),some (w.heap.size+1,.cell 25 (C qa lb x)),some (w.heap.size+1+1,.cell 25 (C Option.none 0 0)),some (w.heap.size+1+1+1,.cell 25 (C Option.none 0 0))]++[g4 la gR ps]):=by
  unfold g4;split
  . exact(Qt.o.below bf).none
  . exact Qt.o.adopt bf (bu (by assumption)).1 (bu (by assumption)).2
 have h4:Boxed w2 B4 3 (G F (n:Int)):=(bf.block B4 H4.o.lt).trans H4.o;have Uk:=Ba w2 (H #[C a la rc] 23);have h5:=boxed_below h4 Uk;have c4:=h5.cell;have Uv:=Z (Uf.push (.cell 23 (C a la rc)) (cs:=#[C a la rc]) ⟨rfl,rfl⟩);have H5:=Z h5;clear de dz bf bu Uf h4 Uk h5 c0;gi_wp2_with fail
 refine⟨trivial,?_⟩;refine(QH Fence.wide _ trivial rfl _ _ _ _).mono ?_;rintro e w3 ⟨rfl,rfl⟩;have Qm:=Z (show Gf w (MW w2 a la rc m) (Gx w y qa la E lb x m a rc w2.heap.size (w2.heap.size+1) (g4 la gR ps) (List.replicate m 0)) B4 (n:Int) (w2.heap.size+1) m by
  have Uo:=((Uv.o.push (.rats (List.replicate m 0)) (MV _ m)).push (.cell 23 (C (some ⟨w2.heap.size+1,0,none⟩) m m)) (cs:=#[C (some ⟨w2.heap.size+1,0,none⟩) m m]) ⟨rfl,rfl⟩).push (.cell 23 (C (some ⟨w2.heap.size+1,0,none⟩) m m)) (cs:=#[C (some ⟨w2.heap.size+1,0,none⟩) m m]) ⟨rfl,rfl⟩;simp only[Ax]at Uo;have hz:(MW w2 a la rc m).heap[w2.heap.size+1]?=some (H (YH m) 41 (0,0)):=by
   have e:=BD (w2.alloc (H #[C a la rc] 23)) (H (YH m) 41);rw[Ax]at e;exact(Be _ _ _ (by simp only[Ax];omega)).trans ((Be _ _ _ DH).trans e)
  exact⟨Uo,boxed_below (boxed_below (boxed_below H5.o (Ba _ _)) (Ba _ _)) (Ba _ _),λj hj=>by
   obtain⟨h0,h1,h2,N⟩:=Nx hj;exact⟨cell_of hz h0,cell_of hz h1,cell_of hz h2,cell_of hz N⟩,(Ab.1 hz).1⟩)
 obtain⟨W3,an⟩:=ex (MW w2 a la rc m);rw[an]at Qm;have Ql:W3.heap.size=w2.heap.size+1+1+1+1:=by rw[<-an];simp only[MW,Ax]
 unfold MW at an;rw[an];simp only[Ax];obtain⟨B5,bj⟩:=ex (w2.heap.size);rw[bj]at Qm Ql;rw[bj];clear Ql an bj c4;gi_wp2_with fail
 have Ul:=Z (show w.heap.size<=W3.heap.size from Qm.o.1.2.2.size);refine XT rfl O (gf:=239) (lb:=#[L (some ⟨B5+1+1+1,0,none⟩)]) rfl trivial (Bn Tryz.func239 (by kernel_rfl) rfl)
  (QG Fence.wide _ trivial rfl O (B5+1+1+1) (some ⟨B5+1,0,none⟩) m m (λ_=>P false) (λ_=>C none 0 0) (λ_=>P false) (λ_=>C none 0 0) Qj) (λ_=>rfl)
  (λk W=>Gf w W (Gx w y qa la E lb x m a rc B5 (B5+1) (g4 la gR (JO ps qs n m k).2) (JO ps qs n m k).1) B4 (n:Int) (B5+1) (m-k)) (λ_ _ _=>False)
  (λk W W' row h hg hr=>h.own (by obtain⟨cs,h1,_⟩:=h.1.rats (i:=6) rfl;exact⟨cs,_,_,h1⟩) hg λr e=>⟨Ac Ul.o (hr r e).1,(hr r e).2⟩)
  (λc s W W' row h=>h.elim) Qm.o ?rd
  (λk=>{ tmps:=#[.agg #[C y la E],.agg #[C qa lb x],L (some ⟨w.heap.size,0,none⟩),L (some ⟨w.heap.size+1,0,none⟩),L (some ⟨w.heap.size+1+1,0,none⟩),L (some ⟨w.heap.size+1+1+1,0,none⟩),P false,L (some ⟨B4,0,none⟩),L (some ⟨B5,0,none⟩),L (some ⟨B5+1+1,0,none⟩),G F ((m:Int)-1-k),I,I,I,I,.agg #[C qa lb x],G F ↑n,G F ↑n,P (decide ((n:Int)<0)),I,I,L (some ⟨w.heap.size,0,none⟩),C y la E,C a la rc,C a la rc,G F ↑la,G F ↑n,G F d,G F ↑m,C (some ⟨B5+1,0,none⟩) m m,C (some ⟨B5+1,0,none⟩) m m,.func (.func 239) #[] #[L (some ⟨B5+1+1+1,0,none⟩)],G F ((m:Int)-1-k),.agg #[P false,C none 0 0,P false,C none 0 0],I,I,I,I,I,I,I,I,I,I,I,I,I,I,I,I,I,I,I,I,I,I,I,I,I,I,I,I,I,I,I,I,I,I,I,I,I,I,I,I,I,I,I,I,I,I,I],defers:=[] }) ?assign ?body ?done ?stop
 case stop=>intro D c k W _ _ h;exact h.elim
 case rd=>
  intro k W h;refine⟨(h.1.cell (i:=8) rfl).1.cell,λhk=>?_⟩;obtain⟨h0,h1,h2,N⟩:=h.2.2.1 (m-1-k) O;exact⟨B5+1,rfl,h0,h1,h2,N⟩
 case assign=>
  intro l k W K hK;unfold MF;gi_wp2;exact hK
 case body=>
  intro l k W hS hk Ql;have Ud:la≠0:=by have:=S.o;omega
  obtain rfl:=Qi.o.1 Ud;have HG:=Z (show ∀X,g4 la gR X=some (gR,.rats X)from λ_=>BE Ud);rw[HG.o]at hS;obtain⟨gq,M,rfl,fh,q0,q1,q2,q3⟩:=HQ.o n (by have:=S.o;omega);have Ur:=Z (show ∀j,j<lb->∀V,Bl w V->(V.cell? ⟨M,j*4,none⟩=some (P (s' j))/\V.cell? ⟨M,j*4+1,none⟩=some (C (ah j) (ay j) (aj j))/\V.cell? ⟨M,j*4+2,none⟩=some (P (t' j))/\V.cell? ⟨M,j*4+3,none⟩=some (C (ai j) (aq j) (am j)))/\Jf V (.agg #[P (s' j),C (ah j) (ay j) (aj j),P (t' j),C (ai j) (aq j) (am j)]) (cf qs j)from λj hj V hB=>by
   obtain⟨hi,b,e,hb,c0,c1,c2,c3⟩:=HQ.o j hj;cases e;exact⟨⟨(hB.cell (p:=⟨M,_,none⟩) hb).trans c0,(hB.cell (p:=⟨M,_,none⟩) hb).trans c1,(hB.cell (p:=⟨M,_,none⟩) hb).trans c2,(hB.cell (p:=⟨M,_,none⟩) hb).trans c3⟩,hi.below hB⟩)
  clear gq fh q0 q1 q2 q3;have Qa:cf qs n≠0:=by
   have:=Jt Ug.o Ui.o;rwa[show qs.length-1=n by have:=S.o;have:=Qe.o;omega]at this
  obtain⟨z,gy,cj,ae,ap⟩:=HL.o k O;have Qv:z+(2*A+1)+(z+(2*A+1))<=1000000000:=O
  clear gy;obtain⟨i,hi⟩:=ex (m-(k+1):Nat);obtain⟨R,hR⟩:=ex ((JO ps qs n m k).2);obtain⟨Q,hQ⟩:=ex ((JO ps qs n m k).1);have Uy:R.length=la:=by rw[<-hR,(Xu ps qs n m k).2];exact Qb.o.symm
  have Wj:Q.length=m:=by rw[<-hQ];exact(Xu ps qs n m k).1
  rw[hR,hQ]at hS;rw[hR]at ae;obtain⟨t0,gv⟩:=ex (i+n:Nat);obtain⟨c,hc⟩:=ex (cf R t0/cf qs n);have Up:JO ps qs n m (k+1)=(Q.set i c,Xi R i (-c) qs qs.length):=by rw[JO];grind
  have Qd:DQ (z+A) c:=by rw[<-hc];exact(ae t0).div2 (Qr.o n) Qa
  obtain⟨Wb,Qh,Ub⟩:=DX (show Sq c from Sq.of Qd O) (show ∀j,Sq (cf qs j)from λj=>Sq.of (Qr.o j) O) (show ∀j,Sq (c*cf qs j)from λj=>Sq.of (Qd.mul2 (Qr.o j)) O);have Wa:=Z (show ∀j t,Sq (cf (Xi R i (-c) qs j) t)from λj t=>by
   rcases OB R i (-c) qs j t with e|e
   . rw[e];exact Sq.of (ae t) O
   . rw[e];exact Sq.of ((ae t).add2 (Qd.neg.mul2 (Qr.o _))) O)
  obtain⟨Qu,Uu,Qw,Qy,Qc⟩:=IE (show Sq (cf R t0)from Sq.of (ae t0) O) hc (show decide (cf qs n≠0)=true from BJ Qa) Up (show R.length=la/\Q.length=m/\t0<la/\i<m/\m-k=i+1/\m-(k+1)=i by have:=S.o;omega);have Un:(m:Int)-1-(k:Int)=(i:Int):=O
  have ia:(i:Int)+(n:Int)=(t0:Int):=O
  have iz:IntKind.i64.wrap (t0:Int)=(t0:Int):=by rw[BH];have:=S.o;omega
  have iw:(t0:Int)<(la:Int):=by have:=Qc.o;omega
  have il:(n:Int)<(lb:Int):=by have:=S.o;omega
  have ic:(i:Int)<(m:Int):=by have:=Qc.o;omega
  rw[Un];have Qf:F1 w W W.drew (Gx w y (some ⟨M,0,none⟩) la E lb x m (some ⟨gR,0,none⟩) rc B5 (B5+1) (some (gR,.rats R)) Q++[Option.none]) B4 (n:Int) (B5+1) (m-k):=⟨⟨(hS.1.below ((BB _ W).drew)).none,(hS.below ((BB _ W).drew)).2⟩,Xm ((BB _ W).drew)⟩;clear hS hi hR hQ Uy Wj gv hc Qd cj ae ap Qv Qa Up Un Ql;gi_wp2_with fail
  refine LN (Or.inr ⟨l,rfl⟩) Dh [[],[],[],[1,2],[0,3],[4],[],[6],[],[7,8],[9],[5,10],[11],[12],[12],[],[15,13,11,0,1,2,3,4,5,6,7,8,9,10,11,12,13,15],[14,16,0,1,2,3,4,5,6,7,8,9,10,11,12,13,14,15,16]] [.eq (C (some ⟨gR,0,none⟩) la rc),.eq (G F (i:Int)),.eq (G F (n:Int)),.eq (G F (t0:Int)),.eq (L (some ⟨gR,t0*4,none⟩)),.rat (cf R t0),.eq (L (some ⟨w.heap.size+1,0,none⟩)),.eq (C (some ⟨M,0,none⟩) lb x),.eq (G F (n:Int)),.eq (L (some ⟨M,n*4,none⟩)),.rat (cf qs n),.tup1 (.rat c),.tup1 (.rat c),.rat c,.eq (P true),.ptr,.eq I,.eq (P true)] [15,16] (λb v V=>F1 w W V (Gx w y (some ⟨M,0,none⟩) la E lb x m (some ⟨gR,0,none⟩) rc B5 (B5+1) (some (gR,.rats R)) Q++[nb b v 0 1 (.rat 0) (.rat c)]) B4 (n:Int) (B5+1) (m-k)) Qf (SR (.vl rfl λ_ j=>MD 5 j.1.1)<|SR (.vl rfl λ_ _=>mv)<|SR (.vl rfl λ_ j=>⟨_,by have e0:=j.1.2.1.cell;refine DP ?_;go_simp,rfl⟩)<|SR (.vl rfl λh _=>⟨_,by refine DP ?_;rw[h.e 1,h.e 2];go_simp,rfl⟩)<|SR (.vl rfl λh _=>⟨_,by refine DP ?_;rw[h.e 0,h.e 3];go_simp,rfl⟩)<|SR (.vl rfl λh j=>QB 4 j.1.1 (by have:=Qc.o;omega) (h.e 4))<|SR (.vl rfl λ_ _=>⟨_,by refine DP ?_;go_simp,rfl⟩)<|SR (.vl rfl λh j=>⟨_,by have e0:=(j.1.1.cell (i:=1) rfl).1.cell;refine DP ?_;rw[h.e 6];go_simp,rfl⟩)<|SR (.vl rfl λ_ j=>⟨_,by have e0:=j.1.2.1.cell;refine DP ?_;go_simp,rfl⟩)<|SR (.vl rfl λh _=>⟨_,by refine DP ?_;rw[h.e 7,h.e 8];go_simp,rfl⟩)<|SR (.vl rfl λh j=>by
     obtain⟨⟨e0,e1,e2,e3⟩,hr⟩:=Ur.o n (by have:=S.o;omega) _ j.1.1.2.2;exact⟨_,by refine DP ?_;rw[h.e 9];go_simp,hr⟩)<|SR (.cl λh _=>Ni (by
     have q:=QF _ _ (cf R t0) (cf qs n) _ (h.g 5) (h.g 10) Qu.o (Qh.o n);rw[Qw.o,Uu.o]at q;exact q))<|SR (.vl rfl λh _=>mw (h.g 11))<|SR (.vl rfl λh _=>Nq (h.g 12))<|SR (.vl rfl λh _=>Ns (h.g 12))<|SR (.wr rfl λ_ j=>Nl 9 j.1.1 (hT:=λm=>j.al m))<|SR (.wr rfl λh j=>LP 9 j.1.1 (h.g 13) (hp:=h.g 15) (hT:=λn m=>j.up m n (nM _ _ _ _ _ _) (j.1.1.ne 6 9 rfl rfl DK) (QM _ _ _ _ _ _)))<|SR (.vl rfl λh _=>aw (h.g 14)) Stp.end_)
   λf V hF MM=>?_
  refine DP ?_;obtain⟨Bc,bm⟩:=hF.p 15;rw[hF.e 0,hF.e 1,hF.e 2,hF.e 3,hF.e 4,hF.e 6,hF.e 7,hF.e 8,hF.e 9,hF.e 14,hF.e 17,bm];have MM:=Dw MM;simp only[bm]at MM;have HM:=Z MM;clear hF bm MM;obtain⟨s8,a8,l8,c8,t8,b8,k8,d8,n8,r8,i8,j8⟩:=HM.o.1.1.rat (i:=9) rfl;obtain⟨e0,e1,e2,e3⟩:=n8.cq;have e6:=(HM.o.1.1.cell (i:=7) rfl).1.cell;have hE:=HM.o.1.1.rats (i:=6) rfl;obtain⟨z0,z1,z2,z3⟩:=HM.o.1.2.2.1 i (by have:=Qc.o;omega);have f0:=hE.frozen (i*4);have f1:=hE.frozen (i*4+1);have f2:=hE.frozen (i*4+2);have f3:=hE.frozen (i*4+3);have Qz:=Z (show F1 w W (putAt V (B5+1) (i*4) (P s8) (C a8 l8 c8) (P t8) (C b8 k8 d8)) (Gx w y (some ⟨M,0,none⟩) la E lb x m (some ⟨gR,0,none⟩) rc B5 (B5+1) (some (gR,.rats R)) (Q.set i c)++[some (Bc,.rat c)]) B4 (n:Int) (B5+1) i from by
   have hp:=HM.o.1.1.putRats (i:=6) rfl (j:=i) (by have:=Qc.o;omega) r8;obtain⟨cs,Qd,_⟩:=hE;refine⟨⟨hp,(L8 (WG HM.o.1.2.1 Qd) _ _ _ _).trans HM.o.1.2.1,ZQ.put (by have h:=HM.o.1.2.2.1;rwa[Qc.o.2.2.2.2.1]at h) _ _ _ _,?_⟩,HM.o.2.trans (VS _ _ _ _ _ _ _)⟩;exact(Ab.1 (U3 Qd _ _ _ _)).1)
  have c9:=(Qz.o.1.1.cell (i:=1) rfl).1.cell;unfold putAt at c9;clear n8 i8 j8 hE r8;gi_wp2_with fail
  obtain⟨W9,az⟩:=ex (putAt V (B5+1) (i*4) (P s8) (C a8 l8 c8) (P t8) (C b8 k8 d8));rw[az]at Qz;unfold putAt at az;rw[az];clear az c9 e0 e1 e2 e3 e6 z0 z1 z2 z3 f0 f1 f2 f3;gi_loopw [56] (λjv wr=>∃j:Nat,j<=lb/\jv=G F (j:Int)/\Hid (F1 w W wr (Gx w y (some ⟨M,0,none⟩) la E lb x m (some ⟨gR,0,none⟩) rc B5 (B5+1) (some (gR,.rats (Xi R i (-c) qs j))) (Q.set i c)++[some (Bc,.rat c)]) B4 (n:Int) (B5+1) i)) λjv _=>lb-(intOf jv).toNat
  case atStart=>exact⟨0,As _,rfl,Qz⟩
  case round=>
   obtain⟨j,hj,rfl,HJ⟩:=hrel;by_cases gr:j<lb
   . have ie:(j:Int)<(lb:Int):=O
     obtain⟨⟨e0,e1,e2,e3⟩,dt⟩:=Ur.o j gr wr HJ.o.1.1.2.2;have Uz:=Z dt;obtain⟨g,gw⟩:=ex (i+j:Nat);have ib:(i:Int)+(j:Int)=(g:Int):=O
     have Qp:=Z (show g<la/\g=i+j by have:=Qc.o;have:=S.o;omega);have ja:IntKind.i64.wrap (g:Int)=(g:Int):=by rw[BH];have:=Qp.o;omega
     have ix:(g:Int)<(la:Int):=by have:=Qp.o;omega
     clear dt gw;gi_wp2_with fail
     have Qq:F1 w W (wr.alloc (H #[P (s' j),C (ah j) (ay j) (aj j),P (t' j),C (ai j) (aq j) (am j)] 41)) (Gx w y (some ⟨M,0,none⟩) la E lb x m (some ⟨gR,0,none⟩) rc B5 (B5+1) (some (gR,.rats (Xi R i (-c) qs j))) (Q.set i c)++[some (Bc,.rat c)]++[some (wr.heap.size,.rat (cf qs j))]) B4 (n:Int) (B5+1) i:=by
      have h1:=HJ.o.below (Ba wr (H #[P (s' j),C (ah j) (ay j) (aj j),P (t' j),C (ai j) (aq j) (am j)] 41));exact⟨⟨HJ.o.1.1.push (.rat (cf qs j)) Uz.o,h1.1.2⟩,h1.2⟩
     obtain⟨Wd,ce⟩:=ex (wr.alloc (H #[P (s' j),C (ah j) (ay j) (aj j),P (t' j),C (ai j) (aq j) (am j)] 41));obtain⟨Bd,bn⟩:=ex (wr.heap.size);rw[ce,bn]at Qq;rw[ce,bn];obtain⟨X,hX⟩:=ex (Xi R i (-c) qs j);rw[hX]at Qq;have Uj:=Z (show g<X.length by rw[<-hX,Lr];have:=Qc.o;have:=Qp.o;omega);have Ut:=Z (show Sq (cf X g)by rw[<-hX];exact Wa.o j g);have We:=Z (show X.set g (cf X g-c*cf qs j)=Xi R i (-c) qs (j+1)by
      rw[Xi,hX,<-Qp.o.2,show cf X g-c*cf qs j=cf X g+-c*cf qs j by grind])
     have Qf:=Qq.below ((BB _ Wd).drew);clear ce bn hX Qq e0 e1 e2 e3;refine LN (Or.inr ⟨l,rfl⟩) Dh [[],[],[],[1,2],[],[],[],[5,6],[4,7],[8],[],[],[10,11],[9,12,12],[0,3,0,1,2,3,4,5,6,7,8,9,10,11,12,13],[14,13,13,0,1,2,3,4,5,6,7,8,9,10,11,12,13]] [.eq (C (some ⟨gR,0,none⟩) la rc),.eq (G F (i:Int)),.eq (G F (j:Int)),.eq (G F (g:Int)),.eq (C (some ⟨gR,0,none⟩) la rc),.eq (G F (i:Int)),.eq (G F (j:Int)),.eq (G F (g:Int)),.eq (L (some ⟨gR,g*4,none⟩)),.rat (cf X g),.rat c,.rat (cf qs j),.rat (c*cf qs j),.rat (cf X g-c*cf qs j),.eq (L (some ⟨gR,g*4,none⟩)),.eq I] [15] (λb _ V=>F1 w W V (Gx w y (some ⟨M,0,none⟩) la E lb x m (some ⟨gR,0,none⟩) rc B5 (B5+1) (some (gR,.rats (if b.getD 0 false then X.set g (cf X g-c*cf qs j)else X))) (Q.set i c)++[some (Bc,.rat c)]++[some (Bd,.rat (cf qs j))]) B4 (n:Int) (B5+1) i) Qf (SR (.vl rfl λ_ j=>MD 5 j.1.1)<|SR (.vl rfl λ_ _=>mv)<|SR (.vl rfl λ_ _=>mv)<|SR (.vl rfl λh _=>⟨_,by refine DP ?_;rw[h.e 1,h.e 2];go_simp,rfl⟩)<|SR (.vl rfl λ_ j=>MD 5 j.1.1)<|SR (.vl rfl λ_ _=>mv)<|SR (.vl rfl λ_ _=>mv)<|SR (.vl rfl λh _=>⟨_,by refine DP ?_;rw[h.e 5,h.e 6];go_simp,rfl⟩)<|SR (.vl rfl λh _=>⟨_,by refine DP ?_;rw[h.e 4,h.e 7];go_simp,rfl⟩)<|SR (.vl rfl λh j=>QB 4 j.1.1 Uj.o (h.e 8))<|SR (.vl rfl λ_ j=>EK 9 j.1.1)<|SR (.vl rfl λ_ j=>EK 10 j.1.1)<|SR (.cl λh _=>Km _ _ c (cf qs j) _ (h.g 10) (h.g 11) Wb.o (Qh.o j))<|SR (.cl λh _=>KA _ _ (cf X g) (c*cf qs j) _ (h.g 9) (h.g 12) Ut.o (Ub.o j))<|SR (.vl rfl λh _=>⟨_,by refine DP ?_;rw[h.e 0,h.e 3];go_simp,rfl⟩)<|SR (.wr rfl λh j=>ME 4 j.1.1 Uj.o (h.g 13) (h.e 14) (hT:=λ⟨_,e,_⟩ m=>j.up m e (λB hB=>L8 hB _ _ _ _) (j.1.1.ne 6 4 rfl rfl DK) (VS _ _ _ _ _ _ _))) Stp.end_)
      λf V hF N=>?_
     refine DP ?_;rw[hF.e 0,hF.e 1,hF.e 2,hF.e 3,hF.e 4,hF.e 5,hF.e 6,hF.e 7,hF.e 8,hF.e 14];have N:=Dw N;rw[We.o]at N;have HO:=Z (show F1 w W V (Gx w y (some ⟨M,0,none⟩) la E lb x m (some ⟨gR,0,none⟩) rc B5 (B5+1) (some (gR,.rats (Xi R i (-c) qs (j+1)))) (Q.set i c)++[some (Bc,.rat c)]) B4 (n:Int) (B5+1) i from⟨⟨N.1.1.take 10,N.1.2⟩,N.2⟩);clear hF N;gi_wp2_with fail
     go_roundw
     case rel=>exact⟨j+1,O,by go_num,HO⟩
     case measure=>simp[intOf];omega
   . obtain rfl:j=lb:=O
     gi_wp2_with fail
     refine⟨HJ.o.2.from _,?_⟩;have N:=HJ.o.1.1.take 9;rw[Qe.o]at N;show Gf w wr (Gx w y _ la E _ x m _ rc B5 (B5+1) (g4 la gR (JO ps qs n m (k+1)).2) (JO ps qs n m (k+1)).1) B4 (n:Int) (B5+1) (m-(k+1));rw[Qy.o,Qc.o.2.2.2.2.2,HG.o];refine⟨?_,HJ.o.1.2⟩;have Qk:=Qe.o;rw[<-Qk];rw[<-Qk]at N;exact N
 case done=>
  intro DC W hD hS hK;have Uq:=(Xu ps qs n m m).2;have Uh:=(Xu ps qs n m m).1;have Qa:cf qs n≠0:=by
   have:=Jt Ug.o Ui.o;rwa[show qs.length-1=n by have:=S.o;have:=Qe.o;omega]at this
  obtain⟨z,Qv,cj,ae,ap⟩:=HL.o m (Aa _);have Qs:Jn ps qs=Jc (JO ps qs n m m).1:=by unfold Jn;rw[show qs.length-1=n by have:=S.o;have:=Qe.o;omega,show ps.length-n=m by have:=S.o;have:=Qb.o;omega]
  have Qx:JU ps qs=Jc (JO ps qs n m m).2:=by unfold JU;rw[show qs.length-1=n by have:=S.o;have:=Qe.o;omega,show ps.length-n=m by have:=S.o;have:=Qb.o;omega]
  obtain⟨R,hR⟩:=ex ((JO ps qs n m m).2);obtain⟨Q,hQ⟩:=ex ((JO ps qs n m m).1);rw[hR]at Uq ae Qx;rw[hQ]at Uh ap Qs;rw[hR,hQ]at hS;have Qu:=Z (show Sqs R from Sqs.of λi=>Sq.of (ae i) O);have ed:=Z (show Sqs Q from Sqs.of λi=>Sq.of (ap i) O);have Um:RowK true W (C a la rc) R:=by
   by_cases h0:la=0
   . rw[h0,AH (show R.length=0 by have:=Qb.o;omega)];exact⟨a,rc,rfl,As _,by have:=Qi.o;omega,DI,Or.inl rfl⟩
   . have h:=hS.1;rw[show g4 la gR R=some (gR,.rats R)from BE h0]at h;have h:=(h.rats (i:=4) rfl).row (n:=la) (cap:=rc) (by have:=Qb.o;omega) (by have:=Qi.o;omega) (by have:=Qi.o;omega) gu;rw[Qi.o.1 h0];rwa[Af (by have:=Qb.o;omega)]at h
  have Uc:RowK true W (C (some ⟨B5+1,0,none⟩) m m) Q:=by
   have h:=(hS.1.rats (i:=6) rfl).row (n:=m) (cap:=m) O (Aa _) O Qj;rwa[Af O]at h
  have Qf:DJ w W.drew (((Gx w y qa la E lb x m a rc B5 (B5+1) (g4 la gR R) Q).set 2 (some (w.heap.size+1+1,.poly []))).set 3 (some (w.heap.size+1+1+1,.poly [])))/\Ih W.drew DC (C a la rc) (C (some ⟨B5+1,0,none⟩) m m) R Q:=⟨((hS.1.asPoly (i:=2) rfl).asPoly (i:=3) rfl).drew,Ih.below ⟨Um,Uc,hK⟩ ((BB _ W).drew)⟩;obtain⟨Us,Wc,Uw⟩:=DX Qs Qx (show w.heap.size<=DC by have:=Ul.o;omega);clear hS Uq Uh cj ae ap Qv Qs Qx hR hQ Qa Um Uc hK;gi_wp2_with fail
  refine LN (Or.inl rfl) Dh [[],[0],[],[2,1],[1,3,0,1],[3,4,0,1,2,3,4],[5,0,1,2,3,4,5]] [.eq (C (some ⟨B5+1,0,none⟩) m m),.poly (Jc Q),.eq (C a la rc),.poly (Jc R),.eq I,.eq I,.eq (P true)] [4,5] (λb _ V=>DJ w V (((Gx w y qa la E lb x m a rc B5 (B5+1) (g4 la gR R) Q).set 2 (some (w.heap.size+1+1,.poly (if b.getD 0 false then Jc Q else [])))).set 3 (some (w.heap.size+1+1+1,.poly (if b.getD 1 false then Jc R else []))))/\Ih V DC (C a la rc) (C (some ⟨B5+1,0,none⟩) m m) R Q) Qf (SR (.vl rfl λ_ j=>MD 7 j.1)<|SR (.cl λh j=>c1 (h.e 0) ((Kn _ Q _ j.2.2.1 ed.o).mono λ_ _ ⟨u,e,h,_,b⟩=>⟨u,e,h,b⟩))<|SR (.vl rfl λ_ j=>MD 5 j.1)<|SR (.cl λh j=>c1 (h.e 2) ((Kn _ R _ j.2.1 Qu.o).mono λ_ _ ⟨u,e,h,_,b⟩=>⟨u,e,h,b⟩))<|SR (.wr rfl λh j=>GS 2 j.1 (h.g 1) (hT:=λn m=>⟨m,j.2.set n _⟩))<|SR (.wr rfl λh j=>GS 3 j.1 (h.g 3) (hT:=λn m=>⟨m,j.2.set n _⟩))<|SR (.vl rfl λ_ _=>av) Stp.end_)
   λf V hF MM=>?_
  refine DP ?_;rw[hF.e 0,hF.e 2,hF.e 6];have MM:=Dw MM;obtain⟨a2,l2,c2,g2,gj⟩:=MM.1.poly2 (i:=2) rfl;obtain⟨a3,l3,c3,g3,gn⟩:=MM.1.poly2 (i:=3) rfl;have Ux:=MM.1.2.2;have Ua:=MM.2.2.2;clear hF MM;gi_wp2;refine⟨DI,.inl ⟨_,_,rfl,BQ Ua,?_⟩⟩;have hg:=BR V DC (.deferred none);have Qn:∀r,some DC=some r->∃o:Obj,V.heap[r]?=some o/\o.isCells=false:=λr e=>by cases e;exact⟨_,Ua,rfl⟩
  have q2:Boxed _ (w.heap.size+1+1) 25 (C a2 l2 c2):=YM hg Qn (show Bx V (w.heap.size+1+1) 25 #[C a2 l2 c2]from g2);have q3:Boxed _ (w.heap.size+1+1+1) 25 (C a3 l3 c3):=YM hg Qn (show Bx V (w.heap.size+1+1+1) 25 #[C a3 l3 c3]from g3);have x2:=q2.cell;have x3:=q3.cell;refine⟨.tuple #[.agg #[C a2 l2 c2],.agg #[C a3 l3 c3],P true],by simp[results,Tryz.results193,go_sem,x2,x3],_,_,rfl,?_,?_,?_⟩
  . rw[Us.o];obtain⟨u,e,h⟩:=gj;exact⟨u,e,N1 hg Qn h⟩
  . rw[Wc.o];obtain⟨u,e,h⟩:=gn;exact⟨u,e,N1 hg Qn h⟩
  . exact Ux.trans (DA (w:=w) (Aa _) _ DC _ _ Uw.o Ua rfl rfl)
def boxed_own{row:Option Nat}(hg:V.grownBy V' row)(a:∀r,row=some r->∃o:Obj,V.heap[r]?=some o/\o.isCells=false)(h:Boxed V B t v):Boxed V' B t v:=YM hg a (show Bx V B t #[v]from h)
def nT(o:Value)(ps:List Rat)(q:Value)(w:T)(m:Je w o ps)(d:Je w q []):
 Calls U 193 #[o,q] w λe w'=>e=.returned (.tuple #[.agg #[C none 0 0],.agg #[C none 0 0],P false])/\Bl w w':=by
 obtain⟨v,la,x,rfl⟩:=m.form;obtain⟨f,lb,g,rfl⟩:=d.form;obtain⟨c,s,b⟩:=U6 25 (.cell 25 (C v la x)) EO 25 (.cell 25 (C f lb g)) EO 25 (.cell 25 (C none 0 0)) EO 25 (.cell 25 (C none 0 0)) EO (w:=w);have j:=b.o;have k:=Z (show Calls U 26 #[.agg #[C f lb g]] c λe w'=>e=.returned (G F (-1))/\Bl c w' from Yv (.agg #[C f lb g]) [] c (d.below j.2.2));clear m d j;go_enter Tryz.func193,Tryz.ntmps193
 go_upto_region 1 with fail
 rw[s.o];have c1:=(b.o.cell (i:=1) rfl).1.cell;go_wp2_with(go_at_call 26;refine k.o.mono ?_;clear k;rintro e w1 ⟨rfl,n⟩;have l:Bl w1 (w1.alloc (H #[G F (-1)] 3)):=Ba w1 _;have a:=(b.o.below n).below l;have t:=(a.cell (i:=2) rfl).1.cell;have f2:=(a.cell (i:=2) rfl).1.frozen;have u:=(a.cell (i:=3) rfl).1.cell;have f3:=(a.cell (i:=3) rfl).1.frozen;have r:=Z a.2.2;clear l a n)
 refine BA (by simp[results,Tryz.results193,go_sem,t,u]) rfl ⟨rfl,?_⟩;exact((r.o.setCell (p:=⟨w.heap.size+1+1,0,none⟩) DH _).setCell (p:=⟨w.heap.size+1+1+1,0,none⟩) DH _)
def _root_.Go.Proofs.YtdmmbgahnkbnaaaGreatDoor.ySplit_n(A:Nat)(g j:Value)(ps qs:List Rat)(w:T)(d:Je w g ps)(f:Je w j qs)(_hs:Sqs ps)(hq:∀i,DQ A (cf qs i))(_htp:Jc ps=ps)(m:Jc qs=qs)(a:qs≠[])
(l:∀k,k<=ps.length-(qs.length-1)->∃z,z+(2*A+1)<=1000000000/\(k<ps.length-(qs.length-1)->2*z+2*(2*A+1)<=1000000000)/\(∀i,DQ z (cf (JO ps qs (qs.length-1) (ps.length-(qs.length-1)) k).2 i))/\∀i,DQ (z+A) (cf (JO ps qs (qs.length-1) (ps.length-(qs.length-1)) k).1 i)):
 Calls U 193 #[g,j] w λe w'=>∃u v,e=.returned (.tuple #[u,v,P true])/\Je w' u (Jn ps qs)/\Je w' v (JU ps qs)/\Bl w w':=by
 obtain⟨n,la,o,rfl⟩:=d.form;obtain⟨p,lb,q,rfl⟩:=f.form;have b:=d.row;have c:=f.row;obtain⟨r,_⟩:=b.forms;obtain⟨s,_⟩:=c.forms;have t:=Ae.2 a;exact nR A n p la o lb q (lb-1) (la-(lb-1)) ps qs w b c hq m a (λk hk=>by rw[show lb-1=qs.length-1 by omega,show la-(qs.length-1)=ps.length-(qs.length-1)by omega];exact l k O) O rfl
def nU(A:Nat)(b c:Value)(ps qs:List Rat)(w:T)(d:Je w b ps)(f:Je w c qs)(hs:Sqs ps)(hq:∀i,DQ A (cf qs i))(l:Jc ps=ps)(m:Jc qs=qs)
(g:qs≠[]->∀k,k<=ps.length-(qs.length-1)->∃z,z+(2*A+1)<=1000000000/\(k<ps.length-(qs.length-1)->2*z+2*(2*A+1)<=1000000000)/\(∀i,DQ z (cf (JO ps qs (qs.length-1) (ps.length-(qs.length-1)) k).2 i))/\∀i,DQ (z+A) (cf (JO ps qs (qs.length-1) (ps.length-(qs.length-1)) k).1 i)):
 Calls U 193 #[b,c] w λe w'=>∃u v,e=.returned (.tuple #[u,v,P (decide (qs≠[]))])/\Je w' u (if qs=[]then []else Jn ps qs)/\Je w' v (if qs=[]then []else JU ps qs)/\Bl w w':=by
 by_cases a:qs=[]
 . subst a;refine(nT b ps c w d f).mono ?_;rintro e w' ⟨rfl,h⟩;exact⟨_,_,rfl,⟨_,rfl,RowK.nil _ _⟩,⟨_,rfl,RowK.nil _ _⟩,h⟩
 . have j:decide (qs≠[])=true:=BJ a;rw[j];simp only[BE a];exact ySplit_n A b c ps qs w d f hs hq l m a (g a)
def LV(ps:List Rat)(n i:Nat)(S:List Rat):Prop:=S.length=n/\∀j,cf S j=if j<i then Gw ps j else 0
theorem LV.next{ps:List Rat}{n:Nat}(h:LV ps n i S)(hi:i<n):LV ps n (i+1) (S.set i (Gw ps i)):=by
 refine⟨by rw[Fm];exact h.1,λj=>?_⟩;rw[Gk _ _ _ _ (by rw[h.1];exact hi),h.2 j];grind
def LV.done{ps:List Rat}{n:Nat}(h:LV ps n n S)(hn:n=ps.length-1):Jc S=Jb ps:=Iv λj=>by
 rw[h.2 j,LG];split
 . rfl
 . rw[Ys (p:=ps) O,AY]
def OC(v:Value)(ps:List Rat)(w:T)(h:Je w v ps)(ap:Sqs ps)(aq:∀i,Sq (Gw ps i)):
 Calls U 27 #[v] w λe w'=>∃u,e=.returned u/\Je w' u (Jb ps)/\Bl w w':=by
 obtain⟨y,la,g,rfl⟩:=h.form;have ha:=h.row;obtain⟨am,ay,az,bj,s,t,aa,bb,ll,cc,kk,dd,ai⟩:=ha.forms;obtain⟨V0,ae,o⟩:=LL 25 (.cell 25 (C y la g)) EO 25 (.cell 25 (C none 0 0)) EO (w:=w);have M1:=o.o;obtain⟨d,hd⟩:=ex ((ps.length:Int)-1:Int);have M:=Z (Yv (.agg #[C y la g]) ps V0 (h.below M1.2.2));rw[hd]at M;obtain⟨n,hn⟩:=ex (ps.length-1:Nat);have Qd:max (0:Int) d=(n:Int):=O
 have Qn:∀W:T,(Instr.makeSlice 23 (G F (n:Int)) (G F (n:Int))).run U W=.ok (C (some ⟨W.heap.size,0,none⟩) n n) (W.alloc (H (YH n) 41)):=λW=>MH n O W;obtain⟨HP,Qi,Qk,z⟩:=Dt ai ap aq (show n=ps.length-1/\la=ps.length from⟨hn.symm,am⟩);have Qc:n<=1099511627776:=O
 clear h ha ai ap aq am ay az hn hd M1;go_enter Tryz.func27,Tryz.ntmps27
 go_upto_region 1 with fail
 rw[ae.o];have c0:=(o.o.cell (i:=0) rfl).1.cell;go_upto_region 2 with(go_at_call 26;refine M.o.mono ?_;clear M;rintro e w1 ⟨rfl,ah⟩)
 have D:DJ w (w1.alloc (H (YH n) 41)) [some (w.heap.size,.cell 25 (C y la g)),some (w.heap.size+1,.cell 25 (C none 0 0)),some (w1.heap.size,.rats (List.replicate n 0))]:=(o.o.below ah).push (.rats (List.replicate n 0)) (MV _ n);obtain⟨V1,N⟩:=ex (w1.alloc (H (YH n) 41));obtain⟨r,R⟩:=ex (w1.heap.size);rw[N,R]at D;rw[N,R];have Qh:=Z D;clear D N R ah c0 o ae Qn Qd;go_wp2;go_loopw [11] (λiv wr=>∃(i:Nat) (S:List Rat),i<=n/\iv=G F (i:Int)/\Hid (LV ps n i S)/\Hid (DJ w wr [some (w.heap.size,.cell 25 (C y la g)),some (w.heap.size+1,.cell 25 (C none 0 0)),some (r,.rats S)])) λiv _=>n-(intOf iv).toNat
 case atStart=>exact⟨0,_,As _,rfl,Z ⟨AK,λj=>by rw[Yg,BE O]⟩,Qh⟩
 case round=>
  obtain⟨i,S,hi,rfl,c,m⟩:=hrel;clear Qh;by_cases an:i<n
  . have bm:(i:Int)<(n:Int):=O
    obtain⟨K,hK⟩:=ex (i+1:Nat);have bf:(i:Int)+1=(K:Int):=O
    have bi:IntKind.i64.wrap (K:Int)=(K:Int):=by rw[BH];omega
    have bg:(K:Int)<(la:Int):=by have:=z.o;omega
    obtain⟨aj,a,rfl,l,p0,p1,p2,p3⟩:=HP.o K (by have:=z.o;omega);have Qo:=Z (show ∀V,Bl w V->(V.cell? ⟨a,K*4,none⟩=some (P (s K))/\V.cell? ⟨a,K*4+1,none⟩=some (C (aa K) (ll K) (cc K))/\V.cell? ⟨a,K*4+2,none⟩=some (P (t K))/\V.cell? ⟨a,K*4+3,none⟩=some (C (bb K) (kk K) (dd K)))/\Jf V (.agg #[P (s K),C (aa K) (ll K) (cc K),P (t K),C (bb K) (kk K) (dd K)]) (cf ps K)from λV k=>by
     exact⟨⟨(k.cell (p:=⟨a,_,none⟩) l).trans p0,(k.cell (p:=⟨a,_,none⟩) l).trans p1,(k.cell (p:=⟨a,_,none⟩) l).trans p2,(k.cell (p:=⟨a,_,none⟩) l).trans p3⟩,aj.below k⟩)
    have B:=Z (show K<=1099511627776/\K=i+1 by omega);have Qm:=Z (show cf ps K*((K:Int):Rat)=Gw ps i by rw[B.o.2];rfl);have Qp:=Z (show i<S.length by rw[c.o.1];exact an);clear aj l p0 p1 p2 p3 hK;go_wp2_with fail
    have Qj:=m.o.drew;refine Yx Dh [[],[],[],[2],[],[4],[3,5],[6],[],[8],[9],[7,10,10],[0,1,0,1,2,3,4,5,6,7,8,9,10,11],[12,11,11,0,1,2,3,4,5,6,7,8,9,10,11]] [.eq (C (some ⟨r,0,none⟩) n n),.eq (G F (i:Int)),.eq (L (some ⟨w.heap.size,0,none⟩)),.eq (C (some ⟨a,0,none⟩) la g),.eq (G F (i:Int)),.eq (G F (K:Int)),.eq (L (some ⟨a,K*4,none⟩)),.rat (cf ps K),.eq (G F (i:Int)),.eq (G F (K:Int)),.rat ((K:Int):Rat),.rat (Gw ps i),.eq (L (some ⟨r,i*4,none⟩)),.eq I] [13] (λb _ V=>DJ w V [some (w.heap.size,.cell 25 (C (some ⟨a,0,none⟩) la g)),some (w.heap.size+1,.cell 25 (C none 0 0)),some (r,if b.getD 0 false then .rats (S.set i (Gw ps i))else .rats S)]) Qj (SR (.vl rfl λ_ _=>mv)<|SR (.vl rfl λ_ _=>mv)<|SR (.vl rfl λ_ _=>⟨_,by refine DP ?_;go_simp,rfl⟩)<|SR (.vl rfl λh j=>⟨_,by have e0:=(j.cell (i:=0) rfl).1.cell;refine DP ?_;rw[h.e 2];go_simp,rfl⟩)<|SR (.vl rfl λ_ _=>mv)<|SR (.vl rfl λh _=>⟨_,by refine DP ?_;rw[h.e 4];go_simp,rfl⟩)<|SR (.vl rfl λh _=>⟨_,by refine DP ?_;rw[h.e 3,h.e 5];go_simp,rfl⟩)<|SR (.vl rfl λh j=>by obtain⟨⟨e0,e1,e2,e3⟩,hr⟩:=Qo.o _ j.2.2;exact⟨_,by refine DP ?_;rw[h.e 6];go_simp,hr⟩)<|SR (.vl rfl λ_ _=>mv)<|SR (.vl rfl λh _=>⟨_,by refine DP ?_;rw[h.e 8];go_simp,rfl⟩)<|SR (.cl λh _=>c1 (h.e 9) (VV (K:Int) O (by have:=B.o;omega) _))<|SR (.cl λh _=>Qm.o ▸ Km _ _ (cf ps K) ((K:Int):Rat) _ (h.g 7) (h.g 10) (Qi.o.at K) (ls B.o.1))<|SR (.vl rfl λh _=>⟨_,by refine DP ?_;rw[h.e 0,h.e 1];go_simp,rfl⟩)<|SR (.wr rfl λh j=>ME 2 j Qp.o (h.g 11) (h.e 12)) Stp.end_)
     λf V hF q=>?_
    refine DP ?_;rw[hF.e 0,hF.e 1,hF.e 2,hF.e 3,hF.e 4,hF.e 5,hF.e 6,hF.e 8,hF.e 9,hF.e 12];have q:=Dw q;have HO:=Z q;clear q hF;go_wp2_with fail
    go_roundw
    case rel=>exact⟨i+1,_,O,by go_num,Z (c.o.next an),HO⟩
    case measure=>simp[intOf];omega
  . obtain rfl:i=n:=O
    have hE:=m.o.rats (i:=2) rfl;have A:=hE.row (n:=i) (cap:=i) (by rw[c.o.1];exact Aa _) (Aa _) O Qc;rw[Af (by rw[c.o.1];exact Aa _)]at A;have E:=Z (Kn _ S wr A (Sqs.of λj=>by
     rw[c.o.2 j];split
     . exact Qk.o j
     . exact FO))
    rw[c.o.done z.o.1]at E;clear hE A;go_wp2_with(go_at_call 43;refine E.o.mono ?_;clear E;rintro e w5 ⟨u5,rfl,X,_,Q⟩;obtain⟨a7,l7,c7,rfl⟩:=X.form;have x:=boxed_below (m.o.cell (i:=1) rfl).1 Q;have x0:=x.cell;have x1:=x.frozen;have Qq:=Z (GD x (C a7 l7 c7) X.row);have Ql:=Z ((Bt m.o.2.2 Q).setCell (p:=⟨w.heap.size+1,0,none⟩) (by show w.heap.size<=w.heap.size+1;omega) (C a7 l7 c7));clear X Q x)
    exact BA (by simp[results,Tryz.results27,go_sem,x0]) rfl ⟨_,rfl,⟨_,rfl,Qq.o⟩,Ql.o⟩
end M3
def CD(D:Int)(K:Nat)(c:Rat):Prop:=∃n:Int,c=Rat.divInt n D/\Sm K n
section
variable {D E:Int} {K M:Nat} {c d:Rat}
def CD.mono(h:CD D K c)(hk:K<=M):CD D M c:=by
 obtain⟨n,e,h⟩:=h;exact⟨n,e,h.mono hk⟩
def CD.smq(h:CD D K c)(hD:D≠0)(hs:Sm K D):DQ K c:=by
 obtain⟨n,rfl,h⟩:=h;exact DQ.divInt hD h hs
theorem CD.zero(D:Int)(K:Nat):CD D K 0:=⟨0,by rw[Rat.zero_divInt],Sm.zero K⟩
def CD.add(h:CD D K c)(a:CD D M d)(hD:D≠0):CD D (max K M+1) (c+d):=by
 obtain⟨n,rfl,h⟩:=h;obtain⟨m,rfl,a⟩:=a;refine⟨n+m,?_,?_⟩
 . rw[Rat.divInt_add_divInt _ _ hD hD,<-Int.add_mul,Fx hD]
 . exact(h.mono (Nat.le_max_left ..)).add (a.mono (Nat.le_max_right ..))
def CD.mul(h:CD D K c)(a:CD E M d):CD (D*E) (K+M) (c*d):=by
 obtain⟨n,rfl,h⟩:=h;obtain⟨m,rfl,a⟩:=a;exact⟨n*m,by rw[Fa],h.mul a⟩
def CD.wide(h:CD D K c)(hE:Sm M E)(a:E≠0):CD (D*E) (K+M) c:=by
 obtain⟨n,rfl,h⟩:=h;exact⟨n*E,by rw[Fx a],h.mul hE⟩
theorem CD.of(h:DQ K c):CD (c.den:Int) K c:=⟨c.num,(Cj c).symm,h.1⟩
end
def EZ(D:Int)(K:Nat)(ps:List Rat):Prop:=∀i,CD D K (cf ps i)
theorem WH{D:Int}{K:Nat}{ps qs:List Rat}(hD:D≠0)(h:∀i j,CD D K (cf ps i*cf qs j))(n:Nat):∀(i k:Nat),CD D (K+min i ps.length) (cf (E9 ps qs n i) k):=by
 intro i;induction i with
 |zero=>intro k;rw[E9,Yg];exact CD.zero _ _
 |succ i a=>
  intro k;rw[E9];rcases OB (E9 ps qs n i) i (cf ps i) qs qs.length k with e|e
  . rw[e];exact(a k).mono O
  . rw[e];by_cases hi:i<ps.length
    . exact((a k).add (h i (k-i)) hD).mono O
    grind[Ys]
def nV{D:Int}{K:Nat}{ps qs:List Rat}(hD:D≠0)(hs:Sm 1000000000 D)(h:∀i j,CD D K (cf ps i*cf qs j))(hk:K+ps.length+1<=1000000000):M3.KC ps qs:=by
 have hq:∀c,CD D (K+ps.length+1) c->Sq c:=λc b=>Sq.of ((b.mono hk).smq hD hs) (Aa _);refine⟨λi j=>hq _ ((h i j).mono O),λn i j k=>?_⟩;have a:=WH hD h n i k;rcases OB (E9 ps qs n i) i (cf ps i) qs j k with e|e
 . rw[e];exact hq _ (a.mono O)
 . rw[e];exact hq _ ((a.add (h i (k-i)) hD).mono O)
theorem nW{D:Int}{K:Nat}{ps qs:List Rat}(hD:D≠0)(h:∀i j,CD D K (cf ps i*cf qs j)):EZ D (K+ps.length) (Ji ps qs):=λk=>by
 unfold Ji;rw[YD,LF];have a:=WH hD h (ps.length+qs.length) ps.length k;grind[Sk]
theorem nX(p q:List Rat):(Ji p q).length<=p.length+q.length:=Ig (Jq _ _) λi hi=>by grind[Ji,YD,LF,lu]
def Sm.powZ{A:Nat}{v:Int}(h:Sm A v):∀n,Sm (n*A+1) (v^n):=by
 intro n;induction n with
 |zero=>rw[FK];exact Sm.one _ O
 |succ n a=>rw[CJ,Ca,show n*A+1*A+1=n*A+1+A by omega];exact a.mul h
def nY{D:Int}{K:Nat}{c:Rat}(h:CD D K c):CD D K (-c):=by
 obtain⟨n,rfl,h⟩:=h;exact⟨-n,by rw[<-Rat.neg_divInt],by unfold Sm at h ⊢;rwa[FJ]⟩
theorem WI{D E l:Int}{K A:Nat}{ps qs:List Rat}{n m:Nat}(hD:D≠0)(hp:EZ D K ps)(hE:E≠0)(N:Sm A E)(hq:EZ E A qs)(b:l≠0)(hl:Sm A l)(M:cf qs n=Rat.divInt l E)(B:cf qs n≠0):
 ∀k,EZ (D*l^k) (K+k*(A+1)) (JO ps qs n m k).2/\EZ (D*l^k) (K+k*(A+1)) (JO ps qs n m k).1:=by
 intro k;induction k with
 |zero=>
  rw[FK,FH];exact⟨λi=>(hp i).mono O,λi=>by rw[JO,Yg];exact CD.zero _ _⟩
 |succ k V=>
  obtain⟨d,g⟩:=V;have w:D*l^k≠0:=Cv hD (Int.pow_ne_zero b);have e:D*l^(k+1)=D*l^k*l:=by rw[CJ,Int.mul_assoc]
  rw[e];have v:D*l^k*l≠0:=Cv w b;obtain⟨R,p⟩:=ex ((JO ps qs n m k).2);obtain⟨Q,o⟩:=ex ((JO ps qs n m k).1);rw[p]at d;rw[o]at g;obtain⟨r,z,s⟩:=d (m-(k+1)+n);obtain⟨c,q⟩:=ex (cf R (m-(k+1)+n)/cf qs n);have f:c=Rat.divInt (r*E) (D*l^k*l):=by
   rw[<-q];have y:cf R (m-(k+1)+n)=Rat.divInt (r*E) (D*l^k*l)*cf qs n:=by
    rw[M,Fa,z,show r*E*l=r*(E*l)from Int.mul_assoc _ _ _,show D*l^k*l*E=D*l^k*(E*l)by grind,Fx (Cv hE b)]
   rw[y,Rat.mul_div_cancel B]
  have t:CD (D*l^k*l) (K+(k+1)*(A+1)) c:=⟨r*E,f,(s.mul N).mono (by rw[Ca];omega)⟩;have u:∀j,CD (D*l^k*l) (K+k*(A+1)+A) (c*cf qs j):=λj=>by
   obtain⟨x,ex,S⟩:=hq j;refine⟨r*x,?_,s.mul S⟩;rw[f,ex,Fa,show r*E*x=r*x*E by grind,Fx hE]
  rw[JO,p,o];simp only[q];refine⟨λi=>?_,λi=>?_⟩
  . rcases OB R (m-(k+1)) (-c) qs qs.length i with a|a
    . rw[a];exact((d i).wide hl b).mono (by rw[Ca];omega)
    . rw[a,Rat.neg_mul];exact(((d i).wide hl b).add (nY (u _)) v).mono (by rw[Ca];omega)
  . rcases M3.nL Q (m-(k+1)) c i with a|a
    . rw[a];exact t
    . rw[a];exact((g i).wide hl b).mono (by rw[Ca];omega)
section
variable{n:Nat}{f g:Nat->Int}
theorem nZ:∀(n:Nat) (f:Nat->Nat),(∀i,i<=n->f i<n)->∃i j,i<j/\j<=n/\f i=f j:=by
 intro n;induction n with
 |zero=>intro f h;grind
 |succ n d=>
  intro f h;by_cases c:∃i,i<=n/\f i=f (n+1)
  . obtain⟨i,a,b⟩:=c;exact⟨i,n+1,O,Aa _,b⟩
  . obtain⟨i,j,a,b,e⟩:=d (λi=>if f i=n then f (n+1)else f i) (λi hi=>by
     grind)
    refine⟨i,j,a,O,?_⟩;grind
def enc(b:Nat):Nat->(Nat->Nat)->Nat
 |0,_=>0
 |M+1,d=>enc b M d+d M*b^M
theorem Q6{b:Nat}{M:Nat}{d:Nat->Nat}(h:∀k,k<M->d k<b):enc b M d<b^M:=by
 induction M with
 |zero=>simp[enc]
 |succ M c=>
  have e:=c λk hk=>h k O;have a:=h M O;have f:(d M+1)*b^M<=b*b^M:=Ad _ a;grind[enc]
theorem nd{b:Nat}{M:Nat}{d a:Nat->Nat}(h:∀k,k<M->d k<b)(c:∀k,k<M->a k<b)(e:enc b M d=enc b M a):∀k,k<M->d k=a k:=by
 induction M with
 |zero=>intro k hk;omega
 |succ M f=>
  have l1:=Q6 (λk hk=>h k O:∀k,k<M->d k<b);have l2:=Q6 (λk hk=>c k O:∀k,k<M->a k<b);grind[enc,Nat.add_mul_div_right,Cn]
def Ey(b x j:Nat):Nat:=x/b^j%b
def nf{b:Nat}(a:0<b)(x j:Nat):Ey b x j<b:=Cl _ a
theorem WJ(b x:Nat):∀N,enc b N (Ey b x)=x%b^N:=by
 intro N;induction N with
 |zero=>simp[enc,Nat.mod_one]
 |succ N a=>grind[enc,Nat.mod_pow_succ,Ey]
def Y6:Nat->(Nat->Int)->Int
 |0,_=>0
 |n+1,f=>Y6 n f+f n
theorem WK(h:∀k,k<n->f k=g k):Y6 n f=Y6 n g:=by
 induction n with
 |zero=>rfl
 |succ n a=>grind[Y6]
def ng(n:Nat)(f g:Nat->Int):Y6 n (λk=>f k-g k)=Y6 n f-Y6 n g:=by
 induction n with
 |zero=>rfl
 |succ n a=>rw[Y6,Y6,Y6,a];omega
theorem OD{C:Nat}(h:∀k,k<n->(f k).natAbs<=C):(Y6 n f).natAbs<=n*C:=by
 induction n with
 |zero=>simp[Y6]
 |succ n a=>
  grind[Y6]
theorem nh(N A:Nat)(c:Nat->Nat->Int)(s:∀k j,(c k j).natAbs<=A):
 ∃z:Nat->Int,(∃j,j<N+1/\z j≠0)/\(∀j,(z j).natAbs<=(2*(N+1)*A+1)^N)/\∀k,k<N->Y6 (N+1) (λj=>c k j*z j)=0:=by
 obtain⟨B,e⟩:=ex ((2*(N+1)*A+1)^N);have i:1<=B:=by rw[<-e];exact Cy O
 obtain⟨C,hC⟩:=ex ((N+1)*(A*B));have f:∀x j,Ey (B+1) x j<=B:=λx j=>by have:=nf (b:=B+1) O x j;omega
 have r:∀x k,(Y6 (N+1) λj=>c k j*(Ey (B+1) x j:Int)).natAbs<=C:=λx k=>by
  rw[<-hC];refine OD λj _=>?_;rw[Cx,Az];exact Cw (s k j) (f x j)
 obtain⟨g,hg⟩:∃g:Nat->Nat->Nat,∀x k,(g x k:Int)=Y6 (N+1) (λj=>c k j*(Ey (B+1) x j:Int))+C/\g x k<2*C+1:=
  ⟨λx k=>(Y6 (N+1) (λj=>c k j*(Ey (B+1) x j:Int))+C).toNat,λx k=>by have:=r x k;dsimp only;omega⟩
 have E:(2*C+1)^N<(B+1)^(N+1):=by
  have a:2*C+1<=(2*(N+1)*A+1)*B:=by
   have l:2*C=2*(N+1)*A*B:=by rw[<-hC];simp only[Ct]
   rw[l,Ca,Ft];exact Nat.add_le_add_left i _
  have d:(2*C+1)^N<=B^(N+1):=by
   refine Ac (CG a N) ?_;rw[Nat.mul_pow,e,Ck,AP];exact Aa _
  exact Cz d (Nat.pow_lt_pow_left O O)
 obtain⟨x,y,a,d,m⟩:=nZ ((2*C+1)^N) (λx=>enc (2*C+1) N (g x)) λx _=>Q6 λk _=>(hg x k).2;have n:=nd (λk _=>(hg x k).2) (λk _=>(hg y k).2) m;refine⟨λj=>(Ey (B+1) x j:Int)-(Ey (B+1) y j:Int),?_,λj=>?_,λk hk=>?_⟩
 . by_cases t:∃j,j<N+1/\(Ey (B+1) x j:Int)-(Ey (B+1) y j:Int)≠0
   . exact t
   . exfalso
     have o:∀j,j<N+1->Ey (B+1) x j=Ey (B+1) y j:=λj K=>by
      grind
     have p:∀M,M<=N+1->enc (B+1) M (Ey (B+1) x)=enc (B+1) M (Ey (B+1) y):=λM=>by
      induction M with
      |zero=>intro _;rfl
      |succ M u=>intro hM;rw[enc,enc,u O,o M O]
     have q:=p (N+1) (Aa _);rw[WJ,WJ,Cr O,Cr O]at q;omega
 . grind
 . have w:=n k hk;have D:=(hg x k).1;have v:=(hg y k).1;rw[show(λj=>c k j*((Ey (B+1) x j:Int)-(Ey (B+1) y j:Int)))=(λj=>c k j*(Ey (B+1) x j:Int)-c k j*(Ey (B+1) y j:Int))from funext λj=>Int.mul_sub _ _ _,ng];omega
theorem ni(p q:List Rat):(JT p q).length<=max p.length q.length:=Ig (Yz _ _) λi hi=>by grind[PI,Ys]
def DN(c:Rat)(p:List Rat):List Rat:=Jc (XN c p)
theorem JH(c:Rat)(p:List Rat):Jc (DN c p)=DN c p:=Yu _
theorem Yy(c:Rat)(p:List Rat)(i:Nat):cf (DN c p) i=cf p i*c:=by unfold DN;rw[YD,LE]
theorem Jo(c:Rat)(p:List Rat)(x:Rat):ev (DN c p) x=ev p x*c:=by unfold DN;rw[G9,Ix]
theorem Y7{a b:Rat}(c:a≠0)(d:b≠0):a*b≠0:=λh=>by
 grind
theorem Q7{p:List Rat}(h:cf p n≠0):n<p.length:=by
 grind[Ys]
theorem YQ{c:Rat}(d:c≠0){p:List Rat}(hp:Jc p=p):(DN c p).length=p.length:=by
 refine Fp (Ig (JH _ _) λi hi=>by rw[Yy,Ys hi,AY]) ?_;by_cases a:p=[]
 . grind
 . have b:=Jt hp a;have e:0<p.length:=Ae.2 a;have f:=Q7 (p:=DN c p) (n:=p.length-1) (by rw[Yy];exact Y7 b d);omega
theorem LW(c d:Rat)(p:List Rat):DN c (DN d p)=DN (d*c) p:=YG (JH _ _) (JH _ _) λx=>by rw[Jo,Jo,Jo];grind
theorem Ii{p:List Rat}(hp:Jc p=p):DN 1 p=p:=YG (JH _ _) hp λx=>by rw[Jo];grind
theorem nj(c:Rat):DN c []=[]:=rfl
theorem Ho{c:Rat}(b:c≠0){p:List Rat}(hp:Jc p=p)(a:p≠[]):DN c p≠[]:=λh=>by
 grind[YQ]
theorem JB{p q:List Rat}(hp:Jc p=p)(hq:Jc q=q)(a:p≠[])(b:q≠[]):(Ji p q).length=p.length+q.length-1:=Si hp hq a b
def MX{p:List Rat}(h:p.length=0):p=[]:=Ak.1 h
def OE{p q u v:List Rat}(hq:Jc q=q)(a:q≠[])(f:Jc u=u)(hv:Jc v=v)(g:v.length<q.length)(h:∀x,ev p x=ev q x*ev u x+ev v x):u=Jn p q/\v=JU p q:=by
 obtain⟨b,c,d,e⟩:=Y3 p q hq a;exact cH hq a f d hv e g c (λx=>by rw[<-h x,b x])
theorem OG{c d:Rat}(a:d≠0)(p q:List Rat)(hq:Jc q=q)(b:q≠[]):Jn (DN c p) (DN d q)=DN (c/d) (Jn p q)/\JU (DN c p) (DN d q)=DN c (JU p q):=by
 obtain⟨f,e,g,j⟩:=Y3 p q hq b;have h:=OE (p:=DN c p) (JH d q) (Ho a hq b) (JH (c/d) (Jn p q)) (JH c (JU p q)) (by
  rw[YQ a hq];exact Cz (Ig (JH _ _) λi hi=>by rw[Yy,Ys hi,AY]) e) (λx=>by
  grind[Jo])
 grind
def WL:Nat->List Rat->List Rat->List Rat->List Rat->Prop
 |0,p,q,a,b=>p=a/\q=b
 |n+1,p,q,a,b=>∃c:Rat,q≠[]/\c≠0/\WL n q (DN c (JU p q)) a b
def Eu(p q a b:List Rat):Prop:=∃n,WL n p q a b
def Eu.base(p q:List Rat):Eu p q p q:=⟨0,rfl,rfl⟩
def Eu.step(p q:List Rat)(c:Rat)(a b:List Rat)(h:q≠[])(k:c≠0):Eu q (DN c (JU p q)) a b->Eu p q a b:=λ⟨n,e⟩=>⟨n+1,c,h,k,e⟩
def Eu.ind{d:∀p q a b:List Rat,Eu p q a b->Prop}(base:∀p q,d p q p q (.base p q))
(step:∀p q c a b (h:q≠[]) (k:c≠0) (e:Eu q (DN c (JU p q)) a b),d q (DN c (JU p q)) a b e->d p q a b (.step p q c a b h k e))
{p q a b:List Rat}(t:Eu p q a b):d p q a b t:=by
 obtain⟨n,e⟩:=t;induction n generalizing p q with
 |zero=>obtain⟨rfl,rfl⟩:=e;exact base _ _
 |succ n f=>obtain⟨c,h,k,e⟩:=e;exact step p q c a b h k ⟨n,e⟩ (f e)
def Eu.tail{p q a b:List Rat}(h:Eu p q a b){c:Rat}(e:b≠[])(f:c≠0):Eu p q b (DN c (JU a b)):=by
 induction h using Eu.ind with
 |base p q=>exact .step p q c _ _ e f (.base _ _)
 |step p q d a b hq g _ i=>exact .step p q d _ _ hq g (i e)
theorem XH(p q:List Rat):Jc (JU p q)=JU p q:=Yu _
theorem YE(p q:List Rat):Jc (Jn p q)=Jn p q:=Yu _
def Eu.len{p q a b:List Rat}(h:Eu p q a b):Jc q=q->b.length<=q.length:=by
 induction h using Eu.ind with
 |base p q=>exact λ_=>Aa _
 |step p q d a b hq f _ g=>
  intro c;have e:=g (JH _ _);rw[YQ f (XH _ _)]at e;have:=(Y3 p q c hq).2.1;omega
theorem nk{p q a b:List Rat}(h:Eu p q a b):Jc p=p->Jc q=q->b≠[]->∀u v T:List Rat,Jc u=u->Jc v=v->Jc T=T->u.length+b.length<=q.length+1->v.length+b.length<=p.length+1->(u≠[]\/v≠[])->T.length<b.length->
 (∀x,ev T x=ev u x*ev p x+ev v x*ev q x)->∃c:Rat,c≠0/\T=DN c (JU a b):=by
 induction h using Eu.ind with
 |base p q=>
  intro hp hq g u v T j hv hT B lv f o m;have M:u.length<=1:=O
  obtain⟨w,Q,R,S⟩:=Y3 p q hq g;match u,M,f with
  |[],_,f=>
   have s:v≠[]:=by
    rcases f with f|f
    . exact absurd rfl f
    . exact f
   have e:T=Ji v q:=YG hT (Jq _ _) λx=>by rw[Jd,m x];simp[ev];grind
   grind[JB,Ae]
  |[c],_,_=>
   have X:c≠0:=λe=>by
    have:=Jt j DI;simp[Xh]at this;exact this e
   refine⟨c,X,?_⟩;have D:∀x,ev (DN c p) x=ev q x*ev (DN (-1) v) x+ev T x:=λx=>by
    grind[Jo,ev]
   have V:=(OE hq g (JH _ _) hT o D).2;have y:=(OG (c:=c) (d:=1) DK p q hq g).2;rw[Ii hq]at y;rw[V,y]
 |step p q d a b g hd hE A=>
  intro hp hq z u v T j hv hT B lv f o m;obtain⟨w,Q,R,S⟩:=Y3 p q hq g;obtain⟨r,n⟩:=ex (DN d (JU p q));rw[n]at hE A;have l:Jc r=r:=by rw[<-n];exact JH _ _
  have ai:b.length<=r.length:=hE.len l;have ah:0<b.length:=Ae.2 z;have K:r≠[]:=λe=>by
   grind
  have aj:d*(1/d)=1:=by rw[AU];exact Aj hd
  have k:(1/d)≠0:=λe=>by grind
  have E:∀x,ev p x=ev q x*ev (Jn p q) x+ev r x*(1/d):=λx=>by rw[w x,<-n,Jo];grind
  have t:∀x,ev T x=ev (XB (Ji u (Jn p q)) v) x*ev q x+ev (DN (1/d) u) x*ev r x:=λx=>by
   rw[m x,E x,Yc,Jd,Jo];grind
  have ae:(DN (1/d) u).length+b.length<=q.length+1:=by rw[YQ k j];exact B
  refine A hq l z (XB (Ji u (Jn p q)) v) (DN (1/d) u) T (LH _ _) (JH _ _) hT ?_ ae ?_ o t
  . by_cases hn:XB (Ji u (Jn p q)) v=[]
    . rw[hn];simp;omega
    . have l1:=JB (LH _ _) hq hn g;have e:Ji (XB (Ji u (Jn p q)) v) q=JT T (Ji (DN (1/d) u) r):=YG (Jq _ _) (Yz _ _) λx=>by rw[Jd,Xt,Jd,t x];grind
      have l2:=ni T (Ji (DN (1/d) u) r);rw[<-e,l1]at l2;by_cases i:u=[]
      . have N:Ji (DN (1/d) u) r=[]:=by rw[i];rfl
        rw[N]at l2;simp at l2;omega
      . have l4:=JB (JH _ _) l (Ho k j i) K;omega
  . by_cases i:u=[]
    . left
      have s:v≠[]:=by
       rcases f with f|f
       . exact absurd i f
       . exact f
      have e:XB (Ji u (Jn p q)) v=v:=YG (LH _ _) hv λx=>by rw[Yc,Jd,i];simp[ev];grind
      rw[e];exact s
    . right;exact Ho k j i
def Ln(K:Nat)(r:List Rat):Prop:=∃c:Rat,c≠0/\∀i,∃z:Int,Sm K z/\cf r i*c=(z:Rat)
def nm(s t:Nat)(f:Nat->Int):Y6 (s+t) f=Y6 s f+Y6 t (λj=>f (s+j)):=by
 induction t with
 |zero=>simp[Y6]
 |succ t a=>rw[<-Nat.add_assoc,Y6,Y6,a];omega
def Q8{f:Nat->Rat}(h:∀k,k<n->f k=(g k:Rat)):Ds n f=((Y6 n g:Int):Rat):=by
 induction n with
 |zero=>rfl
 |succ n a=>rw[Ds,Y6,a λk hk=>h k O,h n O,Fc]
def OH(p q:List Rat)(h:p.length<=n)(k:Nat):cf (Ji p q) k=Ds n (λi=>if i<=k then cf p i*cf q (k-i)else 0):=by
 unfold Ji;rw[YD,LF,<-cD p q h];rfl
theorem Ln.sc{K:Nat}{r:List Rat}(h:Ln K r){d:Rat}(g:d≠0):Ln K (DN d r):=by
 obtain⟨c,f,j⟩:=h;have e:d*(1/d)=1:=by rw[AU];exact Aj g
 refine⟨(1/d)*c,Y7 (λk=>by grind) f,λi=>?_⟩;obtain⟨z,a,b⟩:=j i;exact⟨z,a,by rw[Yy,<-b];grind⟩
def Ln.mono{K L:Nat}{r:List Rat}(h:Ln K r)(hk:K<=L):Ln L r:=by
 obtain⟨c,d,e⟩:=h;exact⟨c,d,λi=>by obtain⟨z,a,b⟩:=e i;exact⟨z,a.mono hk,b⟩⟩
theorem ns{K N A B:Nat}(hA:A=Y^K)(f:N+1<=1000000000)(e:B=(2*(N+1)*A+1)^N):(N+1)*(A*B)<Y^((K+1)*(N+1)):=by
 have b:1<=A:=by rw[hA];exact Cy Hf
 have c:2*(N+1)*A+1<=Y^(K+1):=by
  have a:(2*(N+1)+1)*A<=Y*A:=Ad _ uo;rw[Ck,<-hA,AP A];rw[Ca,Ft]at a;exact Ac (Nat.add_le_add_left b _) a
 have d:(2*(N+1)*A+1)^(N+1)<=Y^((K+1)*(N+1)):=by rw[Fu];exact CG c _
 refine An ?_ d;grind[Ct,AP,Ad]
theorem WM{K m:Nat}{p q:List Rat}{cp cq:Rat}(hp:Jc p=p)(hq:Jc q=q)(ai:cp≠0)(aj:cq≠0)(ae:∀i,∃z:Int,Sm K z/\cf p i*cp=(z:Rat))(ah:∀i,∃z:Int,Sm K z/\cf q i*cq=(z:Rat))(hl:p.length+q.length<=1000000000)(hle:q.length<=p.length)(az:0<m)(bg:m<=q.length):
 ∃u v:List Rat,Jc u=u/\Jc v=v/\u.length+m<=q.length+1/\v.length+m<=p.length+1/\(u≠[]\/v≠[])/\(XB (Ji u p) (Ji v q)).length<m/\
  (∀i,∃z:Int,Sm ((K+1)*(p.length+q.length)) z/\cf (XB (Ji u p) (Ji v q)) i=(z:Rat))/\(∀i,∃z:Int,Sm ((K+1)*(p.length+q.length)) z/\cf u i=(z:Rat)*cp)/\(∀i,∃z:Int,Sm ((K+1)*(p.length+q.length)) z/\cf v i=(z:Rat)*cq):=by
 obtain⟨α,hα⟩:=Classical.axiomOfChoice ae;obtain⟨β,hβ⟩:=Classical.axiomOfChoice ah;have bm:q≠[]:=λe=>by
  grind
 have V:p≠[]:=λe=>by
  grind
 obtain⟨s,hs⟩:=ex (q.length+1-m);obtain⟨t,ht⟩:=ex (p.length+1-m);obtain⟨N,hN⟩:=ex (s+t-1);obtain⟨A,hA⟩:=ex (Y^K);have ap:∀i,(α i).natAbs<=A:=λi=>by have:=(hα i).1;unfold Sm at this;omega
 have aq:∀i,(β i).natAbs<=A:=λi=>by have:=(hβ i).1;unfold Sm at this;omega
 have M:s+t=N+1:=O
 obtain⟨z,⟨c,bj,E⟩,l,an⟩:=nh N A (λk j=>if j<s then(if j<=m-1+k then α (m-1+k-j)else 0)else(if j-s<=m-1+k then β (m-1+k-(j-s))else 0)) (λk j=>by
  grind)
 obtain⟨B,x⟩:=ex ((2*(N+1)*A+1)^N);rw[x]at l;obtain⟨u,y⟩:=ex (Jc ((List.range s).map λj=>(z j:Rat)*cp));obtain⟨v,hv⟩:=ex (Jc ((List.range t).map λj=>(z (s+j):Rat)*cq));have d:Jc u=u:=by rw[<-y];exact Yu _
 have o:Jc v=v:=by rw[<-hv];exact Yu _
 have n:∀j,cf u j=if j<s then(z j:Rat)*cp else 0:=λj=>by rw[<-y,YD,O6]
 have r:∀j,cf v j=if j<t then(z (s+j):Rat)*cq else 0:=λj=>by rw[<-hv,YD,O6]
 have Q:u.length<=s:=Ig d λi hi=>by grind
 have X:v.length<=t:=Ig o λi hi=>by grind
 obtain⟨a,hZ⟩:∃a:Nat->Int,∀i,a i=Y6 s (λj=>if j<=i then z j*α (i-j)else 0)+Y6 t (λj=>if j<=i then z (s+j)*β (i-j)else 0):=⟨_,λ_=>rfl⟩;have hT:∀i,cf (XB (Ji u p) (Ji v q)) i=(a i:Rat):=λi=>by
  rw[cL,OH u p Q,OH v q X,hZ,Fc];congr 1
  . refine Q8 λj f=>?_;split
    . grind
    . rfl
  . refine Q8 λj f=>?_;split
    . grind
    . rfl
 have ay:∀i,(a i).natAbs<=(N+1)*(A*B):=λi=>by
  have b:(Y6 s λj=>if j<=i then z j*α (i-j)else 0).natAbs<=s*(A*B):=OD λj _=>by
   split
   . rw[Cx,AP];exact Cw (ap _) (l _)
   . simp
  have w:(Y6 t λj=>if j<=i then z (s+j)*β (i-j)else 0).natAbs<=t*(A*B):=OD λj _=>by
   split
   . rw[Cx,AP];exact Cw (aq _) (l _)
   . simp
  grind[Ca]
 have Qk:(XB (Ji u p) (Ji v q)).length<m:=by
  have:(XB (Ji u p) (Ji v q)).length<=m-1:=Ig (LH _ _) λi hi=>by
   by_cases bi:i<m-1+N
   . rw[hT];have e:=an (i-(m-1)) O;rw[<-M,nm]at e;have b:Y6 s (λj=>if j<=i then z j*α (i-j)else 0)=Y6 s (λj=>(if j<s then(if j<=m-1+(i-(m-1))then α (m-1+(i-(m-1))-j)else 0)else(if j-s<=m-1+(i-(m-1))then β (m-1+(i-(m-1))-(j-s))else 0))*z j):=WK λj f=>by
      grind
     have w:Y6 t (λj=>if j<=i then z (s+j)*β (i-j)else 0)=Y6 t (λj=>(if s+j<s then(if s+j<=m-1+(i-(m-1))then α (m-1+(i-(m-1))-(s+j))else 0)else(if s+j-s<=m-1+(i-(m-1))then β (m-1+(i-(m-1))-(s+j-s))else 0))*z (s+j)):=WK λj f=>by
      grind
     rw[hZ,b,w,e];rfl
   . refine Ys ?_;have l1:=cN (Ji u p) (Ji v q);by_cases D:u=[]
     . have e0:Ji u p=[]:=by rw[D];rfl
       by_cases g:v=[]
       . have b:Ji v q=[]:=by rw[g];rfl
         grind
       grind[JB]
     . have l2:=JB d hp D V;by_cases g:v=[]
       . have b:Ji v q=[]:=by rw[g];rfl
         grind
       grind[JB]
  omega
 have R:u≠[]\/v≠[]:=by
  by_cases am:c<s
  . left
    intro e;have:=n c;rw[e,X6,BF am]at this;exact Y7 (by exact_mod_cast E) ai this.symm
  . right
    intro e;have:=r (c-s);rw[e,X6,BF O,show s+(c-s)=c from by omega]at this;exact Y7 (by exact_mod_cast E) aj this.symm
 have bf:=ns hA.symm O x.symm;have h5:(K+1)*(N+1)<=(K+1)*(p.length+q.length):=Ai _ O;have S:1<=A:=by rw[<-hA];exact Cy Hf
 have bn:∀i,Sm ((K+1)*(p.length+q.length)) (z i):=λi=>by
  have b:B<=(N+1)*(A*B):=Ac (Cs B S) (Cs _ O);unfold Sm;grind[An,AE,Hf]
 refine⟨u,v,d,o,O,O,R,Qk,λi=>⟨a i,?_,hT i⟩,λi=>?_,λi=>?_⟩
 . grind[Sm,An,AE,Hf]
 . rw[n];split
   . grind
   . exact⟨0,Sm.zero _,DI⟩
 . rw[r];split
   . grind
   . exact⟨0,Sm.zero _,DI⟩
theorem WN{K:Nat}{p q a b:List Rat}(hp:Jc p=p)(hq:Jc q=q)(e:Ln K p)(f:Ln K q)(hl:p.length+q.length<=1000000000)(hle:q.length<=p.length)(h:Eu p q a b)(d:b≠[]):Ln ((K+1)*(p.length+q.length)) (JU a b):=by
 obtain⟨cp,m,j⟩:=e;obtain⟨cq,n,k⟩:=f;obtain⟨u,v,s,t,r,hv,o,g,hT,_,_⟩:=WM hp hq m n j k hl hle (Ae.2 d) (h.len hq);obtain⟨c,l,w⟩:=nk h hp hq d u v _ s t (LH _ _) r hv o g (λx=>by rw[Yc,Jd,Jd]);refine⟨c,l,λi=>?_⟩;obtain⟨z,y,A⟩:=hT i;grind[Yy]
theorem nt{p q:List Rat}(hp:Jc p=p)(hq:Jc q=q)(h:p.length<q.length):JU p q=p:=
 ((OE (p:=p) hq (λe=>by rw[e]at h;simp at h) (u:=[]) (v:=p) rfl hp h λx=>by simp[ev];grind).2).symm
theorem WO{K:Nat}{p q a b:List Rat}(hp:Jc p=p)(hq:Jc q=q)(d:Ln K p)(e:Ln K q)(hl:p.length+q.length<=1000000000)(h:Eu p q a b)(f:b≠[]):Ln ((K+1)*(p.length+q.length)) (JU a b):=by
 by_cases hle:q.length<=p.length
 . exact WN hp hq d e hl hle h f
 . have hs:=nt hp hq O;match h with
   |⟨0,i,j⟩=>subst i;subst j;rw[hs];exact d.mono (by
    have:(K+1)*1<=(K+1)*(p.length+q.length):=Ai _ O
    omega)
   |⟨n+1,c,m,g,hE⟩=>
    have hE:Eu q (DN c (JU p q)) a b:=⟨n,hE⟩;rw[hs]at hE;have l:=YQ g hp;have k:=WN hq (JH c p) e (d.sc g) O O hE f;grind
theorem MY{c:Rat}(a:c≠0):1/c≠0:=λe=>by
 grind
def Jr(p:List Rat):List Rat:=DN (1/cf p (p.length-1)) p
def nu:Jr []=[]:=rfl
theorem Yo(p:List Rat):Jc (Jr p)=Jr p:=JH _ _
theorem MZ{c:Rat}(a:c≠0){p:List Rat}(hp:Jc p=p):Jr (DN c p)=Jr p:=by
 grind[Jr,YQ,Yy,LW]
def Kt{p:List Rat}(hp:Jc p=p)(a:p≠[]):Jr p≠[]:=Ho (MY (Jt hp a)) hp a
theorem XY{p:List Rat}(hp:Jc p=p):(Jr p).length=p.length:=by
 by_cases a:p=[]
 . subst a;rfl
 . exact YQ (MY (Jt hp a)) hp
theorem Q9{p:List Rat}(hp:Jc p=p)(a:p≠[]):cf (Jr p) ((Jr p).length-1)=1:=by
 grind[XY,Jr,Yy,Jt]
def KJ{p:List Rat}(hp:Jc p=p):Jr (Jr p)=Jr p:=by
 by_cases a:p=[]
 . subst a;rfl
 . exact MZ (MY (Jt hp a)) hp
def Ea:Nat->List Rat->List Rat->List Rat
 |0,p,_=>Jr p
 |n+1,p,q=>if q=[]then Jr p else Ea n q (JU p q)
def Js(p q:List Rat):List Rat:=Ea q.length p q
theorem nv:∀(n m:Nat) (p q:List Rat),Jc q=q->q.length<=n->q.length<=m->Ea n p q=Ea m p q:=by
 intro n;induction n with
 |zero=>
  intro m p q _ h _;have hq:q=[]:=MX O;subst hq;cases m with
  |zero=>rfl
  |succ m=>simp[Ea]
 |succ n d=>
  intro m p q hq h b;by_cases a:q=[]
  . grind
  . have hl:0<q.length:=Ae.2 a;cases m with
    |zero=>omega
    |succ m=>
     have c:=(Y3 p q hq a).2.1;grind[Ea,XH]
def WP(p:List Rat):Js p []=Jr p:=rfl
theorem ny{p q:List Rat}(hq:Jc q=q)(a:q≠[]):Js p q=Js q (JU p q):=by
 have b:=(Y3 p q hq a).2.1;have hl:0<q.length:=Ae.2 a;unfold Js;obtain⟨n,hn⟩:∃n,q.length=n+1:=⟨q.length-1,O⟩;grind[Ea,nv,XH]
theorem oA:∀(n:Nat) (c d:Rat) (p q:List Rat),c≠0->d≠0->Jc p=p->Jc q=q->Ea n (DN c p) (DN d q)=Ea n p q:=by
 intro n;induction n with
 |zero=>intro c d p q b _ hp _;exact MZ b hp
 |succ n f=>
  intro c d p q b e hp hq;by_cases a:q=[]
  . grind[Ea,nj,MZ]
  . simp only[Ea,BE a,BE (Ho e hq a)];rw[(OG e p q hq a).2];exact f d c q (JU p q) e b hq (XH _ _)
theorem RA{c d:Rat}{p q:List Rat}(a:c≠0)(b:d≠0)(hp:Jc p=p)(hq:Jc q=q):Js (DN c p) (DN d q)=Js p q:=by
 grind[Js,YQ,oA]
def Eu.gcd{p q a b:List Rat}(h:Eu p q a b):Jc p=p->Jc q=q->Js p q=Js a b:=by
 induction h using Eu.ind with
 |base p q=>exact λ_ _=>rfl
 |step p q c a b f e _ g=>
  intro hp hq;rw[<-g hq (JH _ _),ny hq f];have d:=RA (c:=1) DK e hq (XH p q);rw[Ii hq]at d;exact d.symm
theorem oB:∀(n:Nat) (p q:List Rat),Jc (Ea n p q)=Ea n p q:=by
 intro n;induction n with
 |zero=>intro p q;exact Yo _
 |succ n a=>
  intro p q;grind[Ea,Yo]
theorem JE(p q:List Rat):Jc (Js p q)=Js p q:=oB _ _ _
theorem Hp(c:Rat):c*(c.den:Rat)=(c.num:Rat):=by
 have a:((c.den:Int):Rat)≠0:=by exact_mod_cast c.den_nz
 grind[Cj,AD,AF]
theorem dvd_one{a b c:Int}(h:a∣b*c)(hg:Nat.gcd a.natAbs c.natAbs=1):a∣b:=by
 have d:=Cu.2 h;grind[Cx,Cu,Nat.Coprime.dvd_of_dvd_mul_right]
theorem oC{c:Rat}{D n:Int}(h:c*(D:Rat)=(n:Rat)):(c.den:Int)∣D/\c.num*D=n*c.den:=by
 have a:c*(c.den:Rat)=(c.num:Rat):=Hp c;have b:((c.num*D:Int):Rat)=((n*(c.den:Int):Int):Rat):=by
  rw[Aq,Aq,<-a,<-h];show c*(c.den:Rat)*(D:Rat)=c*(D:Rat)*((c.den:Int):Rat);rw[AF];grind
 have d:c.num*D=n*c.den:=Rat.intCast_inj.1 b;refine⟨?_,d⟩;have e:(c.den:Int)∣D*c.num:=⟨n,DH⟩;refine dvd_one e ?_;show Nat.gcd (c.den:Int).natAbs c.num.natAbs=1;rw[Az,CN];exact c.reduced
theorem oD{p:List Rat}{L G:Int}(M:∀i,((cf p i).den:Int)∣L)(N:∀u:Int,(∀i,((cf p i).den:Int)∣u)->L∣u)(D:∀i,G∣(cf p i).num)(E:∀v:Int,(∀i,v∣(cf p i).num)->v∣G)(n:G≠0){K:Nat}(h:Ln K p):
 ∀i,∃z:Int,Sm K z/\cf p i*((L:Rat)/(G:Rat))=(z:Rat):=by
 obtain⟨c,Q,S⟩:=h;have w:c.num≠0:=λe=>Q (Fo.1 e);have s:(c.den:Int)≠0:=by have:=c.den_nz;omega
 have g:∀i,∃z:Int,Sm K z/\(cf p i).num*c.num=z*((cf p i).den*c.den):=λi=>by
  obtain⟨z,k,l⟩:=S i;refine⟨z,k,?_⟩;have y:c*(c.den:Rat)=(c.num:Rat):=Hp c;have j:cf p i*((cf p i).den:Rat)=((cf p i).num:Rat):=Hp _;have A:(((cf p i).num*c.num:Int):Rat)=((z*(((cf p i).den:Int)*(c.den:Int)):Int):Rat):=by
   rw[Aq,Aq,Aq,AF,AF,<-y,<-j,<-l];grind
  exact Rat.intCast_inj.1 A
 have b:L∣c.num:=N _ λi=>by
  obtain⟨z,_,e⟩:=g i;have a:((cf p i).den:Int)∣(cf p i).num*c.num:=⟨z*c.den,DH⟩;rw[Int.mul_comm]at a;refine dvd_one a ?_;show Nat.gcd ((cf p i).den:Int).natAbs (cf p i).num.natAbs=1;rw[Az,CN];exact(cf p i).reduced
 have hv:(c.den:Int)∣G:=E _ λi=>by
  obtain⟨z,_,e⟩:=g i;have a:(c.den:Int)∣(cf p i).num*c.num:=⟨z*(cf p i).den,DH⟩;refine dvd_one a ?_;show Nat.gcd (c.den:Int).natAbs c.num.natAbs=1;rw[Az,CN];exact c.reduced
 obtain⟨u,b⟩:=b;obtain⟨v,hv⟩:=hv;have x:u≠0:=λe=>w (by rw[b,e,FB]);have r:v≠0:=λe=>n (by rw[hv,e,FB]);intro i;obtain⟨e,o⟩:=M i;obtain⟨m,q⟩:=D i;obtain⟨z,k,l⟩:=g i;have R:((cf p i).den:Int)≠0:=by have:=(cf p i).den_nz;omega
 have t:z=m*e*(u*v):=by
  have B:z*(((cf p i).den:Int)*c.den)=m*e*(u*v)*(((cf p i).den:Int)*c.den):=by
   rw[<-l,q,b,hv,o];generalize ((cf p i).den:Int)=d;generalize (c.den:Int)=f;grind
  exact Int.eq_of_mul_eq_mul_right (Cv R s) B
 refine⟨m*e,k.le ?_,?_⟩
 . rw[t,Cx (m*e)]
   have:0<(u*v).natAbs:=Int.natAbs_pos.2 (Cv x r)
   exact A3 _ this
 . have V:(G:Rat)≠0:=by exact_mod_cast n
   have j:cf p i*((cf p i).den:Rat)=((cf p i).num:Rat):=Hp _;rw[q,Aq]at j;have X:(L:Rat)=((cf p i).den:Rat)*(e:Rat):=by rw[o,Aq,AF]
   grind
def XP(p:List Rat):Nat->Nat
 |0=>1
 |n+1=>Nat.lcm (XP p n) (cf p n).den
def Xy(p:List Rat):Nat->Nat
 |0=>0
 |n+1=>Nat.gcd (Xy p n) (cf p n).num.natAbs
def WR(p:List Rat):∀n,0<XP p n:=by
 intro n;induction n with
 |zero=>exact Nat.one_pos
 |succ n a=>exact Nat.lcm_pos a (cf p n).den_pos
theorem RB(p:List Rat):∀n i,i<n->(cf p i).den∣XP p n:=by
 intro n;induction n with
 |zero=>intro i h;omega
 |succ n a=>
  intro i h;grind[XP,Nat.dvd_lcm_right,Nat.dvd_trans,Nat.dvd_lcm_left]
def RC(p:List Rat)(u:Nat)(h:∀i,(cf p i).den∣u):∀n,XP p n∣u:=by
 intro n;induction n with
 |zero=>exact Nat.one_dvd _
 |succ n a=>exact Nat.lcm_dvd a (h n)
theorem RD(p:List Rat):∀n i,i<n->Xy p n∣(cf p i).num.natAbs:=by
 intro n;induction n with
 |zero=>intro i h;omega
 |succ n a=>
  intro i h;grind[Xy,CO,Nat.dvd_trans,C7]
def WS(p:List Rat)(v:Nat)(h:∀i,v∣(cf p i).num.natAbs):∀n,v∣Xy p n:=by
 intro n;induction n with
 |zero=>exact Nat.dvd_zero _
 |succ n a=>exact Nat.dvd_gcd a (h n)
theorem WT{D:Int}{K:Nat}{c:Rat}(hD:D≠0)(h:CD D K c):∃n:Int,Sm K n/\c*(D:Rat)=(n:Rat):=by
 obtain⟨n,rfl,h⟩:=h;refine⟨n,h,?_⟩;have a:(D:Rat)≠0:=by exact_mod_cast hD
 grind[AD]
theorem OI{D:Int}{K:Nat}{c:Rat}{n:Int}(hD:D≠0)(hn:Sm K n)(h:c*(D:Rat)=(n:Rat)):CD D K c:=by
 refine⟨n,?_,hn⟩;have a:(D:Rat)≠0:=by exact_mod_cast hD
 grind[AD]
theorem WU{D:Int}{K:Nat}{p:List Rat}(hD:D≠0)(hs:Sm K D)(h:EZ D K p)(n:Nat):Sm K (XP p n:Int):=by
 refine hs.le ?_;rw[Az];refine Nat.le_of_dvd (Int.natAbs_pos.2 hD) (RC p _ (λi=>?_) n);obtain⟨z,_,e⟩:=WT hD (h i);grind[oC,CB]
def WV{K:Nat}{p:List Rat}(h:∀i,Sm K (cf p i).num):∀n,Sm K (Xy p n:Int):=by
 intro n;induction n with
 |zero=>exact Sm.zero K
 |succ n a=>exact Sm.gcd a (h n)
def EZ.ln{D:Int}{K:Nat}{p:List Rat}(hD:D≠0)(h:EZ D K p):Ln K p:=
 ⟨(D:Rat),by exact_mod_cast hD,λi=>WT hD (h i)⟩
theorem Ma{p:List Rat}(hp:Jc p=p)(a:p≠[]):Xy p p.length≠0:=λe=>by
 have hl:0<p.length:=Ae.2 a;have b:=RD p p.length (p.length-1) O;grind[Nat.zero_dvd,Jt,Fo]
def Jp(p:List Rat):List Rat:=DN ((XP p p.length:Rat)/(Xy p p.length:Rat)) p
theorem oE{p:List Rat}(hp:Jc p=p)(a:p≠[]):0<(XP p p.length:Rat)/(Xy p p.length:Rat):=by
 have b:(0:Rat)<(XP p p.length:Rat):=by exact_mod_cast WR p _
 have c:(0:Rat)<(Xy p p.length:Rat):=by exact_mod_cast Nat.pos_of_ne_zero (Ma hp a)
 grind[Rat.mul_pos,Rat.inv_pos]
theorem RE{p:List Rat}(hp:Jc p=p)(b:p≠[]){K:Nat}(h:Ln K p):∀i,∃z:Int,Sm K z/\cf (Jp p) i=(z:Rat):=by
 have a:∀i,p.length<=i->cf p i=0:=λi hi=>Ys hi;have c:=oD (p:=p) (L:=(XP p p.length:Int)) (G:=(Xy p p.length:Int)) (λi=>by
  by_cases hi:i<p.length
  . grind[Int.natCast_dvd_natCast,RB]
  . rw[a i O];exact Int.one_dvd _) (λu d=>by
  refine CB.2 (RC p _ (λi=>CB.1 (d i)) _)) (λi=>by
  by_cases hi:i<p.length
  . exact CB.2 (RD p _ i hi)
  . rw[a i O];exact Int.dvd_zero _) (λv hv=>by
  have:v.natAbs∣Xy p p.length:=WS p _ (λi=>Cu.2 (hv i)) _
  grind[Int.natAbs_dvd,Int.natCast_dvd_natCast]) (by have:=Ma hp b;omega) h
 intro i;obtain⟨z,e,f⟩:=c i;grind[Jp,Yy,AF]
structure DivS(A la:Nat)(S:Nat->List Rat->List Rat->Prop)(qs:List Rat):Prop where
 next:∀(k:Nat) (R Q:List Rat) (n:Nat) (a:Rat),S k R Q->(∀i,i+qs.length<=R.length->cf Q i=0)->qs.length<=R.length->n=R.length-qs.length->a=cf R (R.length-1)/cf qs (qs.length-1)->
  (∀i,cf (JT R (Ji (Jc (Gl n [a])) qs)) i=cf R i-(if n<=i then a*cf qs (i-n)else 0))->(∀i,cf (XB Q (Jc (Gl n [a]))) i=if i=n then a else cf Q i)->S (k+1) (JT R (Ji (Jc (Gl n [a])) qs)) (XB Q (Jc (Gl n [a])))
 size:∀(k:Nat) (R Q:List Rat),k<=la->S k R Q->Sqs R/\Sqs Q/\∃z,z+(2*A+1)<=1000000000/\∀i,DQ z (cf R i)
end
section
variable {D E l:Int} {K A:Nat} {ps qs:List Rat}
structure Dvn(D E l:Int)(K A:Nat)(ps qs:List Rat):Prop where
 hD:D≠0
 sD:Sm K D
 hp:EZ D K ps
 hE:E≠0
 sE:Sm A E
 hq:EZ E A qs
 hl:l≠0
 sl:Sm A l
 lead:cf qs (qs.length-1)=Rat.divInt l E
variable{m:Nat}
def Dvn.lne(h:Dvn D E l K A ps qs):cf qs (qs.length-1)≠0:=by
 rw[h.lead];intro e;have hE:(E:Rat)≠0:=by exact_mod_cast h.hE
 have a:(l:Rat)/(E:Rat)*(E:Rat)=l:=Aj hE;rw[<-AD,e,AY]at a;exact h.hl (by exact_mod_cast a.symm)
def Dvn.den(h:Dvn D E l K A ps qs)(k:Nat):D*l^k≠0/\Sm (K+k*(A+1)+1) (D*l^k):=by
 refine⟨Cv h.hD (Int.pow_ne_zero h.hl),(h.sD.mul (h.sl.powZ k)).mono ?_⟩;rw[CL];omega
def Dvn.at(h:Dvn D E l K A ps qs)(k:Nat):(∀i,DQ (K+k*(A+1)+1) (cf (JO ps qs (qs.length-1) m k).2 i))/\∀i,DQ (K+k*(A+1)+1) (cf (JO ps qs (qs.length-1) m k).1 i):=by
 have b:=WI (m:=m) h.hD h.hp h.hE h.sE h.hq h.hl h.sl h.lead h.lne k;have a:=h.den k;exact⟨λi=>((b.1 i).mono O).smq a.1 a.2,λi=>((b.2 i).mono O).smq a.1 a.2⟩
def Dvn.sizes(h:Dvn D E l K A ps qs)(b:2*(K+m*(A+1)+1)+2*(2*A+1)<=1000000000):∀k,k<=m->∃z,z+(2*A+1)<=1000000000/\(k<m->2*z+2*(2*A+1)<=1000000000)/\(∀i,DQ z (cf (JO ps qs (qs.length-1) m k).2 i))/\∀i,DQ (z+A) (cf (JO ps qs (qs.length-1) m k).1 i):=by
 intro k hk;have a:k*(A+1)<=m*(A+1):=Ad _ hk;exact⟨K+k*(A+1)+1,O,λ_=>by omega,(h.at k).1,λi=>((h.at k).2 i).mono O⟩
def Dvn.rem(h:Dvn D E l K A ps qs)(b:ps.length-(qs.length-1)=m):EZ (D*l^m) (K+m*(A+1)) (JU ps qs)/\EZ (D*l^m) (K+m*(A+1)) (Jn ps qs):=by
 have a:=WI (m:=m) h.hD h.hp h.hE h.sE h.hq h.hl h.sl h.lead h.lne m;refine⟨λi=>?_,λi=>?_⟩
 . unfold JU;rw[YD,b];exact a.1 i
 . unfold Jn;rw[YD,b];exact a.2 i
end
def Ec(A:Nat)(p:List Rat):Prop:=∀i,∃z:Int,Sm A z/\cf p i=(z:Rat)
theorem Ec.cdl{A:Nat}{p:List Rat}(h:Ec A p):EZ 1 A p:=λi=>by
 obtain⟨z,a,b⟩:=h i;exact OI DK a (by rw[b];grind)
def Ec.mono{A B:Nat}{p:List Rat}(h:Ec A p)(c:A<=B):Ec B p:=λi=>by
 obtain⟨z,a,b⟩:=h i;exact⟨z,a.mono c,b⟩
def Ec.ln{A:Nat}{p:List Rat}(h:Ec A p):Ln A p:=h.cdl.ln DK
def Ec.smq{A:Nat}{p:List Rat}(h:Ec A p)(hA:1<=A)(i:Nat):DQ A (cf p i):=(h.cdl i).smq DK (Sm.one A hA)
theorem RF{A:Nat}{p:List Rat}(hp:Jc p=p)(d:p≠[])(h:Ln A p):∃E:Int,E≠0/\Sm A E/\EZ E A (Jr p):=by
 obtain⟨c,g,b⟩:=h;have hl:=Jt hp d;obtain⟨E,f,a⟩:=b (p.length-1);have hE:E≠0:=λe=>by
  rw[e]at a;exact Y7 hl g a
 refine⟨E,hE,f,λi=>?_⟩;obtain⟨z,j,k⟩:=b i;grind[OI,Jr,Yy]
def Ln.sqs{A:Nat}{p:List Rat}(hp:Jc p=p)(h:Ln A p)(hA1:1<=A):∀i,DQ A (cf (Jr p) i):=by
 by_cases a:p=[]
 . subst a;intro i;rw[nu,X6];exact DQ.zero _ hA1
 . obtain⟨E,b,c,d⟩:=RF hp a h;exact λi=>(d i).smq b c
theorem WW(c:Rat):Yn c=c\/Yn c=-c:=by
 grind[Yn]
theorem oF{c:Rat}(h:c≠0):Yn c≠0:=by
 grind[WW]
theorem oG{c:Rat}(h:c≠0):∀n:Nat,c^n≠0:=by
 intro n;induction n with
 |zero=>grind
 |succ n a=>grind
def Ed(p q:List Rat):Rat:=Yn (cf q (q.length-1))^(p.length+1-q.length)
def XQ(p q:List Rat):List Rat:=DN (Ed p q) p
def XI(p q:List Rat):List Rat:=JT [] (Jp (JU (XQ p q) q))
def oH:Jp []=[]:=rfl
theorem J5(p:List Rat):Jc (Jp p)=Jp p:=JH _ _
theorem Xf{p:List Rat}(hp:Jc p=p):∃c:Rat,0<c/\Jp p=DN c p:=by
 by_cases a:p=[]
 . subst a;exact⟨1,DK,rfl⟩
 . exact⟨_,oE hp a,rfl⟩
def LX{p:List Rat}(hp:Jc p=p){K:Nat}(h:Ln K p):Ec K (Jp p):=by
 by_cases a:p=[]
 . subst a;exact λi=>⟨0,Sm.zero K,by rw[oH,X6];rfl⟩
 . exact RE hp a h
theorem RG{p q:List Rat}(hq:Jc q=q)(a:q≠[]):Ed p q≠0:=oG (oF (Jt hq a)) _
theorem Ij(p q:List Rat):Jc (XI p q)=XI p q:=Yz _ _
theorem RH{p q:List Rat}(hq:Jc q=q)(a:q≠[]):∃c:Rat,c≠0/\XI p q=DN c (JU p q)/\XI p q=DN (-1) (Jp (JU (XQ p q) q)):=by
 have b:XI p q=DN (-1) (Jp (JU (XQ p q) q)):=YG (Ij _ _) (JH _ _) λx=>by
  grind[XI,Xt,Jo,ev]
 have e:=(OG (c:=Ed p q) (d:=1) DK p q hq a).2;grind[Ii,Xf,XH,XQ,RG,LW]
theorem WX{p q:List Rat}(hq:Jc q=q)(a:q≠[]){A:Nat}(h:Ln A (JU p q)):Ec A (Jp (JU (XQ p q) q))/\Ec A (XI p q):=by
 have b:=(OG (c:=Ed p q) (d:=1) DK p q hq a).2;rw[Ii hq]at b;have f:Ec A (Jp (JU (XQ p q) q)):=LX (XH _ _) (by unfold XQ;rw[b];exact h.sc (RG hq a));refine⟨f,λi=>?_⟩;obtain⟨z,g,j⟩:=f i;obtain⟨_,_,_,e⟩:=RH (p:=p) hq a;exact⟨-z,g.neg,by rw[e,Yy,j,Rat.intCast_neg];grind⟩
structure Chn(p q:List Rat)(A:Nat)(a b:List Rat):Prop where
 ta:Jc a=a
 tb:Jc b=b
 wa:Ec A a
 wb:Ec A b
 gc:Js a b=Js p q
 la:a.length<=max p.length q.length
 lb:b.length<=q.length
 nx:b≠[]->Ln A (JU a b)
 eu:Eu (Jp p) (Jp q) a b
def Dc(K:Nat)(p q:List Rat):Nat:=(K+1)*(p.length+q.length+1)
theorem OJ(K:Nat)(p q:List Rat):K+1<=Dc K p q:=by
 grind[Dc]
def WY(K:Nat)(p q:List Rat):(K+1)*(p.length+q.length)<=Dc K p q:=Ai _ O
theorem JJ{p:List Rat}(hp:Jc p=p):(Jp p).length=p.length:=by
 grind[Xf,YQ]
theorem WZ{p q:List Rat}(hp:Jc p=p)(hq:Jc q=q):Js (Jp p) (Jp q)=Js p q:=by
 grind[Xf,RA]
section
variable {K:Nat} {p q a b:List Rat}
def Chn.ln_rem(hp:Jc p=p)(hq:Jc q=q)(d:Ln K p)(e:Ln K q)(hl:p.length+q.length<=1000000000)(h:Eu (Jp p) (Jp q) a b)(f:b≠[]):Ln (Dc K p q) (JU a b):=by
 have c:=WO (J5 p) (J5 q) (LX hp d).ln (LX hq e).ln (by rw[JJ hp,JJ hq];exact hl) h f;rw[JJ hp,JJ hq]at c;exact c.mono (WY _ _ _)
def Chn.start(hp:Jc p=p)(hq:Jc q=q)(a:Ln K p)(b:Ln K q)(hl:p.length+q.length<=1000000000):Chn p q (Dc K p q) (Jp p) (Jp q) where
 ta:=J5 p
 tb:=J5 q
 wa:=(LX hp a).mono (by have:=OJ K p q;omega)
 wb:=(LX hq b).mono (by have:=OJ K p q;omega)
 gc:=WZ hp hq
 la:=by rw[JJ hp];omega
 lb:=by rw[JJ hq];exact Aa _
 nx:=Chn.ln_rem hp hq a b hl (.base _ _)
 eu:=.base _ _
def Chn.next(hp:Jc p=p)(hq:Jc q=q)(i:Ln K p)(j:Ln K q)(hl:p.length+q.length<=1000000000)(h:Chn p q (Dc K p q) a b)(d:b≠[]):Chn p q (Dc K p q) b (XI a b):=by
 obtain⟨c,g,e,_⟩:=RH (p:=a) h.tb d;have f:Eu (Jp p) (Jp q) b (XI a b):=by rw[e];exact h.eu.tail d g
 have l:(XI a b).length<b.length:=by
  rw[e,YQ g (XH _ _)];exact(Y3 a b h.tb d).2.1
 have k:=h.lb;exact⟨h.tb,Ij _ _,h.wb,(WX h.tb d (h.nx d)).2,by rw[<-f.gcd (J5 p) (J5 q)];exact WZ hp hq,O,O,Chn.ln_rem hp hq i j hl f,f⟩
end
def Xo{a b:List Rat}(f:Jc b=b)(d:b≠[]):(XI a b).length<b.length:=by
 obtain⟨c,g,e,_⟩:=RH (p:=a) f d;rw[e,YQ g (XH _ _)];exact(Y3 a b f d).2.1
structure Rhn(p q:List Rat)(A:Nat)(a b:List Rat):Prop where
 ta:Jc a=a
 tb:Jc b=b
 ca:∃D:Int,D≠0/\Sm A D/\EZ D A a
 cb:∃E:Int,E≠0/\Sm A E/\EZ E A b
 mb:b≠[]->cf b (b.length-1)=1
 ma:Jr a=a
 gc:Js a b=Js p q
 la:a.length<=max p.length q.length
 lb:b.length<=q.length
 nx:b≠[]->Ln A (JU a b)
 eu:Eu (Jr p) (Jr q) a b
def RI{A:Nat}(hA:1<=A):∃D:Int,D≠0/\Sm A D/\EZ D A []:=⟨1,DK,Sm.one A hA,λi=>by rw[X6];exact CD.zero _ _⟩
def Mb{A:Nat}{p:List Rat}(hp:Jc p=p)(h:Ln A p)(hA:1<=A):∃E:Int,E≠0/\Sm A E/\EZ E A (Jr p):=by
 by_cases a:p=[]
 . subst a;exact RI hA
 . exact RF hp a h
section
variable {K:Nat} {p q a b:List Rat}
end
theorem OK(q:Rat):Xe q 0<0↔q<0:=by
 grind[Rat.lt_iff,Xe,XO]
def oI(a b:Nat):(a:Int)*((b:Int)/((Int.gcd a b:Nat):Int))=((Nat.lcm a b:Nat):Int):=by
 show(a:Int)*((b:Int)/((Nat.gcd a b:Nat):Int))=_;rw[<-C6,<-Int.natCast_mul];congr 1;rw[Nat.lcm,Nat.mul_div_assoc _ (CO a b)]
theorem IH(ps:List Rat)(i:Nat):(if((i:Nat):Int)<0 then(0:Rat)else cf ps ((i:Nat):Int).toNat)=cf ps i:=by
 grind
namespace M3
def RJ(n:Nat)(h:n<=2199023255552)(w:T):(Instr.makeSlice 22 (G F (n:Int)) (G F (n:Int))).run U w=.ok (C (some ⟨w.heap.size,0,none⟩) n n) (w.alloc (H (YH n) 41)):=by
 obtain⟨i,hi,b⟩:=CP.1 Tryz.infoRat;simp only[Fg]at b;obtain⟨d,hs,c⟩:=b;have a:=run_make (P:=U) w 22 41 i _ Tryz.underlying22 hi d F F n n O (Int.le_refl _) (by rw[c];omega) O;simp only[CX,hs]at a;exact a
