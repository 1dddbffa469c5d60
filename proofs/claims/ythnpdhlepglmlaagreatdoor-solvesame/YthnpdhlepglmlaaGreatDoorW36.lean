import Derived.Test.YthnpdhlepglmlaaGreatDoorW35
set_option linter.all false
open Go.Value renaming slice->C,int->G,pointer->L,bool->P,string->W
open Go.IntKind renaming i64->F
open Go.Obj renaming cells->H
open Go renaming undef->I,World->T
open Go.Proofs.Tryz renaming prog->U
set_option maxRecDepth 99999
set_option maxHeartbeats 0
namespace Go.Proofs.YthnpdhlepglmlaaGreatDoor
open Proofs.Tryz
open Go.RowKit Go.Shelf
attribute [local go_sem] Oper.semAt_some
section
variable{cs:Array Value}{m:Nat × Nat}{t:TypeId}{W':T}
def nL(p q:Addr)(w:T):
 CallsD U 90 #[L (some p),L (some q)] .returning w λe d w'=>e=.returned (.tuple #[])/\d=.returning/\w'=w.alloc (H #[G F 0,G F 0] 95):=by
 have a:∀w:T,(Instr.typeAssert Value.nilIface 20 95 true).run U w=.ok (.tuple #[.agg #[G F 0,G F 0],P false]) w:=λ_=>by kernel_rfl
 refine callsD_of_wpS func90 J λb cs c=>?_;apply wpS_seq;apply wpS_region;simp[wpOpsS,go_sem,recoverD,c,ntmps90,Exit.thenS,a];apply wpS_seq;apply wpS_region;simp[wpOpsS,go_sem,Exit.thenS];refine wpS_cond (t:=false) (by simp[Act.eval,Array.replicate]) ?_;simp only[CQ,if_false];refine wpS_of_wp (wp_skip ?_);cases b;simp_all [bodyPostS,results,results90]
def nM(p q:Nat)(a p0:Int)(w:T)(g:Boxed w p 25 (C none 0 0))(i:JD w q 95 (G F 0) (G F 0))(k:p≠q):
 CallsD U 90 #[L (some ⟨p,0,none⟩),L (some ⟨q,0,none⟩)] (.panicking [{ v:=Hu a p0,recovered:=false }]) w λe A w'=>e=.returned (.tuple #[])/\A=.panicking [{ v:=Hu a p0,recovered:=true }]/\Boxed w' p 25 (C none 0 0)/\JD w' q 95 (G F a) (G F p0)/\∀n w0,Below n w0 w->n<=w.heap.size->n<=p->n<=q->Below n w0 w':=by
 unfold Hu;have l:∀w:T,(Instr.typeAssert (.iface 95 (.agg #[G F a,G F p0])) 20 95 true).run U w=.ok (.tuple #[.agg #[G F a,G F p0],P true]) w:=λ_=>by kernel_rfl
 refine callsD_of_wpS func90 J λB cs r=>?_;apply wpS_seq;apply wpS_region;simp[wpOpsS,go_sem,recoverD,r,ntmps90,Exit.thenS,l];apply wpS_seq;apply wpS_region;simp[wpOpsS,go_sem,Exit.thenS];refine wpS_cond (t:=true) (by simp[Act.eval,Array.replicate]) ?_;simp only[if_true];refine wpS_of_wp ?_;simp[Array.replicate];have d:=JD.new w 95 (G F a) (G F p0);have c:=g.alloc (H #[G F a,G F p0] 95);have b:=i.alloc (H #[G F a,G F p0] 95);have x:p≠w.heap.size:=by have:=g.lt;omega
 have y:q≠w.heap.size:=by have:=i.lt;omega
 have f:=Z λ(n:Nat) (w0:T) (h:Below n w0 w) (hn:n<=w.heap.size)=>h.alloc hn (H #[G F a,G F p0] 95);obtain⟨W,j⟩:=ex (w.alloc (H #[G F a,G F p0] 95));rw[j]at d c b f;rw[j];obtain⟨D,hD⟩:=ex (w.heap.size);rw[hD]at d x y f;rw[hD];clear j g i l r;obtain⟨d0,d1⟩:=d.cp;have x0:=c.cell;have x1:=c.frozen;obtain⟨y0,y1⟩:=b.cp;obtain⟨z0,E⟩:=b.fp;have s:=Z c;have u:=Z b;clear c b d;go_region
 have hX:Boxed (((W.setCell ⟨p,0,none⟩ (C none 0 0)).setCell ⟨q,0,none⟩ (G F a)).setCell ⟨q,1,none⟩ (G F p0)).drew p 25 (C none 0 0):=
  (BB _ ⟨q,1,none⟩ (G F p0) p k).trans ((BB _ ⟨q,0,none⟩ (G F a) p k).trans (s.o.set (C none 0 0)))
 have o:JD (((W.setCell ⟨p,0,none⟩ (C none 0 0)).setCell ⟨q,0,none⟩ (G F a)).setCell ⟨q,1,none⟩ (G F p0)).drew q 95 (G F a) (G F p0):=
  (((u.o.far (p:=⟨p,0,none⟩) (λe=>k e.symm) _).set0 _).set1 _).drew
 have hZ:∀n w0,Below n w0 w->n<=D->n<=p->n<=q->Below n w0 (((W.setCell ⟨p,0,none⟩ (C none 0 0)).setCell ⟨q,0,none⟩ (G F a)).setCell ⟨q,1,none⟩ (G F p0)).drew:=
  λn w0 h hn z m=>((((f.o n w0 h hn).setCell (p:=⟨p,0,none⟩) z _).setCell (p:=⟨q,0,none⟩) m _).setCell (p:=⟨q,1,none⟩) m _).drew
 generalize (((W.setCell ⟨p,0,none⟩ (C none 0 0)).setCell ⟨q,0,none⟩ (G F a)).setCell ⟨q,1,none⟩ (G F p0)).drew=V at hX o hZ ⊢;simp[bodyPostS,results,results90];exact⟨hX,o,hZ⟩
theorem nO(s:ByteArray)(g q0:Int)(w:T)(o:∀V R,DZ V R s 0->Calls U 91 #[L (some ⟨R,0,none⟩)] V λr w'=>V.grownBy w' (some R)/\r=.panicked [{ v:=Hu g q0,recovered:=false }]):
 Calls U 40 #[W s] w λr w'=>r=.returned (.tuple #[.agg #[C none 0 0],.agg #[G F g,G F q0]])/\Bl w w':=by
 have m:=Z o;clear o;go_enter_defers func40,ntmps40
 go_upto_region 3 with fail
 have b:=BF w 25 (C none 0 0);have a:=JD.new (w.alloc (H #[C none 0 0] 25)) 95 (G F 0) (G F 0);have c:DZ (((w.alloc (H #[C none 0 0] 25)).alloc (H #[G F 0,G F 0] 95)).alloc (H #[W s,G F 0] 151)) ((w.alloc (H #[C none 0 0] 25)).alloc (H #[G F 0,G F 0] 95)).heap.size s 0:=BC _ _;rw[Ax,Ax]at c;rw[Ax]at a;replace b:=(b.alloc (H #[G F 0,G F 0] 95)).alloc (H #[W s,G F 0] 151);replace a:=a.alloc (H #[W s,G F 0] 151);have hb:Bl w (((w.alloc (H #[C none 0 0] 25)).alloc (H #[G F 0,G F 0] 95)).alloc (H #[W s,G F 0] 151)):=((Ba w _).alloc (by rw[Ax];omega) _).alloc (by rw[Ax,Ax];omega) _;have q:(((w.alloc (H #[C none 0 0] 25)).alloc (H #[G F 0,G F 0] 95)).alloc (H #[W s,G F 0] 151)).heap.size=w.heap.size+1+1+1:=by rw[Ax,Ax,Ax]
 obtain⟨V,i⟩:=ex (((w.alloc (H #[C none 0 0] 25)).alloc (H #[G F 0,G F 0] 95)).alloc (H #[W s,G F 0] 151));rw[i]at b a c hb q;rw[i];obtain⟨t,j,l,u⟩:=Ds b a hb (m.o _ _ c);clear b a c hb i m q;go_wp2_with(go_at_call 91;refine u.o.mono ?_;rintro e w1 ⟨p,rfl⟩;have d:=Z p;clear p)
 have y:Boxed w1 w.heap.size 25 (C none 0 0):=t.o.kept d.o (λe=>by have:=Cg e;omega);have x:JD w1 (w.heap.size+1) 95 (G F 0) (G F 0):=(d.o.block _ j.o.lt λe=>by have:=Cg e;omega).trans j.o;have n:=l.o.grown d.o l.o.size (λk e=>by grind);refine leaves_cons (f:=90) (args:=#[L (some ⟨w.heap.size,0,none⟩),L (some ⟨w.heap.size+1,0,none⟩)]) DH (by simp[go_sem]) ?_;refine(nM w.heap.size (w.heap.size+1) g q0 _ y x O).mono ?_;rintro e E w2 ⟨rfl,rfl,z,A,B⟩;have D:=B _ _ n n.size (Aa _) O;have x0:=z.cell;obtain⟨y0,y1⟩:=A.cp;simp[Leaves,settle,results,results40,go_sem,x0,y0,y1];exact D
theorem nR{W:T}{F:Nat}(hF:W.heap[F]?=some (H cs t m))(i:t=95)(hg:W.grownBy W' (some F)):∀k v ds,Row k W v ds->Row k W' v ds:=by
 intro k v ds c;obtain⟨a,cap,e,_⟩:=id c;subst e;refine c.grown hg λp g hl=>?_;obtain⟨b,l,f,d,j,hb⟩:=c.typ hl;grind
def WM{W:T}{F:Nat}(hF:W.heap[F]?=some (H cs t m))(g:t=95)(hg:W.grownBy W' (some F)){r:Bool}{v:Value}{qs:List Rat}(h:RowK r W v qs):RowK r W' v qs:=by
 obtain⟨a,cap,e,k,c,l,d⟩:=h;refine⟨a,cap,e,k,c,l,?_⟩;rcases d with d|⟨b,i,f⟩
 . exact Or.inl d
 . refine Or.inr ⟨b,i,f.keep (hg.block b f.lt λe=>?_) (nR hF g hg)⟩;obtain⟨n,j,_⟩:=f;have e:=Cg e;subst e;have:=j.symm.trans hF;simp only[A6,C0]at this;subst g;have c:=this.2.1;revert c;cases r<;>(show ¬(_=_);decide)
theorem nS(s:ByteArray)(ps:List Rat)(w:T)(hP:∀V R,DZ V R s 0->Calls U 91 #[L (some ⟨R,0,none⟩)] V λr w'=>V.grownBy w' (some R)/\∃u,r=.returned u/\Je w' u ps):
 Calls U 40 #[W s] w λr w'=>∃u,r=.returned (.tuple #[u,.agg #[G F 0,G F 0]])/\Je w' u ps/\Bl w w':=by
 have M:=Z hP;clear hP;go_enter_defers func40,ntmps40
 go_upto_region 3 with fail
 have g:=BF w 25 (C none 0 0);have c:=JD.new (w.alloc (H #[C none 0 0] 25)) 95 (G F 0) (G F 0);have l:DZ (((w.alloc (H #[C none 0 0] 25)).alloc (H #[G F 0,G F 0] 95)).alloc (H #[W s,G F 0] 151)) ((w.alloc (H #[C none 0 0] 25)).alloc (H #[G F 0,G F 0] 95)).heap.size s 0:=BC _ _;rw[Ax,Ax]at l;rw[Ax]at c;replace g:=(g.alloc (H #[G F 0,G F 0] 95)).alloc (H #[W s,G F 0] 151);replace c:=c.alloc (H #[W s,G F 0] 151);have hb:Bl w (((w.alloc (H #[C none 0 0] 25)).alloc (H #[G F 0,G F 0] 95)).alloc (H #[W s,G F 0] 151)):=((Ba w _).alloc (by rw[Ax];omega) _).alloc (by rw[Ax,Ax];omega) _;have hz:(((w.alloc (H #[C none 0 0] 25)).alloc (H #[G F 0,G F 0] 95)).alloc (H #[W s,G F 0] 151)).heap.size=w.heap.size+1+1+1:=by rw[Ax,Ax,Ax]
 obtain⟨V,A⟩:=ex (((w.alloc (H #[C none 0 0] 25)).alloc (H #[G F 0,G F 0] 95)).alloc (H #[W s,G F 0] 151));rw[A]at g c l hb hz;rw[A];obtain⟨H0,D,K,HC⟩:=Ds g c hb (M.o _ _ l);clear g c l hb A M hz;go_wp2_with(go_at_call 91;refine HC.o.mono ?_;rintro e w1 ⟨ae,u1,rfl,B⟩;have m:=Z ae;obtain⟨a,d,b,rfl⟩:=B.form;have HU:=Z B.row;have j:Boxed w1 w.heap.size 25 (C none 0 0):=H0.o.kept m.o (λe=>by have:=Cg e;omega);have i:JD w1 (w.heap.size+1) 95 (G F 0) (G F 0):=(m.o.block _ D.o.lt λe=>by have:=Cg e;omega).trans D.o;have x0:=j.cell;have x1:=j.frozen;obtain⟨y0,y1⟩:=i.cp;obtain⟨z0,z1⟩:=i.fp;have E:=Z j;have H3:=Z i;clear ae B j i)
 have n:w.heap.size+1≠w.heap.size:=O
 have Qd:=K.o.grown m.o K.o.size (λk e=>by grind);have N:=E.o.set (C a d b);have Q:=FP E.o (C a d b) HU.o;have v:=H3.o.far (p:=⟨w.heap.size,0,none⟩) n (C a d b);have S:=Qd.setCell (p:=⟨w.heap.size,0,none⟩) (Aa _) (C a d b);generalize w1.setCell ⟨w.heap.size,0,none⟩ (C a d b)=o at N Q v S ⊢;have X:=(BB o ⟨w.heap.size+1,0,none⟩ (G F 0) w.heap.size λe=>n e.symm).trans N;have b2:=WM v J (J3 o (w.heap.size+1) 0 (G F 0)) Q;have x:=v.set0 (G F 0);have b4:=S.setCell (p:=⟨w.heap.size+1,0,none⟩) DG (G F 0);generalize o.setCell ⟨w.heap.size+1,0,none⟩ (G F 0)=q at X b2 x b4 ⊢;have d1:=(BB q ⟨w.heap.size+1,1,none⟩ (G F 0) w.heap.size λe=>n e.symm).trans X;have d2:=WM x J (J3 q (w.heap.size+1) 1 (G F 0)) b2;have y:=x.set1 (G F 0);have z:=b4.setCell (p:=⟨w.heap.size+1,1,none⟩) DG (G F 0);generalize q.setCell ⟨w.heap.size+1,1,none⟩ (G F 0)=t at d1 d2 y z ⊢;refine leaves_cons (f:=90) (args:=#[L (some ⟨w.heap.size,0,none⟩),L (some ⟨w.heap.size+1,0,none⟩)]) DH (by simp[go_sem]) ?_;refine(nL ⟨w.heap.size,0,none⟩ ⟨w.heap.size+1,0,none⟩ _).mono ?_;rintro e u' w2 ⟨rfl,rfl,rfl⟩;have e1:Boxed t w.heap.size 25 (C a d b):=d1;have f1:=(e1.alloc (H #[G F 0,G F 0] 95)).cell;have f2:=(y.alloc (H #[G F 0,G F 0] 95)).c0;have f3:=(y.alloc (H #[G F 0,G F 0] 95)).c1;have f4:=z.alloc z.size (H #[G F 0,G F 0] 95);have f5:=d2.below (Ba t (H #[G F 0,G F 0] 95));generalize t.alloc (H #[G F 0,G F 0] 95)=W5 at f1 f2 f3 f4 f5 ⊢;simp[Leaves,settle,results,results40,go_sem,f1,f2,f3];exact⟨⟨_,J,f5⟩,f4⟩
def WN{l:List UInt8}:∀(f:Nat) (b:Bool) (I m:Nat) (S d:List Rat) (k:Nat),I<=l.length->m<=I->Gf S m->FL l f b I S=.ok d k->∃r,r<=l.length/\Gf d r:=by
 intro f;induction f with
 |zero=>intro b I m S d k _ _ _ h;cases h
 |succ f q=>
  intro b I m S d k o w t h;cases g:XV l I with
  |error e p=>rw[Q4 g]at h;cases h
  |ok a u=>
   obtain⟨c,n⟩:=a;have s:=Pk o g;have i:=t.next (WI o g) s.2.2 b;have v:=II l u;rw[Q5 g]at h;split at h
   . rename_i j;have:=YZ j;exact q _ _ (m+1) _ _ _ O O i h
   . split at h
     . rename_i j;have:=YZ j;exact q _ _ (m+1) _ _ _ O O i h
     . split at h
       . cases h;exact⟨m+1,O,i⟩
       . cases h
def nT{l:List UInt8}{S:List Rat}{k:Nat}(h:Er l=.ok S k):∃m,m<=l.length/\Gf S m:=by
 unfold Er at h;have a:=GX (l:=l) (i:=0) O;split at h
 . rename_i b;have:=YZ b;exact WN _ _ _ 0 _ _ _ O O Gf.start h
 . exact WN _ _ _ 0 _ _ _ a O Gf.start h
theorem WO(l:List UInt8):(Xj l).1.length<=9/\∀i,DR 601 (cf (Xj l).1 i):=by
 by_cases h:300<l.length
 . grind[Xj,Xu,DR.zero]
 . rw[OR h];cases a:Er l with
   |error e p=>grind[Ma,Xu,DR.zero]
   |ok S k=>
    obtain⟨m,b,hs⟩:=nT a;rw[show(Ma (EStateM.Result.ok S k)).1=Jc S from J];exact⟨Ac (Yz _) (by rw[hs.1];exact Aa _),λi=>by rw[Yw];exact(hs.2 i).mono O⟩
def Kw(l:List UInt8)(w':T)(u:Value)(e p:Int):Prop:=e=((Xj l).2.1:Int)/\p=((Xj l).2.2:Int)/\Je w' u (Xj l).1
def nU(s:ByteArray)(hs:s.size<=300)(w:T):
 Calls U 40 #[W s] w λr w'=>∃u e p,r=.returned (.tuple #[u,.agg #[G F e,G F p]])/\Kw (Jj s) w' u e p/\Bl w w':=by
 have a:=OR (l:=Jj s) (by rw[JG];omega);cases b:Er (Jj s)with
 |error d q0=>
  rw[b]at a;refine(nO s d q0 w λV R c=>(WJ R s V c hs).mono λr w' h=>⟨h.1,h.2.1 _ _ b⟩).mono ?_;rintro r w' ⟨rfl,hb⟩;refine⟨_,_,_,J,?_,hb⟩;rw[Kw,a];exact⟨J,J,_,J,RowK.nil _ _⟩
 |ok S k=>
  rw[b]at a;refine(nS s (Jc S) w λV R c=>(WJ R s V c hs).mono λr w' h=>⟨h.1,by obtain⟨u,f,g,_⟩:=h.2.2 _ _ b;exact⟨u,f,g⟩⟩).mono ?_;rintro r w' ⟨u,rfl,i,hb⟩;refine⟨_,_,_,J,?_,hb⟩;rw[Kw,a];exact⟨J,J,i⟩
def RE(s:ByteArray)(w:T):
 Calls U 14 #[W s] w λr w'=>∃u e p,r=.returned (.tuple #[u,G F e,G F p])/\Kw (Jj s) w' u e p/\Bl w w':=by
 by_cases o:300<s.size
 . have S:(300:Int)<(s.size:Int):=O
   have A:=Z (show Xj (Jj s)=([],1,0)by unfold Xj;rw[BE (by rw[JG];exact o)]);clear o;go_enter func14,ntmps14
   go_wp2;exact A0 (v:=.tuple #[.agg #[C none 0 0],G F 1,G F 0]) (by simp[results,results14,go_sem]) J ⟨_,_,_,J,by rw[Kw,A.o];exact⟨J,J,_,J,RowK.nil _ _⟩,Ba w _⟩
 . have S:¬(300:Int)<(s.size:Int):=O
   have q:=Z λ(V:T)=>nU s O V;clear o;go_enter func14,ntmps14
   go_upto_region 4 with(go_at_call 40;refine(q.o _).mono ?_;clear q;rintro e w1 ⟨u1,f,p1,rfl,a,b⟩;obtain⟨c,i,d,rfl⟩:=a.2.2.form;have l:=Z a;have k:=Z b;clear a b)
   have M:w.heap.size<w1.heap.size:=by have:=k.o.size;rw[Ax]at this;omega
   have q0:Boxed w1 w.heap.size 25 (C none 0 0):=(k.o.block _ (by rw[Ax];omega)).trans (BF w 25 (C none 0 0));have y:=(Ba w _).trans (k.o.mono (by rw[Ax];omega));have g:=BF w1 25 (C c i d);have j:=JD.new (w1.alloc (H #[C c i d] 25)) 95 (G F f) (G F p1);rw[Ax]at j;replace g:=g.alloc (H #[G F f,G F p1] 95);have hA:Bl w1 ((w1.alloc (H #[C c i d] 25)).alloc (H #[G F f,G F p1] 95)):=(Ba w1 _).alloc (by rw[Ax];omega) _;have q1:=(hA.block _ q0.lt).trans q0;have b:=Bt y hA;have a:=l.o.2.2.row.below hA;have z:=Z (⟨l.o.1,l.o.2.1⟩:f=_/\p1=_);have t:w.heap.size≠w1.heap.size:=O
   have x:w.heap.size≠w1.heap.size+1:=O
   generalize (w1.alloc (H #[C c i d] 25)).alloc (H #[G F f,G F p1] 95)=R at g j hA q1 b a ⊢;clear hA q0 y k l M;obtain⟨Q,m⟩:=ex (w.heap.size);obtain⟨B,n⟩:=ex (w1.heap.size);rw[n]at g j t x;rw[m]at q1 t x;rw[n,m];have q2:Boxed R Q 25 (C none 0 0):=q1;have x0:=g.cell;obtain⟨y0,y1⟩:=j.cp;have z0:=q2.cell;have X:=q2.frozen;obtain⟨K,E,N,D⟩:=Ds q2 m b a;clear g j q1 q2 m n b a;go_region
   go_wp2_with fail
   have r0:=z0;refine A0 (v:=.tuple #[.agg #[C c i d],G F f,G F p1]) (by simp[results,results14,go_sem,r0]) J ⟨_,_,_,J,⟨z.o.1,z.o.2,_,J,?_⟩,?_⟩
   . exact(FP K.o (C c i d) D.o).below ((BA _ _).drew)
   . exact(N.o.setCell (p:=⟨Q,0,none⟩) (by rw[E.o];exact Aa _) _).drew
end
section
variable{k m:Nat}
theorem nV{q:Rat}(h:DR k q):(Ha q).length<=40*k+5:=by
 have a:=QS q.num;have b:=QS (q.den:Int);have c:=h.1.words;have d:=h.2.words;grind[Ha]
theorem DR.abs{q:Rat}(h:DR k q):DR k (Yv q):=by
 grind[lE,DR,Sm]
theorem nW(z:List Rat)(i:Nat)(a:Rat)(q:List Rat):∀(j k:Nat),i+j<=k->cf (Xn z i a q j) k=cf z k:=by
 intro j;induction j with
 |zero=>intro k _;rfl
 |succ j b=>
  intro k hk;grind[Xn,GG,Fi]
theorem OS(z:List Rat)(i:Nat)(a:Rat)(q:List Rat):∀(j k:Nat),cf (Xn z i a q j) k=cf z k\/cf (Xn z i a q j) k=cf z k+a*cf q (k-i):=by
 intro j;induction j with
 |zero=>intro k;exact Or.inl J
 |succ j b=>
  intro k;grind[Xn,GG,nW,Fi]
def DR.mul2{p q:Rat}(hp:DR k p)(hq:DR m q):DR (k+m) (p*q):=by
 rw[<-Pr];refine DR.divInt ?_ (hp.1.mul hq.1) (hp.2.mul hq.2);exact Cq (by have:=p.den_nz;omega) (by have:=q.den_nz;omega)
def DR.inv{q:Rat}(hq:DR m q)(a:q≠0):DR m q⁻¹:=by
 rw[Rat.inv_def];exact DR.divInt (λe=>a (Fn.1 e)) hq.2 hq.1
def DR.div2{p q:Rat}(hp:DR k p)(hq:DR m q)(a:q≠0):DR (k+m) (p/q):=by
 rw[Rat.div_def];exact hp.mul2 (hq.inv a)
def Ir{p:List Rat}(hp:Jc p=p)(h:∀i,m<=i->cf p i=0):p.length<=m:=by
 by_cases hl:p.length<=m
 . exact hl
 . exfalso
   exact Js hp DG (h _ O)
end
namespace M3
def ZQ(V:T)(g r:Nat):Prop:=∀j,j<r->V.cell? ⟨g,j*4,none⟩=some (P false)/\V.cell? ⟨g,j*4+1,none⟩=some (C none 0 0)/\V.cell? ⟨g,j*4+2,none⟩=some (P false)/\V.cell? ⟨g,j*4+3,none⟩=some (C none 0 0)
variable{cs:Array Value}{n:Int}{bs bs':List (Option (Nat × Dat))}{S:List Rat}{B B4 X g gQ i r:Nat}{t:TypeId}{v:Value}{V V' w:T}
theorem ZQ.of(h:ZQ V g r)(e:V'.heap[g]?=V.heap[g]?):ZQ V' g r:=λj a=>by
 obtain⟨b,c,d,f⟩:=h j a;grind[BR]
def Gg(w V:T)(bs:List (Option (Nat × Dat)))(B4:Nat)(n:Int)(gQ r:Nat):Prop:=DI w V bs/\Boxed V B4 3 (.int F n)/\ZQ V gQ r/\gQ<V.heap.size
def Gg.below{w V V':T}{bs:List (Option (Nat × Dat))}{B4:Nat}{n:Int}{gQ r:Nat}(h:Gg w V bs B4 n gQ r)(hb:Bl V V'):Gg w V' bs B4 n gQ r:=
 ⟨h.1.below hb,(hb.block B4 h.2.1.lt).trans h.2.1,h.2.2.1.of (hb.block gQ h.2.2.2),AB h.2.2.2 hb.size⟩
def Gg.own{w V V':T}{bs:List (Option (Nat × Dat))}{B4:Nat}{n:Int}{gQ r:Nat}{row:Option Nat}(h:Gg w V bs B4 n gQ r)(f:∃cs t m,V.heap[gQ]?=some (H cs t m))(hg:V.grownBy V' row)(c:∀x,row=some x->w.heap.size<=x/\∃o:Obj,V.heap[x]?=some o/\o.isCells=false):Gg w V' bs B4 n gQ r:=by
 have a:∀r,row=some r->∃o:Obj,V.heap[r]?=some o/\o.isCells=false:=λr e=>(c r e).2;refine⟨h.1.own hg c,YQ hg a (show Bx V B4 3 #[G F n]from h.2.1),h.2.2.1.of ?_,AB h.2.2.2 hg.size⟩;obtain⟨cs,t,m,e⟩:=f;refine hg.block gQ h.2.2.2 λd=>?_;obtain⟨o,b,g⟩:=a gQ d.symm;rw[e]at b;cases b;cases g
def Me(V:T)(m:Nat):Has V (.agg (YD m)) (.rats (List.replicate m 0)):=by
 refine⟨YD m,J,λj a=>?_⟩;rw[AK]at a;obtain⟨b,c,d,e⟩:=OJ a;exact⟨_,_,_,_,b,c,d,e,by rw[Ya];exact XE _⟩
def Hd(w:T)(a c:Option Addr)(la b lb d m:Nat)(e:Option Addr)(rc B5 gQ:Nat)(x:Option (Nat × Dat))(Q:List Rat):List (Option (Nat × Dat)):=
 [some (w.heap.size,.cell 25 (C a la b)),some (w.heap.size+1,.cell 25 (C c lb d)),some (w.heap.size+1+1,.cell 25 (C Option.none 0 0)),some (w.heap.size+1+1+1,.cell 25 (C Option.none 0 0)),
  x,some (B5,.cell 23 (C e la rc)),some (gQ,.rats Q),some (gQ+1,.cell 23 (C (some ⟨gQ,0,Option.none⟩) m m)),some (gQ+1+1,.cell 23 (C (some ⟨gQ,0,Option.none⟩) m m))]
def g4(la g:Nat)(R:List Rat):Option (Nat × Dat):=if la=0 then none else some (g,.rats R)
theorem nX(p:List Rat)(i:Nat)(c:Rat)(j:Nat):cf (p.set i c) j=c\/cf (p.set i c) j=cf p j:=by
 grind[GG,Fi]
def Gg.upd(h:Gg w V bs B4 n gQ r)(f:DI w V' bs')(b:∀B,B≠X->V'.heap[B]?=V.heap[B]?)(c:B4≠X)(d:gQ≠X):Gg w V' bs' B4 n gQ r:=by
 have e:=b gQ d;refine⟨f,(b B4 c).trans h.2.1,h.2.2.1.of e,?_⟩;refine Nat.lt_of_not_le λhle=>?_;have a:=Array.getElem?_eq_none_iff.2 hle;rw[e]at a;exact absurd (Array.getElem?_eq_none_iff.1 a) (by have:=h.2.2.2;omega)
def FX(w W V:T)(bs:List (Option (Nat × Dat)))(B4:Nat)(n:Int)(gQ r:Nat):Prop:=Gg w V bs B4 n gQ r/\KeepsOthers W V
def FX.below{w W V V':T}{bs:List (Option (Nat × Dat))}{B4:Nat}{n:Int}{gQ r:Nat}(h:FX w W V bs B4 n gQ r)(hb:Bl V V'):FX w W V' bs B4 n gQ r:=⟨h.1.below hb,h.2.trans (Xp hb)⟩
theorem WP{m:Nat × Nat}(h:Boxed V B4 3 v)(a:V.heap[X]?=some (H cs 50 m)):B4≠X:=λe=>by
 subst e;have:=a.symm.trans h;grind
def nY(V:T)(C:Nat)(x y z u:Value)(B:Nat)(h:B≠C):(put4 V C x y z u).heap[B]?=V.heap[B]?:=
 (BB _ ⟨C,3,none⟩ u B h).trans ((BB _ ⟨C,2,none⟩ z B h).trans ((BB _ ⟨C,1,none⟩ y B h).trans (BB V ⟨C,0,none⟩ x B h)))
def FX.al{W:T}(h:FX w W V bs B4 n gQ r){o:Obj}(m:DI w (V.alloc o) bs'):FX w W (V.alloc o) bs' B4 n gQ r:=
 have k:=h.below (Ba V o)
 ⟨⟨m,k.1.2⟩,k.2⟩
def FX.up{W:T}{p:Nat × Nat}(h:FX w W V bs B4 n gQ r)(m:DI w V' bs')(c:V.heap[X]?=some (H cs 50 p))(b:∀B,B≠X->V'.heap[B]?=V.heap[B]?)(a:gQ≠X)(k:KeepsOthers V V'):FX w W V' bs' B4 n gQ r:=
 ⟨h.1.upd m b (WP h.1.2.1 c) a,h.2.trans k⟩
theorem nZ{o o':Nat}{x:Value}(h:o≠o'):(V.setCell ⟨g,o',none⟩ x).cell? ⟨g,o,none⟩=V.cell? ⟨g,o,none⟩:=World.cell?_setCell_other _ _ _ _ DG
theorem ZQ.put(h:ZQ V g (i+1))(x y z u:Value):ZQ (putAt V g (i*4) x y z u) g i:=λj e=>by
 obtain⟨a,b,c,d⟩:=h j O;grind[putAt,nZ]
def boxed_below(h:Boxed V B t v)(hb:Bl V V'):Boxed V' B t v:=(hb.block B h.lt).trans h
def Is(V:T)(D:Nat)(rs a:Value)(R Q:List Rat):Prop:=RowK true V rs R/\RowK true V a Q/\V.heap[D]?=some (.deferred (some []))
def Is.below{V V':T}{D:Nat}{rs a:Value}{R Q:List Rat}(h:Is V D rs a R Q)(hb:Bl V V'):Is V' D rs a R Q:=⟨h.1.below hb,h.2.1.below hb,(hb.block D (Ab.1 h.2.2).1).trans h.2.2⟩
def Is.set{D:Nat}{rs f:Value}{R Q:List Rat}(h:Is V D rs f R Q){a:Option Addr}{l c:Nat}(b:Boxed V B 25 (C a l c))(x:Value):Is (V.setCell ⟨B,0,none⟩ x) D rs f R Q:=
 ⟨FP b x h.1,FP b x h.2.1,(BB _ ⟨B,0,none⟩ x D λe=>by
  have e:D=B:=e;have d:=h.2.2;rw[e,show V.heap[B]?=_ from b]at d;cases d).trans h.2.2⟩
def DI.asPoly(M:DI w V bs)(h:bs[i]?=some (some (B,.cell 25 (C Option.none 0 0)))):DI w V (bs.set i (some (B,.poly []))):=by
 have b:∀j B' d,(bs.set i (some (B,.poly [])))[j]?=some (some (B',d))->(∃a,bs[j]?=some (some (B',a)))/\((∃cs,Bx V B' d.ty cs/\Has V (.agg cs) d)/\w.heap.size<=B'):=λj B' d e=>by
  rw[List.getElem?_set]at e;split at e
  . rename_i m;subst m;split at e
    . cases e;exact⟨⟨_,h⟩,⟨_,(M.cell h).1,OI V⟩,(M.1 i _ _ h).2⟩
    . cases e
  . exact⟨⟨_,e⟩,M.1 j _ _ e⟩
 exact⟨λj B' d e=>(b j B' d e).2,λj k B' d a c f=>by
  obtain⟨⟨_,g⟩,_⟩:=b j B' d c;obtain⟨⟨_,l⟩,_⟩:=b k B' a f;exact M.2.1 j k B' _ _ g l,M.2.2⟩
def Mf(w2:T)(a:Option Addr)(la rc m:Nat):T:=(((w2.alloc (H #[C a la rc] 23)).alloc (H (YD m) 50)).alloc (H #[C (some ⟨w2.heap.size+1,0,none⟩) m m] 23)).alloc (H #[C (some ⟨w2.heap.size+1,0,none⟩) m m] 23)
theorem nd(A:Nat)(y qa:Option Addr)(la E lb x n m:Nat)(ps qs:List Rat)(w:T)(ha:RowK true w (C y la E) ps)(hb:RowK true w (C qa lb x) qs)(hq:∀i,DR A (cf qs i))(f9:Jc qs=qs)(dt:qs≠[])(hL:∀k,k<=m->∃z,z+(2*A+1)<=1000000000/\(k<m->2*z+2*(2*A+1)<=1000000000)/\(∀i,DR z (cf (JP ps qs n m k).2 i))/\∀i,DR (z+A) (cf (JP ps qs n m k).1 i))(hn:lb=n+1)(hm:la-n=m):
 Calls U 181 #[.agg #[C y la E],.agg #[C qa lb x]] w λe w'=>∃u v,e=.returned (.tuple #[u,v,P true])/\Je w' u (Jm ps qs)/\Je w' v (J6 ps qs)/\Bl w w':=by
 obtain⟨di,fx,gi,gy,s,t,aa,bb,ll,cc,kk,dd,gn⟩:=ha.forms;obtain⟨Qk,gh,gj,il,s',t',ah,ai,bg,aj,aq,am,dh⟩:=hb.forms;obtain⟨V0,fi,bm⟩:=VD 25 (.cell 25 (C y la E)) EN 25 (.cell 25 (C qa lb x)) EN 25 (.cell 25 (C none 0 0)) EN 25 (.cell 25 (C none 0 0)) EN (w:=w);have M1:=bm.o;have Wk:=Z (show Calls U 75 #[.agg #[C qa lb x]] V0 λe w'=>e=.returned (G F (n:Int))/\Bl V0 w' by
  have h:=Yq (.agg #[C qa lb x]) qs V0 ⟨_,J,hb.below M1.2.2⟩;rwa[show((qs.length:Int)-1)=(n:Int)by omega]at h)
 have Wg:=Z λ(V:T) (h:Bl w V)=>lL (C y la E) ps V (ha.below h);have ir:∀W:T,(Instr.makeSlice 23 (G F (m:Int)) (G F (m:Int))).run U W=.ok (C (some ⟨W.heap.size,0,none⟩) m m) (W.alloc (H (YD m) 50)):=λW=>LV m O W;obtain⟨d,ix⟩:=ex ((la:Int)-(n:Int):Int);have ja:IntKind.i64.wrap d=d:=by rw[BI];omega
 have io:max (0:Int) d=(m:Int):=O
 have iw:¬(n:Int)<0:=O
 obtain⟨HQ,Qb,Qe,S,Qr,Ug,Ui,HL⟩:=Ho dh di Qk (show lb=n+1/\la-n=m from⟨hn,hm⟩) hq f9 dt hL;have Qj:m<=1099511627776:=O
 clear ha hb gn dh di Qk fx gi gh gj hq f9 dt hL hn hm M1;have c1:=(bm.o.cell (i:=1) J).1.cell;refine(BH (n:=3)).1 ?_;refine BN func181 J trivial ?_ J;simp only[ntmps181,Am,Ai,AH,Nat.reduceAdd,Nat.reduceSub,Ar,As,AE,Az,Al,AC];gi_wp2_with fail
 rw[fi.o];refine⟨trivial,?_⟩;refine((BH (n:=_)).2 Wk.o).mono ?_;rintro e w1 ⟨rfl,df⟩;have Ue:Bl w1 (w1.alloc (H #[G F (n:Int)] 3)):=Ba w1 _;have Qo:=(bm.o.below df).below Ue;have h4:=BF w1 3 (G F (n:Int));have c0:=(Qo.cell (i:=0) J).1.cell;obtain⟨Qg,Qt,H4⟩:=DY (Wg.o _ Qo.2.2) Qo h4;clear Ue Qo h4 df c1;gi_wp2_with fail
 obtain⟨V1,cn⟩:=ex (w1.alloc (H #[G F (n:Int)] 3));obtain⟨B4,bn⟩:=ex (w1.heap.size);rw[cn]at Qg Qt H4 c0;rw[bn]at H4;rw[cn,bn];clear cn bn;refine⟨trivial,?_⟩;refine((BH (n:=_)).2 Qg.o).mono ?_;rintro e w2 ⟨u2,rfl,fg,_,bj,dj⟩;have gq:∃a gR rc,u2=C a la rc/\(la≠0->a=some ⟨gR,0,none⟩)/\(la≠0->V1.heap.size<=gR/\Dn true w2 gR ps)/\la<=rc/\rc<=9223372036854775807:=by
  obtain⟨a7,fm,e7,h7,h8,_⟩:=id fg;rcases dj with rfl|⟨g',cap,e1,e2,e3⟩
  . injection e7 with _ e7
    have h0:=Qb.o.trans e7.symm;exact⟨_,0,_,by rw[h0],λh=>absurd h0 h,λh=>absurd h0 h,O,O⟩
  . rw[e1]at e7;have e8:cap=fm:=by injection e7
    exact⟨_,g',cap,by rw[e1,Qb.o],λ_=>rfl,λ_=>⟨e2,e3⟩,by rw[Qb.o,e8];exact h7,by rw[e8];exact h8⟩
 obtain⟨a,gR,rc,rfl,dx,cj,dz,ed⟩:=gq;have Qi:=Z (show(la≠0->a=some ⟨gR,0,none⟩)/\la<=rc/\rc<=9223372036854775807 from⟨dx,dz,ed⟩);clear dz ed dx;have Uf:DI w w2 ([some (w.heap.size,.cell 25 (C y la E)),some (w.heap.size+1,.cell 25 (C qa lb x)),some (w.heap.size+1+1,.cell 25 (C Option.none 0 0)),some (w.heap.size+1+1+1,.cell 25 (C Option.none 0 0))]++[g4 la gR ps]):=by
  unfold g4;split
  . exact(Qt.o.below bj).none
  . exact Qt.o.adopt bj (cj (by assumption)).1 (cj (by assumption)).2
 have h4:Boxed w2 B4 3 (G F (n:Int)):=(bj.block B4 H4.o.lt).trans H4.o;have Uk:=Ba w2 (H #[C a la rc] 23);have h5:=boxed_below h4 Uk;have c4:=h5.cell;have Uv:=Z (Uf.push (.cell 23 (C a la rc)) (cs:=#[C a la rc]) ⟨J,J⟩);have H5:=Z h5;clear dj fg bj cj Uf h4 Uk h5 c0;gi_wp2_with fail
 refine⟨trivial,?_⟩;refine(QR Fence.wide _ trivial J _ _ _ _).mono ?_;rintro e w3 ⟨rfl,rfl⟩;have Qm:=Z (show Gg w (Mf w2 a la rc m) (Hd w y qa la E lb x m a rc w2.heap.size (w2.heap.size+1) (g4 la gR ps) (List.replicate m 0)) B4 (n:Int) (w2.heap.size+1) m by
  have Uo:=((Uv.o.push (.rats (List.replicate m 0)) (Me _ m)).push (.cell 23 (C (some ⟨w2.heap.size+1,0,none⟩) m m)) (cs:=#[C (some ⟨w2.heap.size+1,0,none⟩) m m]) ⟨J,J⟩).push (.cell 23 (C (some ⟨w2.heap.size+1,0,none⟩) m m)) (cs:=#[C (some ⟨w2.heap.size+1,0,none⟩) m m]) ⟨J,J⟩;simp only[Ax]at Uo;have hz:(Mf w2 a la rc m).heap[w2.heap.size+1]?=some (H (YD m) 50 (0,0)):=by
   have e:=BC (w2.alloc (H #[C a la rc] 23)) (H (YD m) 50);rw[Ax]at e;exact(BZ _ _ _ (by simp only[Ax];omega)).trans ((BZ _ _ _ DG).trans e)
  exact⟨Uo,boxed_below (boxed_below (boxed_below H5.o (Ba _ _)) (Ba _ _)) (Ba _ _),λj hj=>by
   obtain⟨h0,h1,h2,N⟩:=OJ hj;exact⟨cell_of hz h0,cell_of hz h1,cell_of hz h2,cell_of hz N⟩,(Ab.1 hz).1⟩)
 obtain⟨W3,an⟩:=ex (Mf w2 a la rc m);rw[an]at Qm;have Ql:W3.heap.size=w2.heap.size+1+1+1+1:=by rw[<-an];simp only[Mf,Ax]
 unfold Mf at an;rw[an];simp only[Ax];obtain⟨B5,bu⟩:=ex (w2.heap.size);rw[bu]at Qm Ql;rw[bu];clear Ql an bu c4;gi_wp2_with fail
 have Ul:=Z (show w.heap.size<=W3.heap.size from Qm.o.1.2.2.size);refine XY J O (gf:=173) (lb:=#[L (some ⟨B5+1+1+1,0,none⟩)]) J trivial (BW func173 (by kernel_rfl) J)
  (QQ Fence.wide _ trivial J O (B5+1+1+1) (some ⟨B5+1,0,none⟩) m m (λ_=>P false) (λ_=>C none 0 0) (λ_=>P false) (λ_=>C none 0 0) Qj) (λ_=>rfl)
  (λk W=>Gg w W (Hd w y qa la E lb x m a rc B5 (B5+1) (g4 la gR (JP ps qs n m k).2) (JP ps qs n m k).1) B4 (n:Int) (B5+1) (m-k)) (λ_ _ _=>False)
  (λk W W' row h hg hr=>h.own (by obtain⟨cs,h1,_⟩:=h.1.rats (i:=6) J;exact⟨cs,_,_,h1⟩) hg λr e=>⟨Ac Ul.o (hr r e).1,(hr r e).2⟩)
  (λc s W W' row h=>h.elim) Qm.o ?rd
  (λk=>{ tmps:=#[.agg #[C y la E],.agg #[C qa lb x],L (some ⟨w.heap.size,0,none⟩),L (some ⟨w.heap.size+1,0,none⟩),L (some ⟨w.heap.size+1+1,0,none⟩),L (some ⟨w.heap.size+1+1+1,0,none⟩),P false,L (some ⟨B4,0,none⟩),L (some ⟨B5,0,none⟩),L (some ⟨B5+1+1,0,none⟩),G F ((m:Int)-1-k),I,I,I,I,.agg #[C qa lb x],G F ↑n,G F ↑n,P (decide ((n:Int)<0)),I,I,L (some ⟨w.heap.size,0,none⟩),C y la E,C a la rc,C a la rc,G F ↑la,G F ↑n,G F d,G F ↑m,C (some ⟨B5+1,0,none⟩) m m,C (some ⟨B5+1,0,none⟩) m m,.func (.func 173) #[] #[L (some ⟨B5+1+1+1,0,none⟩)],G F ((m:Int)-1-k),.agg #[P false,C none 0 0,P false,C none 0 0],I,I,I,I,I,I,I,I,I,I,I,I,I,I,I,I,I,I,I,I,I,I,I,I,I,I,I,I,I,I,I,I,I,I,I,I,I,I,I,I,I,I,I,I,I,I,I],defers:=[] }) ?assign ?body ?done ?stop
 case stop=>intro D c k W _ _ h;exact h.elim
 case rd=>
  intro k W h;refine⟨(h.1.cell (i:=8) J).1.cell,λhk=>?_⟩;obtain⟨h0,h1,h2,N⟩:=h.2.2.1 (m-1-k) O;exact⟨B5+1,J,h0,h1,h2,N⟩
 case assign=>
  intro l k W K hK;unfold MQ;gi_wp2;exact hK
 case body=>
  intro l k W hS hk Ql;have Ud:la≠0:=by have:=S.o;omega
  obtain rfl:=Qi.o.1 Ud;have HG:=Z (show ∀X,g4 la gR X=some (gR,.rats X)from λ_=>BD Ud);rw[HG.o]at hS;obtain⟨gv,M,rfl,fo,q0,q1,q2,q3⟩:=HQ.o n (by have:=S.o;omega);have Ur:=Z (show ∀j,j<lb->∀V,Bl w V->(V.cell? ⟨M,j*4,none⟩=some (P (s' j))/\V.cell? ⟨M,j*4+1,none⟩=some (C (ah j) (bg j) (aj j))/\V.cell? ⟨M,j*4+2,none⟩=some (P (t' j))/\V.cell? ⟨M,j*4+3,none⟩=some (C (ai j) (aq j) (am j)))/\Jg V (.agg #[P (s' j),C (ah j) (bg j) (aj j),P (t' j),C (ai j) (aq j) (am j)]) (cf qs j)from λj hj V hB=>by
   obtain⟨hi,b,e,hb,c0,c1,c2,c3⟩:=HQ.o j hj;cases e;exact⟨⟨(hB.cell (p:=⟨M,_,none⟩) hb).trans c0,(hB.cell (p:=⟨M,_,none⟩) hb).trans c1,(hB.cell (p:=⟨M,_,none⟩) hb).trans c2,(hB.cell (p:=⟨M,_,none⟩) hb).trans c3⟩,hi.below hB⟩)
  clear gv fo q0 q1 q2 q3;have Qa:cf qs n≠0:=by
   have:=Js Ug.o Ui.o;rwa[show qs.length-1=n by have:=S.o;have:=Qe.o;omega]at this
  obtain⟨z,ic,de,ae,ap⟩:=HL.o k O;have Qv:z+(2*A+1)+(z+(2*A+1))<=1000000000:=O
  clear ic;obtain⟨i,hi⟩:=ex (m-(k+1):Nat);obtain⟨R,hR⟩:=ex ((JP ps qs n m k).2);obtain⟨Q,hQ⟩:=ex ((JP ps qs n m k).1);have Uy:R.length=la:=by rw[<-hR,(XB ps qs n m k).2];exact Qb.o.symm
  have Wj:Q.length=m:=by rw[<-hQ];exact(XB ps qs n m k).1
  rw[hR,hQ]at hS;rw[hR]at ae;obtain⟨t0,ia⟩:=ex (i+n:Nat);obtain⟨c,hc⟩:=ex (cf R t0/cf qs n);have Up:JP ps qs n m (k+1)=(Q.set i c,Xn R i (-c) qs qs.length):=by rw[JP];grind
  have Qd:DR (z+A) c:=by rw[<-hc];exact(ae t0).div2 (Qr.o n) Qa
  obtain⟨Wb,Qh,Ub⟩:=DY (show Sq c from Sq.of Qd O) (show ∀j,Sq (cf qs j)from λj=>Sq.of (Qr.o j) O) (show ∀j,Sq (c*cf qs j)from λj=>Sq.of (Qd.mul2 (Qr.o j)) O);have Wa:=Z (show ∀j t,Sq (cf (Xn R i (-c) qs j) t)from λj t=>by
   rcases OS R i (-c) qs j t with e|e
   . rw[e];exact Sq.of (ae t) O
   . rw[e];exact Sq.of ((ae t).add2 (Qd.neg.mul2 (Qr.o _))) O)
  obtain⟨Qu,Uu,Qw,Qy,Qc⟩:=GZ (show Sq (cf R t0)from Sq.of (ae t0) O) hc (show decide (cf qs n≠0)=true from BG Qa) Up (show R.length=la/\Q.length=m/\t0<la/\i<m/\m-k=i+1/\m-(k+1)=i by have:=S.o;omega);have Un:(m:Int)-1-(k:Int)=(i:Int):=O
  have ie:(i:Int)+(n:Int)=(t0:Int):=O
  have jb:IntKind.i64.wrap (t0:Int)=(t0:Int):=by rw[BI];have:=S.o;omega
  have iy:(t0:Int)<(la:Int):=by have:=Qc.o;omega
  have iu:(n:Int)<(lb:Int):=by have:=S.o;omega
  have ii:(i:Int)<(m:Int):=by have:=Qc.o;omega
  rw[Un];have Qf:FX w W W.drew (Hd w y (some ⟨M,0,none⟩) la E lb x m (some ⟨gR,0,none⟩) rc B5 (B5+1) (some (gR,.rats R)) Q++[Option.none]) B4 (n:Int) (B5+1) (m-k):=⟨⟨(hS.1.below ((BA _ W).drew)).none,(hS.below ((BA _ W).drew)).2⟩,Xp ((BA _ W).drew)⟩;clear hS hi hR hQ Uy Wj ia hc Qd de ae ap Qv Qa Up Un Ql;gi_wp2_with fail
  refine LP (Or.inr ⟨l,J⟩) Dh [[],[],[],[1,2],[0,3],[4],[],[6],[],[7,8],[9],[5,10],[11],[12],[12],[],[15,13,11,0,1,2,3,4,5,6,7,8,9,10,11,12,13,15],[14,16,0,1,2,3,4,5,6,7,8,9,10,11,12,13,14,15,16]] [.eq (C (some ⟨gR,0,none⟩) la rc),.eq (G F (i:Int)),.eq (G F (n:Int)),.eq (G F (t0:Int)),.eq (L (some ⟨gR,t0*4,none⟩)),.rat (cf R t0),.eq (L (some ⟨w.heap.size+1,0,none⟩)),.eq (C (some ⟨M,0,none⟩) lb x),.eq (G F (n:Int)),.eq (L (some ⟨M,n*4,none⟩)),.rat (cf qs n),.tup1 (.rat c),.tup1 (.rat c),.rat c,.eq (P true),.ptr,.eq I,.eq (P true)] [15,16] (λb v V=>FX w W V (Hd w y (some ⟨M,0,none⟩) la E lb x m (some ⟨gR,0,none⟩) rc B5 (B5+1) (some (gR,.rats R)) Q++[nb b v 0 1 (.rat 0) (.rat c)]) B4 (n:Int) (B5+1) (m-k)) Qf (SR (.vl J λ_ j=>MO 5 j.1.1)<|SR (.vl J λ_ _=>mv)<|SR (.vl J λ_ j=>⟨_,by have e0:=j.1.2.1.cell;refine DO ?_;go_simp,J⟩)<|SR (.vl J λh _=>⟨_,by refine DO ?_;rw[h.e 1,h.e 2];go_simp,J⟩)<|SR (.vl J λh _=>⟨_,by refine DO ?_;rw[h.e 0,h.e 3];go_simp,J⟩)<|SR (.vl J λh j=>QK 4 j.1.1 (by have:=Qc.o;omega) (h.e 4))<|SR (.vl J λ_ _=>⟨_,by refine DO ?_;go_simp,J⟩)<|SR (.vl J λh j=>⟨_,by have e0:=(j.1.1.cell (i:=1) J).1.cell;refine DO ?_;rw[h.e 6];go_simp,J⟩)<|SR (.vl J λ_ j=>⟨_,by have e0:=j.1.2.1.cell;refine DO ?_;go_simp,J⟩)<|SR (.vl J λh _=>⟨_,by refine DO ?_;rw[h.e 7,h.e 8];go_simp,J⟩)<|SR (.vl J λh j=>by
     obtain⟨⟨e0,e1,e2,e3⟩,hr⟩:=Ur.o n (by have:=S.o;omega) _ j.1.1.2.2;exact⟨_,by refine DO ?_;rw[h.e 9];go_simp,hr⟩)<|SR (.cl λh _=>N0 (by
     have q:=QP _ _ (cf R t0) (cf qs n) _ (h.g 5) (h.g 10) Qu.o (Qh.o n);rw[Qw.o,Uu.o]at q;exact q))<|SR (.vl J λh _=>mw (h.g 11))<|SR (.vl J λh _=>OB (h.g 12))<|SR (.vl J λh _=>OC (h.g 12))<|SR (.wr J λ_ j=>N3 9 j.1.1 (hT:=λm=>j.al m))<|SR (.wr J λh j=>LR 9 j.1.1 (h.g 13) (hp:=h.g 15) (hT:=λn m=>j.up m n (nY _ _ _ _ _ _) (j.1.1.ne 6 9 J J DJ) (QU _ _ _ _ _ _)))<|SR (.vl J λh _=>aw (h.g 14)) Stp.end_)
   λf V hF MM=>?_
  refine DO ?_;obtain⟨Bc,bz⟩:=hF.p 15;rw[hF.e 0,hF.e 1,hF.e 2,hF.e 3,hF.e 4,hF.e 6,hF.e 7,hF.e 8,hF.e 9,hF.e 14,hF.e 17,bz];have MM:=Du MM;simp only[bz]at MM;have HM:=Z MM;clear hF bz MM;obtain⟨s8,a8,l8,c8,t8,b8,k8,d8,n8,r8,i8,j8⟩:=HM.o.1.1.rat (i:=9) J;obtain⟨e0,e1,e2,e3⟩:=n8.cq;have e6:=(HM.o.1.1.cell (i:=7) J).1.cell;have hE:=HM.o.1.1.rats (i:=6) J;obtain⟨z0,z1,z2,z3⟩:=HM.o.1.2.2.1 i (by have:=Qc.o;omega);have f0:=hE.frozen (i*4);have f1:=hE.frozen (i*4+1);have f2:=hE.frozen (i*4+2);have f3:=hE.frozen (i*4+3);have Qz:=Z (show FX w W (putAt V (B5+1) (i*4) (P s8) (C a8 l8 c8) (P t8) (C b8 k8 d8)) (Hd w y (some ⟨M,0,none⟩) la E lb x m (some ⟨gR,0,none⟩) rc B5 (B5+1) (some (gR,.rats R)) (Q.set i c)++[some (Bc,.rat c)]) B4 (n:Int) (B5+1) i from by
   have hp:=HM.o.1.1.putRats (i:=6) J (j:=i) (by have:=Qc.o;omega) r8;obtain⟨cs,Qd,_⟩:=hE;refine⟨⟨hp,(MH (WP HM.o.1.2.1 Qd) _ _ _ _).trans HM.o.1.2.1,ZQ.put (by have h:=HM.o.1.2.2.1;rwa[Qc.o.2.2.2.2.1]at h) _ _ _ _,?_⟩,HM.o.2.trans (VZ _ _ _ _ _ _ _)⟩;exact(Ab.1 (VB Qd _ _ _ _)).1)
  have c9:=(Qz.o.1.1.cell (i:=1) J).1.cell;unfold putAt at c9;clear n8 i8 j8 hE r8;gi_wp2_with fail
  obtain⟨W9,bi⟩:=ex (putAt V (B5+1) (i*4) (P s8) (C a8 l8 c8) (P t8) (C b8 k8 d8));rw[bi]at Qz;unfold putAt at bi;rw[bi];clear bi c9 e0 e1 e2 e3 e6 z0 z1 z2 z3 f0 f1 f2 f3;gi_loopw [56] (λjv wr=>∃j:Nat,j<=lb/\jv=G F (j:Int)/\Hid (FX w W wr (Hd w y (some ⟨M,0,none⟩) la E lb x m (some ⟨gR,0,none⟩) rc B5 (B5+1) (some (gR,.rats (Xn R i (-c) qs j))) (Q.set i c)++[some (Bc,.rat c)]) B4 (n:Int) (B5+1) i)) λjv _=>lb-(intOf jv).toNat
  case atStart=>exact⟨0,Ap _,J,Qz⟩
  case round=>
   obtain⟨j,hj,rfl,HJ⟩:=hrel;by_cases gw:j<lb
   . have ij:(j:Int)<(lb:Int):=O
     obtain⟨⟨e0,e1,e2,e3⟩,ei⟩:=Ur.o j gw wr HJ.o.1.1.2.2;have Uz:=Z ei;obtain⟨g,ib⟩:=ex (i+j:Nat);have ig:(i:Int)+(j:Int)=(g:Int):=O
     have Qp:=Z (show g<la/\g=i+j by have:=Qc.o;have:=S.o;omega);have jc:IntKind.i64.wrap (g:Int)=(g:Int):=by rw[BI];have:=Qp.o;omega
     have iz:(g:Int)<(la:Int):=by have:=Qp.o;omega
     clear ei ib;gi_wp2_with fail
     have Qq:FX w W (wr.alloc (H #[P (s' j),C (ah j) (bg j) (aj j),P (t' j),C (ai j) (aq j) (am j)] 50)) (Hd w y (some ⟨M,0,none⟩) la E lb x m (some ⟨gR,0,none⟩) rc B5 (B5+1) (some (gR,.rats (Xn R i (-c) qs j))) (Q.set i c)++[some (Bc,.rat c)]++[some (wr.heap.size,.rat (cf qs j))]) B4 (n:Int) (B5+1) i:=by
      have h1:=HJ.o.below (Ba wr (H #[P (s' j),C (ah j) (bg j) (aj j),P (t' j),C (ai j) (aq j) (am j)] 50));exact⟨⟨HJ.o.1.1.push (.rat (cf qs j)) Uz.o,h1.1.2⟩,h1.2⟩
     obtain⟨Wd,co⟩:=ex (wr.alloc (H #[P (s' j),C (ah j) (bg j) (aj j),P (t' j),C (ai j) (aq j) (am j)] 50));obtain⟨Bd,ce⟩:=ex (wr.heap.size);rw[co,ce]at Qq;rw[co,ce];obtain⟨X,hX⟩:=ex (Xn R i (-c) qs j);rw[hX]at Qq;have Uj:=Z (show g<X.length by rw[<-hX,L0];have:=Qc.o;have:=Qp.o;omega);have Ut:=Z (show Sq (cf X g)by rw[<-hX];exact Wa.o j g);have We:=Z (show X.set g (cf X g-c*cf qs j)=Xn R i (-c) qs (j+1)by
      rw[Xn,hX,<-Qp.o.2,show cf X g-c*cf qs j=cf X g+-c*cf qs j by grind])
     have Qf:=Qq.below ((BA _ Wd).drew);clear co ce hX Qq e0 e1 e2 e3;refine LP (Or.inr ⟨l,J⟩) Dh [[],[],[],[1,2],[],[],[],[5,6],[4,7],[8],[],[],[10,11],[9,12,12],[0,3,0,1,2,3,4,5,6,7,8,9,10,11,12,13],[14,13,13,0,1,2,3,4,5,6,7,8,9,10,11,12,13]] [.eq (C (some ⟨gR,0,none⟩) la rc),.eq (G F (i:Int)),.eq (G F (j:Int)),.eq (G F (g:Int)),.eq (C (some ⟨gR,0,none⟩) la rc),.eq (G F (i:Int)),.eq (G F (j:Int)),.eq (G F (g:Int)),.eq (L (some ⟨gR,g*4,none⟩)),.rat (cf X g),.rat c,.rat (cf qs j),.rat (c*cf qs j),.rat (cf X g-c*cf qs j),.eq (L (some ⟨gR,g*4,none⟩)),.eq I] [15] (λb _ V=>FX w W V (Hd w y (some ⟨M,0,none⟩) la E lb x m (some ⟨gR,0,none⟩) rc B5 (B5+1) (some (gR,.rats (if b.getD 0 false then X.set g (cf X g-c*cf qs j)else X))) (Q.set i c)++[some (Bc,.rat c)]++[some (Bd,.rat (cf qs j))]) B4 (n:Int) (B5+1) i) Qf (SR (.vl J λ_ j=>MO 5 j.1.1)<|SR (.vl J λ_ _=>mv)<|SR (.vl J λ_ _=>mv)<|SR (.vl J λh _=>⟨_,by refine DO ?_;rw[h.e 1,h.e 2];go_simp,J⟩)<|SR (.vl J λ_ j=>MO 5 j.1.1)<|SR (.vl J λ_ _=>mv)<|SR (.vl J λ_ _=>mv)<|SR (.vl J λh _=>⟨_,by refine DO ?_;rw[h.e 5,h.e 6];go_simp,J⟩)<|SR (.vl J λh _=>⟨_,by refine DO ?_;rw[h.e 4,h.e 7];go_simp,J⟩)<|SR (.vl J λh j=>QK 4 j.1.1 Uj.o (h.e 8))<|SR (.vl J λ_ j=>Ei 9 j.1.1)<|SR (.vl J λ_ j=>Ei 10 j.1.1)<|SR (.cl λh _=>Kr _ _ c (cf qs j) _ (h.g 10) (h.g 11) Wb.o (Qh.o j))<|SR (.cl λh _=>LT _ _ (cf X g) (c*cf qs j) _ (h.g 9) (h.g 12) Ut.o (Ub.o j))<|SR (.vl J λh _=>⟨_,by refine DO ?_;rw[h.e 0,h.e 3];go_simp,J⟩)<|SR (.wr J λh j=>MP 4 j.1.1 Uj.o (h.g 13) (h.e 14) (hT:=λ⟨_,e,_⟩ m=>j.up m e (λB hB=>MH hB _ _ _ _) (j.1.1.ne 6 4 J J DJ) (VZ _ _ _ _ _ _ _))) Stp.end_)
      λf V hF N=>?_
     refine DO ?_;rw[hF.e 0,hF.e 1,hF.e 2,hF.e 3,hF.e 4,hF.e 5,hF.e 6,hF.e 7,hF.e 8,hF.e 14];have N:=Du N;rw[We.o]at N;have HO:=Z (show FX w W V (Hd w y (some ⟨M,0,none⟩) la E lb x m (some ⟨gR,0,none⟩) rc B5 (B5+1) (some (gR,.rats (Xn R i (-c) qs (j+1)))) (Q.set i c)++[some (Bc,.rat c)]) B4 (n:Int) (B5+1) i from⟨⟨N.1.1.take 10,N.1.2⟩,N.2⟩);clear hF N;gi_wp2_with fail
     go_roundw
     case rel=>exact⟨j+1,O,by go_num,HO⟩
     case measure=>simp[intOf];omega
   . obtain rfl:j=lb:=O
     gi_wp2_with fail
     refine⟨HJ.o.2.from _,?_⟩;have N:=HJ.o.1.1.take 9;rw[Qe.o]at N;show Gg w wr (Hd w y _ la E _ x m _ rc B5 (B5+1) (g4 la gR (JP ps qs n m (k+1)).2) (JP ps qs n m (k+1)).1) B4 (n:Int) (B5+1) (m-(k+1));rw[Qy.o,Qc.o.2.2.2.2.2,HG.o];refine⟨?_,HJ.o.1.2⟩;have Qk:=Qe.o;rw[<-Qk];rw[<-Qk]at N;exact N
 case done=>
  intro DC W hD hS hK;have Uq:=(XB ps qs n m m).2;have Uh:=(XB ps qs n m m).1;have Qa:cf qs n≠0:=by
   have:=Js Ug.o Ui.o;rwa[show qs.length-1=n by have:=S.o;have:=Qe.o;omega]at this
  obtain⟨z,Qv,de,ae,ap⟩:=HL.o m (Aa _);have Qs:Jm ps qs=Jc (JP ps qs n m m).1:=by unfold Jm;rw[show qs.length-1=n by have:=S.o;have:=Qe.o;omega,show ps.length-n=m by have:=S.o;have:=Qb.o;omega]
  have Qx:J6 ps qs=Jc (JP ps qs n m m).2:=by unfold J6;rw[show qs.length-1=n by have:=S.o;have:=Qe.o;omega,show ps.length-n=m by have:=S.o;have:=Qb.o;omega]
  obtain⟨R,hR⟩:=ex ((JP ps qs n m m).2);obtain⟨Q,hQ⟩:=ex ((JP ps qs n m m).1);rw[hR]at Uq ae Qx;rw[hQ]at Uh ap Qs;rw[hR,hQ]at hS;have Qu:=Z (show Sqs R from Sqs.of λi=>Sq.of (ae i) O);have fh:=Z (show Sqs Q from Sqs.of λi=>Sq.of (ap i) O);have Um:RowK true W (C a la rc) R:=by
   by_cases h0:la=0
   . rw[h0,AJ (show R.length=0 by have:=Qb.o;omega)];exact⟨a,rc,J,Ap _,by have:=Qi.o;omega,DH,Or.inl J⟩
   . have h:=hS.1;rw[show g4 la gR R=some (gR,.rats R)from BD h0]at h;have h:=(h.rats (i:=4) J).row (n:=la) (cap:=rc) (by have:=Qb.o;omega) (by have:=Qi.o;omega) (by have:=Qi.o;omega) gy;rw[Qi.o.1 h0];rwa[Af (by have:=Qb.o;omega)]at h
  have Uc:RowK true W (C (some ⟨B5+1,0,none⟩) m m) Q:=by
   have h:=(hS.1.rats (i:=6) J).row (n:=m) (cap:=m) O (Aa _) O Qj;rwa[Af O]at h
  have Qf:DI w W.drew (((Hd w y qa la E lb x m a rc B5 (B5+1) (g4 la gR R) Q).set 2 (some (w.heap.size+1+1,.poly []))).set 3 (some (w.heap.size+1+1+1,.poly [])))/\Is W.drew DC (C a la rc) (C (some ⟨B5+1,0,none⟩) m m) R Q:=⟨((hS.1.asPoly (i:=2) J).asPoly (i:=3) J).drew,Is.below ⟨Um,Uc,hK⟩ ((BA _ W).drew)⟩;obtain⟨Us,Wc,Uw⟩:=DY Qs Qx (show w.heap.size<=DC by have:=Ul.o;omega);clear hS Uq Uh de ae ap Qv Qs Qx hR hQ Qa Um Uc hK;gi_wp2_with fail
  refine LP (Or.inl J) Dh [[],[0],[],[2,1],[1,3,0,1],[3,4,0,1,2,3,4],[5,0,1,2,3,4,5]] [.eq (C (some ⟨B5+1,0,none⟩) m m),.poly (Jc Q),.eq (C a la rc),.poly (Jc R),.eq I,.eq I,.eq (P true)] [4,5] (λb _ V=>DI w V (((Hd w y qa la E lb x m a rc B5 (B5+1) (g4 la gR R) Q).set 2 (some (w.heap.size+1+1,.poly (if b.getD 0 false then Jc Q else [])))).set 3 (some (w.heap.size+1+1+1,.poly (if b.getD 1 false then Jc R else []))))/\Is V DC (C a la rc) (C (some ⟨B5+1,0,none⟩) m m) R Q) Qf (SR (.vl J λ_ j=>MO 7 j.1)<|SR (.cl λh j=>c1 (h.e 0) ((KL _ Q _ j.2.2.1 fh.o).mono λ_ _ ⟨u,e,h,_,b⟩=>⟨u,e,h,b⟩))<|SR (.vl J λ_ j=>MO 5 j.1)<|SR (.cl λh j=>c1 (h.e 2) ((KL _ R _ j.2.1 Qu.o).mono λ_ _ ⟨u,e,h,_,b⟩=>⟨u,e,h,b⟩))<|SR (.wr J λh j=>GP 2 j.1 (h.g 1) (hT:=λn m=>⟨m,j.2.set n _⟩))<|SR (.wr J λh j=>GP 3 j.1 (h.g 3) (hT:=λn m=>⟨m,j.2.set n _⟩))<|SR (.vl J λ_ _=>av) Stp.end_)
   λf V hF MM=>?_
  refine DO ?_;rw[hF.e 0,hF.e 2,hF.e 6];have MM:=Du MM;obtain⟨a2,l2,c2,g2,gr⟩:=MM.1.poly2 (i:=2) J;obtain⟨a3,l3,c3,g3,gu⟩:=MM.1.poly2 (i:=3) J;have Ux:=MM.1.2.2;have Ua:=MM.2.2.2;clear hF MM;gi_wp2;refine⟨DH,.inl ⟨_,_,J,BP Ua,?_⟩⟩;have hg:=BQ V DC (.deferred none);have Qn:∀r,some DC=some r->∃o:Obj,V.heap[r]?=some o/\o.isCells=false:=λr e=>by cases e;exact⟨_,Ua,J⟩
  have q2:Boxed _ (w.heap.size+1+1) 25 (C a2 l2 c2):=YQ hg Qn (show Bx V (w.heap.size+1+1) 25 #[C a2 l2 c2]from g2);have q3:Boxed _ (w.heap.size+1+1+1) 25 (C a3 l3 c3):=YQ hg Qn (show Bx V (w.heap.size+1+1+1) 25 #[C a3 l3 c3]from g3);have x2:=q2.cell;have x3:=q3.cell;refine⟨.tuple #[.agg #[C a2 l2 c2],.agg #[C a3 l3 c3],P true],by simp[results,results181,go_sem,x2,x3],_,_,J,?_,?_,?_⟩
  . rw[Us.o];obtain⟨u,e,h⟩:=gr;exact⟨u,e,OO hg Qn h⟩
  . rw[Wc.o];obtain⟨u,e,h⟩:=gu;exact⟨u,e,OO hg Qn h⟩
  . exact Ux.trans (B0 (w:=w) (Aa _) _ DC _ _ Uw.o Ua J J)
def boxed_own{row:Option Nat}(hg:V.grownBy V' row)(a:∀r,row=some r->∃o:Obj,V.heap[r]?=some o/\o.isCells=false)(h:Boxed V B t v):Boxed V' B t v:=YQ hg a (show Bx V B t #[v]from h)
def nf(n:Value)(ps:List Rat)(o:Value)(w:T)(l:Je w n ps)(hb:Je w o []):
 Calls U 181 #[n,o] w λe w'=>e=.returned (.tuple #[.agg #[C none 0 0],.agg #[C none 0 0],P false])/\Bl w w':=by
 obtain⟨u,la,v,rfl⟩:=l.form;obtain⟨d,lb,f,rfl⟩:=hb.form;obtain⟨c,r,b⟩:=VD 25 (.cell 25 (C u la v)) EN 25 (.cell 25 (C d lb f)) EN 25 (.cell 25 (C none 0 0)) EN 25 (.cell 25 (C none 0 0)) EN (w:=w);have g:=b.o;have j:=Z (show Calls U 75 #[.agg #[C d lb f]] c λe w'=>e=.returned (G F (-1))/\Bl c w' from Yq (.agg #[C d lb f]) [] c (hb.below g.2.2));clear l hb g;go_enter func181,ntmps181
 go_upto_region 1 with fail
 rw[r.o];have c1:=(b.o.cell (i:=1) J).1.cell;go_wp2_with(go_at_call 75;refine j.o.mono ?_;clear j;rintro e w1 ⟨rfl,m⟩;have k:Bl w1 (w1.alloc (H #[G F (-1)] 3)):=Ba w1 _;have a:=(b.o.below m).below k;have s:=(a.cell (i:=2) J).1.cell;have f2:=(a.cell (i:=2) J).1.frozen;have t:=(a.cell (i:=3) J).1.cell;have f3:=(a.cell (i:=3) J).1.frozen;have q:=Z a.2.2;clear k a m)
 refine A0 (by simp[results,results181,go_sem,s,t]) J ⟨J,?_⟩;exact((q.o.setCell (p:=⟨w.heap.size+1+1,0,none⟩) DG _).setCell (p:=⟨w.heap.size+1+1+1,0,none⟩) DG _)
def _root_.Go.Proofs.YthnpdhlepglmlaaGreatDoor.ySplit_n(A:Nat)(f g:Value)(ps qs:List Rat)(w:T)(d:Je w f ps)(hb:Je w g qs)(_hs:Sqs ps)(hq:∀i,DR A (cf qs i))(_htp:Jc ps=ps)(l:Jc qs=qs)(a:qs≠[])
(j:∀k,k<=ps.length-(qs.length-1)->∃z,z+(2*A+1)<=1000000000/\(k<ps.length-(qs.length-1)->2*z+2*(2*A+1)<=1000000000)/\(∀i,DR z (cf (JP ps qs (qs.length-1) (ps.length-(qs.length-1)) k).2 i))/\∀i,DR (z+A) (cf (JP ps qs (qs.length-1) (ps.length-(qs.length-1)) k).1 i)):
 Calls U 181 #[f,g] w λe w'=>∃u v,e=.returned (.tuple #[u,v,P true])/\Je w' u (Jm ps qs)/\Je w' v (J6 ps qs)/\Bl w w':=by
 obtain⟨m,la,n,rfl⟩:=d.form;obtain⟨o,lb,p,rfl⟩:=hb.form;have b:=d.row;have c:=hb.row;obtain⟨q,_⟩:=b.forms;obtain⟨r,_⟩:=c.forms;have s:=Ae.2 a;exact nd A m o la n lb p (lb-1) (la-(lb-1)) ps qs w b c hq l a (λk hk=>by rw[show lb-1=qs.length-1 by omega,show la-(qs.length-1)=ps.length-(qs.length-1)by omega];exact j k O) O J
def ng(A:Nat)(b c:Value)(ps qs:List Rat)(w:T)(d:Je w b ps)(hb:Je w c qs)(hs:Sqs ps)(hq:∀i,DR A (cf qs i))(j:Jc ps=ps)(l:Jc qs=qs)
(f:qs≠[]->∀k,k<=ps.length-(qs.length-1)->∃z,z+(2*A+1)<=1000000000/\(k<ps.length-(qs.length-1)->2*z+2*(2*A+1)<=1000000000)/\(∀i,DR z (cf (JP ps qs (qs.length-1) (ps.length-(qs.length-1)) k).2 i))/\∀i,DR (z+A) (cf (JP ps qs (qs.length-1) (ps.length-(qs.length-1)) k).1 i)):
 Calls U 181 #[b,c] w λe w'=>∃u v,e=.returned (.tuple #[u,v,P (decide (qs≠[]))])/\Je w' u (if qs=[]then []else Jm ps qs)/\Je w' v (if qs=[]then []else J6 ps qs)/\Bl w w':=by
 by_cases a:qs=[]
 . subst a;refine(nf b ps c w d hb).mono ?_;rintro e w' ⟨rfl,h⟩;exact⟨_,_,J,⟨_,J,RowK.nil _ _⟩,⟨_,J,RowK.nil _ _⟩,h⟩
 . have g:decide (qs≠[])=true:=BG a;rw[g];simp only[BD a];exact ySplit_n A b c ps qs w d hb hs hq j l a (f a)
def Lc(ps:List Rat)(n i:Nat)(S:List Rat):Prop:=S.length=n/\∀j,cf S j=if j<i then Hc ps j else 0
theorem Lc.next{ps:List Rat}{n:Nat}(h:Lc ps n i S)(hi:i<n):Lc ps n (i+1) (S.set i (Hc ps i)):=by
 refine⟨by rw[Fc];exact h.1,λj=>?_⟩;rw[GG _ _ _ _ (by rw[h.1];exact hi),h.2 j];grind
def Lc.done{ps:List Rat}{n:Nat}(h:Lc ps n n S)(hn:n=ps.length-1):Jc S=Jb ps:=IX λj=>by
 rw[h.2 j,LI];split
 . rfl
 . rw[Yn (p:=ps) O,AZ]
def OT(v:Value)(ps:List Rat)(w:T)(h:Je w v ps)(ap:Sqs ps)(aq:∀i,Sq (Hc ps i)):
 Calls U 110 #[v] w λe w'=>∃u,e=.returned u/\Je w' u (Jb ps)/\Bl w w':=by
 obtain⟨y,la,g,rfl⟩:=h.form;have ha:=h.row;obtain⟨am,bg,bi,bu,s,t,aa,bb,ll,cc,kk,dd,ai⟩:=ha.forms;obtain⟨V0,ae,o⟩:=LN 25 (.cell 25 (C y la g)) EN 25 (.cell 25 (C none 0 0)) EN (w:=w);have M1:=o.o;obtain⟨d,hd⟩:=ex ((ps.length:Int)-1:Int);have M:=Z (Yq (.agg #[C y la g]) ps V0 (h.below M1.2.2));rw[hd]at M;obtain⟨n,hn⟩:=ex (ps.length-1:Nat);have Qd:max (0:Int) d=(n:Int):=O
 have Qn:∀W:T,(Instr.makeSlice 23 (G F (n:Int)) (G F (n:Int))).run U W=.ok (C (some ⟨W.heap.size,0,none⟩) n n) (W.alloc (H (YD n) 50)):=λW=>LV n O W;obtain⟨HP,Qi,Qk,z⟩:=Ds ai ap aq (show n=ps.length-1/\la=ps.length from⟨hn.symm,am⟩);have Qc:n<=1099511627776:=O
 clear h ha ai ap aq am bg bi hn hd M1;go_enter func110,ntmps110
 go_upto_region 1 with fail
 rw[ae.o];have c0:=(o.o.cell (i:=0) J).1.cell;go_upto_region 2 with(go_at_call 75;refine M.o.mono ?_;clear M;rintro e w1 ⟨rfl,ah⟩)
 have D:DI w (w1.alloc (H (YD n) 50)) [some (w.heap.size,.cell 25 (C y la g)),some (w.heap.size+1,.cell 25 (C none 0 0)),some (w1.heap.size,.rats (List.replicate n 0))]:=(o.o.below ah).push (.rats (List.replicate n 0)) (Me _ n);obtain⟨V1,N⟩:=ex (w1.alloc (H (YD n) 50));obtain⟨r,R⟩:=ex (w1.heap.size);rw[N,R]at D;rw[N,R];have Qh:=Z D;clear D N R ah c0 o ae Qn Qd;go_wp2;go_loopw [11] (λiv wr=>∃(i:Nat) (S:List Rat),i<=n/\iv=G F (i:Int)/\Hid (Lc ps n i S)/\Hid (DI w wr [some (w.heap.size,.cell 25 (C y la g)),some (w.heap.size+1,.cell 25 (C none 0 0)),some (r,.rats S)])) λiv _=>n-(intOf iv).toNat
 case atStart=>exact⟨0,_,Ap _,J,Z ⟨AK,λj=>by rw[Ya,BD O]⟩,Qh⟩
 case round=>
  obtain⟨i,S,hi,rfl,c,m⟩:=hrel;clear Qh;by_cases an:i<n
  . have bz:(i:Int)<(n:Int):=O
    obtain⟨K,hK⟩:=ex (i+1:Nat);have bj:(i:Int)+1=(K:Int):=O
    have bn:IntKind.i64.wrap (K:Int)=(K:Int):=by rw[BI];omega
    have bm:(K:Int)<(la:Int):=by have:=z.o;omega
    obtain⟨aj,a,rfl,l,p0,p1,p2,p3⟩:=HP.o K (by have:=z.o;omega);have Qo:=Z (show ∀V,Bl w V->(V.cell? ⟨a,K*4,none⟩=some (P (s K))/\V.cell? ⟨a,K*4+1,none⟩=some (C (aa K) (ll K) (cc K))/\V.cell? ⟨a,K*4+2,none⟩=some (P (t K))/\V.cell? ⟨a,K*4+3,none⟩=some (C (bb K) (kk K) (dd K)))/\Jg V (.agg #[P (s K),C (aa K) (ll K) (cc K),P (t K),C (bb K) (kk K) (dd K)]) (cf ps K)from λV k=>by
     exact⟨⟨(k.cell (p:=⟨a,_,none⟩) l).trans p0,(k.cell (p:=⟨a,_,none⟩) l).trans p1,(k.cell (p:=⟨a,_,none⟩) l).trans p2,(k.cell (p:=⟨a,_,none⟩) l).trans p3⟩,aj.below k⟩)
    have B:=Z (show K<=1099511627776/\K=i+1 by omega);have Qm:=Z (show cf ps K*((K:Int):Rat)=Hc ps i by rw[B.o.2];rfl);have Qp:=Z (show i<S.length by rw[c.o.1];exact an);clear aj l p0 p1 p2 p3 hK;go_wp2_with fail
    have Qj:=m.o.drew;refine YE Dh [[],[],[],[2],[],[4],[3,5],[6],[],[8],[9],[7,10,10],[0,1,0,1,2,3,4,5,6,7,8,9,10,11],[12,11,11,0,1,2,3,4,5,6,7,8,9,10,11]] [.eq (C (some ⟨r,0,none⟩) n n),.eq (G F (i:Int)),.eq (L (some ⟨w.heap.size,0,none⟩)),.eq (C (some ⟨a,0,none⟩) la g),.eq (G F (i:Int)),.eq (G F (K:Int)),.eq (L (some ⟨a,K*4,none⟩)),.rat (cf ps K),.eq (G F (i:Int)),.eq (G F (K:Int)),.rat ((K:Int):Rat),.rat (Hc ps i),.eq (L (some ⟨r,i*4,none⟩)),.eq I] [13] (λb _ V=>DI w V [some (w.heap.size,.cell 25 (C (some ⟨a,0,none⟩) la g)),some (w.heap.size+1,.cell 25 (C none 0 0)),some (r,if b.getD 0 false then .rats (S.set i (Hc ps i))else .rats S)]) Qj (SR (.vl J λ_ _=>mv)<|SR (.vl J λ_ _=>mv)<|SR (.vl J λ_ _=>⟨_,by refine DO ?_;go_simp,J⟩)<|SR (.vl J λh j=>⟨_,by have e0:=(j.cell (i:=0) J).1.cell;refine DO ?_;rw[h.e 2];go_simp,J⟩)<|SR (.vl J λ_ _=>mv)<|SR (.vl J λh _=>⟨_,by refine DO ?_;rw[h.e 4];go_simp,J⟩)<|SR (.vl J λh _=>⟨_,by refine DO ?_;rw[h.e 3,h.e 5];go_simp,J⟩)<|SR (.vl J λh j=>by obtain⟨⟨e0,e1,e2,e3⟩,hr⟩:=Qo.o _ j.2.2;exact⟨_,by refine DO ?_;rw[h.e 6];go_simp,hr⟩)<|SR (.vl J λ_ _=>mv)<|SR (.vl J λh _=>⟨_,by refine DO ?_;rw[h.e 8];go_simp,J⟩)<|SR (.cl λh _=>c1 (h.e 9) (Vc (K:Int) O (by have:=B.o;omega) _))<|SR (.cl λh _=>Qm.o ▸ Kr _ _ (cf ps K) ((K:Int):Rat) _ (h.g 7) (h.g 10) (Qi.o.at K) (mO B.o.1))<|SR (.vl J λh _=>⟨_,by refine DO ?_;rw[h.e 0,h.e 1];go_simp,J⟩)<|SR (.wr J λh j=>MP 2 j Qp.o (h.g 11) (h.e 12)) Stp.end_)
     λf V hF q=>?_
    refine DO ?_;rw[hF.e 0,hF.e 1,hF.e 2,hF.e 3,hF.e 4,hF.e 5,hF.e 6,hF.e 8,hF.e 9,hF.e 12];have q:=Du q;have HO:=Z q;clear q hF;go_wp2_with fail
    go_roundw
    case rel=>exact⟨i+1,_,O,by go_num,Z (c.o.next an),HO⟩
    case measure=>simp[intOf];omega
  . obtain rfl:i=n:=O
    have hE:=m.o.rats (i:=2) J;have A:=hE.row (n:=i) (cap:=i) (by rw[c.o.1];exact Aa _) (Aa _) O Qc;rw[Af (by rw[c.o.1];exact Aa _)]at A;have E:=Z (KL _ S wr A (Sqs.of λj=>by
     rw[c.o.2 j];split
     . exact Qk.o j
     . exact FO))
    rw[c.o.done z.o.1]at E;clear hE A;go_wp2_with(go_at_call 25;refine E.o.mono ?_;clear E;rintro e w5 ⟨u5,rfl,X,_,Q⟩;obtain⟨a7,l7,c7,rfl⟩:=X.form;have x:=boxed_below (m.o.cell (i:=1) J).1 Q;have x0:=x.cell;have x1:=x.frozen;have Qq:=Z (FP x (C a7 l7 c7) X.row);have Ql:=Z ((Bt m.o.2.2 Q).setCell (p:=⟨w.heap.size+1,0,none⟩) (by show w.heap.size<=w.heap.size+1;omega) (C a7 l7 c7));clear X Q x)
    exact A0 (by simp[results,results110,go_sem,x0]) J ⟨_,J,⟨_,J,Qq.o⟩,Ql.o⟩
end M3
def CD(D:Int)(K:Nat)(c:Rat):Prop:=∃n:Int,c=Rat.divInt n D/\Sm K n
section
variable {D E:Int} {K M:Nat} {c d:Rat}
def CD.mono(h:CD D K c)(hk:K<=M):CD D M c:=by
 obtain⟨n,e,h⟩:=h;exact⟨n,e,h.mono hk⟩
def CD.smq(h:CD D K c)(hD:D≠0)(hs:Sm K D):DR K c:=by
 obtain⟨n,rfl,h⟩:=h;exact DR.divInt hD h hs
theorem CD.zero(D:Int)(K:Nat):CD D K 0:=⟨0,by rw[Rat.zero_divInt],Sm.zero K⟩
def CD.add(h:CD D K c)(a:CD D M d)(hD:D≠0):CD D (max K M+1) (c+d):=by
 obtain⟨n,rfl,h⟩:=h;obtain⟨m,rfl,a⟩:=a;refine⟨n+m,?_,?_⟩
 . rw[Fp _ _ hD hD,<-Int.add_mul,Ff hD]
 . exact(h.mono (Nat.le_max_left ..)).add (a.mono (Nat.le_max_right ..))
def CD.mul(h:CD D K c)(a:CD E M d):CD (D*E) (K+M) (c*d):=by
 obtain⟨n,rfl,h⟩:=h;obtain⟨m,rfl,a⟩:=a;exact⟨n*m,by rw[Fb],h.mul a⟩
def CD.wide(h:CD D K c)(hE:Sm M E)(a:E≠0):CD (D*E) (K+M) c:=by
 obtain⟨n,rfl,h⟩:=h;exact⟨n*E,by rw[Ff a],h.mul hE⟩
end
def EP(D:Int)(K:Nat)(ps:List Rat):Prop:=∀i,CD D K (cf ps i)
theorem WR{D:Int}{K:Nat}{ps qs:List Rat}(hD:D≠0)(h:∀i j,CD D K (cf ps i*cf qs j))(n:Nat):∀(i k:Nat),CD D (K+min i ps.length) (cf (Ex ps qs n i) k):=by
 intro i;induction i with
 |zero=>intro k;rw[Ex,Ya];exact CD.zero _ _
 |succ i a=>
  intro k;rw[Ex];rcases OS (Ex ps qs n i) i (cf ps i) qs qs.length k with e|e
  . rw[e];exact(a k).mono O
  . rw[e];by_cases hi:i<ps.length
    . exact((a k).add (h i (k-i)) hD).mono O
    grind[Yn]
def nh{D:Int}{K:Nat}{ps qs:List Rat}(hD:D≠0)(hs:Sm 1000000000 D)(h:∀i j,CD D K (cf ps i*cf qs j))(hk:K+ps.length+1<=1000000000):M3.LW ps qs:=by
 have hq:∀c,CD D (K+ps.length+1) c->Sq c:=λc b=>Sq.of ((b.mono hk).smq hD hs) (Aa _);refine⟨λi j=>hq _ ((h i j).mono O),λn i j k=>?_⟩;have a:=WR hD h n i k;rcases OS (Ex ps qs n i) i (cf ps i) qs j k with e|e
 . rw[e];exact hq _ (a.mono O)
 . rw[e];exact hq _ ((a.add (h i (k-i)) hD).mono O)
theorem ni{D:Int}{K:Nat}{ps qs:List Rat}(hD:D≠0)(h:∀i j,CD D K (cf ps i*cf qs j)):EP D (K+ps.length) (Ji ps qs):=λk=>by
 unfold Ji;rw[Yw,LH];have a:=WR hD h (ps.length+qs.length) ps.length k;grind[Sz]
theorem nj(p q:List Rat):(Ji p q).length<=p.length+q.length:=Ir (Jn _ _) λi hi=>by grind[Ji,Yw,LH,mQ]
def Sm.powZ{A:Nat}{v:Int}(h:Sm A v):∀n,Sm (n*A+1) (v^n):=by
 intro n;induction n with
 |zero=>rw[FI];exact Sm.one _ O
 |succ n a=>rw[CK,A4,show n*A+1*A+1=n*A+1+A by omega];exact a.mul h
def nk{D:Int}{K:Nat}{c:Rat}(h:CD D K c):CD D K (-c):=by
 obtain⟨n,rfl,h⟩:=h;exact⟨-n,by rw[<-Rat.neg_divInt],by unfold Sm at h ⊢;rwa[FG]⟩
theorem WS{D E l:Int}{K A:Nat}{ps qs:List Rat}{n m:Nat}(hD:D≠0)(hp:EP D K ps)(hE:E≠0)(N:Sm A E)(hq:EP E A qs)(b:l≠0)(hl:Sm A l)(M:cf qs n=Rat.divInt l E)(B:cf qs n≠0):
 ∀k,EP (D*l^k) (K+k*(A+1)) (JP ps qs n m k).2/\EP (D*l^k) (K+k*(A+1)) (JP ps qs n m k).1:=by
 intro k;induction k with
 |zero=>
  rw[FI,Fv];exact⟨λi=>(hp i).mono O,λi=>by rw[JP,Ya];exact CD.zero _ _⟩
 |succ k V=>
  obtain⟨d,g⟩:=V;have w:D*l^k≠0:=Cq hD (Int.pow_ne_zero b);have e:D*l^(k+1)=D*l^k*l:=by rw[CK,Int.mul_assoc]
  rw[e];have v:D*l^k*l≠0:=Cq w b;obtain⟨R,p⟩:=ex ((JP ps qs n m k).2);obtain⟨Q,o⟩:=ex ((JP ps qs n m k).1);rw[p]at d;rw[o]at g;obtain⟨r,z,s⟩:=d (m-(k+1)+n);obtain⟨c,q⟩:=ex (cf R (m-(k+1)+n)/cf qs n);have f:c=Rat.divInt (r*E) (D*l^k*l):=by
   rw[<-q];have y:cf R (m-(k+1)+n)=Rat.divInt (r*E) (D*l^k*l)*cf qs n:=by
    rw[M,Fb,z,show r*E*l=r*(E*l)from Int.mul_assoc _ _ _,show D*l^k*l*E=D*l^k*(E*l)by grind,Ff (Cq hE b)]
   rw[y,Rat.mul_div_cancel B]
  have t:CD (D*l^k*l) (K+(k+1)*(A+1)) c:=⟨r*E,f,(s.mul N).mono (by rw[A4];omega)⟩;have u:∀j,CD (D*l^k*l) (K+k*(A+1)+A) (c*cf qs j):=λj=>by
   obtain⟨x,ex,S⟩:=hq j;refine⟨r*x,?_,s.mul S⟩;rw[f,ex,Fb,show r*E*x=r*x*E by grind,Ff hE]
  rw[JP,p,o];simp only[q];refine⟨λi=>?_,λi=>?_⟩
  . rcases OS R (m-(k+1)) (-c) qs qs.length i with a|a
    . rw[a];exact((d i).wide hl b).mono (by rw[A4];omega)
    . rw[a,Rat.neg_mul];exact(((d i).wide hl b).add (nk (u _)) v).mono (by rw[A4];omega)
  . rcases M3.nX Q (m-(k+1)) c i with a|a
    . rw[a];exact t
    . rw[a];exact((g i).wide hl b).mono (by rw[A4];omega)
section
variable{n:Nat}{f g:Nat->Int}
theorem nm:∀(n:Nat) (f:Nat->Nat),(∀i,i<=n->f i<n)->∃i j,i<j/\j<=n/\f i=f j:=by
 intro n;induction n with
 |zero=>intro f h;grind
 |succ n d=>
  intro f h;by_cases c:∃i,i<=n/\f i=f (n+1)
  . obtain⟨i,a,b⟩:=c;exact⟨i,n+1,O,Aa _,b⟩
  . obtain⟨i,j,a,b,e⟩:=d (λi=>if f i=n then f (n+1)else f i) (λi hi=>by
     grind)
    refine⟨i,j,a,O,?_⟩;grind
def enc(b:Nat):Nat->(Nat->Nat)->Nat
 |0,_=>0
 |M+1,d=>enc b M d+d M*b^M
theorem RF{b:Nat}{M:Nat}{d:Nat->Nat}(h:∀k,k<M->d k<b):enc b M d<b^M:=by
 induction M with
 |zero=>simp[enc]
 |succ M c=>
  have e:=c λk hk=>h k O;have a:=h M O;have f:(d M+1)*b^M<=b*b^M:=Ad _ a;grind[enc]
theorem ns{b:Nat}{M:Nat}{d a:Nat->Nat}(h:∀k,k<M->d k<b)(c:∀k,k<M->a k<b)(e:enc b M d=enc b M a):∀k,k<M->d k=a k:=by
 induction M with
 |zero=>intro k hk;omega
 |succ M f=>
  have l1:=RF (λk hk=>h k O:∀k,k<M->d k<b);have l2:=RF (λk hk=>c k O:∀k,k<M->a k<b);grind[enc,Nat.add_mul_div_right,Cl]
def Es(b x j:Nat):Nat:=x/b^j%b
def nt{b:Nat}(hb:0<b)(x j:Nat):Es b x j<b:=Cm _ hb
theorem WT(b x:Nat):∀N,enc b N (Es b x)=x%b^N:=by
 intro N;induction N with
 |zero=>simp[enc,Nat.mod_one]
 |succ N a=>grind[enc,Nat.mod_pow_succ,Es]
def Xb:Nat->(Nat->Int)->Int
 |0,_=>0
 |n+1,f=>Xb n f+f n
theorem WU(h:∀k,k<n->f k=g k):Xb n f=Xb n g:=by
 induction n with
 |zero=>rfl
 |succ n a=>grind[Xb]
def nu(n:Nat)(f g:Nat->Int):Xb n (λk=>f k-g k)=Xb n f-Xb n g:=by
 induction n with
 |zero=>rfl
 |succ n a=>rw[Xb,Xb,Xb,a];omega
theorem OU{C:Nat}(h:∀k,k<n->(f k).natAbs<=C):(Xb n f).natAbs<=n*C:=by
 induction n with
 |zero=>simp[Xb]
 |succ n a=>
  grind[Xb]
theorem nv(N A:Nat)(c:Nat->Nat->Int)(s:∀k j,(c k j).natAbs<=A):
 ∃z:Nat->Int,(∃j,j<N+1/\z j≠0)/\(∀j,(z j).natAbs<=(2*(N+1)*A+1)^N)/\∀k,k<N->Xb (N+1) (λj=>c k j*z j)=0:=by
 obtain⟨B,e⟩:=ex ((2*(N+1)*A+1)^N);have i:1<=B:=by rw[<-e];exact Cz O
 obtain⟨C,hC⟩:=ex ((N+1)*(A*B));have f:∀x j,Es (B+1) x j<=B:=λx j=>by have:=nt (b:=B+1) O x j;omega
 have r:∀x k,(Xb (N+1) λj=>c k j*(Es (B+1) x j:Int)).natAbs<=C:=λx k=>by
  rw[<-hC];refine OU λj _=>?_;rw[Co,AF];exact Cn (s k j) (f x j)
 obtain⟨g,hg⟩:∃g:Nat->Nat->Nat,∀x k,(g x k:Int)=Xb (N+1) (λj=>c k j*(Es (B+1) x j:Int))+C/\g x k<2*C+1:=
  ⟨λx k=>(Xb (N+1) (λj=>c k j*(Es (B+1) x j:Int))+C).toNat,λx k=>by have:=r x k;dsimp only;omega⟩
 have E:(2*C+1)^N<(B+1)^(N+1):=by
  have a:2*C+1<=(2*(N+1)*A+1)*B:=by
   have l:2*C=2*(N+1)*A*B:=by rw[<-hC];simp only[Ct]
   rw[l,A4,Fs];exact Nat.add_le_add_left i _
  have d:(2*C+1)^N<=B^(N+1):=by
   refine Ac (Cy a N) ?_;rw[Nat.mul_pow,e,Cj,AO];exact Aa _
  exact Cv d (Nat.pow_lt_pow_left O O)
 obtain⟨x,y,a,d,m⟩:=nm ((2*C+1)^N) (λx=>enc (2*C+1) N (g x)) λx _=>RF λk _=>(hg x k).2;have n:=ns (λk _=>(hg x k).2) (λk _=>(hg y k).2) m;refine⟨λj=>(Es (B+1) x j:Int)-(Es (B+1) y j:Int),?_,λj=>?_,λk hk=>?_⟩
 . by_cases t:∃j,j<N+1/\(Es (B+1) x j:Int)-(Es (B+1) y j:Int)≠0
   . exact t
   . exfalso
     have o:∀j,j<N+1->Es (B+1) x j=Es (B+1) y j:=λj K=>by
      grind
     have p:∀M,M<=N+1->enc (B+1) M (Es (B+1) x)=enc (B+1) M (Es (B+1) y):=λM=>by
      induction M with
      |zero=>intro _;rfl
      |succ M u=>intro hM;rw[enc,enc,u O,o M O]
     have q:=p (N+1) (Aa _);rw[WT,WT,Cr O,Cr O]at q;omega
 . grind
 . have w:=n k hk;have D:=(hg x k).1;have v:=(hg y k).1;rw[show(λj=>c k j*((Es (B+1) x j:Int)-(Es (B+1) y j:Int)))=(λj=>c k j*(Es (B+1) x j:Int)-c k j*(Es (B+1) y j:Int))from funext λj=>Int.mul_sub _ _ _,nu];omega
theorem WV(p q:List Rat):(JR p q).length<=max p.length q.length:=Ir (Yj _ _) λi hi=>by grind[NS,Yn]
def DM(c:Rat)(p:List Rat):List Rat:=Jc (XP c p)
theorem JH(c:Rat)(p:List Rat):Jc (DM c p)=DM c p:=Yp _
theorem YB(c:Rat)(p:List Rat)(i:Nat):cf (DM c p) i=cf p i*c:=by unfold DM;rw[Yw,LG]
theorem Jp(c:Rat)(p:List Rat)(x:Rat):ev (DM c p) x=ev p x*c:=by unfold DM;rw[Hi,I7]
theorem Xc{a b:Rat}(c:a≠0)(hb:b≠0):a*b≠0:=λh=>by
 grind
theorem RG{p:List Rat}(h:cf p n≠0):n<p.length:=by
 grind[Yn]
theorem YV{c:Rat}(d:c≠0){p:List Rat}(hp:Jc p=p):(DM c p).length=p.length:=by
 refine FA (Ir (JH _ _) λi hi=>by rw[YB,Yn hi,AZ]) ?_;by_cases a:p=[]
 . grind
 . have b:=Js hp a;have e:0<p.length:=Ae.2 a;have f:=RG (p:=DM c p) (n:=p.length-1) (by rw[YB];exact Xc b d);omega
theorem Ld(c d:Rat)(p:List Rat):DM c (DM d p)=DM (d*c) p:=YL (JH _ _) (JH _ _) λx=>by rw[Jp,Jp,Jp];grind
theorem KR{p:List Rat}(hp:Jc p=p):DM 1 p=p:=YL (JH _ _) hp λx=>by rw[Jp];grind
theorem oA(c:Rat):DM c []=[]:=rfl
theorem Gh{c:Rat}(b:c≠0){p:List Rat}(hp:Jc p=p)(a:p≠[]):DM c p≠[]:=λh=>by
 grind[YV]
theorem JC{p q:List Rat}(hp:Jc p=p)(hq:Jc q=q)(a:p≠[])(b:q≠[]):(Ji p q).length=p.length+q.length-1:=Sx hp hq a b
def Mg{p:List Rat}(h:p.length=0):p=[]:=Aj.1 h
def OV{p q u v:List Rat}(hq:Jc q=q)(a:q≠[])(f:Jc u=u)(hv:Jc v=v)(g:v.length<q.length)(h:∀x,ev p x=ev q x*ev u x+ev v x):u=Jm p q/\v=J6 p q:=by
 obtain⟨b,c,d,e⟩:=Y9 p q hq a;exact dI hq a f d hv e g c (λx=>by rw[<-h x,b x])
theorem OW{c d:Rat}(a:d≠0)(p q:List Rat)(hq:Jc q=q)(b:q≠[]):Jm (DM c p) (DM d q)=DM (c/d) (Jm p q)/\J6 (DM c p) (DM d q)=DM c (J6 p q):=by
 obtain⟨f,e,g,j⟩:=Y9 p q hq b;have h:=OV (p:=DM c p) (JH d q) (Gh a hq b) (JH (c/d) (Jm p q)) (JH c (J6 p q)) (by
  rw[YV a hq];exact Cv (Ir (JH _ _) λi hi=>by rw[YB,Yn hi,AZ]) e) (λx=>by
  grind[Jp])
 grind
def WW:Nat->List Rat->List Rat->List Rat->List Rat->Prop
 |0,p,q,a,b=>p=a/\q=b
 |n+1,p,q,a,b=>∃c:Rat,q≠[]/\c≠0/\WW n q (DM c (J6 p q)) a b
def Eu(p q a b:List Rat):Prop:=∃n,WW n p q a b
def Eu.base(p q:List Rat):Eu p q p q:=⟨0,J,J⟩
def Eu.step(p q:List Rat)(c:Rat)(a b:List Rat)(h:q≠[])(k:c≠0):Eu q (DM c (J6 p q)) a b->Eu p q a b:=λ⟨n,e⟩=>⟨n+1,c,h,k,e⟩
def Eu.ind{d:∀p q a b:List Rat,Eu p q a b->Prop}(base:∀p q,d p q p q (.base p q))
(step:∀p q c a b (h:q≠[]) (k:c≠0) (e:Eu q (DM c (J6 p q)) a b),d q (DM c (J6 p q)) a b e->d p q a b (.step p q c a b h k e))
{p q a b:List Rat}(t:Eu p q a b):d p q a b t:=by
 obtain⟨n,e⟩:=t;induction n generalizing p q with
 |zero=>obtain⟨rfl,rfl⟩:=e;exact base _ _
 |succ n f=>obtain⟨c,h,k,e⟩:=e;exact step p q c a b h k ⟨n,e⟩ (f e)
def Eu.tail{p q a b:List Rat}(h:Eu p q a b){c:Rat}(hb:b≠[])(e:c≠0):Eu p q b (DM c (J6 a b)):=by
 induction h using Eu.ind with
 |base p q=>exact .step p q c _ _ hb e (.base _ _)
 |step p q d a b hq f _ g=>exact .step p q d _ _ hq f (g hb)
theorem XJ(p q:List Rat):Jc (J6 p q)=J6 p q:=Yp _
theorem YG(p q:List Rat):Jc (Jm p q)=Jm p q:=Yp _
def Eu.len{p q a b:List Rat}(h:Eu p q a b):Jc q=q->b.length<=q.length:=by
 induction h using Eu.ind with
 |base p q=>exact λ_=>Aa _
 |step p q d a b hq f _ g=>
  intro c;have e:=g (JH _ _);rw[YV f (XJ _ _)]at e;have:=(Y9 p q c hq).2.1;omega
theorem oB{p q a b:List Rat}(h:Eu p q a b):Jc p=p->Jc q=q->b≠[]->∀u v T:List Rat,Jc u=u->Jc v=v->Jc T=T->u.length+b.length<=q.length+1->v.length+b.length<=p.length+1->(u≠[]\/v≠[])->T.length<b.length->
 (∀x,ev T x=ev u x*ev p x+ev v x*ev q x)->∃c:Rat,c≠0/\T=DM c (J6 a b):=by
 induction h using Eu.ind with
 |base p q=>
  intro hp hq g u v T j hv hT A lv f o m;have K:u.length<=1:=O
  obtain⟨w,N,Q,R⟩:=Y9 p q hq g;match u,K,f with
  |[],_,f=>
   have s:v≠[]:=by
    rcases f with f|f
    . exact absurd J f
    . exact f
   have e:T=Ji v q:=YL hT (Jn _ _) λx=>by rw[Jd,m x];simp[ev];grind
   grind[JC,Ae]
  |[c],_,_=>
   have V:c≠0:=λe=>by
    have:=Js j DH;simp[Xm]at this;exact this e
   refine⟨c,V,?_⟩;have B:∀x,ev (DM c p) x=ev q x*ev (DM (-1) v) x+ev T x:=λx=>by
    grind[Jp,ev]
   have S:=(OV hq g (JH _ _) hT o B).2;have y:=(OW (c:=c) (d:=1) DJ p q hq g).2;rw[KR hq]at y;rw[S,y]
 |step p q d a b g X hE z=>
  intro hp hq hb u v T j hv hT A lv f o m;obtain⟨w,N,Q,R⟩:=Y9 p q hq g;obtain⟨r,n⟩:=ex (DM d (J6 p q));rw[n]at hE z;have l:Jc r=r:=by rw[<-n];exact JH _ _
  have ai:b.length<=r.length:=hE.len l;have ah:0<b.length:=Ae.2 hb;have E:r≠[]:=λe=>by
   grind
  have aj:d*(1/d)=1:=by rw[A2];exact Ak X
  have k:(1/d)≠0:=λe=>by grind
  have D:∀x,ev p x=ev q x*ev (Jm p q) x+ev r x*(1/d):=λx=>by rw[w x,<-n,Jp];grind
  have t:∀x,ev T x=ev (YK (Ji u (Jm p q)) v) x*ev q x+ev (DM (1/d) u) x*ev r x:=λx=>by
   rw[m x,D x,Yg,Jd,Jp];grind
  have ae:(DM (1/d) u).length+b.length<=q.length+1:=by rw[YV k j];exact A
  refine z hq l hb (YK (Ji u (Jm p q)) v) (DM (1/d) u) T (X3 _ _) (JH _ _) hT ?_ ae ?_ o t
  . by_cases hn:YK (Ji u (Jm p q)) v=[]
    . rw[hn];simp;omega
    . have l1:=JC (X3 _ _) hq hn g;have e:Ji (YK (Ji u (Jm p q)) v) q=JR T (Ji (DM (1/d) u) r):=YL (Jn _ _) (Yj _ _) λx=>by rw[Jd,XA,Jd,t x];grind
      have l2:=WV T (Ji (DM (1/d) u) r);rw[<-e,l1]at l2;by_cases i:u=[]
      . have M:Ji (DM (1/d) u) r=[]:=by rw[i];rfl
        rw[M]at l2;simp at l2;omega
      . have l4:=JC (JH _ _) l (Gh k j i) E;omega
  . by_cases i:u=[]
    . left
      have s:v≠[]:=by
       rcases f with f|f
       . exact absurd i f
       . exact f
      have e:YK (Ji u (Jm p q)) v=v:=YL (X3 _ _) hv λx=>by rw[Yg,Jd,i];simp[ev];grind
      rw[e];exact s
    . right;exact Gh k j i
def Ln(K:Nat)(r:List Rat):Prop:=∃c:Rat,c≠0/\∀i,∃z:Int,Sm K z/\cf r i*c=(z:Rat)
def oC(s t:Nat)(f:Nat->Int):Xb (s+t) f=Xb s f+Xb t (λj=>f (s+j)):=by
 induction t with
 |zero=>simp[Xb]
 |succ t a=>rw[<-Nat.add_assoc,Xb,Xb,a];omega
def RH{f:Nat->Rat}(h:∀k,k<n->f k=(g k:Rat)):Dr n f=((Xb n g:Int):Rat):=by
 induction n with
 |zero=>rfl
 |succ n a=>rw[Dr,Xb,a λk hk=>h k O,h n O,CY]
def OX(p q:List Rat)(h:p.length<=n)(k:Nat):cf (Ji p q) k=Dr n (λi=>if i<=k then cf p i*cf q (k-i)else 0):=by
 unfold Ji;rw[Yw,LH,<-dE p q h];rfl
theorem Ln.sc{K:Nat}{r:List Rat}(h:Ln K r){d:Rat}(g:d≠0):Ln K (DM d r):=by
 obtain⟨c,f,j⟩:=h;have e:d*(1/d)=1:=by rw[A2];exact Ak g
 refine⟨(1/d)*c,Xc (λk=>by grind) f,λi=>?_⟩;obtain⟨z,a,b⟩:=j i;exact⟨z,a,by rw[YB,<-b];grind⟩
def Ln.mono{K L:Nat}{r:List Rat}(h:Ln K r)(hk:K<=L):Ln L r:=by
 obtain⟨c,d,e⟩:=h;exact⟨c,d,λi=>by obtain⟨z,a,b⟩:=e i;exact⟨z,a.mono hk,b⟩⟩
theorem oD{K N A B:Nat}(hA:A=Y^K)(f:N+1<=1000000000)(e:B=(2*(N+1)*A+1)^N):(N+1)*(A*B)<Y^((K+1)*(N+1)):=by
 have b:1<=A:=by rw[hA];exact Cz Ic
 have c:2*(N+1)*A+1<=Y^(K+1):=by
  have a:(2*(N+1)+1)*A<=Y*A:=Ad _ uo;rw[Cj,<-hA,AO A];rw[A4,Fs]at a;exact Ac (Nat.add_le_add_left b _) a
 have d:(2*(N+1)*A+1)^(N+1)<=Y^((K+1)*(N+1)):=by rw[C5];exact Cy c _
 refine AB ?_ d;grind[Ct,AO,Ad]
theorem WX{K m:Nat}{p q:List Rat}{cp cq:Rat}(hp:Jc p=p)(hq:Jc q=q)(ai:cp≠0)(aj:cq≠0)(ae:∀i,∃z:Int,Sm K z/\cf p i*cp=(z:Rat))(ah:∀i,∃z:Int,Sm K z/\cf q i*cq=(z:Rat))(hl:p.length+q.length<=1000000000)(hle:q.length<=p.length)(bi:0<m)(bm:m<=q.length):
 ∃u v:List Rat,Jc u=u/\Jc v=v/\u.length+m<=q.length+1/\v.length+m<=p.length+1/\(u≠[]\/v≠[])/\(YK (Ji u p) (Ji v q)).length<m/\
  (∀i,∃z:Int,Sm ((K+1)*(p.length+q.length)) z/\cf (YK (Ji u p) (Ji v q)) i=(z:Rat))/\(∀i,∃z:Int,Sm ((K+1)*(p.length+q.length)) z/\cf u i=(z:Rat)*cp)/\(∀i,∃z:Int,Sm ((K+1)*(p.length+q.length)) z/\cf v i=(z:Rat)*cq):=by
 obtain⟨α,hα⟩:=Classical.axiomOfChoice ae;obtain⟨β,hβ⟩:=Classical.axiomOfChoice ah;have bz:q≠[]:=λe=>by
  grind
 have V:p≠[]:=λe=>by
  grind
 obtain⟨s,hs⟩:=ex (q.length+1-m);obtain⟨t,ht⟩:=ex (p.length+1-m);obtain⟨N,hN⟩:=ex (s+t-1);obtain⟨A,hA⟩:=ex (Y^K);have ap:∀i,(α i).natAbs<=A:=λi=>by have:=(hα i).1;unfold Sm at this;omega
 have aq:∀i,(β i).natAbs<=A:=λi=>by have:=(hβ i).1;unfold Sm at this;omega
 have M:s+t=N+1:=O
 obtain⟨z,⟨c,bu,E⟩,l,an⟩:=nv N A (λk j=>if j<s then(if j<=m-1+k then α (m-1+k-j)else 0)else(if j-s<=m-1+k then β (m-1+k-(j-s))else 0)) (λk j=>by
  grind)
 obtain⟨B,x⟩:=ex ((2*(N+1)*A+1)^N);rw[x]at l;obtain⟨u,y⟩:=ex (Jc ((List.range s).map λj=>(z j:Rat)*cp));obtain⟨v,hv⟩:=ex (Jc ((List.range t).map λj=>(z (s+j):Rat)*cq));have d:Jc u=u:=by rw[<-y];exact Yp _
 have o:Jc v=v:=by rw[<-hv];exact Yp _
 have n:∀j,cf u j=if j<s then(z j:Rat)*cp else 0:=λj=>by rw[<-y,Yw,PE]
 have r:∀j,cf v j=if j<t then(z (s+j):Rat)*cq else 0:=λj=>by rw[<-hv,Yw,PE]
 have Q:u.length<=s:=Ir d λi hi=>by grind
 have X:v.length<=t:=Ir o λi hi=>by grind
 obtain⟨a,hZ⟩:∃a:Nat->Int,∀i,a i=Xb s (λj=>if j<=i then z j*α (i-j)else 0)+Xb t (λj=>if j<=i then z (s+j)*β (i-j)else 0):=⟨_,λ_=>rfl⟩;have hT:∀i,cf (YK (Ji u p) (Ji v q)) i=(a i:Rat):=λi=>by
  rw[L1,OX u p Q,OX v q X,hZ,CY];congr 1
  . refine RH λj f=>?_;split
    . grind
    . rfl
  . refine RH λj f=>?_;split
    . grind
    . rfl
 have bg:∀i,(a i).natAbs<=(N+1)*(A*B):=λi=>by
  have b:(Xb s λj=>if j<=i then z j*α (i-j)else 0).natAbs<=s*(A*B):=OU λj _=>by
   split
   . rw[Co,AO];exact Cn (ap _) (l _)
   . simp
  have w:(Xb t λj=>if j<=i then z (s+j)*β (i-j)else 0).natAbs<=t*(A*B):=OU λj _=>by
   split
   . rw[Co,AO];exact Cn (aq _) (l _)
   . simp
  grind[A4]
 have Qk:(YK (Ji u p) (Ji v q)).length<m:=by
  have:(YK (Ji u p) (Ji v q)).length<=m-1:=Ir (X3 _ _) λi hi=>by
   by_cases bn:i<m-1+N
   . rw[hT];have e:=an (i-(m-1)) O;rw[<-M,oC]at e;have b:Xb s (λj=>if j<=i then z j*α (i-j)else 0)=Xb s (λj=>(if j<s then(if j<=m-1+(i-(m-1))then α (m-1+(i-(m-1))-j)else 0)else(if j-s<=m-1+(i-(m-1))then β (m-1+(i-(m-1))-(j-s))else 0))*z j):=WU λj f=>by
      grind
     have w:Xb t (λj=>if j<=i then z (s+j)*β (i-j)else 0)=Xb t (λj=>(if s+j<s then(if s+j<=m-1+(i-(m-1))then α (m-1+(i-(m-1))-(s+j))else 0)else(if s+j-s<=m-1+(i-(m-1))then β (m-1+(i-(m-1))-(s+j-s))else 0))*z (s+j)):=WU λj f=>by
      grind
     rw[hZ,b,w,e];rfl
   . refine Yn ?_;have l1:=TA (Ji u p) (Ji v q);by_cases D:u=[]
     . have e0:Ji u p=[]:=by rw[D];rfl
       by_cases g:v=[]
       . have b:Ji v q=[]:=by rw[g];rfl
         grind
       grind[JC]
     . have l2:=JC d hp D V;by_cases g:v=[]
       . have b:Ji v q=[]:=by rw[g];rfl
         grind
       grind[JC]
  omega
 have R:u≠[]\/v≠[]:=by
  by_cases am:c<s
  . left
    intro e;have:=n c;rw[e,Xu,BE am]at this;exact Xc (by exact_mod_cast E) ai this.symm
  . right
    intro e;have:=r (c-s);rw[e,Xu,BE O,show s+(c-s)=c from by omega]at this;exact Xc (by exact_mod_cast E) aj this.symm
 have bj:=oD hA.symm O x.symm;have h5:(K+1)*(N+1)<=(K+1)*(p.length+q.length):=Ah _ O;have S:1<=A:=by rw[<-hA];exact Cz Ic
 have ce:∀i,Sm ((K+1)*(p.length+q.length)) (z i):=λi=>by
  have b:B<=(N+1)*(A*B):=Ac (Cs B S) (Cs _ O);grind[Sm,AB,Aq,Ic]
 refine⟨u,v,d,o,O,O,R,Qk,λi=>⟨a i,?_,hT i⟩,λi=>?_,λi=>?_⟩
 . grind[Sm,AB,Aq,Ic]
 . rw[n];split
   . grind
   . exact⟨0,Sm.zero _,DH⟩
 . rw[r];split
   . grind
   . exact⟨0,Sm.zero _,DH⟩
theorem WY{K:Nat}{p q a b:List Rat}(hp:Jc p=p)(hq:Jc q=q)(d:Ln K p)(e:Ln K q)(hl:p.length+q.length<=1000000000)(hle:q.length<=p.length)(h:Eu p q a b)(hb:b≠[]):Ln ((K+1)*(p.length+q.length)) (J6 a b):=by
 obtain⟨cp,l,g⟩:=d;obtain⟨cq,m,j⟩:=e;obtain⟨u,v,r,s,o,hv,n,f,hT,_,_⟩:=WX hp hq l m g j hl hle (Ae.2 hb) (h.len hq);obtain⟨c,k,t⟩:=oB h hp hq hb u v _ r s (X3 _ _) o hv n f (λx=>by rw[Yg,Jd,Jd]);refine⟨c,k,λi=>?_⟩;obtain⟨z,w,y⟩:=hT i;grind[YB]
theorem oE{p q:List Rat}(hp:Jc p=p)(hq:Jc q=q)(h:p.length<q.length):J6 p q=p:=
 ((OV (p:=p) hq (λe=>by rw[e]at h;simp at h) (u:=[]) (v:=p) J hp h λx=>by simp[ev];grind).2).symm
theorem WZ{K:Nat}{p q a b:List Rat}(hp:Jc p=p)(hq:Jc q=q)(d:Ln K p)(e:Ln K q)(hl:p.length+q.length<=1000000000)(h:Eu p q a b)(hb:b≠[]):Ln ((K+1)*(p.length+q.length)) (J6 a b):=by
 by_cases hle:q.length<=p.length
 . exact WY hp hq d e hl hle h hb
 . have hs:=oE hp hq O;match h with
   |⟨0,g,i⟩=>subst g;subst i;rw[hs];exact d.mono (by
    have:(K+1)*1<=(K+1)*(p.length+q.length):=Ah _ O
    omega)
   |⟨n+1,c,l,f,hE⟩=>
    have hE:Eu q (DM c (J6 p q)) a b:=⟨n,hE⟩;rw[hs]at hE;have k:=YV f hp;have j:=WY hq (JH c p) e (d.sc f) O O hE hb;grind
theorem Le{c:Rat}(a:c≠0):1/c≠0:=λe=>by
 grind
def Jr(p:List Rat):List Rat:=DM (1/cf p (p.length-1)) p
def oF:Jr []=[]:=rfl
theorem Yf(p:List Rat):Jc (Jr p)=Jr p:=JH _ _
theorem Mh{c:Rat}(a:c≠0){p:List Rat}(hp:Jc p=p):Jr (DM c p)=Jr p:=by
 grind[Jr,YV,YB,Ld]
def KS{p:List Rat}(hp:Jc p=p)(a:p≠[]):Jr p≠[]:=Gh (Le (Js hp a)) hp a
theorem X2{p:List Rat}(hp:Jc p=p):(Jr p).length=p.length:=by
 by_cases a:p=[]
 . subst a;rfl
 . exact YV (Le (Js hp a)) hp
theorem RI{p:List Rat}(hp:Jc p=p)(a:p≠[]):cf (Jr p) ((Jr p).length-1)=1:=by
 grind[X2,Jr,YB,Js]
def It{p:List Rat}(hp:Jc p=p):Jr (Jr p)=Jr p:=by
 by_cases a:p=[]
 . subst a;rfl
 . exact Mh (Le (Js hp a)) hp
def EX:Nat->List Rat->List Rat->List Rat
 |0,p,_=>Jr p
 |n+1,p,q=>if q=[]then Jr p else EX n q (J6 p q)
def Jt(p q:List Rat):List Rat:=EX q.length p q
theorem oG:∀(n m:Nat) (p q:List Rat),Jc q=q->q.length<=n->q.length<=m->EX n p q=EX m p q:=by
 intro n;induction n with
 |zero=>
  intro m p q _ h _;have hq:q=[]:=Mg O;subst hq;cases m with
  |zero=>rfl
  |succ m=>simp[EX]
 |succ n d=>
  intro m p q hq h b;by_cases a:q=[]
  . grind
  . have hl:0<q.length:=Ae.2 a;cases m with
    |zero=>omega
    |succ m=>
     have c:=(Y9 p q hq a).2.1;grind[EX,XJ]
def Wf(p:List Rat):Jt p []=Jr p:=rfl
theorem oH{p q:List Rat}(hq:Jc q=q)(a:q≠[]):Jt p q=Jt q (J6 p q):=by
 have b:=(Y9 p q hq a).2.1;have hl:0<q.length:=Ae.2 a;unfold Jt;obtain⟨n,hn⟩:∃n,q.length=n+1:=⟨q.length-1,O⟩;grind[EX,oG,XJ]
theorem oI:∀(n:Nat) (c d:Rat) (p q:List Rat),c≠0->d≠0->Jc p=p->Jc q=q->EX n (DM c p) (DM d q)=EX n p q:=by
 intro n;induction n with
 |zero=>intro c d p q b _ hp _;exact Mh b hp
 |succ n f=>
  intro c d p q b e hp hq;by_cases a:q=[]
  . grind[EX,oA,Mh]
  . simp only[EX,BD a,BD (Gh e hq a)];rw[(OW e p q hq a).2];exact f d c q (J6 p q) e b hq (XJ _ _)
theorem RJ{c d:Rat}{p q:List Rat}(a:c≠0)(b:d≠0)(hp:Jc p=p)(hq:Jc q=q):Jt (DM c p) (DM d q)=Jt p q:=by
 grind[Jt,YV,oI]
def Eu.gcd{p q a b:List Rat}(h:Eu p q a b):Jc p=p->Jc q=q->Jt p q=Jt a b:=by
 induction h using Eu.ind with
 |base p q=>exact λ_ _=>rfl
 |step p q c a b f e _ g=>
  intro hp hq;rw[<-g hq (JH _ _),oH hq f];have d:=RJ (c:=1) DJ e hq (XJ p q);rw[KR hq]at d;exact d.symm
theorem oJ:∀(n:Nat) (p q:List Rat),Jc (EX n p q)=EX n p q:=by
 intro n;induction n with
 |zero=>intro p q;exact Yf _
 |succ n a=>
  intro p q;grind[EX,Yf]
theorem JE(p q:List Rat):Jc (Jt p q)=Jt p q:=oJ _ _ _
theorem Hw(c:Rat):c*(c.den:Rat)=(c.num:Rat):=by
 have a:((c.den:Int):Rat)≠0:=by exact_mod_cast c.den_nz
 grind[Ci,An,AG]
theorem dvd_one{a b c:Int}(h:a∣b*c)(hg:Nat.gcd a.natAbs c.natAbs=1):a∣b:=by
 have d:=Cu.2 h;grind[Co,Cu,Nat.Coprime.dvd_of_dvd_mul_right]
theorem oK{c:Rat}{D n:Int}(h:c*(D:Rat)=(n:Rat)):(c.den:Int)∣D/\c.num*D=n*c.den:=by
 have a:c*(c.den:Rat)=(c.num:Rat):=Hw c;have b:((c.num*D:Int):Rat)=((n*(c.den:Int):Int):Rat):=by
  rw[At,At,<-a,<-h];show c*(c.den:Rat)*(D:Rat)=c*(D:Rat)*((c.den:Int):Rat);rw[AG];grind
 have d:c.num*D=n*c.den:=Rat.intCast_inj.1 b;refine⟨?_,d⟩;have e:(c.den:Int)∣D*c.num:=⟨n,DG⟩;refine dvd_one e ?_;show Nat.gcd (c.den:Int).natAbs c.num.natAbs=1;rw[AF,CN];exact c.reduced
theorem oL{p:List Rat}{L G:Int}(M:∀i,((cf p i).den:Int)∣L)(N:∀u:Int,(∀i,((cf p i).den:Int)∣u)->L∣u)(D:∀i,G∣(cf p i).num)(E:∀v:Int,(∀i,v∣(cf p i).num)->v∣G)(n:G≠0){K:Nat}(h:Ln K p):
 ∀i,∃z:Int,Sm K z/\cf p i*((L:Rat)/(G:Rat))=(z:Rat):=by
 obtain⟨c,Q,S⟩:=h;have w:c.num≠0:=λe=>Q (Fn.1 e);have s:(c.den:Int)≠0:=by have:=c.den_nz;omega
 have g:∀i,∃z:Int,Sm K z/\(cf p i).num*c.num=z*((cf p i).den*c.den):=λi=>by
  obtain⟨z,k,l⟩:=S i;refine⟨z,k,?_⟩;have y:c*(c.den:Rat)=(c.num:Rat):=Hw c;have j:cf p i*((cf p i).den:Rat)=((cf p i).num:Rat):=Hw _;have A:(((cf p i).num*c.num:Int):Rat)=((z*(((cf p i).den:Int)*(c.den:Int)):Int):Rat):=by
   rw[At,At,At,AG,AG,<-y,<-j,<-l];grind
  exact Rat.intCast_inj.1 A
 have b:L∣c.num:=N _ λi=>by
  obtain⟨z,_,e⟩:=g i;have a:((cf p i).den:Int)∣(cf p i).num*c.num:=⟨z*c.den,DG⟩;rw[Int.mul_comm]at a;refine dvd_one a ?_;show Nat.gcd ((cf p i).den:Int).natAbs (cf p i).num.natAbs=1;rw[AF,CN];exact(cf p i).reduced
 have hv:(c.den:Int)∣G:=E _ λi=>by
  obtain⟨z,_,e⟩:=g i;have a:(c.den:Int)∣(cf p i).num*c.num:=⟨z*(cf p i).den,DG⟩;refine dvd_one a ?_;show Nat.gcd (c.den:Int).natAbs c.num.natAbs=1;rw[AF,CN];exact c.reduced
 obtain⟨u,b⟩:=b;obtain⟨v,hv⟩:=hv;have x:u≠0:=λe=>w (by rw[b,e,Fx]);have r:v≠0:=λe=>n (by rw[hv,e,Fx]);intro i;obtain⟨e,o⟩:=M i;obtain⟨m,q⟩:=D i;obtain⟨z,k,l⟩:=g i;have R:((cf p i).den:Int)≠0:=by have:=(cf p i).den_nz;omega
 have t:z=m*e*(u*v):=by
  have B:z*(((cf p i).den:Int)*c.den)=m*e*(u*v)*(((cf p i).den:Int)*c.den):=by
   rw[<-l,q,b,hv,o];generalize ((cf p i).den:Int)=d;generalize (c.den:Int)=f;grind
  exact Int.eq_of_mul_eq_mul_right (Cq R s) B
 refine⟨m*e,k.le ?_,?_⟩
 . rw[t,Co (m*e)]
   have:0<(u*v).natAbs:=Int.natAbs_pos.2 (Cq x r)
   exact AW _ this
 . have V:(G:Rat)≠0:=by exact_mod_cast n
   have j:cf p i*((cf p i).den:Rat)=((cf p i).num:Rat):=Hw _;rw[q,At]at j;have X:(L:Rat)=((cf p i).den:Rat)*(e:Rat):=by rw[o,At,AG]
   grind
def XR(p:List Rat):Nat->Nat
 |0=>1
 |n+1=>Nat.lcm (XR p n) (cf p n).den
def XD(p:List Rat):Nat->Nat
 |0=>0
 |n+1=>Nat.gcd (XD p n) (cf p n).num.natAbs
def Wl(p:List Rat):∀n,0<XR p n:=by
 intro n;induction n with
 |zero=>exact Nat.one_pos
 |succ n a=>exact Nat.lcm_pos a (cf p n).den_pos
theorem RK(p:List Rat):∀n i,i<n->(cf p i).den∣XR p n:=by
 intro n;induction n with
 |zero=>intro i h;omega
 |succ n a=>
  intro i h;grind[XR,Nat.dvd_lcm_right,Nat.dvd_trans,Nat.dvd_lcm_left]
def RL(p:List Rat)(u:Nat)(h:∀i,(cf p i).den∣u):∀n,XR p n∣u:=by
 intro n;induction n with
 |zero=>exact Nat.one_dvd _
 |succ n a=>exact Nat.lcm_dvd a (h n)
theorem RM(p:List Rat):∀n i,i<n->XD p n∣(cf p i).num.natAbs:=by
 intro n;induction n with
 |zero=>intro i h;omega
 |succ n a=>
  intro i h;grind[XD,CO,Nat.dvd_trans,C8]
def Wm(p:List Rat)(v:Nat)(h:∀i,v∣(cf p i).num.natAbs):∀n,v∣XD p n:=by
 intro n;induction n with
 |zero=>exact Nat.dvd_zero _
 |succ n a=>exact Nat.dvd_gcd a (h n)
theorem Wn{D:Int}{K:Nat}{c:Rat}(hD:D≠0)(h:CD D K c):∃n:Int,Sm K n/\c*(D:Rat)=(n:Rat):=by
 obtain⟨n,rfl,h⟩:=h;refine⟨n,h,?_⟩;have a:(D:Rat)≠0:=by exact_mod_cast hD
 grind[An]
theorem OY{D:Int}{K:Nat}{c:Rat}{n:Int}(hD:D≠0)(hn:Sm K n)(h:c*(D:Rat)=(n:Rat)):CD D K c:=by
 refine⟨n,?_,hn⟩;have a:(D:Rat)≠0:=by exact_mod_cast hD
 grind[An]
theorem Wo{D:Int}{K:Nat}{p:List Rat}(hD:D≠0)(hs:Sm K D)(h:EP D K p)(n:Nat):Sm K (XR p n:Int):=by
 refine hs.le ?_;rw[AF];refine Nat.le_of_dvd (Int.natAbs_pos.2 hD) (RL p _ (λi=>?_) n);obtain⟨z,_,e⟩:=Wn hD (h i);grind[oK,CB]
def Wp{K:Nat}{p:List Rat}(h:∀i,Sm K (cf p i).num):∀n,Sm K (XD p n:Int):=by
 intro n;induction n with
 |zero=>exact Sm.zero K
 |succ n a=>exact Sm.gcd a (h n)
def EP.ln{D:Int}{K:Nat}{p:List Rat}(hD:D≠0)(h:EP D K p):Ln K p:=
 ⟨(D:Rat),by exact_mod_cast hD,λi=>Wn hD (h i)⟩
theorem Mi{p:List Rat}(hp:Jc p=p)(a:p≠[]):XD p p.length≠0:=λe=>by
 have hl:0<p.length:=Ae.2 a;have b:=RM p p.length (p.length-1) O;grind[Nat.zero_dvd,Js,Fn]
def Jo(p:List Rat):List Rat:=DM ((XR p p.length:Rat)/(XD p p.length:Rat)) p
theorem oM{p:List Rat}(hp:Jc p=p)(a:p≠[]):0<(XR p p.length:Rat)/(XD p p.length:Rat):=by
 have b:(0:Rat)<(XR p p.length:Rat):=by exact_mod_cast Wl p _
 have c:(0:Rat)<(XD p p.length:Rat):=by exact_mod_cast Nat.pos_of_ne_zero (Mi hp a)
 grind[Rat.mul_pos,Rat.inv_pos]
theorem RO{p:List Rat}(hp:Jc p=p)(b:p≠[]){K:Nat}(h:Ln K p):∀i,∃z:Int,Sm K z/\cf (Jo p) i=(z:Rat):=by
 have a:∀i,p.length<=i->cf p i=0:=λi hi=>Yn hi;have c:=oL (p:=p) (L:=(XR p p.length:Int)) (G:=(XD p p.length:Int)) (λi=>by
  by_cases hi:i<p.length
  . grind[Int.natCast_dvd_natCast,RK]
  . rw[a i O];exact Int.one_dvd _) (λu d=>by
  refine CB.2 (RL p _ (λi=>CB.1 (d i)) _)) (λi=>by
  by_cases hi:i<p.length
  . exact CB.2 (RM p _ i hi)
  . rw[a i O];exact Int.dvd_zero _) (λv hv=>by
  have:v.natAbs∣XD p p.length:=Wm p _ (λi=>Cu.2 (hv i)) _
  grind[Int.natAbs_dvd,Int.natCast_dvd_natCast]) (by have:=Mi hp b;omega) h
 intro i;obtain⟨z,e,f⟩:=c i;grind[Jo,YB,AG]
structure DivS(A la:Nat)(S:Nat->List Rat->List Rat->Prop)(qs:List Rat):Prop where
 next:∀(k:Nat) (R Q:List Rat) (n:Nat) (a:Rat),S k R Q->(∀i,i+qs.length<=R.length->cf Q i=0)->qs.length<=R.length->n=R.length-qs.length->a=cf R (R.length-1)/cf qs (qs.length-1)->
  (∀i,cf (JR R (Ji (Jc (Gs n [a])) qs)) i=cf R i-(if n<=i then a*cf qs (i-n)else 0))->(∀i,cf (YK Q (Jc (Gs n [a]))) i=if i=n then a else cf Q i)->S (k+1) (JR R (Ji (Jc (Gs n [a])) qs)) (YK Q (Jc (Gs n [a])))
 size:∀(k:Nat) (R Q:List Rat),k<=la->S k R Q->Sqs R/\Sqs Q/\∃z,z+(2*A+1)<=1000000000/\∀i,DR z (cf R i)
end
section
variable {D E l:Int} {K A:Nat} {ps qs:List Rat}
structure Dvn(D E l:Int)(K A:Nat)(ps qs:List Rat):Prop where
 hD:D≠0
 sD:Sm K D
 hp:EP D K ps
 hE:E≠0
 sE:Sm A E
 hq:EP E A qs
 hl:l≠0
 sl:Sm A l
 lead:cf qs (qs.length-1)=Rat.divInt l E
variable{m:Nat}
def Dvn.lne(h:Dvn D E l K A ps qs):cf qs (qs.length-1)≠0:=by
 rw[h.lead];intro e;have hE:(E:Rat)≠0:=by exact_mod_cast h.hE
 have a:(l:Rat)/(E:Rat)*(E:Rat)=l:=Ak hE;rw[<-An,e,AZ]at a;exact h.hl (by exact_mod_cast a.symm)
def Dvn.den(h:Dvn D E l K A ps qs)(k:Nat):D*l^k≠0/\Sm (K+k*(A+1)+1) (D*l^k):=by
 refine⟨Cq h.hD (Int.pow_ne_zero h.hl),(h.sD.mul (h.sl.powZ k)).mono ?_⟩;rw[CS];omega
def Dvn.at(h:Dvn D E l K A ps qs)(k:Nat):(∀i,DR (K+k*(A+1)+1) (cf (JP ps qs (qs.length-1) m k).2 i))/\∀i,DR (K+k*(A+1)+1) (cf (JP ps qs (qs.length-1) m k).1 i):=by
 have b:=WS (m:=m) h.hD h.hp h.hE h.sE h.hq h.hl h.sl h.lead h.lne k;have a:=h.den k;exact⟨λi=>((b.1 i).mono O).smq a.1 a.2,λi=>((b.2 i).mono O).smq a.1 a.2⟩
def Dvn.sizes(h:Dvn D E l K A ps qs)(hb:2*(K+m*(A+1)+1)+2*(2*A+1)<=1000000000):∀k,k<=m->∃z,z+(2*A+1)<=1000000000/\(k<m->2*z+2*(2*A+1)<=1000000000)/\(∀i,DR z (cf (JP ps qs (qs.length-1) m k).2 i))/\∀i,DR (z+A) (cf (JP ps qs (qs.length-1) m k).1 i):=by
 intro k hk;have a:k*(A+1)<=m*(A+1):=Ad _ hk;exact⟨K+k*(A+1)+1,O,λ_=>by omega,(h.at k).1,λi=>((h.at k).2 i).mono O⟩
def Dvn.rem(h:Dvn D E l K A ps qs)(b:ps.length-(qs.length-1)=m):EP (D*l^m) (K+m*(A+1)) (J6 ps qs)/\EP (D*l^m) (K+m*(A+1)) (Jm ps qs):=by
 have a:=WS (m:=m) h.hD h.hp h.hE h.sE h.hq h.hl h.sl h.lead h.lne m;refine⟨λi=>?_,λi=>?_⟩
 . unfold J6;rw[Yw,b];exact a.1 i
 . unfold Jm;rw[Yw,b];exact a.2 i
end
def Ed(A:Nat)(p:List Rat):Prop:=∀i,∃z:Int,Sm A z/\cf p i=(z:Rat)
theorem Ed.cdl{A:Nat}{p:List Rat}(h:Ed A p):EP 1 A p:=λi=>by
 obtain⟨z,a,b⟩:=h i;exact OY DJ a (by rw[b];grind)
def Ed.mono{A B:Nat}{p:List Rat}(h:Ed A p)(hb:A<=B):Ed B p:=λi=>by
 obtain⟨z,a,b⟩:=h i;exact⟨z,a.mono hb,b⟩
def Ed.ln{A:Nat}{p:List Rat}(h:Ed A p):Ln A p:=h.cdl.ln DJ
def Ed.smq{A:Nat}{p:List Rat}(h:Ed A p)(hA:1<=A)(i:Nat):DR A (cf p i):=(h.cdl i).smq DJ (Sm.one A hA)
theorem RP{A:Nat}{p:List Rat}(hp:Jc p=p)(d:p≠[])(h:Ln A p):∃E:Int,E≠0/\Sm A E/\EP E A (Jr p):=by
 obtain⟨c,g,b⟩:=h;have hl:=Js hp d;obtain⟨E,f,a⟩:=b (p.length-1);have hE:E≠0:=λe=>by
  rw[e]at a;exact Xc hl g a
 refine⟨E,hE,f,λi=>?_⟩;obtain⟨z,j,k⟩:=b i;grind[OY,Jr,YB]
def Ln.sqs{A:Nat}{p:List Rat}(hp:Jc p=p)(h:Ln A p)(hA1:1<=A):∀i,DR A (cf (Jr p) i):=by
 by_cases a:p=[]
 . subst a;intro i;rw[oF,Xu];exact DR.zero _ hA1
 . obtain⟨E,b,c,d⟩:=RP hp a h;exact λi=>(d i).smq b c
theorem Wq(c:Rat):Yv c=c\/Yv c=-c:=by
 grind[Yv]
theorem oN{c:Rat}(h:c≠0):Yv c≠0:=by
 grind[Wq]
theorem oO{c:Rat}(h:c≠0):∀n:Nat,c^n≠0:=by
 intro n;induction n with
 |zero=>grind
 |succ n a=>grind
def Ej(p q:List Rat):Rat:=Yv (cf q (q.length-1))^(p.length+1-q.length)
def XS(p q:List Rat):List Rat:=DM (Ej p q) p
def XW(p q:List Rat):List Rat:=JR [] (Jo (J6 (XS p q) q))
def oP:Jo []=[]:=rfl
theorem J1(p:List Rat):Jc (Jo p)=Jo p:=JH _ _
theorem Xd{p:List Rat}(hp:Jc p=p):∃c:Rat,0<c/\Jo p=DM c p:=by
 by_cases a:p=[]
 . subst a;exact⟨1,DJ,J⟩
 . exact⟨_,oM hp a,J⟩
def Lf{p:List Rat}(hp:Jc p=p){K:Nat}(h:Ln K p):Ed K (Jo p):=by
 by_cases a:p=[]
 . subst a;exact λi=>⟨0,Sm.zero K,by rw[oP,Xu];rfl⟩
 . exact RO hp a h
theorem RQ{p q:List Rat}(hq:Jc q=q)(a:q≠[]):Ej p q≠0:=oO (oN (Js hq a)) _
theorem Iu(p q:List Rat):Jc (XW p q)=XW p q:=Yj _ _
theorem RR{p q:List Rat}(hq:Jc q=q)(a:q≠[]):∃c:Rat,c≠0/\XW p q=DM c (J6 p q)/\XW p q=DM (-1) (Jo (J6 (XS p q) q)):=by
 have b:XW p q=DM (-1) (Jo (J6 (XS p q) q)):=YL (Iu _ _) (JH _ _) λx=>by
  grind[XW,XA,Jp,ev]
 have e:=(OW (c:=Ej p q) (d:=1) DJ p q hq a).2;grind[KR,Xd,XJ,XS,RQ,Ld]
theorem Ws{p q:List Rat}(hq:Jc q=q)(a:q≠[]){A:Nat}(h:Ln A (J6 p q)):Ed A (Jo (J6 (XS p q) q))/\Ed A (XW p q):=by
 have b:=(OW (c:=Ej p q) (d:=1) DJ p q hq a).2;rw[KR hq]at b;have f:Ed A (Jo (J6 (XS p q) q)):=Lf (XJ _ _) (by unfold XS;rw[b];exact h.sc (RQ hq a));refine⟨f,λi=>?_⟩;obtain⟨z,g,j⟩:=f i;obtain⟨_,_,_,e⟩:=RR (p:=p) hq a;exact⟨-z,g.neg,by rw[e,YB,j,Rat.intCast_neg];grind⟩
structure Chn(p q:List Rat)(A:Nat)(a b:List Rat):Prop where
 ta:Jc a=a
 tb:Jc b=b
 wa:Ed A a
 wb:Ed A b
 gc:Jt a b=Jt p q
 la:a.length<=max p.length q.length
 lb:b.length<=q.length
 nx:b≠[]->Ln A (J6 a b)
 eu:Eu (Jo p) (Jo q) a b
def Da(K:Nat)(p q:List Rat):Nat:=(K+1)*(p.length+q.length+1)
theorem OZ(K:Nat)(p q:List Rat):K+1<=Da K p q:=by
 grind[Da]
def Wt(K:Nat)(p q:List Rat):(K+1)*(p.length+q.length)<=Da K p q:=Ah _ O
theorem JL{p:List Rat}(hp:Jc p=p):(Jo p).length=p.length:=by
 grind[Xd,YV]
theorem Wu{p q:List Rat}(hp:Jc p=p)(hq:Jc q=q):Jt (Jo p) (Jo q)=Jt p q:=by
 grind[Xd,RJ]
section
variable {K:Nat} {p q a b:List Rat}
def Chn.ln_rem(hp:Jc p=p)(hq:Jc q=q)(d:Ln K p)(e:Ln K q)(hl:p.length+q.length<=1000000000)(h:Eu (Jo p) (Jo q) a b)(hb:b≠[]):Ln (Da K p q) (J6 a b):=by
 have c:=WZ (J1 p) (J1 q) (Lf hp d).ln (Lf hq e).ln (by rw[JL hp,JL hq];exact hl) h hb;rw[JL hp,JL hq]at c;exact c.mono (Wt _ _ _)
def Chn.start(hp:Jc p=p)(hq:Jc q=q)(a:Ln K p)(b:Ln K q)(hl:p.length+q.length<=1000000000):Chn p q (Da K p q) (Jo p) (Jo q) where
 ta:=J1 p
 tb:=J1 q
 wa:=(Lf hp a).mono (by have:=OZ K p q;omega)
 wb:=(Lf hq b).mono (by have:=OZ K p q;omega)
 gc:=Wu hp hq
 la:=by rw[JL hp];omega
 lb:=by rw[JL hq];exact Aa _
 nx:=Chn.ln_rem hp hq a b hl (.base _ _)
 eu:=.base _ _
def Chn.next(hp:Jc p=p)(hq:Jc q=q)(g:Ln K p)(i:Ln K q)(hl:p.length+q.length<=1000000000)(h:Chn p q (Da K p q) a b)(hb:b≠[]):Chn p q (Da K p q) b (XW a b):=by
 obtain⟨c,f,e,_⟩:=RR (p:=a) h.tb hb;have d:Eu (Jo p) (Jo q) b (XW a b):=by rw[e];exact h.eu.tail hb f
 have k:(XW a b).length<b.length:=by
  rw[e,YV f (XJ _ _)];exact(Y9 a b h.tb hb).2.1
 have j:=h.lb;exact⟨h.tb,Iu _ _,h.wb,(Ws h.tb hb (h.nx hb)).2,by rw[<-d.gcd (J1 p) (J1 q)];exact Wu hp hq,O,O,Chn.ln_rem hp hq g i hl d,d⟩
end
def Xs{a b:List Rat}(hb:Jc b=b)(d:b≠[]):(XW a b).length<b.length:=by
 obtain⟨c,f,e,_⟩:=RR (p:=a) hb d;rw[e,YV f (XJ _ _)];exact(Y9 a b hb d).2.1
structure Rhn(p q:List Rat)(A:Nat)(a b:List Rat):Prop where
 ta:Jc a=a
 tb:Jc b=b
 ca:∃D:Int,D≠0/\Sm A D/\EP D A a
 cb:∃E:Int,E≠0/\Sm A E/\EP E A b
 mb:b≠[]->cf b (b.length-1)=1
 ma:Jr a=a
 gc:Jt a b=Jt p q
 la:a.length<=max p.length q.length
 lb:b.length<=q.length
 nx:b≠[]->Ln A (J6 a b)
 eu:Eu (Jr p) (Jr q) a b
def RS{A:Nat}(hA:1<=A):∃D:Int,D≠0/\Sm A D/\EP D A []:=⟨1,DJ,Sm.one A hA,λi=>by rw[Xu];exact CD.zero _ _⟩
def Mj{A:Nat}{p:List Rat}(hp:Jc p=p)(h:Ln A p)(hA:1<=A):∃E:Int,E≠0/\Sm A E/\EP E A (Jr p):=by
 by_cases a:p=[]
 . subst a;exact RS hA
 . exact RP hp a h
section
variable {K:Nat} {p q a b:List Rat}
end
theorem Oa(q:Rat):Xq q 0<0↔q<0:=by
 grind[Rat.lt_iff,Xq,XQ]
def oQ(a b:Nat):(a:Int)*((b:Int)/((Int.gcd a b:Nat):Int))=((Nat.lcm a b:Nat):Int):=by
 show(a:Int)*((b:Int)/((Nat.gcd a b:Nat):Int))=_;rw[<-C7,<-Int.natCast_mul];congr 1;rw[Nat.lcm,Nat.mul_div_assoc _ (CO a b)]
theorem IM(ps:List Rat)(i:Nat):(if((i:Nat):Int)<0 then(0:Rat)else cf ps ((i:Nat):Int).toNat)=cf ps i:=by
 grind
namespace M3
def RT(n:Nat)(h:n<=2199023255552)(w:T):(Instr.makeSlice 22 (G F (n:Int)) (G F (n:Int))).run U w=.ok (C (some ⟨w.heap.size,0,none⟩) n n) (w.alloc (H (YD n) 50)):=by
 obtain⟨i,hi,b⟩:=CP.1 Tryz.infoRat;simp only[Prod.mk.injEq]at b;obtain⟨c,hs,hb⟩:=b;have a:=run_make (P:=U) w 22 50 i _ underlying22 hi c F F n n O (Int.le_refl _) (by rw[hb];omega) O;simp only[CM,hs]at a;exact a
