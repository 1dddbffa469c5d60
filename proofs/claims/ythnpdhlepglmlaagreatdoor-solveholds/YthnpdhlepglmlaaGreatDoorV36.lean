import Derived.Test.YthnpdhlepglmlaaGreatDoorV35
set_option linter.all false
open Go.Value renaming slice->C,int->G,pointer->L,bool->P,string->W
open Go.IntKind renaming i64->F
open Go.Obj renaming cells->H
open Go renaming undef->I,World->T
open Go.Proofs.Tryz renaming prog->U
set_option maxRecDepth 99999
set_option maxHeartbeats 0
namespace Go.Proofs.YthnpdhlepglmlaaGreatDoor
open Rat renaming divInt->yB
open List renaming replicate->yA
open Proofs.Tryz
open Go.RowKit Go.Shelf
attribute [local go_sem] Oper.semAt_some
section
variable{cs:Array Value}{m:Nat × Nat}{t:TypeId}{W':T}
def oR(p q:Addr)(w:T):
 CallsD U 90 #[L (some p),L (some q)] .returning w λe d w'=>e=.returned (.tuple #[])/\d=.returning/\w'=w.alloc (H #[G F 0,G F 0] 95):=by
 have a:∀w:T,(Instr.typeAssert Value.nilIface 20 95 true).run U w=.ok (.tuple #[.agg #[G F 0,G F 0],P false]) w:=λ_=>by kernel_rfl
 refine callsD_of_wpS func90 J λb cs c=>?_;apply wpS_seq;apply wpS_region;simp[wpOpsS,go_sem,recoverD,c,ntmps90,Exit.thenS,a];apply wpS_seq;apply wpS_region;simp[wpOpsS,go_sem,Exit.thenS];refine wpS_cond (t:=false) (by simp[Act.eval,Array.replicate]) ?_;simp only[Fh,if_false];refine wpS_of_wp (wp_skip ?_);cases b;simp_all [bodyPostS,results,results90]
def oS(p q:Nat)(a p0:Int)(w:T)(f:Boxed w p 25 (C none 0 0))(g:JC w q 95 (G F 0) (G F 0))(j:p≠q):
 CallsD U 90 #[L (some ⟨p,0,none⟩),L (some ⟨q,0,none⟩)] (.panicking [{ v:=IW a p0,recovered:=false }]) w λe z w'=>e=.returned (.tuple #[])/\z=.panicking [{ v:=IW a p0,recovered:=true }]/\Boxed w' p 25 (C none 0 0)/\JC w' q 95 (G F a) (G F p0)/\∀n w0,Below n w0 w->n<=w.heap.size->n<=p->n<=q->Below n w0 w':=by
 unfold IW;have k:∀w:T,(Instr.typeAssert (.iface 95 (.agg #[G F a,G F p0])) 20 95 true).run U w=.ok (.tuple #[.agg #[G F a,G F p0],P true]) w:=λ_=>by kernel_rfl
 refine callsD_of_wpS func90 J λA cs o=>?_;apply wpS_seq;apply wpS_region;simp[wpOpsS,go_sem,recoverD,o,ntmps90,Exit.thenS,k];apply wpS_seq;apply wpS_region;simp[wpOpsS,go_sem,Exit.thenS];refine wpS_cond (t:=true) (by simp[Act.eval,Array.replicate]) ?_;simp only[if_true];refine wpS_of_wp ?_;simp[Array.replicate];have n0:=JC.new w 95 (G F a) (G F p0);have c:=f.alloc (H #[G F a,G F p0] 95);have b:=g.alloc (H #[G F a,G F p0] 95);have u:p≠w.heap.size:=by have:=f.lt;omega
 have x:q≠w.heap.size:=by have:=g.lt;omega
 have d:=Z λ(n:Nat) (w0:T) (h:Below n w0 w) (hn:n<=w.heap.size)=>h.alloc hn (H #[G F a,G F p0] 95);obtain⟨W,i⟩:=ex (w.alloc (H #[G F a,G F p0] 95));rw[i]at n0 c b d;rw[i];obtain⟨D,hD⟩:=ex (w.heap.size);rw[hD]at n0 u x d;rw[hD];clear i f g k o;obtain⟨d0,d1⟩:=n0.cp;have x0:=c.cell;have x1:=c.frozen;obtain⟨y0,y1⟩:=b.cp;obtain⟨z0,B⟩:=b.fp;have r:=Z c;have s:=Z b;clear c b n0;go_region
 have hX:Boxed (((W.setCell ⟨p,0,none⟩ (C none 0 0)).setCell ⟨q,0,none⟩ (G F a)).setCell ⟨q,1,none⟩ (G F p0)).drew p 25 (C none 0 0):=
  (BC _ ⟨q,1,none⟩ (G F p0) p j).trans ((BC _ ⟨q,0,none⟩ (G F a) p j).trans (r.o.set (C none 0 0)))
 have m:JC (((W.setCell ⟨p,0,none⟩ (C none 0 0)).setCell ⟨q,0,none⟩ (G F a)).setCell ⟨q,1,none⟩ (G F p0)).drew q 95 (G F a) (G F p0):=
  (((s.o.far (p:=⟨p,0,none⟩) (λe=>j e.symm) _).set0 _).set1 _).drew
 have hZ:∀n w0,Below n w0 w->n<=D->n<=p->n<=q->Below n w0 (((W.setCell ⟨p,0,none⟩ (C none 0 0)).setCell ⟨q,0,none⟩ (G F a)).setCell ⟨q,1,none⟩ (G F p0)).drew:=
  λn w0 h hn y l=>((((d.o n w0 h hn).setCell (p:=⟨p,0,none⟩) y _).setCell (p:=⟨q,0,none⟩) l _).setCell (p:=⟨q,1,none⟩) l _).drew
 generalize (((W.setCell ⟨p,0,none⟩ (C none 0 0)).setCell ⟨q,0,none⟩ (G F a)).setCell ⟨q,1,none⟩ (G F p0)).drew=V at hX m hZ ⊢;simp[bodyPostS,results,results90];exact⟨hX,m,hZ⟩
theorem oT(s:ByteArray)(g q0:Int)(w:T)(o:∀V R,Da V R s 0->Calls U 91 #[L (some ⟨R,0,none⟩)] V λr w'=>V.grownBy w' (some R)/\r=.panicked [{ v:=IW g q0,recovered:=false }]):
 Calls U 40 #[W s] w λr w'=>r=.returned (.tuple #[.agg #[C none 0 0],.agg #[G F g,G F q0]])/\Bl w w':=by
 have m:=Z o;clear o;go_enter_defers func40,ntmps40
 go_upto_region 3 with fail
 have b:=BH w 25 (C none 0 0);have a:=JC.new (w.alloc (H #[C none 0 0] 25)) 95 (G F 0) (G F 0);have c:Da (((w.alloc (H #[C none 0 0] 25)).alloc (H #[G F 0,G F 0] 95)).alloc (H #[W s,G F 0] 151)) ((w.alloc (H #[C none 0 0] 25)).alloc (H #[G F 0,G F 0] 95)).heap.size s 0:=BD _ _;rw[Ax,Ax]at c;rw[Ax]at a;replace b:=(b.alloc (H #[G F 0,G F 0] 95)).alloc (H #[W s,G F 0] 151);replace a:=a.alloc (H #[W s,G F 0] 151);have hb:Bl w (((w.alloc (H #[C none 0 0] 25)).alloc (H #[G F 0,G F 0] 95)).alloc (H #[W s,G F 0] 151)):=((Ba w _).alloc (by rw[Ax];omega) _).alloc (by rw[Ax,Ax];omega) _;have q:(((w.alloc (H #[C none 0 0] 25)).alloc (H #[G F 0,G F 0] 95)).alloc (H #[W s,G F 0] 151)).heap.size=w.heap.size+1+1+1:=by rw[Ax,Ax,Ax]
 obtain⟨V,i⟩:=ex (((w.alloc (H #[C none 0 0] 25)).alloc (H #[G F 0,G F 0] 95)).alloc (H #[W s,G F 0] 151));rw[i]at b a c hb q;rw[i];obtain⟨t,j,l,u⟩:=Dx b a hb (m.o _ _ c);clear b a c hb i m q;go_wp2_with(go_at_call 91;refine u.o.mono ?_;rintro e w1 ⟨p,rfl⟩;have d:=Z p;clear p)
 have y:Boxed w1 w.heap.size 25 (C none 0 0):=t.o.kept d.o (λe=>by have:=Cw e;omega);have x:JC w1 (w.heap.size+1) 95 (G F 0) (G F 0):=(d.o.block _ j.o.lt λe=>by have:=Cw e;omega).trans j.o;have n:=l.o.grown d.o l.o.size (λk e=>by grind);refine leaves_cons (f:=90) (args:=#[L (some ⟨w.heap.size,0,none⟩),L (some ⟨w.heap.size+1,0,none⟩)]) DI (by simp[go_sem]) ?_;refine(oS w.heap.size (w.heap.size+1) g q0 _ y x O).mono ?_;rintro e E w2 ⟨rfl,rfl,z,A,B⟩;have D:=B _ _ n n.size (Aa _) O;have x0:=z.cell;obtain⟨y0,y1⟩:=A.cp;simp[Leaves,settle,results,results40,go_sem,x0,y0,y1];exact D
theorem oU{W:T}{F:Nat}(hF:W.heap[F]?=some (H cs t m))(i:t=95)(hg:W.grownBy W' (some F)):∀k v ds,Row k W v ds->Row k W' v ds:=by
 intro k v ds c;obtain⟨a,cap,e,_⟩:=id c;subst e;refine c.grown hg λp g hl=>?_;obtain⟨b,off,f,d,j,hb⟩:=c.typ hl;grind
def ZI{W:T}{F:Nat}(hF:W.heap[F]?=some (H cs t m))(g:t=95)(hg:W.grownBy W' (some F)){r:Bool}{v:Value}{qs:Ja}(h:RowK r W v qs):RowK r W' v qs:=by
 obtain⟨a,cap,e,k,c,l,d⟩:=h;refine⟨a,cap,e,k,c,l,?_⟩;rcases d with d|⟨b,i,f⟩
 . exact An d
 . refine Ap ⟨b,i,f.keep (hg.block b f.lt λe=>?_) (oU hF g hg)⟩;obtain⟨n,j,_⟩:=f;have e:=Cw e;subst e;have:=j.symm.trans hF;simp only[Cn,C0]at this;subst g;have c:=this.2.1;revert c;cases r<;>(show ¬(_=_);decide)
theorem oV(s:ByteArray)(ps:Ja)(w:T)(hP:∀V R,Da V R s 0->Calls U 91 #[L (some ⟨R,0,none⟩)] V λr w'=>V.grownBy w' (some R)/\∃u,r=.returned u/\Je w' u ps):
 Calls U 40 #[W s] w λr w'=>∃u,r=.returned (.tuple #[u,.agg #[G F 0,G F 0]])/\Je w' u ps/\Bl w w':=by
 have M:=Z hP;clear hP;go_enter_defers func40,ntmps40
 go_upto_region 3 with fail
 have g:=BH w 25 (C none 0 0);have c:=JC.new (w.alloc (H #[C none 0 0] 25)) 95 (G F 0) (G F 0);have l:Da (((w.alloc (H #[C none 0 0] 25)).alloc (H #[G F 0,G F 0] 95)).alloc (H #[W s,G F 0] 151)) ((w.alloc (H #[C none 0 0] 25)).alloc (H #[G F 0,G F 0] 95)).heap.size s 0:=BD _ _;rw[Ax,Ax]at l;rw[Ax]at c;replace g:=(g.alloc (H #[G F 0,G F 0] 95)).alloc (H #[W s,G F 0] 151);replace c:=c.alloc (H #[W s,G F 0] 151);have hb:Bl w (((w.alloc (H #[C none 0 0] 25)).alloc (H #[G F 0,G F 0] 95)).alloc (H #[W s,G F 0] 151)):=((Ba w _).alloc (by rw[Ax];omega) _).alloc (by rw[Ax,Ax];omega) _;have hz:(((w.alloc (H #[C none 0 0] 25)).alloc (H #[G F 0,G F 0] 95)).alloc (H #[W s,G F 0] 151)).heap.size=w.heap.size+1+1+1:=by rw[Ax,Ax,Ax]
 obtain⟨V,A⟩:=ex (((w.alloc (H #[C none 0 0] 25)).alloc (H #[G F 0,G F 0] 95)).alloc (H #[W s,G F 0] 151));rw[A]at g c l hb hz;rw[A];obtain⟨H0,D,K,HC⟩:=Dx g c hb (M.o _ _ l);clear g c l hb A M hz;go_wp2_with(go_at_call 91;refine HC.o.mono ?_;rintro e w1 ⟨ae,u1,rfl,B⟩;have m:=Z ae;obtain⟨a,d,b,rfl⟩:=B.form;have HU:=Z B.row;have j:Boxed w1 w.heap.size 25 (C none 0 0):=H0.o.kept m.o (λe=>by have:=Cw e;omega);have i:JC w1 (w.heap.size+1) 95 (G F 0) (G F 0):=(m.o.block _ D.o.lt λe=>by have:=Cw e;omega).trans D.o;have x0:=j.cell;have x1:=j.frozen;obtain⟨y0,y1⟩:=i.cp;obtain⟨z0,z1⟩:=i.fp;have E:=Z j;have H3:=Z i;clear ae B j i)
 have n:w.heap.size+1≠w.heap.size:=O
 have Qd:=K.o.grown m.o K.o.size (λk e=>by grind);have N:=E.o.set (C a d b);have Q:=GM E.o (C a d b) HU.o;have v:=H3.o.far (p:=⟨w.heap.size,0,none⟩) n (C a d b);have S:=Qd.setCell (p:=⟨w.heap.size,0,none⟩) (Aa _) (C a d b);generalize w1.setCell ⟨w.heap.size,0,none⟩ (C a d b)=o at N Q v S ⊢;have X:=(BC o ⟨w.heap.size+1,0,none⟩ (G F 0) w.heap.size λe=>n e.symm).trans N;have b2:=ZI v J (J2 o (w.heap.size+1) 0 (G F 0)) Q;have x:=v.set0 (G F 0);have b4:=S.setCell (p:=⟨w.heap.size+1,0,none⟩) DH (G F 0);generalize o.setCell ⟨w.heap.size+1,0,none⟩ (G F 0)=q at X b2 x b4 ⊢;have d1:=(BC q ⟨w.heap.size+1,1,none⟩ (G F 0) w.heap.size λe=>n e.symm).trans X;have d2:=ZI x J (J2 q (w.heap.size+1) 1 (G F 0)) b2;have y:=x.set1 (G F 0);have z:=b4.setCell (p:=⟨w.heap.size+1,1,none⟩) DH (G F 0);generalize q.setCell ⟨w.heap.size+1,1,none⟩ (G F 0)=t at d1 d2 y z ⊢;refine leaves_cons (f:=90) (args:=#[L (some ⟨w.heap.size,0,none⟩),L (some ⟨w.heap.size+1,0,none⟩)]) DI (by simp[go_sem]) ?_;refine(oR ⟨w.heap.size,0,none⟩ ⟨w.heap.size+1,0,none⟩ _).mono ?_;rintro e u' w2 ⟨rfl,rfl,rfl⟩;have e1:Boxed t w.heap.size 25 (C a d b):=d1;have f1:=(e1.alloc (H #[G F 0,G F 0] 95)).cell;have f2:=(y.alloc (H #[G F 0,G F 0] 95)).c0;have f3:=(y.alloc (H #[G F 0,G F 0] 95)).c1;have f4:=z.alloc z.size (H #[G F 0,G F 0] 95);have f5:=d2.below (Ba t (H #[G F 0,G F 0] 95));generalize t.alloc (H #[G F 0,G F 0] 95)=W5 at f1 f2 f3 f4 f5 ⊢;simp[Leaves,settle,results,results40,go_sem,f1,f2,f3];exact⟨⟨_,J,f5⟩,f4⟩
def ZJ{l:List UInt8}:∀(f:Nat) (b:Bool) (I m:Nat) (S d:Ja) (k:Nat),I<=l.length->m<=I->Hf S m->GC l f b I S=.ok d k->∃r,r<=l.length/\Hf d r:=by
 intro f;induction f with
 |zero=>intro b I m S d k _ _ _ h;cases h
 |succ f q=>
  intro b I m S d k o w t h;cases g:X3 l I with
  |error e p=>rw[Rv g]at h;cases h
  |ok a u=>
   obtain⟨c,n⟩:=a;have s:=QW o g;have i:=t.next (ZE o g) s.2.2 b;have v:=It l u;rw[Rw g]at h;split at h
   . rename_i j;have:=Y1 j;exact q _ _ (m+1) _ _ _ O O i h
   . split at h
     . rename_i j;have:=Y1 j;exact q _ _ (m+1) _ _ _ O O i h
     . split at h
       . cases h;exact⟨m+1,O,i⟩
       . cases h
def oW{l:List UInt8}{S:Ja}{k:Nat}(h:Et l=.ok S k):∃m,m<=l.length/\Hf S m:=by
 unfold Et at h;have a:=G9 (l:=l) (i:=0) O;split at h
 . rename_i b;have:=Y1 b;exact ZJ _ _ _ 0 _ _ _ O O Hf.start h
 . exact ZJ _ _ _ 0 _ _ _ a O Hf.start h
theorem ZK(l:List UInt8):(Xy l).1.length<=9/\∀i,DS 601 (cf (Xy l).1 i):=by
 by_cases h:300<l.length
 . grind[Xy,XH,DS.zero]
 . rw[O2 h];cases a:Et l with
   |error e p=>grind[NC,XH,DS.zero]
   |ok S k=>
    obtain⟨m,b,hs⟩:=oW a;rw[show(NC (EStateM.Result.ok S k)).1=Jc S from J];exact⟨Ae (YA _) (by rw[hs.1];exact Aa _),λi=>by rw[Yv];exact(hs.2 i).mono O⟩
def L7(l:List UInt8)(w':T)(u:Value)(e p:Int):Prop:=e=((Xy l).2.1:Int)/\p=((Xy l).2.2:Int)/\Je w' u (Xy l).1
def oX(s:ByteArray)(hs:s.size<=300)(w:T):
 Calls U 40 #[W s] w λr w'=>∃u e p,r=.returned (.tuple #[u,.agg #[G F e,G F p]])/\L7 (Jj s) w' u e p/\Bl w w':=by
 have a:=O2 (l:=Jj s) (by rw[JG];omega);cases b:Et (Jj s)with
 |error d q0=>
  rw[b]at a;refine(oT s d q0 w λV R c=>(ZF R s V c hs).mono λr w' h=>⟨h.1,h.2.1 _ _ b⟩).mono ?_;rintro r w' ⟨rfl,hb⟩;refine⟨_,_,_,J,?_,hb⟩;rw[L7,a];exact⟨J,J,_,J,RowK.nil _ _⟩
 |ok S k=>
  rw[b]at a;refine(oV s (Jc S) w λV R c=>(ZF R s V c hs).mono λr w' h=>⟨h.1,by obtain⟨u,f,g,_⟩:=h.2.2 _ _ b;exact⟨u,f,g⟩⟩).mono ?_;rintro r w' ⟨u,rfl,i,hb⟩;refine⟨_,_,_,J,?_,hb⟩;rw[L7,a];exact⟨J,J,i⟩
def ZL(s:ByteArray)(w:T):
 Calls U 14 #[W s] w λr w'=>∃u e p,r=.returned (.tuple #[u,G F e,G F p])/\L7 (Jj s) w' u e p/\Bl w w':=by
 by_cases o:300<s.size
 . have S:(300:Int)<(s.size:Int):=O
   have A:=Z (show Xy (Jj s)=([],1,0)by unfold Xy;rw[BF (by rw[JG];exact o)]);clear o;go_enter func14,ntmps14
   go_wp2;exact BA (v:=.tuple #[.agg #[C none 0 0],G F 1,G F 0]) (by simp[results,results14,go_sem]) J ⟨_,_,_,J,by rw[L7,A.o];exact⟨J,J,_,J,RowK.nil _ _⟩,Ba w _⟩
 . have S:¬(300:Int)<(s.size:Int):=O
   have q:=Z λ(V:T)=>oX s O V;clear o;go_enter func14,ntmps14
   go_upto_region 4 with(go_at_call 40;refine(q.o _).mono ?_;clear q;rintro e w1 ⟨u1,f,p1,rfl,a,b⟩;obtain⟨c,i,d,rfl⟩:=a.2.2.form;have l:=Z a;have k:=Z b;clear a b)
   have M:w.heap.size<w1.heap.size:=by have:=k.o.size;rw[Ax]at this;omega
   have q0:Boxed w1 w.heap.size 25 (C none 0 0):=(k.o.block _ (by rw[Ax];omega)).trans (BH w 25 (C none 0 0));have y:=(Ba w _).trans (k.o.mono (by rw[Ax];omega));have g:=BH w1 25 (C c i d);have j:=JC.new (w1.alloc (H #[C c i d] 25)) 95 (G F f) (G F p1);rw[Ax]at j;replace g:=g.alloc (H #[G F f,G F p1] 95);have hA:Bl w1 ((w1.alloc (H #[C c i d] 25)).alloc (H #[G F f,G F p1] 95)):=(Ba w1 _).alloc (by rw[Ax];omega) _;have q1:=(hA.block _ q0.lt).trans q0;have b:=Bt y hA;have a:=l.o.2.2.row.below hA;have z:=Z (⟨l.o.1,l.o.2.1⟩:f=_/\p1=_);have t:w.heap.size≠w1.heap.size:=O
   have x:w.heap.size≠w1.heap.size+1:=O
   generalize (w1.alloc (H #[C c i d] 25)).alloc (H #[G F f,G F p1] 95)=R at g j hA q1 b a ⊢;clear hA q0 y k l M;obtain⟨Q,m⟩:=ex (w.heap.size);obtain⟨B,n⟩:=ex (w1.heap.size);rw[n]at g j t x;rw[m]at q1 t x;rw[n,m];have q2:Boxed R Q 25 (C none 0 0):=q1;have x0:=g.cell;obtain⟨y0,y1⟩:=j.cp;have z0:=q2.cell;have X:=q2.frozen;obtain⟨K,E,N,D⟩:=Dx q2 m b a;clear g j q1 q2 m n b a;go_region
   go_wp2_with fail
   have r0:=z0;refine BA (v:=.tuple #[.agg #[C c i d],G F f,G F p1]) (by simp[results,results14,go_sem,r0]) J ⟨_,_,_,J,⟨z.o.1,z.o.2,_,J,?_⟩,?_⟩
   . exact(GM K.o (C c i d) D.o).below ((BB _ _).drew)
   . exact(N.o.setCell (p:=⟨Q,0,none⟩) (by rw[E.o];exact Aa _) _).drew
end
section
variable{k m:Nat}
theorem ZM{q:Rat}(h:DS k q):(Yl q).length<=40*k+5:=by
 have a:=Rk q.num;have b:=Rk (q.den:Int);have c:=h.1.words;have d:=h.2.words;grind[Yl]
theorem DS.abs{q:Rat}(h:DS k q):DS k (Yu q):=by
 grind[mS,DS,Sm]
theorem oY(z:Ja)(i:Nat)(a:Rat)(q:Ja):∀(j k:Nat),i+j<=k->cf (Xp z i a q j) k=cf z k:=by
 intro j;induction j with
 |zero=>intro k _;rfl
 |succ j b=>
  intro k hk;grind[Xp,G8,FJ]
theorem O7(z:Ja)(i:Nat)(a:Rat)(q:Ja):∀(j k:Nat),cf (Xp z i a q j) k=cf z k\/cf (Xp z i a q j) k=cf z k+a*cf q (k-i):=by
 intro j;induction j with
 |zero=>intro k;exact An J
 |succ j b=>
  intro k;grind[Xp,G8,oY,FJ]
def DS.mul2{p q:Rat}(hp:DS k p)(hq:DS m q):DS (k+m) (p*q):=by
 rw[<-Q6];refine DS.divInt ?_ (hp.1.mul hq.1) (hp.2.mul hq.2);exact CG (by have:=p.den_nz;omega) (by have:=q.den_nz;omega)
def DS.inv{q:Rat}(hq:DS m q)(a:q≠0):DS m q⁻¹:=by
 rw[Rat.inv_def];exact DS.divInt (λe=>a (FQ.1 e)) hq.2 hq.1
def DS.div2{p q:Rat}(hp:DS k p)(hq:DS m q)(a:q≠0):DS (k+m) (p/q):=by
 rw[Rat.div_def];exact hp.mul2 (hq.inv a)
def KI{p:Ja}(hp:Jc p=p)(h:∀i,m<=i->cf p i=0):p.length<=m:=by
 by_cases hl:p.length<=m
 . exact hl
 . exfalso
   exact Jp hp DH (h _ O)
end
namespace M3
def ZQ(V:T)(g r:Nat):Prop:=∀j,j<r->V.cell? ⟨g,j*4,none⟩=some (P false)/\V.cell? ⟨g,j*4+1,none⟩=some (C none 0 0)/\V.cell? ⟨g,j*4+2,none⟩=some (P false)/\V.cell? ⟨g,j*4+3,none⟩=some (C none 0 0)
variable{cs:Array Value}{n:Int}{bs bs':List (Option (Nat × Dat))}{S:Ja}{B B4 X g gQ i r:Nat}{t:TypeId}{v:Value}{V V' w:T}
theorem ZQ.of(h:ZQ V g r)(e:V'.heap[g]?=V.heap[g]?):ZQ V' g r:=λj a=>by
 obtain⟨b,c,d,f⟩:=h j a;grind[BS]
def Hg(w V:T)(bs:List (Option (Nat × Dat)))(B4:Nat)(n:Int)(gQ r:Nat):Prop:=DJ w V bs/\Boxed V B4 3 (.int F n)/\ZQ V gQ r/\gQ<V.heap.size
def Hg.below{w V V':T}{bs:List (Option (Nat × Dat))}{B4:Nat}{n:Int}{gQ r:Nat}(h:Hg w V bs B4 n gQ r)(hb:Bl V V'):Hg w V' bs B4 n gQ r:=
 ⟨h.1.below hb,(hb.block B4 h.2.1.lt).trans h.2.1,h.2.2.1.of (hb.block gQ h.2.2.2),AN h.2.2.2 hb.size⟩
def Hg.own{w V V':T}{bs:List (Option (Nat × Dat))}{B4:Nat}{n:Int}{gQ r:Nat}{row:Option Nat}(h:Hg w V bs B4 n gQ r)(f:∃cs t m,V.heap[gQ]?=some (H cs t m))(hg:V.grownBy V' row)(c:∀x,row=some x->w.heap.size<=x/\∃o:Obj,V.heap[x]?=some o/\o.isCells=false):Hg w V' bs B4 n gQ r:=by
 have a:∀r,row=some r->∃o:Obj,V.heap[r]?=some o/\o.isCells=false:=λr e=>(c r e).2;refine⟨h.1.own hg c,YP hg a (show Bx V B4 3 #[G F n]from h.2.1),h.2.2.1.of ?_,AN h.2.2.2 hg.size⟩;obtain⟨cs,t,m,e⟩:=f;refine hg.block gQ h.2.2.2 λd=>?_;obtain⟨o,b,g⟩:=a gQ d.symm;rw[e]at b;cases b;cases g
def NG(V:T)(m:Nat):Has V (.agg (YH m)) (.rats (yA m 0)):=by
 refine⟨YH m,J,λj a=>?_⟩;rw[A2]at a;obtain⟨b,c,d,e⟩:=Ov a;exact⟨_,_,_,_,b,c,d,e,by rw[Ya];exact XF _⟩
def IC(w:T)(a c:om)(la b lb d m:Nat)(e:om)(rc B5 gQ:Nat)(x:Option (Nat × Dat))(Q:Ja):List (Option (Nat × Dat)):=
 [some (w.heap.size,.cell 25 (C a la b)),some (w.heap.size+1,.cell 25 (C c lb d)),some (w.heap.size+1+1,.cell 25 (C Option.none 0 0)),some (w.heap.size+1+1+1,.cell 25 (C Option.none 0 0)),
  x,some (B5,.cell 23 (C e la rc)),some (gQ,.rats Q),some (gQ+1,.cell 23 (C (some ⟨gQ,0,Option.none⟩) m m)),some (gQ+1+1,.cell 23 (C (some ⟨gQ,0,Option.none⟩) m m))]
def g4(la g:Nat)(R:Ja):Option (Nat × Dat):=if la=0 then none else some (g,.rats R)
theorem oZ(p:Ja)(i:Nat)(c:Rat)(j:Nat):cf (p.set i c) j=c\/cf (p.set i c) j=cf p j:=by
 grind[G8,FJ]
def Hg.upd(h:Hg w V bs B4 n gQ r)(f:DJ w V' bs')(b:∀B,B≠X->V'.heap[B]?=V.heap[B]?)(c:B4≠X)(d:gQ≠X):Hg w V' bs' B4 n gQ r:=by
 have e:=b gQ d;refine⟨f,(b B4 c).trans h.2.1,h.2.2.1.of e,?_⟩;refine Nat.lt_of_not_le λhle=>?_;have a:=Array.getElem?_eq_none_iff.2 hle;rw[e]at a;exact absurd (Array.getElem?_eq_none_iff.1 a) (by have:=h.2.2.2;omega)
def GO(w W V:T)(bs:List (Option (Nat × Dat)))(B4:Nat)(n:Int)(gQ r:Nat):Prop:=Hg w V bs B4 n gQ r/\KeepsOthers W V
def GO.below{w W V V':T}{bs:List (Option (Nat × Dat))}{B4:Nat}{n:Int}{gQ r:Nat}(h:GO w W V bs B4 n gQ r)(hb:Bl V V'):GO w W V' bs B4 n gQ r:=⟨h.1.below hb,h.2.trans (Xs hb)⟩
theorem ZN{m:Nat × Nat}(h:Boxed V B4 3 v)(a:V.heap[X]?=some (H cs 50 m)):B4≠X:=λe=>by
 subst e;have:=a.symm.trans h;grind
def oc(V:T)(C:Nat)(x y z u:Value)(B:Nat)(h:B≠C):(put4 V C x y z u).heap[B]?=V.heap[B]?:=
 (BC _ ⟨C,3,none⟩ u B h).trans ((BC _ ⟨C,2,none⟩ z B h).trans ((BC _ ⟨C,1,none⟩ y B h).trans (BC V ⟨C,0,none⟩ x B h)))
def GO.al{W:T}(h:GO w W V bs B4 n gQ r){o:Obj}(m:DJ w (V.alloc o) bs'):GO w W (V.alloc o) bs' B4 n gQ r:=
 have k:=h.below (Ba V o)
 ⟨⟨m,k.1.2⟩,k.2⟩
def GO.up{W:T}{p:Nat × Nat}(h:GO w W V bs B4 n gQ r)(m:DJ w V' bs')(c:V.heap[X]?=some (H cs 50 p))(b:∀B,B≠X->V'.heap[B]?=V.heap[B]?)(a:gQ≠X)(k:KeepsOthers V V'):GO w W V' bs' B4 n gQ r:=
 ⟨h.1.upd m b (ZN h.1.2.1 c) a,h.2.trans k⟩
theorem oe{o o':Nat}{x:Value}(h:o≠o'):(V.setCell ⟨g,o',none⟩ x).cell? ⟨g,o,none⟩=V.cell? ⟨g,o,none⟩:=World.cell?_setCell_other _ _ _ _ DH
theorem ZQ.put(h:ZQ V g (i+1))(x y z u:Value):ZQ (putAt V g (i*4) x y z u) g i:=λj e=>by
 obtain⟨a,b,c,d⟩:=h j O;grind[putAt,oe]
def boxed_below(h:Boxed V B t v)(hb:Bl V V'):Boxed V' B t v:=(hb.block B h.lt).trans h
def KJ(V:T)(D:Nat)(rs a:Value)(R Q:Ja):Prop:=RowK true V rs R/\RowK true V a Q/\V.heap[D]?=some (.deferred (some []))
def KJ.below{V V':T}{D:Nat}{rs a:Value}{R Q:Ja}(h:KJ V D rs a R Q)(hb:Bl V V'):KJ V' D rs a R Q:=⟨h.1.below hb,h.2.1.below hb,(hb.block D (Ab.1 h.2.2).1).trans h.2.2⟩
def KJ.set{D:Nat}{rs f:Value}{R Q:Ja}(h:KJ V D rs f R Q){a:om}{l c:Nat}(b:Boxed V B 25 (C a l c))(x:Value):KJ (V.setCell ⟨B,0,none⟩ x) D rs f R Q:=
 ⟨GM b x h.1,GM b x h.2.1,(BC _ ⟨B,0,none⟩ x D λe=>by
  have e:D=B:=e;have d:=h.2.2;rw[e,show V.heap[B]?=_ from b]at d;cases d).trans h.2.2⟩
def DJ.asPoly(M:DJ w V bs)(h:bs[i]?=some (some (B,.cell 25 (C Option.none 0 0)))):DJ w V (bs.set i (some (B,.poly []))):=by
 have b:∀j B' d,(bs.set i (some (B,.poly [])))[j]?=some (some (B',d))->(∃a,bs[j]?=some (some (B',a)))/\((∃cs,Bx V B' d.ty cs/\Has V (.agg cs) d)/\w.heap.size<=B'):=λj B' d e=>by
  rw[List.getElem?_set]at e;split at e
  . rename_i m;subst m;split at e
    . cases e;exact⟨⟨_,h⟩,⟨_,(M.cell h).1,Ri V⟩,(M.1 i _ _ h).2⟩
    . cases e
  . exact⟨⟨_,e⟩,M.1 j _ _ e⟩
 exact⟨λj B' d e=>(b j B' d e).2,λj k B' d a c f=>by
  obtain⟨⟨_,g⟩,_⟩:=b j B' d c;obtain⟨⟨_,l⟩,_⟩:=b k B' a f;exact M.2.1 j k B' _ _ g l,M.2.2⟩
def NH(w2:T)(a:om)(la rc m:Nat):T:=(((w2.alloc (H #[C a la rc] 23)).alloc (H (YH m) 50)).alloc (H #[C (some ⟨w2.heap.size+1,0,none⟩) m m] 23)).alloc (H #[C (some ⟨w2.heap.size+1,0,none⟩) m m] 23)
theorem og(A:Nat)(y qa:om)(la E lb x n m:Nat)(ps qs:Ja)(w:T)(ha:RowK true w (C y la E) ps)(hb:RowK true w (C qa lb x) qs)(hq:∀i,DS A (cf qs i))(ei:Jc qs=qs)(dj:qs≠[])(hL:∀k,k<=m->∃z,z+(2*A+1)<=1000000000/\(k<m->2*z+2*(2*A+1)<=1000000000)/\(∀i,DS z (cf (JP ps qs n m k).2 i))/\∀i,DS (z+A) (cf (JP ps qs n m k).1 i))(hn:lb=n+1)(hm:la-n=m):
 Calls U 181 #[.agg #[C y la E],.agg #[C qa lb x]] w λe w'=>∃u v,e=.returned (.tuple #[u,v,P true])/\Je w' u (Jm ps qs)/\Je w' v (J5 ps qs)/\Bl w w':=by
 obtain⟨dh,fo,gh,gy,s,t,aa,bb,ll,cc,kk,dd,gj⟩:=ha.forms;obtain⟨Qk,fx,gi,io,s',t',ah,ai,ay,aj,aq,am,df⟩:=hb.forms;obtain⟨V0,fh,bi⟩:=Vt 25 (.cell 25 (C y la E)) EO 25 (.cell 25 (C qa lb x)) EO 25 (.cell 25 (C none 0 0)) EO 25 (.cell 25 (C none 0 0)) EO (w:=w);have M1:=bi.o;have Wk:=Z (show Calls U 75 #[.agg #[C qa lb x]] V0 λe w'=>e=.returned (G F (n:Int))/\Bl V0 w' by
  have h:=Yo (.agg #[C qa lb x]) qs V0 ⟨_,J,hb.below M1.2.2⟩;rwa[show((qs.length:Int)-1)=(n:Int)by omega]at h)
 have Wg:=Z λ(V:T) (h:Bl w V)=>md (C y la E) ps V (ha.below h);have iu:∀W:T,(Instr.makeSlice 23 (G F (m:Int)) (G F (m:Int))).run U W=.ok (C (some ⟨W.heap.size,0,none⟩) m m) (W.alloc (H (YH m) 50)):=λW=>Mw m O W;obtain⟨d,iy⟩:=ex ((la:Int)-(n:Int):Int);have jb:F.wrap d=d:=by rw[BG];omega
 have ir:max (0:Int) d=(m:Int):=O
 have ix:¬(n:Int)<0:=O
 obtain⟨HQ,Qb,Qe,S,Qr,Ug,Ui,HL⟩:=Iv df dh Qk (show lb=n+1/\la-n=m from⟨hn,hm⟩) hq ei dj hL;have Qj:m<=1099511627776:=O
 clear ha hb gj df dh Qk fo gh fx gi hq ei dj hL hn hm M1;have c1:=(bi.o.cell (i:=1) J).1.cell;refine(BJ (n:=3)).1 ?_;refine BO func181 J trivial ?_ J;simp only[ntmps181,Aw,Al,AX,Nat.reduceAdd,Nat.reduceSub,Az,AA,AU,AJ,As,AK];gi_wp2_with fail
 rw[fh.o];refine⟨trivial,?_⟩;refine((BJ (n:=_)).2 Wk.o).mono ?_;rintro e w1 ⟨rfl,de⟩;have Ue:Bl w1 (w1.alloc (H #[G F (n:Int)] 3)):=Ba w1 _;have Qo:=(bi.o.below de).below Ue;have h4:=BH w1 3 (G F (n:Int));have c0:=(Qo.cell (i:=0) J).1.cell;obtain⟨Qg,Qt,H4⟩:=DZ (Wg.o _ Qo.2.2) Qo h4;clear Ue Qo h4 de c1;gi_wp2_with fail
 obtain⟨V1,cj⟩:=ex (w1.alloc (H #[G F (n:Int)] 3));obtain⟨B4,bj⟩:=ex (w1.heap.size);rw[cj]at Qg Qt H4 c0;rw[bj]at H4;rw[cj,bj];clear cj bj;refine⟨trivial,?_⟩;refine((BJ (n:=_)).2 Qg.o).mono ?_;rintro e w2 ⟨u2,rfl,f9,_,bg,di⟩;have gq:∃a gR rc,u2=C a la rc/\(la≠0->a=some ⟨gR,0,none⟩)/\(la≠0->V1.heap.size<=gR/\Dp true w2 gR ps)/\la<=rc/\rc<=9223372036854775807:=by
  obtain⟨a7,fi,e7,h7,h8,_⟩:=id f9;rcases di with rfl|⟨g',cap,e1,e2,e3⟩
  . injection e7 with _ e7
    have h0:=Qb.o.trans e7.symm;exact⟨_,0,_,by rw[h0],λh=>absurd h0 h,λh=>absurd h0 h,O,O⟩
  . rw[e1]at e7;have e8:cap=fi:=by injection e7
    exact⟨_,g',cap,by rw[e1,Qb.o],λ_=>rfl,λ_=>⟨e2,e3⟩,by rw[Qb.o,e8];exact h7,by rw[e8];exact h8⟩
 obtain⟨a,gR,rc,rfl,dt,bz,dx,dz⟩:=gq;have Qi:=Z (show(la≠0->a=some ⟨gR,0,none⟩)/\la<=rc/\rc<=9223372036854775807 from⟨dt,dx,dz⟩);clear dx dz dt;have Uf:DJ w w2 ([some (w.heap.size,.cell 25 (C y la E)),some (w.heap.size+1,.cell 25 (C qa lb x)),some (w.heap.size+1+1,.cell 25 (C Option.none 0 0)),some (w.heap.size+1+1+1,.cell 25 (C Option.none 0 0))]++[g4 la gR ps]):=by
  unfold g4;split
  . exact(Qt.o.below bg).none
  . exact Qt.o.adopt bg (bz (by assumption)).1 (bz (by assumption)).2
 have h4:Boxed w2 B4 3 (G F (n:Int)):=(bg.block B4 H4.o.lt).trans H4.o;have Uk:=Ba w2 (H #[C a la rc] 23);have h5:=boxed_below h4 Uk;have c4:=h5.cell;have Uv:=Z (Uf.push (.cell 23 (C a la rc)) (cs:=#[C a la rc]) ⟨J,J⟩);have H5:=Z h5;clear di f9 bg bz Uf h4 Uk h5 c0;gi_wp2_with fail
 refine⟨trivial,?_⟩;refine(Rg Fence.wide _ trivial J _ _ _ _).mono ?_;rintro e w3 ⟨rfl,rfl⟩;have Qm:=Z (show Hg w (NH w2 a la rc m) (IC w y qa la E lb x m a rc w2.heap.size (w2.heap.size+1) (g4 la gR ps) (yA m 0)) B4 (n:Int) (w2.heap.size+1) m by
  have Uo:=((Uv.o.push (.rats (yA m 0)) (NG _ m)).push (.cell 23 (C (some ⟨w2.heap.size+1,0,none⟩) m m)) (cs:=#[C (some ⟨w2.heap.size+1,0,none⟩) m m]) ⟨J,J⟩).push (.cell 23 (C (some ⟨w2.heap.size+1,0,none⟩) m m)) (cs:=#[C (some ⟨w2.heap.size+1,0,none⟩) m m]) ⟨J,J⟩;simp only[Ax]at Uo;have hz:(NH w2 a la rc m).heap[w2.heap.size+1]?=some (H (YH m) 50 (0,0)):=by
   have e:=BD (w2.alloc (H #[C a la rc] 23)) (H (YH m) 50);rw[Ax]at e;exact(Bf _ _ _ (by simp only[Ax];omega)).trans ((Bf _ _ _ DH).trans e)
  exact⟨Uo,boxed_below (boxed_below (boxed_below H5.o (Ba _ _)) (Ba _ _)) (Ba _ _),λj hj=>by
   obtain⟨h0,h1,h2,N⟩:=Ov hj;exact⟨cell_of hz h0,cell_of hz h1,cell_of hz h2,cell_of hz N⟩,(Ab.1 hz).1⟩)
 obtain⟨W3,an⟩:=ex (NH w2 a la rc m);rw[an]at Qm;have Ql:W3.heap.size=w2.heap.size+1+1+1+1:=by rw[<-an];simp only[NH,Ax]
 unfold NH at an;rw[an];simp only[Ax];obtain⟨B5,bm⟩:=ex (w2.heap.size);rw[bm]at Qm Ql;rw[bm];clear Ql an bm c4;gi_wp2_with fail
 have Ul:=Z (show w.heap.size<=W3.heap.size from Qm.o.1.2.2.size);refine X7 J O (gf:=173) (lb:=#[L (some ⟨B5+1+1+1,0,none⟩)]) J trivial (Be func173 v0 J)
  (Rf Fence.wide _ trivial J O (B5+1+1+1) (some ⟨B5+1,0,none⟩) m m (λ_=>P false) (λ_=>C none 0 0) (λ_=>P false) (λ_=>C none 0 0) Qj) (λ_=>rfl)
  (λk W=>Hg w W (IC w y qa la E lb x m a rc B5 (B5+1) (g4 la gR (JP ps qs n m k).2) (JP ps qs n m k).1) B4 (n:Int) (B5+1) (m-k)) (λ_ _ _=>False)
  (λk W W' row h hg hr=>h.own (by obtain⟨cs,h1,_⟩:=h.1.rats (i:=6) J;exact⟨cs,_,_,h1⟩) hg λr e=>⟨Ae Ul.o (hr r e).1,(hr r e).2⟩)
  (λc s W W' row h=>h.elim) Qm.o ?rd
  (λk=>{ tmps:=#[.agg #[C y la E],.agg #[C qa lb x],L (some ⟨w.heap.size,0,none⟩),L (some ⟨w.heap.size+1,0,none⟩),L (some ⟨w.heap.size+1+1,0,none⟩),L (some ⟨w.heap.size+1+1+1,0,none⟩),P false,L (some ⟨B4,0,none⟩),L (some ⟨B5,0,none⟩),L (some ⟨B5+1+1,0,none⟩),G F ((m:Int)-1-k),I,I,I,I,.agg #[C qa lb x],G F ↑n,G F ↑n,P (decide ((n:Int)<0)),I,I,L (some ⟨w.heap.size,0,none⟩),C y la E,C a la rc,C a la rc,G F ↑la,G F ↑n,G F d,G F ↑m,C (some ⟨B5+1,0,none⟩) m m,C (some ⟨B5+1,0,none⟩) m m,.func (.func 173) #[] #[L (some ⟨B5+1+1+1,0,none⟩)],G F ((m:Int)-1-k),.agg #[P false,C none 0 0,P false,C none 0 0],I,I,I,I,I,I,I,I,I,I,I,I,I,I,I,I,I,I,I,I,I,I,I,I,I,I,I,I,I,I,I,I,I,I,I,I,I,I,I,I,I,I,I,I,I,I,I],defers:=[] }) ?assign ?body ?done ?stop
 case stop=>intro D c k W _ _ h;exact h.elim
 case rd=>
  intro k W h;refine⟨(h.1.cell (i:=8) J).1.cell,λhk=>?_⟩;obtain⟨h0,h1,h2,N⟩:=h.2.2.1 (m-1-k) O;exact⟨B5+1,J,h0,h1,h2,N⟩
 case assign=>
  intro l k W K hK;unfold Mt;gi_wp2;exact hK
 case body=>
  intro l k W hS hk Ql;have Ud:la≠0:=by have:=S.o;omega
  obtain rfl:=Qi.o.1 Ud;have HG:=Z (show ∀X,g4 la gR X=some (gR,.rats X)from λ_=>BE Ud);rw[HG.o]at hS;obtain⟨gv,M,rfl,fm,q0,q1,q2,q3⟩:=HQ.o n (by have:=S.o;omega);have Ur:=Z (show ∀j,j<lb->∀V,Bl w V->(V.cell? ⟨M,j*4,none⟩=some (P (s' j))/\V.cell? ⟨M,j*4+1,none⟩=some (C (ah j) (ay j) (aj j))/\V.cell? ⟨M,j*4+2,none⟩=some (P (t' j))/\V.cell? ⟨M,j*4+3,none⟩=some (C (ai j) (aq j) (am j)))/\Jf V (.agg #[P (s' j),C (ah j) (ay j) (aj j),P (t' j),C (ai j) (aq j) (am j)]) (cf qs j)from λj hj V hB=>by
   obtain⟨hi,b,e,hb,c0,c1,c2,c3⟩:=HQ.o j hj;cases e;exact⟨⟨(hB.cell (p:=⟨M,_,none⟩) hb).trans c0,(hB.cell (p:=⟨M,_,none⟩) hb).trans c1,(hB.cell (p:=⟨M,_,none⟩) hb).trans c2,(hB.cell (p:=⟨M,_,none⟩) hb).trans c3⟩,hi.below hB⟩)
  clear gv fm q0 q1 q2 q3;have Qa:cf qs n≠0:=by
   have:=Jp Ug.o Ui.o;rwa[show qs.length-1=n by have:=S.o;have:=Qe.o;omega]at this
  obtain⟨z,ic,co,ae,ap⟩:=HL.o k O;have Qv:z+(2*A+1)+(z+(2*A+1))<=1000000000:=O
  clear ic;obtain⟨i,hi⟩:=ex (m-(k+1):Nat);obtain⟨R,hR⟩:=ex ((JP ps qs n m k).2);obtain⟨Q,hQ⟩:=ex ((JP ps qs n m k).1);have Uy:R.length=la:=by rw[<-hR,(XD ps qs n m k).2];exact Qb.o.symm
  have Wj:Q.length=m:=by rw[<-hQ];exact(XD ps qs n m k).1
  rw[hR,hQ]at hS;rw[hR]at ae;obtain⟨t0,ia⟩:=ex (i+n:Nat);obtain⟨c,hc⟩:=ex (cf R t0/cf qs n);have Up:JP ps qs n m (k+1)=(Q.set i c,Xp R i (-c) qs qs.length):=by rw[JP];grind
  have Qd:DS (z+A) c:=by rw[<-hc];exact(ae t0).div2 (Qr.o n) Qa
  obtain⟨Wb,Qh,Ub⟩:=DZ (show Sq c from Sq.of Qd O) (show ∀j,Sq (cf qs j)from λj=>Sq.of (Qr.o j) O) (show ∀j,Sq (c*cf qs j)from λj=>Sq.of (Qd.mul2 (Qr.o j)) O);have Wa:=Z (show ∀j t,Sq (cf (Xp R i (-c) qs j) t)from λj t=>by
   rcases O7 R i (-c) qs j t with e|e
   . rw[e];exact Sq.of (ae t) O
   . rw[e];exact Sq.of ((ae t).add2 (Qd.neg.mul2 (Qr.o _))) O)
  obtain⟨Qu,Uu,Qw,Qy,Qc⟩:=Hv (show Sq (cf R t0)from Sq.of (ae t0) O) hc (show decide (cf qs n≠0)=true from BI Qa) Up (show R.length=la/\Q.length=m/\t0<la/\i<m/\m-k=i+1/\m-(k+1)=i by have:=S.o;omega);have Un:(m:Int)-1-(k:Int)=(i:Int):=O
  have ie:(i:Int)+(n:Int)=(t0:Int):=O
  have jc:F.wrap (t0:Int)=(t0:Int):=by rw[BG];have:=S.o;omega
  have iz:(t0:Int)<(la:Int):=by have:=Qc.o;omega
  have iw:(n:Int)<(lb:Int):=by have:=S.o;omega
  have ii:(i:Int)<(m:Int):=by have:=Qc.o;omega
  rw[Un];have Qf:GO w W W.drew (IC w y (some ⟨M,0,none⟩) la E lb x m (some ⟨gR,0,none⟩) rc B5 (B5+1) (some (gR,.rats R)) Q++[Option.none]) B4 (n:Int) (B5+1) (m-k):=⟨⟨(hS.1.below ((BB _ W).drew)).none,(hS.below ((BB _ W).drew)).2⟩,Xs ((BB _ W).drew)⟩;clear hS hi hR hQ Uy Wj ia hc Qd co ae ap Qv Qa Up Un Ql;gi_wp2_with fail
  refine Lz (Ap ⟨l,J⟩) Di [[],[],[],[1,2],[0,3],[4],[],[6],[],[7,8],[9],[5,10],[11],[12],[12],[],[15,13,11,0,1,2,3,4,5,6,7,8,9,10,11,12,13,15],[14,16,0,1,2,3,4,5,6,7,8,9,10,11,12,13,14,15,16]] [.eq (C (some ⟨gR,0,none⟩) la rc),.eq (G F (i:Int)),.eq (G F (n:Int)),.eq (G F (t0:Int)),.eq (L (some ⟨gR,t0*4,none⟩)),.rat (cf R t0),.eq (L (some ⟨w.heap.size+1,0,none⟩)),.eq (C (some ⟨M,0,none⟩) lb x),.eq (G F (n:Int)),.eq (L (some ⟨M,n*4,none⟩)),.rat (cf qs n),.tup1 (.rat c),.tup1 (.rat c),.rat c,.eq (P true),.ptr,.eq I,.eq (P true)] [15,16] (λb v V=>GO w W V (IC w y (some ⟨M,0,none⟩) la E lb x m (some ⟨gR,0,none⟩) rc B5 (B5+1) (some (gR,.rats R)) Q++[nb b v 0 1 (.rat 0) (.rat c)]) B4 (n:Int) (B5+1) (m-k)) Qf (SR (.vl J λ_ j=>Mr 5 j.1.1)<|SR (.vl J λ_ _=>mv)<|SR (.vl J λ_ j=>⟨_,by have e0:=j.1.2.1.cell;refine DP ?_;go_simp,J⟩)<|SR (.vl J λh _=>⟨_,by refine DP ?_;rw[h.e 1,h.e 2];go_simp,J⟩)<|SR (.vl J λh _=>⟨_,by refine DP ?_;rw[h.e 0,h.e 3];go_simp,J⟩)<|SR (.vl J λh j=>RY 4 j.1.1 (by have:=Qc.o;omega) (h.e 4))<|SR (.vl J λ_ _=>⟨_,by refine DP ?_;go_simp,J⟩)<|SR (.vl J λh j=>⟨_,by have e0:=(j.1.1.cell (i:=1) J).1.cell;refine DP ?_;rw[h.e 6];go_simp,J⟩)<|SR (.vl J λ_ j=>⟨_,by have e0:=j.1.2.1.cell;refine DP ?_;go_simp,J⟩)<|SR (.vl J λh _=>⟨_,by refine DP ?_;rw[h.e 7,h.e 8];go_simp,J⟩)<|SR (.vl J λh j=>by
     obtain⟨⟨e0,e1,e2,e3⟩,hr⟩:=Ur.o n (by have:=S.o;omega) _ j.1.1.2.2;exact⟨_,by refine DP ?_;rw[h.e 9];go_simp,hr⟩)<|SR (.cl λh _=>Od (by
     have q:=Re _ _ (cf R t0) (cf qs n) _ (h.g 5) (h.g 10) Qu.o (Qh.o n);rw[Qw.o,Uu.o]at q;exact q))<|SR (.vl J λh _=>mw (h.g 11))<|SR (.vl J λh _=>Ol (h.g 12))<|SR (.vl J λh _=>Om (h.g 12))<|SR (.wr J λ_ j=>Og 9 j.1.1 (hT:=λm=>j.al m))<|SR (.wr J λh j=>L1 9 j.1.1 (h.g 13) (hp:=h.g 15) (hT:=λn m=>j.up m n (oc _ _ _ _ _ _) (j.1.1.ne 6 9 J J DK) (Rm _ _ _ _ _ _)))<|SR (.vl J λh _=>aw (h.g 14)) Stp.end_)
   λf V hF MM=>?_
  refine DP ?_;obtain⟨Bc,bn⟩:=hF.p 15;rw[hF.e 0,hF.e 1,hF.e 2,hF.e 3,hF.e 4,hF.e 6,hF.e 7,hF.e 8,hF.e 9,hF.e 14,hF.e 17,bn];have MM:=Dw MM;simp only[bn]at MM;have HM:=Z MM;clear hF bn MM;obtain⟨s8,a8,l8,c8,t8,b8,k8,d8,n8,r8,i8,j8⟩:=HM.o.1.1.rat (i:=9) J;obtain⟨e0,e1,e2,e3⟩:=n8.cq;have e6:=(HM.o.1.1.cell (i:=7) J).1.cell;have hE:=HM.o.1.1.rats (i:=6) J;obtain⟨z0,z1,z2,z3⟩:=HM.o.1.2.2.1 i (by have:=Qc.o;omega);have f0:=hE.frozen (i*4);have f1:=hE.frozen (i*4+1);have f2:=hE.frozen (i*4+2);have f3:=hE.frozen (i*4+3);have Qz:=Z (show GO w W (putAt V (B5+1) (i*4) (P s8) (C a8 l8 c8) (P t8) (C b8 k8 d8)) (IC w y (some ⟨M,0,none⟩) la E lb x m (some ⟨gR,0,none⟩) rc B5 (B5+1) (some (gR,.rats R)) (Q.set i c)++[some (Bc,.rat c)]) B4 (n:Int) (B5+1) i from by
   have hp:=HM.o.1.1.putRats (i:=6) J (j:=i) (by have:=Qc.o;omega) r8;obtain⟨cs,Qd,_⟩:=hE;refine⟨⟨hp,(Mm (ZN HM.o.1.2.1 Qd) _ _ _ _).trans HM.o.1.2.1,ZQ.put (by have h:=HM.o.1.2.2.1;rwa[Qc.o.2.2.2.2.1]at h) _ _ _ _,?_⟩,HM.o.2.trans (WR _ _ _ _ _ _ _)⟩;exact(Ab.1 (Vq Qd _ _ _ _)).1)
  have c9:=(Qz.o.1.1.cell (i:=1) J).1.cell;unfold putAt at c9;clear n8 i8 j8 hE r8;gi_wp2_with fail
  obtain⟨W9,az⟩:=ex (putAt V (B5+1) (i*4) (P s8) (C a8 l8 c8) (P t8) (C b8 k8 d8));rw[az]at Qz;unfold putAt at az;rw[az];clear az c9 e0 e1 e2 e3 e6 z0 z1 z2 z3 f0 f1 f2 f3;gi_loopw [56] (λjv wr=>∃j:Nat,j<=lb/\jv=G F (j:Int)/\Hid (GO w W wr (IC w y (some ⟨M,0,none⟩) la E lb x m (some ⟨gR,0,none⟩) rc B5 (B5+1) (some (gR,.rats (Xp R i (-c) qs j))) (Q.set i c)++[some (Bc,.rat c)]) B4 (n:Int) (B5+1) i)) λjv _=>lb-(intOf jv).toNat
  case atStart=>exact⟨0,Ay _,J,Qz⟩
  case round=>
   obtain⟨j,hj,rfl,HJ⟩:=hrel;by_cases gw:j<lb
   . have ij:(j:Int)<(lb:Int):=O
     obtain⟨⟨e0,e1,e2,e3⟩,ed⟩:=Ur.o j gw wr HJ.o.1.1.2.2;have Uz:=Z ed;obtain⟨g,ib⟩:=ex (i+j:Nat);have ig:(i:Int)+(j:Int)=(g:Int):=O
     have Qp:=Z (show g<la/\g=i+j by have:=Qc.o;have:=S.o;omega);have jd:F.wrap (g:Int)=(g:Int):=by rw[BG];have:=Qp.o;omega
     have ja:(g:Int)<(la:Int):=by have:=Qp.o;omega
     clear ed ib;gi_wp2_with fail
     have Qq:GO w W (wr.alloc (H #[P (s' j),C (ah j) (ay j) (aj j),P (t' j),C (ai j) (aq j) (am j)] 50)) (IC w y (some ⟨M,0,none⟩) la E lb x m (some ⟨gR,0,none⟩) rc B5 (B5+1) (some (gR,.rats (Xp R i (-c) qs j))) (Q.set i c)++[some (Bc,.rat c)]++[some (wr.heap.size,.rat (cf qs j))]) B4 (n:Int) (B5+1) i:=by
      have h1:=HJ.o.below (Ba wr (H #[P (s' j),C (ah j) (ay j) (aj j),P (t' j),C (ai j) (aq j) (am j)] 50));exact⟨⟨HJ.o.1.1.push (.rat (cf qs j)) Uz.o,h1.1.2⟩,h1.2⟩
     obtain⟨Wd,cn⟩:=ex (wr.alloc (H #[P (s' j),C (ah j) (ay j) (aj j),P (t' j),C (ai j) (aq j) (am j)] 50));obtain⟨Bd,bu⟩:=ex (wr.heap.size);rw[cn,bu]at Qq;rw[cn,bu];obtain⟨X,hX⟩:=ex (Xp R i (-c) qs j);rw[hX]at Qq;have Uj:=Z (show g<X.length by rw[<-hX,MW];have:=Qc.o;have:=Qp.o;omega);have Ut:=Z (show Sq (cf X g)by rw[<-hX];exact Wa.o j g);have We:=Z (show X.set g (cf X g-c*cf qs j)=Xp R i (-c) qs (j+1)by
      rw[Xp,hX,<-Qp.o.2,show cf X g-c*cf qs j=cf X g+-c*cf qs j by grind])
     have Qf:=Qq.below ((BB _ Wd).drew);clear cn bu hX Qq e0 e1 e2 e3;refine Lz (Ap ⟨l,J⟩) Di [[],[],[],[1,2],[],[],[],[5,6],[4,7],[8],[],[],[10,11],[9,12,12],[0,3,0,1,2,3,4,5,6,7,8,9,10,11,12,13],[14,13,13,0,1,2,3,4,5,6,7,8,9,10,11,12,13]] [.eq (C (some ⟨gR,0,none⟩) la rc),.eq (G F (i:Int)),.eq (G F (j:Int)),.eq (G F (g:Int)),.eq (C (some ⟨gR,0,none⟩) la rc),.eq (G F (i:Int)),.eq (G F (j:Int)),.eq (G F (g:Int)),.eq (L (some ⟨gR,g*4,none⟩)),.rat (cf X g),.rat c,.rat (cf qs j),.rat (c*cf qs j),.rat (cf X g-c*cf qs j),.eq (L (some ⟨gR,g*4,none⟩)),.eq I] [15] (λb _ V=>GO w W V (IC w y (some ⟨M,0,none⟩) la E lb x m (some ⟨gR,0,none⟩) rc B5 (B5+1) (some (gR,.rats (if b.getD 0 false then X.set g (cf X g-c*cf qs j)else X))) (Q.set i c)++[some (Bc,.rat c)]++[some (Bd,.rat (cf qs j))]) B4 (n:Int) (B5+1) i) Qf (SR (.vl J λ_ j=>Mr 5 j.1.1)<|SR (.vl J λ_ _=>mv)<|SR (.vl J λ_ _=>mv)<|SR (.vl J λh _=>⟨_,by refine DP ?_;rw[h.e 1,h.e 2];go_simp,J⟩)<|SR (.vl J λ_ j=>Mr 5 j.1.1)<|SR (.vl J λ_ _=>mv)<|SR (.vl J λ_ _=>mv)<|SR (.vl J λh _=>⟨_,by refine DP ?_;rw[h.e 5,h.e 6];go_simp,J⟩)<|SR (.vl J λh _=>⟨_,by refine DP ?_;rw[h.e 4,h.e 7];go_simp,J⟩)<|SR (.vl J λh j=>RY 4 j.1.1 Uj.o (h.e 8))<|SR (.vl J λ_ j=>Ej 9 j.1.1)<|SR (.vl J λ_ j=>Ej 10 j.1.1)<|SR (.cl λh _=>LL _ _ c (cf qs j) _ (h.g 10) (h.g 11) Wb.o (Qh.o j))<|SR (.cl λh _=>L3 _ _ (cf X g) (c*cf qs j) _ (h.g 9) (h.g 12) Ut.o (Ub.o j))<|SR (.vl J λh _=>⟨_,by refine DP ?_;rw[h.e 0,h.e 3];go_simp,J⟩)<|SR (.wr J λh j=>Ms 4 j.1.1 Uj.o (h.g 13) (h.e 14) (hT:=λ⟨_,e,_⟩ m=>j.up m e (λB hB=>Mm hB _ _ _ _) (j.1.1.ne 6 4 J J DK) (WR _ _ _ _ _ _ _))) Stp.end_)
      λf V hF N=>?_
     refine DP ?_;rw[hF.e 0,hF.e 1,hF.e 2,hF.e 3,hF.e 4,hF.e 5,hF.e 6,hF.e 7,hF.e 8,hF.e 14];have N:=Dw N;rw[We.o]at N;have HO:=Z (show GO w W V (IC w y (some ⟨M,0,none⟩) la E lb x m (some ⟨gR,0,none⟩) rc B5 (B5+1) (some (gR,.rats (Xp R i (-c) qs (j+1)))) (Q.set i c)++[some (Bc,.rat c)]) B4 (n:Int) (B5+1) i from⟨⟨N.1.1.take 10,N.1.2⟩,N.2⟩);clear hF N;gi_wp2_with fail
     go_roundw
     case rel=>exact⟨j+1,O,by go_num,HO⟩
     case measure=>simp[intOf];omega
   . obtain rfl:j=lb:=O
     gi_wp2_with fail
     refine⟨HJ.o.2.from _,?_⟩;have N:=HJ.o.1.1.take 9;rw[Qe.o]at N;show Hg w wr (IC w y _ la E _ x m _ rc B5 (B5+1) (g4 la gR (JP ps qs n m (k+1)).2) (JP ps qs n m (k+1)).1) B4 (n:Int) (B5+1) (m-(k+1));rw[Qy.o,Qc.o.2.2.2.2.2,HG.o];refine⟨?_,HJ.o.1.2⟩;have Qk:=Qe.o;rw[<-Qk];rw[<-Qk]at N;exact N
 case done=>
  intro DC W hD hS hK;have Uq:=(XD ps qs n m m).2;have Uh:=(XD ps qs n m m).1;have Qa:cf qs n≠0:=by
   have:=Jp Ug.o Ui.o;rwa[show qs.length-1=n by have:=S.o;have:=Qe.o;omega]at this
  obtain⟨z,Qv,co,ae,ap⟩:=HL.o m (Aa _);have Qs:Jm ps qs=Jc (JP ps qs n m m).1:=by unfold Jm;rw[show qs.length-1=n by have:=S.o;have:=Qe.o;omega,show ps.length-n=m by have:=S.o;have:=Qb.o;omega]
  have Qx:J5 ps qs=Jc (JP ps qs n m m).2:=by unfold J5;rw[show qs.length-1=n by have:=S.o;have:=Qe.o;omega,show ps.length-n=m by have:=S.o;have:=Qb.o;omega]
  obtain⟨R,hR⟩:=ex ((JP ps qs n m m).2);obtain⟨Q,hQ⟩:=ex ((JP ps qs n m m).1);rw[hR]at Uq ae Qx;rw[hQ]at Uh ap Qs;rw[hR,hQ]at hS;have Qu:=Z (show Sqs R from Sqs.of λi=>Sq.of (ae i) O);have fg:=Z (show Sqs Q from Sqs.of λi=>Sq.of (ap i) O);have Um:RowK true W (C a la rc) R:=by
   by_cases h0:la=0
   . rw[h0,AW (show R.length=0 by have:=Qb.o;omega)];exact⟨a,rc,J,Ay _,by have:=Qi.o;omega,DI,An J⟩
   . have h:=hS.1;rw[show g4 la gR R=some (gR,.rats R)from BE h0]at h;have h:=(h.rats (i:=4) J).row (n:=la) (cap:=rc) (by have:=Qb.o;omega) (by have:=Qi.o;omega) (by have:=Qi.o;omega) gy;rw[Qi.o.1 h0];rwa[Ai (by have:=Qb.o;omega)]at h
  have Uc:RowK true W (C (some ⟨B5+1,0,none⟩) m m) Q:=by
   have h:=(hS.1.rats (i:=6) J).row (n:=m) (cap:=m) O (Aa _) O Qj;rwa[Ai O]at h
  have Qf:DJ w W.drew (((IC w y qa la E lb x m a rc B5 (B5+1) (g4 la gR R) Q).set 2 (some (w.heap.size+1+1,.poly []))).set 3 (some (w.heap.size+1+1+1,.poly [])))/\KJ W.drew DC (C a la rc) (C (some ⟨B5+1,0,none⟩) m m) R Q:=⟨((hS.1.asPoly (i:=2) J).asPoly (i:=3) J).drew,KJ.below ⟨Um,Uc,hK⟩ ((BB _ W).drew)⟩;obtain⟨Us,Wc,Uw⟩:=DZ Qs Qx (show w.heap.size<=DC by have:=Ul.o;omega);clear hS Uq Uh co ae ap Qv Qs Qx hR hQ Qa Um Uc hK;gi_wp2_with fail
  refine Lz (An J) Di [[],[0],[],[2,1],[1,3,0,1],[3,4,0,1,2,3,4],[5,0,1,2,3,4,5]] [.eq (C (some ⟨B5+1,0,none⟩) m m),.poly (Jc Q),.eq (C a la rc),.poly (Jc R),.eq I,.eq I,.eq (P true)] [4,5] (λb _ V=>DJ w V (((IC w y qa la E lb x m a rc B5 (B5+1) (g4 la gR R) Q).set 2 (some (w.heap.size+1+1,.poly (if b.getD 0 false then Jc Q else [])))).set 3 (some (w.heap.size+1+1+1,.poly (if b.getD 1 false then Jc R else []))))/\KJ V DC (C a la rc) (C (some ⟨B5+1,0,none⟩) m m) R Q) Qf (SR (.vl J λ_ j=>Mr 7 j.1)<|SR (.cl λh j=>c1 (h.e 0) ((LM _ Q _ j.2.2.1 fg.o).mono λ_ _ ⟨u,e,h,_,b⟩=>⟨u,e,h,b⟩))<|SR (.vl J λ_ j=>Mr 5 j.1)<|SR (.cl λh j=>c1 (h.e 2) ((LM _ R _ j.2.1 Qu.o).mono λ_ _ ⟨u,e,h,_,b⟩=>⟨u,e,h,b⟩))<|SR (.wr J λh j=>GZ 2 j.1 (h.g 1) (hT:=λn m=>⟨m,j.2.set n _⟩))<|SR (.wr J λh j=>GZ 3 j.1 (h.g 3) (hT:=λn m=>⟨m,j.2.set n _⟩))<|SR (.vl J λ_ _=>av) Stp.end_)
   λf V hF MM=>?_
  refine DP ?_;rw[hF.e 0,hF.e 2,hF.e 6];have MM:=Dw MM;obtain⟨a2,l2,c2,g2,gr⟩:=MM.1.poly2 (i:=2) J;obtain⟨a3,l3,c3,g3,gu⟩:=MM.1.poly2 (i:=3) J;have Ux:=MM.1.2.2;have Ua:=MM.2.2.2;clear hF MM;gi_wp2;refine⟨DI,.inl ⟨_,_,J,BQ Ua,?_⟩⟩;have hg:=BR V DC (.deferred none);have Qn:∀r,some DC=some r->∃o:Obj,V.heap[r]?=some o/\o.isCells=false:=λr e=>by cases e;exact⟨_,Ua,J⟩
  have q2:Boxed _ (w.heap.size+1+1) 25 (C a2 l2 c2):=YP hg Qn (show Bx V (w.heap.size+1+1) 25 #[C a2 l2 c2]from g2);have q3:Boxed _ (w.heap.size+1+1+1) 25 (C a3 l3 c3):=YP hg Qn (show Bx V (w.heap.size+1+1+1) 25 #[C a3 l3 c3]from g3);have x2:=q2.cell;have x3:=q3.cell;refine⟨.tuple #[.agg #[C a2 l2 c2],.agg #[C a3 l3 c3],P true],by simp[results,results181,go_sem,x2,x3],_,_,J,?_,?_,?_⟩
  . rw[Us.o];obtain⟨u,e,h⟩:=gr;exact⟨u,e,Oz hg Qn h⟩
  . rw[Wc.o];obtain⟨u,e,h⟩:=gu;exact⟨u,e,Oz hg Qn h⟩
  . exact Ux.trans (B0 (w:=w) (Aa _) _ DC _ _ Uw.o Ua J J)
def boxed_own{row:Option Nat}(hg:V.grownBy V' row)(a:∀r,row=some r->∃o:Obj,V.heap[r]?=some o/\o.isCells=false)(h:Boxed V B t v):Boxed V' B t v:=YP hg a (show Bx V B t #[v]from h)
def oh(n:Value)(ps:Ja)(o:Value)(w:T)(l:Je w n ps)(hb:Je w o []):
 Calls U 181 #[n,o] w λe w'=>e=.returned (.tuple #[.agg #[C none 0 0],.agg #[C none 0 0],P false])/\Bl w w':=by
 obtain⟨u,la,v,rfl⟩:=l.form;obtain⟨d,lb,f,rfl⟩:=hb.form;obtain⟨c,r,b⟩:=Vt 25 (.cell 25 (C u la v)) EO 25 (.cell 25 (C d lb f)) EO 25 (.cell 25 (C none 0 0)) EO 25 (.cell 25 (C none 0 0)) EO (w:=w);have g:=b.o;have j:=Z (show Calls U 75 #[.agg #[C d lb f]] c λe w'=>e=.returned (G F (-1))/\Bl c w' from Yo (.agg #[C d lb f]) [] c (hb.below g.2.2));clear l hb g;go_enter func181,ntmps181
 go_upto_region 1 with fail
 rw[r.o];have c1:=(b.o.cell (i:=1) J).1.cell;go_wp2_with(go_at_call 75;refine j.o.mono ?_;clear j;rintro e w1 ⟨rfl,m⟩;have k:Bl w1 (w1.alloc (H #[G F (-1)] 3)):=Ba w1 _;have a:=(b.o.below m).below k;have s:=(a.cell (i:=2) J).1.cell;have f2:=(a.cell (i:=2) J).1.frozen;have t:=(a.cell (i:=3) J).1.cell;have f3:=(a.cell (i:=3) J).1.frozen;have q:=Z a.2.2;clear k a m)
 refine BA (by simp[results,results181,go_sem,s,t]) J ⟨J,?_⟩;exact((q.o.setCell (p:=⟨w.heap.size+1+1,0,none⟩) DH _).setCell (p:=⟨w.heap.size+1+1+1,0,none⟩) DH _)
def _root_.Go.Proofs.YthnpdhlepglmlaaGreatDoor.ySplit_n(A:Nat)(f g:Value)(ps qs:Ja)(w:T)(d:Je w f ps)(hb:Je w g qs)(_hs:Sqs ps)(hq:∀i,DS A (cf qs i))(_htp:Jc ps=ps)(l:Jc qs=qs)(a:qs≠[])
(j:∀k,k<=ps.length-(qs.length-1)->∃z,z+(2*A+1)<=1000000000/\(k<ps.length-(qs.length-1)->2*z+2*(2*A+1)<=1000000000)/\(∀i,DS z (cf (JP ps qs (qs.length-1) (ps.length-(qs.length-1)) k).2 i))/\∀i,DS (z+A) (cf (JP ps qs (qs.length-1) (ps.length-(qs.length-1)) k).1 i)):
 Calls U 181 #[f,g] w λe w'=>∃u v,e=.returned (.tuple #[u,v,P true])/\Je w' u (Jm ps qs)/\Je w' v (J5 ps qs)/\Bl w w':=by
 obtain⟨m,la,n,rfl⟩:=d.form;obtain⟨o,lb,p,rfl⟩:=hb.form;have b:=d.row;have c:=hb.row;obtain⟨q,_⟩:=b.forms;obtain⟨r,_⟩:=c.forms;have s:=Ag.2 a;exact og A m o la n lb p (lb-1) (la-(lb-1)) ps qs w b c hq l a (λk hk=>by rw[show lb-1=qs.length-1 by omega,show la-(qs.length-1)=ps.length-(qs.length-1)by omega];exact j k O) O J
def oi(A:Nat)(b c:Value)(ps qs:Ja)(w:T)(d:Je w b ps)(hb:Je w c qs)(hs:Sqs ps)(hq:∀i,DS A (cf qs i))(j:Jc ps=ps)(l:Jc qs=qs)
(f:qs≠[]->∀k,k<=ps.length-(qs.length-1)->∃z,z+(2*A+1)<=1000000000/\(k<ps.length-(qs.length-1)->2*z+2*(2*A+1)<=1000000000)/\(∀i,DS z (cf (JP ps qs (qs.length-1) (ps.length-(qs.length-1)) k).2 i))/\∀i,DS (z+A) (cf (JP ps qs (qs.length-1) (ps.length-(qs.length-1)) k).1 i)):
 Calls U 181 #[b,c] w λe w'=>∃u v,e=.returned (.tuple #[u,v,P (decide (qs≠[]))])/\Je w' u (if qs=[]then []else Jm ps qs)/\Je w' v (if qs=[]then []else J5 ps qs)/\Bl w w':=by
 by_cases a:qs=[]
 . subst a;refine(oh b ps c w d hb).mono ?_;rintro e w' ⟨rfl,h⟩;exact⟨_,_,J,⟨_,J,RowK.nil _ _⟩,⟨_,J,RowK.nil _ _⟩,h⟩
 . have g:decide (qs≠[])=true:=BI a;rw[g];simp only[BE a];exact ySplit_n A b c ps qs w d hb hs hq j l a (f a)
def L8(ps:Ja)(n i:Nat)(S:Ja):Prop:=S.length=n/\∀j,cf S j=if j<i then IB ps j else 0
theorem L8.next{ps:Ja}{n:Nat}(h:L8 ps n i S)(hi:i<n):L8 ps n (i+1) (S.set i (IB ps i)):=by
 refine⟨by rw[FO];exact h.1,λj=>?_⟩;rw[G8 _ _ _ _ (by rw[h.1];exact hi),h.2 j];grind
def L8.done{ps:Ja}{n:Nat}(h:L8 ps n n S)(hn:n=ps.length-1):Jc S=Jb ps:=KW λj=>by
 rw[h.2 j,Lq];split
 . rfl
 . rw[Yt (p:=ps) O,Cs]
def O8(v:Value)(ps:Ja)(w:T)(h:Je w v ps)(ap:Sqs ps)(aq:∀i,Sq (IB ps i)):
 Calls U 110 #[v] w λe w'=>∃u,e=.returned u/\Je w' u (Jb ps)/\Bl w w':=by
 obtain⟨y,la,g,rfl⟩:=h.form;have ha:=h.row;obtain⟨am,ay,az,bm,s,t,aa,bb,ll,cc,kk,dd,ai⟩:=ha.forms;obtain⟨V0,ae,o⟩:=Lx 25 (.cell 25 (C y la g)) EO 25 (.cell 25 (C none 0 0)) EO (w:=w);have M1:=o.o;obtain⟨d,hd⟩:=ex ((ps.length:Int)-1:Int);have M:=Z (Yo (.agg #[C y la g]) ps V0 (h.below M1.2.2));rw[hd]at M;obtain⟨n,hn⟩:=ex (ps.length-1:Nat);have Qd:max (0:Int) d=(n:Int):=O
 have Qn:∀W:T,(Instr.makeSlice 23 (G F (n:Int)) (G F (n:Int))).run U W=.ok (C (some ⟨W.heap.size,0,none⟩) n n) (W.alloc (H (YH n) 50)):=λW=>Mw n O W;obtain⟨HP,Qi,Qk,z⟩:=Dx ai ap aq (show n=ps.length-1/\la=ps.length from⟨hn.symm,am⟩);have Qc:n<=1099511627776:=O
 clear h ha ai ap aq am ay az hn hd M1;go_enter func110,ntmps110
 go_upto_region 1 with fail
 rw[ae.o];have c0:=(o.o.cell (i:=0) J).1.cell;go_upto_region 2 with(go_at_call 75;refine M.o.mono ?_;clear M;rintro e w1 ⟨rfl,ah⟩)
 have D:DJ w (w1.alloc (H (YH n) 50)) [some (w.heap.size,.cell 25 (C y la g)),some (w.heap.size+1,.cell 25 (C none 0 0)),some (w1.heap.size,.rats (yA n 0))]:=(o.o.below ah).push (.rats (yA n 0)) (NG _ n);obtain⟨V1,N⟩:=ex (w1.alloc (H (YH n) 50));obtain⟨r,R⟩:=ex (w1.heap.size);rw[N,R]at D;rw[N,R];have Qh:=Z D;clear D N R ah c0 o ae Qn Qd;go_wp2;go_loopw [11] (λiv wr=>∃(i:Nat) (S:Ja),i<=n/\iv=G F (i:Int)/\Hid (L8 ps n i S)/\Hid (DJ w wr [some (w.heap.size,.cell 25 (C y la g)),some (w.heap.size+1,.cell 25 (C none 0 0)),some (r,.rats S)])) λiv _=>n-(intOf iv).toNat
 case atStart=>exact⟨0,_,Ay _,J,Z ⟨A2,λj=>by rw[Ya,BE O]⟩,Qh⟩
 case round=>
  obtain⟨i,S,hi,rfl,c,m⟩:=hrel;clear Qh;by_cases an:i<n
  . have bn:(i:Int)<(n:Int):=O
    obtain⟨K,hK⟩:=ex (i+1:Nat);have bg:(i:Int)+1=(K:Int):=O
    have bj:F.wrap (K:Int)=(K:Int):=by rw[BG];omega
    have bi:(K:Int)<(la:Int):=by have:=z.o;omega
    obtain⟨aj,a,rfl,l,p0,p1,p2,p3⟩:=HP.o K (by have:=z.o;omega);have Qo:=Z (show ∀V,Bl w V->(V.cell? ⟨a,K*4,none⟩=some (P (s K))/\V.cell? ⟨a,K*4+1,none⟩=some (C (aa K) (ll K) (cc K))/\V.cell? ⟨a,K*4+2,none⟩=some (P (t K))/\V.cell? ⟨a,K*4+3,none⟩=some (C (bb K) (kk K) (dd K)))/\Jf V (.agg #[P (s K),C (aa K) (ll K) (cc K),P (t K),C (bb K) (kk K) (dd K)]) (cf ps K)from λV k=>by
     exact⟨⟨(k.cell (p:=⟨a,_,none⟩) l).trans p0,(k.cell (p:=⟨a,_,none⟩) l).trans p1,(k.cell (p:=⟨a,_,none⟩) l).trans p2,(k.cell (p:=⟨a,_,none⟩) l).trans p3⟩,aj.below k⟩)
    have B:=Z (show K<=1099511627776/\K=i+1 by omega);have Qm:=Z (show cf ps K*((K:Int):Rat)=IB ps i by rw[B.o.2];rfl);have Qp:=Z (show i<S.length by rw[c.o.1];exact an);clear aj l p0 p1 p2 p3 hK;go_wp2_with fail
    have Qj:=m.o.drew;refine YD Di [[],[],[],[2],[],[4],[3,5],[6],[],[8],[9],[7,10,10],[0,1,0,1,2,3,4,5,6,7,8,9,10,11],[12,11,11,0,1,2,3,4,5,6,7,8,9,10,11]] [.eq (C (some ⟨r,0,none⟩) n n),.eq (G F (i:Int)),.eq (L (some ⟨w.heap.size,0,none⟩)),.eq (C (some ⟨a,0,none⟩) la g),.eq (G F (i:Int)),.eq (G F (K:Int)),.eq (L (some ⟨a,K*4,none⟩)),.rat (cf ps K),.eq (G F (i:Int)),.eq (G F (K:Int)),.rat ((K:Int):Rat),.rat (IB ps i),.eq (L (some ⟨r,i*4,none⟩)),.eq I] [13] (λb _ V=>DJ w V [some (w.heap.size,.cell 25 (C (some ⟨a,0,none⟩) la g)),some (w.heap.size+1,.cell 25 (C none 0 0)),some (r,if b.getD 0 false then .rats (S.set i (IB ps i))else .rats S)]) Qj (SR (.vl J λ_ _=>mv)<|SR (.vl J λ_ _=>mv)<|SR (.vl J λ_ _=>⟨_,by refine DP ?_;go_simp,J⟩)<|SR (.vl J λh j=>⟨_,by have e0:=(j.cell (i:=0) J).1.cell;refine DP ?_;rw[h.e 2];go_simp,J⟩)<|SR (.vl J λ_ _=>mv)<|SR (.vl J λh _=>⟨_,by refine DP ?_;rw[h.e 4];go_simp,J⟩)<|SR (.vl J λh _=>⟨_,by refine DP ?_;rw[h.e 3,h.e 5];go_simp,J⟩)<|SR (.vl J λh j=>by obtain⟨⟨e0,e1,e2,e3⟩,hr⟩:=Qo.o _ j.2.2;exact⟨_,by refine DP ?_;rw[h.e 6];go_simp,hr⟩)<|SR (.vl J λ_ _=>mv)<|SR (.vl J λh _=>⟨_,by refine DP ?_;rw[h.e 8];go_simp,J⟩)<|SR (.cl λh _=>c1 (h.e 9) (WV (K:Int) O (by have:=B.o;omega) _))<|SR (.cl λh _=>Qm.o ▸ LL _ _ (cf ps K) ((K:Int):Rat) _ (h.g 7) (h.g 10) (Qi.o.at K) (nO B.o.1))<|SR (.vl J λh _=>⟨_,by refine DP ?_;rw[h.e 0,h.e 1];go_simp,J⟩)<|SR (.wr J λh j=>Ms 2 j Qp.o (h.g 11) (h.e 12)) Stp.end_)
     λf V hF q=>?_
    refine DP ?_;rw[hF.e 0,hF.e 1,hF.e 2,hF.e 3,hF.e 4,hF.e 5,hF.e 6,hF.e 8,hF.e 9,hF.e 12];have q:=Dw q;have HO:=Z q;clear q hF;go_wp2_with fail
    go_roundw
    case rel=>exact⟨i+1,_,O,by go_num,Z (c.o.next an),HO⟩
    case measure=>simp[intOf];omega
  . obtain rfl:i=n:=O
    have hE:=m.o.rats (i:=2) J;have A:=hE.row (n:=i) (cap:=i) (by rw[c.o.1];exact Aa _) (Aa _) O Qc;rw[Ai (by rw[c.o.1];exact Aa _)]at A;have E:=Z (LM _ S wr A (Sqs.of λj=>by
     rw[c.o.2 j];split
     . exact Qk.o j
     . exact GF))
    rw[c.o.done z.o.1]at E;clear hE A;go_wp2_with(go_at_call 25;refine E.o.mono ?_;clear E;rintro e w5 ⟨u5,rfl,X,_,Q⟩;obtain⟨a7,l7,c7,rfl⟩:=X.form;have x:=boxed_below (m.o.cell (i:=1) J).1 Q;have x0:=x.cell;have x1:=x.frozen;have Qq:=Z (GM x (C a7 l7 c7) X.row);have Ql:=Z ((Bt m.o.2.2 Q).setCell (p:=⟨w.heap.size+1,0,none⟩) (by show w.heap.size<=w.heap.size+1;omega) (C a7 l7 c7));clear X Q x)
    exact BA (by simp[results,results110,go_sem,x0]) J ⟨_,J,⟨_,J,Qq.o⟩,Ql.o⟩
end M3
def CD(D:Int)(K:Nat)(c:Rat):Prop:=∃n:Int,c=yB n D/\Sm K n
section
variable {D E:Int} {K M:Nat} {c d:Rat}
def CD.mono(h:CD D K c)(hk:K<=M):CD D M c:=by
 obtain⟨n,e,h⟩:=h;exact⟨n,e,h.mono hk⟩
def CD.smq(h:CD D K c)(hD:D≠0)(hs:Sm K D):DS K c:=by
 obtain⟨n,rfl,h⟩:=h;exact DS.divInt hD h hs
theorem CD.zero(D:Int)(K:Nat):CD D K 0:=⟨0,by rw[Rat.zero_divInt],Sm.zero K⟩
def CD.add(h:CD D K c)(a:CD D M d)(hD:D≠0):CD D (max K M+1) (c+d):=by
 obtain⟨n,rfl,h⟩:=h;obtain⟨m,rfl,a⟩:=a;refine⟨n+m,?_,?_⟩
 . rw[FT _ _ hD hD,<-Int.add_mul,FF hD]
 . exact(h.mono (Nat.le_max_left ..)).add (a.mono (Nat.le_max_right ..))
def CD.mul(h:CD D K c)(a:CD E M d):CD (D*E) (K+M) (c*d):=by
 obtain⟨n,rfl,h⟩:=h;obtain⟨m,rfl,a⟩:=a;exact⟨n*m,by rw[FA],h.mul a⟩
def CD.wide(h:CD D K c)(hE:Sm M E)(a:E≠0):CD (D*E) (K+M) c:=by
 obtain⟨n,rfl,h⟩:=h;exact⟨n*E,by rw[FF a],h.mul hE⟩
end
def EQ(D:Int)(K:Nat)(ps:Ja):Prop:=∀i,CD D K (cf ps i)
theorem ZO{D:Int}{K:Nat}{ps qs:Ja}(hD:D≠0)(h:∀i j,CD D K (cf ps i*cf qs j))(n:Nat):∀(i k:Nat),CD D (K+min i ps.length) (cf (Ez ps qs n i) k):=by
 intro i;induction i with
 |zero=>intro k;rw[Ez,Ya];exact CD.zero _ _
 |succ i a=>
  intro k;rw[Ez];rcases O7 (Ez ps qs n i) i (cf ps i) qs qs.length k with e|e
  . rw[e];exact(a k).mono O
  . rw[e];by_cases hi:i<ps.length
    . exact((a k).add (h i (k-i)) hD).mono O
    grind[Yt]
def oj{D:Int}{K:Nat}{ps qs:Ja}(hD:D≠0)(hs:Sm 1000000000 D)(h:∀i j,CD D K (cf ps i*cf qs j))(hk:K+ps.length+1<=1000000000):M3.LP ps qs:=by
 have hq:∀c,CD D (K+ps.length+1) c->Sq c:=λc b=>Sq.of ((b.mono hk).smq hD hs) (Aa _);refine⟨λi j=>hq _ ((h i j).mono O),λn i j k=>?_⟩;have a:=ZO hD h n i k;rcases O7 (Ez ps qs n i) i (cf ps i) qs j k with e|e
 . rw[e];exact hq _ (a.mono O)
 . rw[e];exact hq _ ((a.add (h i (k-i)) hD).mono O)
theorem oo{D:Int}{K:Nat}{ps qs:Ja}(hD:D≠0)(h:∀i j,CD D K (cf ps i*cf qs j)):EQ D (K+ps.length) (Ji ps qs):=λk=>by
 unfold Ji;rw[Yv,Lp];have a:=ZO hD h (ps.length+qs.length) ps.length k;grind[Tn]
theorem oq(p q:Ja):(Ji p q).length<=p.length+q.length:=KI (Jt _ _) λi hi=>by grind[Ji,Yv,Lp,nR]
def Sm.powZ{A:Nat}{v:Int}(h:Sm A v):∀n,Sm (n*A+1) (v^n):=by
 intro n;induction n with
 |zero=>rw[F9];exact Sm.one _ O
 |succ n a=>rw[C6,Ck,show n*A+1*A+1=n*A+1+A by omega];exact a.mul h
def ot{D:Int}{K:Nat}{c:Rat}(h:CD D K c):CD D K (-c):=by
 obtain⟨n,rfl,h⟩:=h;exact⟨-n,by rw[<-Rat.neg_divInt],by unfold Sm at h ⊢;rwa[Int.natAbs_neg]⟩
theorem ZP{D E l:Int}{K A:Nat}{ps qs:Ja}{n m:Nat}(hD:D≠0)(hp:EQ D K ps)(hE:E≠0)(N:Sm A E)(hq:EQ E A qs)(b:l≠0)(hl:Sm A l)(M:cf qs n=yB l E)(B:cf qs n≠0):
 ∀k,EQ (D*l^k) (K+k*(A+1)) (JP ps qs n m k).2/\EQ (D*l^k) (K+k*(A+1)) (JP ps qs n m k).1:=by
 intro k;induction k with
 |zero=>
  rw[F9,F8];exact⟨λi=>(hp i).mono O,λi=>by rw[JP,Ya];exact CD.zero _ _⟩
 |succ k V=>
  obtain⟨d,g⟩:=V;have w:D*l^k≠0:=CG hD (Int.pow_ne_zero b);have e:D*l^(k+1)=D*l^k*l:=by rw[C6,Int.mul_assoc]
  rw[e];have v:D*l^k*l≠0:=CG w b;obtain⟨R,p⟩:=ex ((JP ps qs n m k).2);obtain⟨Q,o⟩:=ex ((JP ps qs n m k).1);rw[p]at d;rw[o]at g;obtain⟨r,z,s⟩:=d (m-(k+1)+n);obtain⟨c,q⟩:=ex (cf R (m-(k+1)+n)/cf qs n);have f:c=yB (r*E) (D*l^k*l):=by
   rw[<-q];have y:cf R (m-(k+1)+n)=yB (r*E) (D*l^k*l)*cf qs n:=by
    rw[M,FA,z,show r*E*l=r*(E*l)from Int.mul_assoc _ _ _,show D*l^k*l*E=D*l^k*(E*l)by grind,FF (CG hE b)]
   rw[y,Rat.mul_div_cancel B]
  have t:CD (D*l^k*l) (K+(k+1)*(A+1)) c:=⟨r*E,f,(s.mul N).mono (by rw[Ck];omega)⟩;have u:∀j,CD (D*l^k*l) (K+k*(A+1)+A) (c*cf qs j):=λj=>by
   obtain⟨x,ex,S⟩:=hq j;refine⟨r*x,?_,s.mul S⟩;rw[f,ex,FA,show r*E*x=r*x*E by grind,FF hE]
  rw[JP,p,o];simp only[q];refine⟨λi=>?_,λi=>?_⟩
  . rcases O7 R (m-(k+1)) (-c) qs qs.length i with a|a
    . rw[a];exact((d i).wide hl b).mono (by rw[Ck];omega)
    . rw[a,Rat.neg_mul];exact(((d i).wide hl b).add (ot (u _)) v).mono (by rw[Ck];omega)
  . rcases M3.oZ Q (m-(k+1)) c i with a|a
    . rw[a];exact t
    . rw[a];exact((g i).wide hl b).mono (by rw[Ck];omega)
section
variable{n:Nat}{f g:Nat->Int}
theorem ow:∀(n:Nat) (f:Nat->Nat),(∀i,i<=n->f i<n)->∃i j,i<j/\j<=n/\f i=f j:=by
 intro n;induction n with
 |zero=>intro f h;grind
 |succ n d=>
  intro f h;by_cases c:∃i,i<=n/\f i=f (n+1)
  . obtain⟨i,a,b⟩:=c;exact⟨i,n+1,O,Aa _,b⟩
  . obtain⟨i,j,a,b,e⟩:=d (λi=>if f i=n then f (n+1)else f i) (λi hi=>by
     grind)
    refine⟨i,j,a,O,?_⟩;grind
def enc(b:Nat):Nat->(Nat->Nat)->Nat
 |0,_=>0
 |M+1,d=>enc b M d+d M*b^M
theorem R5{b:Nat}{M:Nat}{d:Nat->Nat}(h:∀k,k<M->d k<b):enc b M d<b^M:=by
 induction M with
 |zero=>simp[enc]
 |succ M c=>
  have e:=c λk hk=>h k O;have a:=h M O;have f:(d M+1)*b^M<=b*b^M:=Af _ a;grind[enc]
theorem ox{b:Nat}{M:Nat}{d a:Nat->Nat}(h:∀k,k<M->d k<b)(c:∀k,k<M->a k<b)(e:enc b M d=enc b M a):∀k,k<M->d k=a k:=by
 induction M with
 |zero=>intro k hk;omega
 |succ M f=>
  have l1:=R5 (λk hk=>h k O:∀k,k<M->d k<b);have l2:=R5 (λk hk=>c k O:∀k,k<M->a k<b);grind[enc,Nat.add_mul_div_right,CB]
def Ev(b x j:Nat):Nat:=x/b^j%b
def oy{b:Nat}(hb:0<b)(x j:Nat):Ev b x j<b:=CC _ hb
theorem ZR(b x:Nat):∀N,enc b N (Ev b x)=x%b^N:=by
 intro N;induction N with
 |zero=>simp[enc,Nat.mod_one]
 |succ N a=>grind[enc,Nat.mod_pow_succ,Ev]
def Xe:Nat->(Nat->Int)->Int
 |0,_=>0
 |n+1,f=>Xe n f+f n
theorem ZS(h:∀k,k<n->f k=g k):Xe n f=Xe n g:=by
 induction n with
 |zero=>rfl
 |succ n a=>grind[Xe]
def oz(n:Nat)(f g:Nat->Int):Xe n (λk=>f k-g k)=Xe n f-Xe n g:=by
 induction n with
 |zero=>rfl
 |succ n a=>rw[Xe,Xe,Xe,a];omega
theorem O9{C:Nat}(h:∀k,k<n->(f k).natAbs<=C):(Xe n f).natAbs<=n*C:=by
 induction n with
 |zero=>simp[Xe]
 |succ n a=>
  grind[Xe]
theorem o7(N A:Nat)(c:Nat->Nat->Int)(s:∀k j,(c k j).natAbs<=A):
 ∃z:Nat->Int,(∃j,j<N+1/\z j≠0)/\(∀j,(z j).natAbs<=(2*(N+1)*A+1)^N)/\∀k,k<N->Xe (N+1) (λj=>c k j*z j)=0:=by
 obtain⟨B,e⟩:=ex ((2*(N+1)*A+1)^N);have i:1<=B:=by rw[<-e];exact CV O
 obtain⟨C,hC⟩:=ex ((N+1)*(A*B));have f:∀x j,Ev (B+1) x j<=B:=λx j=>by have:=oy (b:=B+1) O x j;omega
 have r:∀x k,(Xe (N+1) λj=>c k j*(Ev (B+1) x j:Int)).natAbs<=C:=λx k=>by
  rw[<-hC];refine O9 λj _=>?_;rw[Cx,AR];exact CE (s k j) (f x j)
 obtain⟨g,hg⟩:∃g:Nat->Nat->Nat,∀x k,(g x k:Int)=Xe (N+1) (λj=>c k j*(Ev (B+1) x j:Int))+C/\g x k<2*C+1:=
  ⟨λx k=>(Xe (N+1) (λj=>c k j*(Ev (B+1) x j:Int))+C).toNat,λx k=>by have:=r x k;dsimp only;omega⟩
 have E:(2*C+1)^N<(B+1)^(N+1):=by
  have a:2*C+1<=(2*(N+1)*A+1)*B:=by
   have l:2*C=2*(N+1)*A*B:=by rw[<-hC];simp only[CJ]
   rw[l,Ck,FY];exact Nat.add_le_add_left i _
  have d:(2*C+1)^N<=B^(N+1):=by
   refine Ae (CP a N) ?_;rw[Nat.mul_pow,e,Cy,A4];exact Aa _
  exact CO d (Nat.pow_lt_pow_left O O)
 obtain⟨x,y,a,d,m⟩:=ow ((2*C+1)^N) (λx=>enc (2*C+1) N (g x)) λx _=>R5 λk _=>(hg x k).2;have n:=ox (λk _=>(hg x k).2) (λk _=>(hg y k).2) m;refine⟨λj=>(Ev (B+1) x j:Int)-(Ev (B+1) y j:Int),?_,λj=>?_,λk hk=>?_⟩
 . by_cases t:∃j,j<N+1/\(Ev (B+1) x j:Int)-(Ev (B+1) y j:Int)≠0
   . exact t
   . exfalso
     have o:∀j,j<N+1->Ev (B+1) x j=Ev (B+1) y j:=λj K=>by
      grind
     have p:∀M,M<=N+1->enc (B+1) M (Ev (B+1) x)=enc (B+1) M (Ev (B+1) y):=λM=>by
      induction M with
      |zero=>intro _;rfl
      |succ M u=>intro hM;rw[enc,enc,u O,o M O]
     have q:=p (N+1) (Aa _);rw[ZR,ZR,CH O,CH O]at q;omega
 . grind
 . have w:=n k hk;have D:=(hg x k).1;have v:=(hg y k).1;rw[show(λj=>c k j*((Ev (B+1) x j:Int)-(Ev (B+1) y j:Int)))=(λj=>c k j*(Ev (B+1) x j:Int)-c k j*(Ev (B+1) y j:Int))from funext λj=>Int.mul_sub _ _ _,oz];omega
theorem o9(p q:Ja):(JT p q).length<=max p.length q.length:=KI (YF _ _) λi hi=>by grind[P8,Yt]
def DN(c:Rat)(p:Ja):Ja:=Jc (XT c p)
theorem JH(c:Rat)(p:Ja):Jc (DN c p)=DN c p:=Yn _
theorem Yx(c:Rat)(p:Ja)(i:Nat):cf (DN c p) i=cf p i*c:=by unfold DN;rw[Yv,Lo]
theorem Jo(c:Rat)(p:Ja)(x:Rat):ev (DN c p) x=ev p x*c:=by unfold DN;rw[II,KY]
theorem Xf{a b:Rat}(c:a≠0)(hb:b≠0):a*b≠0:=λh=>by
 grind
theorem R6{p:Ja}(h:cf p n≠0):n<p.length:=by
 grind[Yt]
theorem YV{c:Rat}(d:c≠0){p:Ja}(hp:Jc p=p):(DN c p).length=p.length:=by
 refine F6 (KI (JH _ _) λi hi=>by rw[Yx,Yt hi,Cs]) ?_;by_cases a:p=[]
 . grind
 . have b:=Jp hp a;have e:0<p.length:=Ag.2 a;have f:=R6 (p:=DN c p) (n:=p.length-1) (by rw[Yx];exact Xf b d);omega
theorem L9(c d:Rat)(p:Ja):DN c (DN d p)=DN (d*c) p:=YM (JH _ _) (JH _ _) λx=>by rw[Jo,Jo,Jo];grind
theorem Kr{p:Ja}(hp:Jc p=p):DN 1 p=p:=YM (JH _ _) hp λx=>by rw[Jo];grind
theorem pB(c:Rat):DN c []=[]:=rfl
theorem Hh{c:Rat}(b:c≠0){p:Ja}(hp:Jc p=p)(a:p≠[]):DN c p≠[]:=λh=>by
 grind[YV]
theorem JD{p q:Ja}(hp:Jc p=p)(hq:Jc q=q)(a:p≠[])(b:q≠[]):(Ji p q).length=p.length+q.length-1:=Tl hp hq a b
def NI{p:Ja}(h:p.length=0):p=[]:=Aq.1 h
def PA{p q u v:Ja}(hq:Jc q=q)(a:q≠[])(f:Jc u=u)(hv:Jc v=v)(g:v.length<q.length)(h:∀x,ev p x=ev q x*ev u x+ev v x):u=Jm p q/\v=J5 p q:=by
 obtain⟨b,c,d,e⟩:=Xb p q hq a;exact eZ hq a f d hv e g c (λx=>by rw[<-h x,b x])
theorem PB{c d:Rat}(a:d≠0)(p q:Ja)(hq:Jc q=q)(b:q≠[]):Jm (DN c p) (DN d q)=DN (c/d) (Jm p q)/\J5 (DN c p) (DN d q)=DN c (J5 p q):=by
 obtain⟨f,e,g,j⟩:=Xb p q hq b;have h:=PA (p:=DN c p) (JH d q) (Hh a hq b) (JH (c/d) (Jm p q)) (JH c (J5 p q)) (by
  rw[YV a hq];exact CO (KI (JH _ _) λi hi=>by rw[Yx,Yt hi,Cs]) e) (λx=>by
  grind[Jo])
 grind
def ZT:Nat->Ja->Ja->Ja->Ja->Prop
 |0,p,q,a,b=>p=a/\q=b
 |n+1,p,q,a,b=>∃c:Rat,q≠[]/\c≠0/\ZT n q (DN c (J5 p q)) a b
def Eu(p q a b:Ja):Prop:=∃n,ZT n p q a b
def Eu.base(p q:Ja):Eu p q p q:=⟨0,J,J⟩
def Eu.step(p q:Ja)(c:Rat)(a b:Ja)(h:q≠[])(k:c≠0):Eu q (DN c (J5 p q)) a b->Eu p q a b:=λ⟨n,e⟩=>⟨n+1,c,h,k,e⟩
def Eu.ind{d:∀p q a b:Ja,Eu p q a b->Prop}(base:∀p q,d p q p q (.base p q))
(step:∀p q c a b (h:q≠[]) (k:c≠0) (e:Eu q (DN c (J5 p q)) a b),d q (DN c (J5 p q)) a b e->d p q a b (.step p q c a b h k e))
{p q a b:Ja}(t:Eu p q a b):d p q a b t:=by
 obtain⟨n,e⟩:=t;induction n generalizing p q with
 |zero=>obtain⟨rfl,rfl⟩:=e;exact base _ _
 |succ n f=>obtain⟨c,h,k,e⟩:=e;exact step p q c a b h k ⟨n,e⟩ (f e)
def Eu.tail{p q a b:Ja}(h:Eu p q a b){c:Rat}(hb:b≠[])(e:c≠0):Eu p q b (DN c (J5 a b)):=by
 induction h using Eu.ind with
 |base p q=>exact .step p q c _ _ hb e (.base _ _)
 |step p q d a b hq f _ g=>exact .step p q d _ _ hq f (g hb)
theorem XN(p q:Ja):Jc (J5 p q)=J5 p q:=Yn _
theorem YE(p q:Ja):Jc (Jm p q)=Jm p q:=Yn _
def Eu.len{p q a b:Ja}(h:Eu p q a b):Jc q=q->b.length<=q.length:=by
 induction h using Eu.ind with
 |base p q=>exact λ_=>Aa _
 |step p q d a b hq f _ g=>
  intro c;have e:=g (JH _ _);rw[YV f (XN _ _)]at e;have:=(Xb p q c hq).2.1;omega
theorem pC{p q a b:Ja}(h:Eu p q a b):Jc p=p->Jc q=q->b≠[]->∀u v T:Ja,Jc u=u->Jc v=v->Jc T=T->u.length+b.length<=q.length+1->v.length+b.length<=p.length+1->(u≠[]\/v≠[])->T.length<b.length->
 (∀x,ev T x=ev u x*ev p x+ev v x*ev q x)->∃c:Rat,c≠0/\T=DN c (J5 a b):=by
 induction h using Eu.ind with
 |base p q=>
  intro hp hq g u v T j hv hT A lv f o m;have K:u.length<=1:=O
  obtain⟨w,N,Q,R⟩:=Xb p q hq g;match u,K,f with
  |[],_,f=>
   have s:v≠[]:=by
    rcases f with f|f
    . exact absurd J f
    . exact f
   have e:T=Ji v q:=YM hT (Jt _ _) λx=>by rw[Jd,m x];simp[ev];grind
   grind[JD,Ag]
  |[c],_,_=>
   have V:c≠0:=λe=>by
    have:=Jp j DI;simp[Xo]at this;exact this e
   refine⟨c,V,?_⟩;have B:∀x,ev (DN c p) x=ev q x*ev (DN (-1) v) x+ev T x:=λx=>by
    grind[Jo,ev]
   have S:=(PA hq g (JH _ _) hT o B).2;have y:=(PB (c:=c) (d:=1) DK p q hq g).2;rw[Kr hq]at y;rw[S,y]
 |step p q d a b g X hE z=>
  intro hp hq hb u v T j hv hT A lv f o m;obtain⟨w,N,Q,R⟩:=Xb p q hq g;obtain⟨r,n⟩:=ex (DN d (J5 p q));rw[n]at hE z;have l:Jc r=r:=by rw[<-n];exact JH _ _
  have ai:b.length<=r.length:=hE.len l;have ah:0<b.length:=Ag.2 hb;have E:r≠[]:=λe=>by
   grind
  have aj:d*(1/d)=1:=by rw[Ch];exact Ar X
  have k:(1/d)≠0:=λe=>by grind
  have D:∀x,ev p x=ev q x*ev (Jm p q) x+ev r x*(1/d):=λx=>by rw[w x,<-n,Jo];grind
  have t:∀x,ev T x=ev (XI (Ji u (Jm p q)) v) x*ev q x+ev (DN (1/d) u) x*ev r x:=λx=>by
   rw[m x,D x,Yi,Jd,Jo];grind
  have ae:(DN (1/d) u).length+b.length<=q.length+1:=by rw[YV k j];exact A
  refine z hq l hb (XI (Ji u (Jm p q)) v) (DN (1/d) u) T (Lr _ _) (JH _ _) hT ?_ ae ?_ o t
  . by_cases hn:XI (Ji u (Jm p q)) v=[]
    . rw[hn];simp;omega
    . have l1:=JD (Lr _ _) hq hn g;have e:Ji (XI (Ji u (Jm p q)) v) q=JT T (Ji (DN (1/d) u) r):=YM (Jt _ _) (YF _ _) λx=>by rw[Jd,X1,Jd,t x];grind
      have l2:=o9 T (Ji (DN (1/d) u) r);rw[<-e,l1]at l2;by_cases i:u=[]
      . have M:Ji (DN (1/d) u) r=[]:=by rw[i];rfl
        rw[M]at l2;simp at l2;omega
      . have l4:=JD (JH _ _) l (Hh k j i) E;omega
  . by_cases i:u=[]
    . left
      have s:v≠[]:=by
       rcases f with f|f
       . exact absurd i f
       . exact f
      have e:XI (Ji u (Jm p q)) v=v:=YM (Lr _ _) hv λx=>by rw[Yi,Jd,i];simp[ev];grind
      rw[e];exact s
    . right;exact Hh k j i
def Ln(K:Nat)(r:Ja):Prop:=∃c:Rat,c≠0/\∀i,∃z:Int,Sm K z/\cf r i*c=(z:Rat)
def pD(s t:Nat)(f:Nat->Int):Xe (s+t) f=Xe s f+Xe t (λj=>f (s+j)):=by
 induction t with
 |zero=>simp[Xe]
 |succ t a=>rw[<-Nat.add_assoc,Xe,Xe,a];omega
def R7{f:Nat->Rat}(h:∀k,k<n->f k=(g k:Rat)):Dt n f=((Xe n g:Int):Rat):=by
 induction n with
 |zero=>rfl
 |succ n a=>rw[Dt,Xe,a λk hk=>h k O,h n O,FC]
def PC(p q:Ja)(h:p.length<=n)(k:Nat):cf (Ji p q) k=Dt n (λi=>if i<=k then cf p i*cf q (k-i)else 0):=by
 unfold Ji;rw[Yv,Lp,<-eT p q h];rfl
theorem Ln.sc{K:Nat}{r:Ja}(h:Ln K r){d:Rat}(g:d≠0):Ln K (DN d r):=by
 obtain⟨c,f,j⟩:=h;have e:d*(1/d)=1:=by rw[Ch];exact Ar g
 refine⟨(1/d)*c,Xf (λk=>by grind) f,λi=>?_⟩;obtain⟨z,a,b⟩:=j i;exact⟨z,a,by rw[Yx,<-b];grind⟩
def Ln.mono{K L:Nat}{r:Ja}(h:Ln K r)(hk:K<=L):Ln L r:=by
 obtain⟨c,d,e⟩:=h;exact⟨c,d,λi=>by obtain⟨z,a,b⟩:=e i;exact⟨z,a.mono hk,b⟩⟩
theorem pE{K N A B:Nat}(hA:A=Y^K)(f:N+1<=1000000000)(e:B=(2*(N+1)*A+1)^N):(N+1)*(A*B)<Y^((K+1)*(N+1)):=by
 have b:1<=A:=by rw[hA];exact CV I9
 have c:2*(N+1)*A+1<=Y^(K+1):=by
  have a:(2*(N+1)+1)*A<=Y*A:=Af _ uo;rw[Cy,<-hA,A4 A];rw[Ck,FY]at a;exact Ae (Nat.add_le_add_left b _) a
 have d:(2*(N+1)*A+1)^(N+1)<=Y^((K+1)*(N+1)):=by rw[Fv];exact CP c _
 refine AN ?_ d;grind[CJ,A4,Af]
theorem ZU{K m:Nat}{p q:Ja}{cp cq:Rat}(hp:Jc p=p)(hq:Jc q=q)(ai:cp≠0)(aj:cq≠0)(ae:∀i,∃z:Int,Sm K z/\cf p i*cp=(z:Rat))(ah:∀i,∃z:Int,Sm K z/\cf q i*cq=(z:Rat))(hl:p.length+q.length<=1000000000)(hle:q.length<=p.length)(az:0<m)(bi:m<=q.length):
 ∃u v:Ja,Jc u=u/\Jc v=v/\u.length+m<=q.length+1/\v.length+m<=p.length+1/\(u≠[]\/v≠[])/\(XI (Ji u p) (Ji v q)).length<m/\
  (∀i,∃z:Int,Sm ((K+1)*(p.length+q.length)) z/\cf (XI (Ji u p) (Ji v q)) i=(z:Rat))/\(∀i,∃z:Int,Sm ((K+1)*(p.length+q.length)) z/\cf u i=(z:Rat)*cp)/\(∀i,∃z:Int,Sm ((K+1)*(p.length+q.length)) z/\cf v i=(z:Rat)*cq):=by
 obtain⟨α,hα⟩:=CM ae;obtain⟨β,hβ⟩:=CM ah;have bn:q≠[]:=λe=>by
  grind
 have V:p≠[]:=λe=>by
  grind
 obtain⟨s,hs⟩:=ex (q.length+1-m);obtain⟨t,ht⟩:=ex (p.length+1-m);obtain⟨N,hN⟩:=ex (s+t-1);obtain⟨A,hA⟩:=ex (Y^K);have ap:∀i,(α i).natAbs<=A:=λi=>by have:=(hα i).1;unfold Sm at this;omega
 have aq:∀i,(β i).natAbs<=A:=λi=>by have:=(hβ i).1;unfold Sm at this;omega
 have M:s+t=N+1:=O
 obtain⟨z,⟨c,bm,E⟩,l,an⟩:=o7 N A (λk j=>if j<s then(if j<=m-1+k then α (m-1+k-j)else 0)else(if j-s<=m-1+k then β (m-1+k-(j-s))else 0)) (λk j=>by
  grind)
 obtain⟨B,x⟩:=ex ((2*(N+1)*A+1)^N);rw[x]at l;obtain⟨u,y⟩:=ex (Jc ((List.range s).map λj=>(z j:Rat)*cp));obtain⟨v,hv⟩:=ex (Jc ((List.range t).map λj=>(z (s+j):Rat)*cq));have d:Jc u=u:=by rw[<-y];exact Yn _
 have o:Jc v=v:=by rw[<-hv];exact Yn _
 have n:∀j,cf u j=if j<s then(z j:Rat)*cp else 0:=λj=>by rw[<-y,Yv,Py]
 have r:∀j,cf v j=if j<t then(z (s+j):Rat)*cq else 0:=λj=>by rw[<-hv,Yv,Py]
 have Q:u.length<=s:=KI d λi hi=>by grind
 have X:v.length<=t:=KI o λi hi=>by grind
 obtain⟨a,hZ⟩:∃a:Nat->Int,∀i,a i=Xe s (λj=>if j<=i then z j*α (i-j)else 0)+Xe t (λj=>if j<=i then z (s+j)*β (i-j)else 0):=⟨_,λ_=>rfl⟩;have hT:∀i,cf (XI (Ji u p) (Ji v q)) i=(a i:Rat):=λi=>by
  rw[ej,PC u p Q,PC v q X,hZ,FC];congr 1
  . refine R7 λj f=>?_;split
    . grind
    . rfl
  . refine R7 λj f=>?_;split
    . grind
    . rfl
 have ay:∀i,(a i).natAbs<=(N+1)*(A*B):=λi=>by
  have b:(Xe s λj=>if j<=i then z j*α (i-j)else 0).natAbs<=s*(A*B):=O9 λj _=>by
   split
   . rw[Cx,A4];exact CE (ap _) (l _)
   . simp
  have w:(Xe t λj=>if j<=i then z (s+j)*β (i-j)else 0).natAbs<=t*(A*B):=O9 λj _=>by
   split
   . rw[Cx,A4];exact CE (aq _) (l _)
   . simp
  grind[Ck]
 have Qk:(XI (Ji u p) (Ji v q)).length<m:=by
  have:(XI (Ji u p) (Ji v q)).length<=m-1:=KI (Lr _ _) λi hi=>by
   by_cases bj:i<m-1+N
   . rw[hT];have e:=an (i-(m-1)) O;rw[<-M,pD]at e;have b:Xe s (λj=>if j<=i then z j*α (i-j)else 0)=Xe s (λj=>(if j<s then(if j<=m-1+(i-(m-1))then α (m-1+(i-(m-1))-j)else 0)else(if j-s<=m-1+(i-(m-1))then β (m-1+(i-(m-1))-(j-s))else 0))*z j):=ZS λj f=>by
      grind
     have w:Xe t (λj=>if j<=i then z (s+j)*β (i-j)else 0)=Xe t (λj=>(if s+j<s then(if s+j<=m-1+(i-(m-1))then α (m-1+(i-(m-1))-(s+j))else 0)else(if s+j-s<=m-1+(i-(m-1))then β (m-1+(i-(m-1))-(s+j-s))else 0))*z (s+j)):=ZS λj f=>by
      grind
     rw[hZ,b,w,e];rfl
   . refine Yt ?_;have l1:=ey (Ji u p) (Ji v q);by_cases D:u=[]
     . have e0:Ji u p=[]:=by rw[D];rfl
       by_cases g:v=[]
       . have b:Ji v q=[]:=by rw[g];rfl
         grind
       grind[JD]
     . have l2:=JD d hp D V;by_cases g:v=[]
       . have b:Ji v q=[]:=by rw[g];rfl
         grind
       grind[JD]
  omega
 have R:u≠[]\/v≠[]:=by
  by_cases am:c<s
  . left
    intro e;have:=n c;rw[e,XH,BF am]at this;exact Xf (by exact_mod_cast E) ai this.symm
  . right
    intro e;have:=r (c-s);rw[e,XH,BF O,show s+(c-s)=c from by omega]at this;exact Xf (by exact_mod_cast E) aj this.symm
 have bg:=pE hA.symm O x.symm;have h5:(K+1)*(N+1)<=(K+1)*(p.length+q.length):=Am _ O;have S:1<=A:=by rw[<-hA];exact CV I9
 have bu:∀i,Sm ((K+1)*(p.length+q.length)) (z i):=λi=>by
  have b:B<=(N+1)*(A*B):=Ae (CI B S) (CI _ O);grind[Sm,AN,AB,I9]
 refine⟨u,v,d,o,O,O,R,Qk,λi=>⟨a i,?_,hT i⟩,λi=>?_,λi=>?_⟩
 . grind[Sm,AN,AB,I9]
 . rw[n];split
   . grind
   . exact⟨0,Sm.zero _,DI⟩
 . rw[r];split
   . grind
   . exact⟨0,Sm.zero _,DI⟩
theorem ZV{K:Nat}{p q a b:Ja}(hp:Jc p=p)(hq:Jc q=q)(d:Ln K p)(e:Ln K q)(hl:p.length+q.length<=1000000000)(hle:q.length<=p.length)(h:Eu p q a b)(hb:b≠[]):Ln ((K+1)*(p.length+q.length)) (J5 a b):=by
 obtain⟨cp,l,g⟩:=d;obtain⟨cq,m,j⟩:=e;obtain⟨u,v,r,s,o,hv,n,f,hT,_,_⟩:=ZU hp hq l m g j hl hle (Ag.2 hb) (h.len hq);obtain⟨c,k,t⟩:=pC h hp hq hb u v _ r s (Lr _ _) o hv n f (λx=>by rw[Yi,Jd,Jd]);refine⟨c,k,λi=>?_⟩;obtain⟨z,w,y⟩:=hT i;grind[Yx]
theorem pF{p q:Ja}(hp:Jc p=p)(hq:Jc q=q)(h:p.length<q.length):J5 p q=p:=
 ((PA (p:=p) hq (λe=>by rw[e]at h;simp at h) (u:=[]) (v:=p) J hp h λx=>by simp[ev];grind).2).symm
theorem ZW{K:Nat}{p q a b:Ja}(hp:Jc p=p)(hq:Jc q=q)(d:Ln K p)(e:Ln K q)(hl:p.length+q.length<=1000000000)(h:Eu p q a b)(hb:b≠[]):Ln ((K+1)*(p.length+q.length)) (J5 a b):=by
 by_cases hle:q.length<=p.length
 . exact ZV hp hq d e hl hle h hb
 . have hs:=pF hp hq O;match h with
   |⟨0,g,i⟩=>subst g;subst i;rw[hs];exact d.mono (by
    have:(K+1)*1<=(K+1)*(p.length+q.length):=Am _ O
    omega)
   |⟨n+1,c,l,f,hE⟩=>
    have hE:Eu q (DN c (J5 p q)) a b:=⟨n,hE⟩;rw[hs]at hE;have k:=YV f hp;have j:=ZV hq (JH c p) e (d.sc f) O O hE hb;grind
theorem NJ{c:Rat}(a:c≠0):1/c≠0:=λe=>by
 grind
def Jr(p:Ja):Ja:=DN (1/cf p (p.length-1)) p
def pG:Jr []=[]:=rfl
theorem Yp(p:Ja):Jc (Jr p)=Jr p:=JH _ _
theorem NK{c:Rat}(a:c≠0){p:Ja}(hp:Jc p=p):Jr (DN c p)=Jr p:=by
 grind[Jr,YV,Yx,L9]
def LU{p:Ja}(hp:Jc p=p)(a:p≠[]):Jr p≠[]:=Hh (NJ (Jp hp a)) hp a
theorem LV{p:Ja}(hp:Jc p=p):(Jr p).length=p.length:=by
 by_cases a:p=[]
 . subst a;rfl
 . exact YV (NJ (Jp hp a)) hp
theorem R8{p:Ja}(hp:Jc p=p)(a:p≠[]):cf (Jr p) ((Jr p).length-1)=1:=by
 grind[LV,Jr,Yx,Jp]
def Ks{p:Ja}(hp:Jc p=p):Jr (Jr p)=Jr p:=by
 by_cases a:p=[]
 . subst a;rfl
 . exact NK (NJ (Jp hp a)) hp
def EY:Nat->Ja->Ja->Ja
 |0,p,_=>Jr p
 |n+1,p,q=>if q=[]then Jr p else EY n q (J5 p q)
def Ju(p q:Ja):Ja:=EY q.length p q
theorem pH:∀(n m:Nat) (p q:Ja),Jc q=q->q.length<=n->q.length<=m->EY n p q=EY m p q:=by
 intro n;induction n with
 |zero=>
  intro m p q _ h _;have hq:q=[]:=NI O;subst hq;cases m with
  |zero=>rfl
  |succ m=>simp[EY]
 |succ n d=>
  intro m p q hq h b;by_cases a:q=[]
  . grind
  . have hl:0<q.length:=Ag.2 a;cases m with
    |zero=>omega
    |succ m=>
     have c:=(Xb p q hq a).2.1;grind[EY,XN]
def ZX(p:Ja):Ju p []=Jr p:=rfl
theorem pI{p q:Ja}(hq:Jc q=q)(a:q≠[]):Ju p q=Ju q (J5 p q):=by
 have b:=(Xb p q hq a).2.1;have hl:0<q.length:=Ag.2 a;unfold Ju;obtain⟨n,hn⟩:∃n,q.length=n+1:=⟨q.length-1,O⟩;grind[EY,pH,XN]
theorem pJ:∀(n:Nat) (c d:Rat) (p q:Ja),c≠0->d≠0->Jc p=p->Jc q=q->EY n (DN c p) (DN d q)=EY n p q:=by
 intro n;induction n with
 |zero=>intro c d p q b _ hp _;exact NK b hp
 |succ n f=>
  intro c d p q b e hp hq;by_cases a:q=[]
  . grind[EY,pB,NK]
  . simp only[EY,BE a,BE (Hh e hq a)];rw[(PB e p q hq a).2];exact f d c q (J5 p q) e b hq (XN _ _)
theorem R9{c d:Rat}{p q:Ja}(a:c≠0)(b:d≠0)(hp:Jc p=p)(hq:Jc q=q):Ju (DN c p) (DN d q)=Ju p q:=by
 grind[Ju,YV,pJ]
def Eu.gcd{p q a b:Ja}(h:Eu p q a b):Jc p=p->Jc q=q->Ju p q=Ju a b:=by
 induction h using Eu.ind with
 |base p q=>exact λ_ _=>rfl
 |step p q c a b f e _ g=>
  intro hp hq;rw[<-g hq (JH _ _),pI hq f];have d:=R9 (c:=1) DK e hq (XN p q);rw[Kr hq]at d;exact d.symm
theorem pK:∀(n:Nat) (p q:Ja),Jc (EY n p q)=EY n p q:=by
 intro n;induction n with
 |zero=>intro p q;exact Yp _
 |succ n a=>
  intro p q;grind[EY,Yp]
theorem JF(p q:Ja):Jc (Ju p q)=Ju p q:=pK _ _ _
theorem IY(c:Rat):c*(c.den:Rat)=(c.num:Rat):=by
 have a:((c.den:Int):Rat)≠0:=by exact_mod_cast c.den_nz
 grind[Ci,AC,AV]
theorem dvd_one{a b c:Int}(h:a∣b*c)(hg:Nat.gcd a.natAbs c.natAbs=1):a∣b:=by
 have d:=Cl.2 h;grind[Cx,Cl,Nat.Coprime.dvd_of_dvd_mul_right]
theorem pL{c:Rat}{D n:Int}(h:c*(D:Rat)=(n:Rat)):(c.den:Int)∣D/\c.num*D=n*c.den:=by
 have a:c*(c.den:Rat)=(c.num:Rat):=IY c;have b:((c.num*D:Int):Rat)=((n*(c.den:Int):Int):Rat):=by
  rw[AD,AD,<-a,<-h];show c*(c.den:Rat)*(D:Rat)=c*(D:Rat)*((c.den:Int):Rat);rw[AV];grind
 have d:c.num*D=n*c.den:=Fe.1 b;refine⟨?_,d⟩;have e:(c.den:Int)∣D*c.num:=⟨n,DH⟩;refine dvd_one e ?_;show Nat.gcd (c.den:Int).natAbs c.num.natAbs=1;rw[AR,Fa];exact c.reduced
theorem pM{p:Ja}{L G:Int}(M:∀i,((cf p i).den:Int)∣L)(N:∀u:Int,(∀i,((cf p i).den:Int)∣u)->L∣u)(D:∀i,G∣(cf p i).num)(E:∀v:Int,(∀i,v∣(cf p i).num)->v∣G)(n:G≠0){K:Nat}(h:Ln K p):
 ∀i,∃z:Int,Sm K z/\cf p i*((L:Rat)/(G:Rat))=(z:Rat):=by
 obtain⟨c,Q,S⟩:=h;have w:c.num≠0:=λe=>Q (FQ.1 e);have s:(c.den:Int)≠0:=by have:=c.den_nz;omega
 have g:∀i,∃z:Int,Sm K z/\(cf p i).num*c.num=z*((cf p i).den*c.den):=λi=>by
  obtain⟨z,k,l⟩:=S i;refine⟨z,k,?_⟩;have y:c*(c.den:Rat)=(c.num:Rat):=IY c;have j:cf p i*((cf p i).den:Rat)=((cf p i).num:Rat):=IY _;have A:(((cf p i).num*c.num:Int):Rat)=((z*(((cf p i).den:Int)*(c.den:Int)):Int):Rat):=by
   rw[AD,AD,AD,AV,AV,<-y,<-j,<-l];grind
  exact Fe.1 A
 have b:L∣c.num:=N _ λi=>by
  obtain⟨z,_,e⟩:=g i;have a:((cf p i).den:Int)∣(cf p i).num*c.num:=⟨z*c.den,DH⟩;rw[Int.mul_comm]at a;refine dvd_one a ?_;show Nat.gcd ((cf p i).den:Int).natAbs (cf p i).num.natAbs=1;rw[AR,Fa];exact(cf p i).reduced
 have hv:(c.den:Int)∣G:=E _ λi=>by
  obtain⟨z,_,e⟩:=g i;have a:(c.den:Int)∣(cf p i).num*c.num:=⟨z*(cf p i).den,DH⟩;refine dvd_one a ?_;show Nat.gcd (c.den:Int).natAbs c.num.natAbs=1;rw[AR,Fa];exact c.reduced
 obtain⟨u,b⟩:=b;obtain⟨v,hv⟩:=hv;have x:u≠0:=λe=>w (by rw[b,e,F0]);have r:v≠0:=λe=>n (by rw[hv,e,F0]);intro i;obtain⟨e,o⟩:=M i;obtain⟨m,q⟩:=D i;obtain⟨z,k,l⟩:=g i;have R:((cf p i).den:Int)≠0:=by have:=(cf p i).den_nz;omega
 have t:z=m*e*(u*v):=by
  have B:z*(((cf p i).den:Int)*c.den)=m*e*(u*v)*(((cf p i).den:Int)*c.den):=by
   rw[<-l,q,b,hv,o];generalize ((cf p i).den:Int)=d;generalize (c.den:Int)=f;grind
  exact Int.eq_of_mul_eq_mul_right (CG R s) B
 refine⟨m*e,k.le ?_,?_⟩
 . rw[t,Cx (m*e)]
   have:0<(u*v).natAbs:=Int.natAbs_pos.2 (CG x r)
   exact Ce _ this
 . have V:(G:Rat)≠0:=by exact_mod_cast n
   have j:cf p i*((cf p i).den:Rat)=((cf p i).num:Rat):=IY _;rw[q,AD]at j;have X:(L:Rat)=((cf p i).den:Rat)*(e:Rat):=by rw[o,AD,AV]
   grind
def XV(p:Ja):Nat->Nat
 |0=>1
 |n+1=>Nat.lcm (XV p n) (cf p n).den
def XG(p:Ja):Nat->Nat
 |0=>0
 |n+1=>Nat.gcd (XG p n) (cf p n).num.natAbs
def ZY(p:Ja):∀n,0<XV p n:=by
 intro n;induction n with
 |zero=>exact Nat.one_pos
 |succ n a=>exact Nat.lcm_pos a (cf p n).den_pos
theorem SA(p:Ja):∀n i,i<n->(cf p i).den∣XV p n:=by
 intro n;induction n with
 |zero=>intro i h;omega
 |succ n a=>
  intro i h;grind[XV,Nat.dvd_lcm_right,Nat.dvd_trans,Nat.dvd_lcm_left]
def SB(p:Ja)(u:Nat)(h:∀i,(cf p i).den∣u):∀n,XV p n∣u:=by
 intro n;induction n with
 |zero=>exact Nat.one_dvd _
 |succ n a=>exact Nat.lcm_dvd a (h n)
theorem SC(p:Ja):∀n i,i<n->XG p n∣(cf p i).num.natAbs:=by
 intro n;induction n with
 |zero=>intro i h;omega
 |succ n a=>
  intro i h;grind[XG,Fb,Nat.dvd_trans,Fy]
def ZZ(p:Ja)(v:Nat)(h:∀i,v∣(cf p i).num.natAbs):∀n,v∣XG p n:=by
 intro n;induction n with
 |zero=>exact Nat.dvd_zero _
 |succ n a=>exact Nat.dvd_gcd a (h n)
theorem Zc{D:Int}{K:Nat}{c:Rat}(hD:D≠0)(h:CD D K c):∃n:Int,Sm K n/\c*(D:Rat)=(n:Rat):=by
 obtain⟨n,rfl,h⟩:=h;refine⟨n,h,?_⟩;have a:(D:Rat)≠0:=by exact_mod_cast hD
 grind[AC]
theorem PD{D:Int}{K:Nat}{c:Rat}{n:Int}(hD:D≠0)(hn:Sm K n)(h:c*(D:Rat)=(n:Rat)):CD D K c:=by
 refine⟨n,?_,hn⟩;have a:(D:Rat)≠0:=by exact_mod_cast hD
 grind[AC]
theorem Zd{D:Int}{K:Nat}{p:Ja}(hD:D≠0)(hs:Sm K D)(h:EQ D K p)(n:Nat):Sm K (XV p n:Int):=by
 refine hs.le ?_;rw[AR];refine Nat.le_of_dvd (Int.natAbs_pos.2 hD) (SB p _ (λi=>?_) n);obtain⟨z,_,e⟩:=Zc hD (h i);grind[pL,CS]
def Ze{K:Nat}{p:Ja}(h:∀i,Sm K (cf p i).num):∀n,Sm K (XG p n:Int):=by
 intro n;induction n with
 |zero=>exact Sm.zero K
 |succ n a=>exact Sm.gcd a (h n)
def EQ.ln{D:Int}{K:Nat}{p:Ja}(hD:D≠0)(h:EQ D K p):Ln K p:=
 ⟨(D:Rat),by exact_mod_cast hD,λi=>Zc hD (h i)⟩
theorem NL{p:Ja}(hp:Jc p=p)(a:p≠[]):XG p p.length≠0:=λe=>by
 have hl:0<p.length:=Ag.2 a;have b:=SC p p.length (p.length-1) O;grind[Nat.zero_dvd,Jp,FQ]
def Jn(p:Ja):Ja:=DN ((XV p p.length:Rat)/(XG p p.length:Rat)) p
theorem pN{p:Ja}(hp:Jc p=p)(a:p≠[]):0<(XV p p.length:Rat)/(XG p p.length:Rat):=by
 have b:(0:Rat)<(XV p p.length:Rat):=by exact_mod_cast ZY p _
 have c:(0:Rat)<(XG p p.length:Rat):=by exact_mod_cast Nat.pos_of_ne_zero (NL hp a)
 grind[Ac,Rat.inv_pos]
theorem SF{p:Ja}(hp:Jc p=p)(b:p≠[]){K:Nat}(h:Ln K p):∀i,∃z:Int,Sm K z/\cf (Jn p) i=(z:Rat):=by
 have a:∀i,p.length<=i->cf p i=0:=λi hi=>Yt hi;have c:=pM (p:=p) (L:=(XV p p.length:Int)) (G:=(XG p p.length:Int)) (λi=>by
  by_cases hi:i<p.length
  . grind[FK,SA]
  . rw[a i O];exact Int.one_dvd _) (λu d=>by
  refine CS.2 (SB p _ (λi=>CS.1 (d i)) _)) (λi=>by
  by_cases hi:i<p.length
  . exact CS.2 (SC p _ i hi)
  . rw[a i O];exact Int.dvd_zero _) (λv hv=>by
  have:v.natAbs∣XG p p.length:=ZZ p _ (λi=>Cl.2 (hv i)) _
  grind[Int.natAbs_dvd,FK]) (by have:=NL hp b;omega) h
 intro i;obtain⟨z,e,f⟩:=c i;grind[Jn,Yx,AV]
structure DivS(A la:Nat)(S:Nat->Ja->Ja->Prop)(qs:Ja):Prop where
 next:∀(k:Nat) (R Q:Ja) (n:Nat) (a:Rat),S k R Q->(∀i,i+qs.length<=R.length->cf Q i=0)->qs.length<=R.length->n=R.length-qs.length->a=cf R (R.length-1)/cf qs (qs.length-1)->
  (∀i,cf (JT R (Ji (Jc (Ho n [a])) qs)) i=cf R i-(if n<=i then a*cf qs (i-n)else 0))->(∀i,cf (XI Q (Jc (Ho n [a]))) i=if i=n then a else cf Q i)->S (k+1) (JT R (Ji (Jc (Ho n [a])) qs)) (XI Q (Jc (Ho n [a])))
 size:∀(k:Nat) (R Q:Ja),k<=la->S k R Q->Sqs R/\Sqs Q/\∃z,z+(2*A+1)<=1000000000/\∀i,DS z (cf R i)
end
section
variable {D E l:Int} {K A:Nat} {ps qs:Ja}
structure Dvn(D E l:Int)(K A:Nat)(ps qs:Ja):Prop where
 hD:D≠0
 sD:Sm K D
 hp:EQ D K ps
 hE:E≠0
 sE:Sm A E
 hq:EQ E A qs
 hl:l≠0
 sl:Sm A l
 lead:cf qs (qs.length-1)=yB l E
variable{m:Nat}
def Dvn.lne(h:Dvn D E l K A ps qs):cf qs (qs.length-1)≠0:=by
 rw[h.lead];intro e;have hE:(E:Rat)≠0:=by exact_mod_cast h.hE
 have a:(l:Rat)/(E:Rat)*(E:Rat)=l:=Ar hE;rw[<-AC,e,Cs]at a;exact h.hl (by exact_mod_cast a.symm)
def Dvn.den(h:Dvn D E l K A ps qs)(k:Nat):D*l^k≠0/\Sm (K+k*(A+1)+1) (D*l^k):=by
 refine⟨CG h.hD (Int.pow_ne_zero h.hl),(h.sD.mul (h.sl.powZ k)).mono ?_⟩;rw[Fm];omega
def Dvn.at(h:Dvn D E l K A ps qs)(k:Nat):(∀i,DS (K+k*(A+1)+1) (cf (JP ps qs (qs.length-1) m k).2 i))/\∀i,DS (K+k*(A+1)+1) (cf (JP ps qs (qs.length-1) m k).1 i):=by
 have b:=ZP (m:=m) h.hD h.hp h.hE h.sE h.hq h.hl h.sl h.lead h.lne k;have a:=h.den k;exact⟨λi=>((b.1 i).mono O).smq a.1 a.2,λi=>((b.2 i).mono O).smq a.1 a.2⟩
def Dvn.sizes(h:Dvn D E l K A ps qs)(hb:2*(K+m*(A+1)+1)+2*(2*A+1)<=1000000000):∀k,k<=m->∃z,z+(2*A+1)<=1000000000/\(k<m->2*z+2*(2*A+1)<=1000000000)/\(∀i,DS z (cf (JP ps qs (qs.length-1) m k).2 i))/\∀i,DS (z+A) (cf (JP ps qs (qs.length-1) m k).1 i):=by
 intro k hk;have a:k*(A+1)<=m*(A+1):=Af _ hk;exact⟨K+k*(A+1)+1,O,λ_=>by omega,(h.at k).1,λi=>((h.at k).2 i).mono O⟩
def Dvn.rem(h:Dvn D E l K A ps qs)(b:ps.length-(qs.length-1)=m):EQ (D*l^m) (K+m*(A+1)) (J5 ps qs)/\EQ (D*l^m) (K+m*(A+1)) (Jm ps qs):=by
 have a:=ZP (m:=m) h.hD h.hp h.hE h.sE h.hq h.hl h.sl h.lead h.lne m;refine⟨λi=>?_,λi=>?_⟩
 . unfold J5;rw[Yv,b];exact a.1 i
 . unfold Jm;rw[Yv,b];exact a.2 i
end
def Ef(A:Nat)(p:Ja):Prop:=∀i,∃z:Int,Sm A z/\cf p i=(z:Rat)
theorem Ef.cdl{A:Nat}{p:Ja}(h:Ef A p):EQ 1 A p:=λi=>by
 obtain⟨z,a,b⟩:=h i;exact PD DK a (by rw[b];grind)
def Ef.mono{A B:Nat}{p:Ja}(h:Ef A p)(hb:A<=B):Ef B p:=λi=>by
 obtain⟨z,a,b⟩:=h i;exact⟨z,a.mono hb,b⟩
def Ef.ln{A:Nat}{p:Ja}(h:Ef A p):Ln A p:=h.cdl.ln DK
def Ef.smq{A:Nat}{p:Ja}(h:Ef A p)(hA:1<=A)(i:Nat):DS A (cf p i):=(h.cdl i).smq DK (Sm.one A hA)
theorem SG{A:Nat}{p:Ja}(hp:Jc p=p)(d:p≠[])(h:Ln A p):∃E:Int,E≠0/\Sm A E/\EQ E A (Jr p):=by
 obtain⟨c,g,b⟩:=h;have hl:=Jp hp d;obtain⟨E,f,a⟩:=b (p.length-1);have hE:E≠0:=λe=>by
  rw[e]at a;exact Xf hl g a
 refine⟨E,hE,f,λi=>?_⟩;obtain⟨z,j,k⟩:=b i;grind[PD,Jr,Yx]
def Ln.sqs{A:Nat}{p:Ja}(hp:Jc p=p)(h:Ln A p)(hA1:1<=A):∀i,DS A (cf (Jr p) i):=by
 by_cases a:p=[]
 . subst a;intro i;rw[pG,XH];exact DS.zero _ hA1
 . obtain⟨E,b,c,d⟩:=SG hp a h;exact λi=>(d i).smq b c
theorem Zf(c:Rat):Yu c=c\/Yu c=-c:=by
 grind[Yu]
theorem pO{c:Rat}(h:c≠0):Yu c≠0:=by
 grind[Zf]
theorem pP{c:Rat}(h:c≠0):∀n:Nat,c^n≠0:=by
 intro n;induction n with
 |zero=>grind
 |succ n a=>grind
def Ek(p q:Ja):Rat:=Yu (cf q (q.length-1))^(p.length+1-q.length)
def XW(p q:Ja):Ja:=DN (Ek p q) p
def X6(p q:Ja):Ja:=JT [] (Jn (J5 (XW p q) q))
def pQ:Jn []=[]:=rfl
theorem J0(p:Ja):Jc (Jn p)=Jn p:=JH _ _
theorem Xg{p:Ja}(hp:Jc p=p):∃c:Rat,0<c/\Jn p=DN c p:=by
 by_cases a:p=[]
 . subst a;exact⟨1,DK,J⟩
 . exact⟨_,pN hp a,J⟩
def MB{p:Ja}(hp:Jc p=p){K:Nat}(h:Ln K p):Ef K (Jn p):=by
 by_cases a:p=[]
 . subst a;exact λi=>⟨0,Sm.zero K,by rw[pQ,XH];rfl⟩
 . exact SF hp a h
theorem SH{p q:Ja}(hq:Jc q=q)(a:q≠[]):Ek p q≠0:=pP (pO (Jp hq a)) _
theorem KL(p q:Ja):Jc (X6 p q)=X6 p q:=YF _ _
theorem SJ{p q:Ja}(hq:Jc q=q)(a:q≠[]):∃c:Rat,c≠0/\X6 p q=DN c (J5 p q)/\X6 p q=DN (-1) (Jn (J5 (XW p q) q)):=by
 have b:X6 p q=DN (-1) (Jn (J5 (XW p q) q)):=YM (KL _ _) (JH _ _) λx=>by
  grind[X6,X1,Jo,ev]
 have e:=(PB (c:=Ek p q) (d:=1) DK p q hq a).2;grind[Kr,Xg,XN,XW,SH,L9]
theorem Zg{p q:Ja}(hq:Jc q=q)(a:q≠[]){A:Nat}(h:Ln A (J5 p q)):Ef A (Jn (J5 (XW p q) q))/\Ef A (X6 p q):=by
 have b:=(PB (c:=Ek p q) (d:=1) DK p q hq a).2;rw[Kr hq]at b;have f:Ef A (Jn (J5 (XW p q) q)):=MB (XN _ _) (by unfold XW;rw[b];exact h.sc (SH hq a));refine⟨f,λi=>?_⟩;obtain⟨z,g,j⟩:=f i;obtain⟨_,_,_,e⟩:=SJ (p:=p) hq a;exact⟨-z,g.neg,by rw[e,Yx,j,Rat.intCast_neg];grind⟩
structure Chn(p q:Ja)(A:Nat)(a b:Ja):Prop where
 ta:Jc a=a
 tb:Jc b=b
 wa:Ef A a
 wb:Ef A b
 gc:Ju a b=Ju p q
 la:a.length<=max p.length q.length
 lb:b.length<=q.length
 nx:b≠[]->Ln A (J5 a b)
 eu:Eu (Jn p) (Jn q) a b
def Db(K:Nat)(p q:Ja):Nat:=(K+1)*(p.length+q.length+1)
theorem PE(K:Nat)(p q:Ja):K+1<=Db K p q:=by
 grind[Db]
def Zh(K:Nat)(p q:Ja):(K+1)*(p.length+q.length)<=Db K p q:=Am _ O
theorem JL{p:Ja}(hp:Jc p=p):(Jn p).length=p.length:=by
 grind[Xg,YV]
theorem Zi{p q:Ja}(hp:Jc p=p)(hq:Jc q=q):Ju (Jn p) (Jn q)=Ju p q:=by
 grind[Xg,R9]
section
variable {K:Nat} {p q a b:Ja}
def Chn.ln_rem(hp:Jc p=p)(hq:Jc q=q)(d:Ln K p)(e:Ln K q)(hl:p.length+q.length<=1000000000)(h:Eu (Jn p) (Jn q) a b)(hb:b≠[]):Ln (Db K p q) (J5 a b):=by
 have c:=ZW (J0 p) (J0 q) (MB hp d).ln (MB hq e).ln (by rw[JL hp,JL hq];exact hl) h hb;rw[JL hp,JL hq]at c;exact c.mono (Zh _ _ _)
def Chn.start(hp:Jc p=p)(hq:Jc q=q)(a:Ln K p)(b:Ln K q)(hl:p.length+q.length<=1000000000):Chn p q (Db K p q) (Jn p) (Jn q) where
 ta:=J0 p
 tb:=J0 q
 wa:=(MB hp a).mono (by have:=PE K p q;omega)
 wb:=(MB hq b).mono (by have:=PE K p q;omega)
 gc:=Zi hp hq
 la:=by rw[JL hp];omega
 lb:=by rw[JL hq];exact Aa _
 nx:=Chn.ln_rem hp hq a b hl (.base _ _)
 eu:=.base _ _
def Chn.next(hp:Jc p=p)(hq:Jc q=q)(g:Ln K p)(i:Ln K q)(hl:p.length+q.length<=1000000000)(h:Chn p q (Db K p q) a b)(hb:b≠[]):Chn p q (Db K p q) b (X6 a b):=by
 obtain⟨c,f,e,_⟩:=SJ (p:=a) h.tb hb;have d:Eu (Jn p) (Jn q) b (X6 a b):=by rw[e];exact h.eu.tail hb f
 have k:(X6 a b).length<b.length:=by
  rw[e,YV f (XN _ _)];exact(Xb a b h.tb hb).2.1
 have j:=h.lb;exact⟨h.tb,KL _ _,h.wb,(Zg h.tb hb (h.nx hb)).2,by rw[<-d.gcd (J0 p) (J0 q)];exact Zi hp hq,O,O,Chn.ln_rem hp hq g i hl d,d⟩
end
def Xv{a b:Ja}(hb:Jc b=b)(d:b≠[]):(X6 a b).length<b.length:=by
 obtain⟨c,f,e,_⟩:=SJ (p:=a) hb d;rw[e,YV f (XN _ _)];exact(Xb a b hb d).2.1
structure Rhn(p q:Ja)(A:Nat)(a b:Ja):Prop where
 ta:Jc a=a
 tb:Jc b=b
 ca:∃D:Int,D≠0/\Sm A D/\EQ D A a
 cb:∃E:Int,E≠0/\Sm A E/\EQ E A b
 mb:b≠[]->cf b (b.length-1)=1
 ma:Jr a=a
 gc:Ju a b=Ju p q
 la:a.length<=max p.length q.length
 lb:b.length<=q.length
 nx:b≠[]->Ln A (J5 a b)
 eu:Eu (Jr p) (Jr q) a b
def SK{A:Nat}(hA:1<=A):∃D:Int,D≠0/\Sm A D/\EQ D A []:=⟨1,DK,Sm.one A hA,λi=>by rw[XH];exact CD.zero _ _⟩
def NM{A:Nat}{p:Ja}(hp:Jc p=p)(h:Ln A p)(hA:1<=A):∃E:Int,E≠0/\Sm A E/\EQ E A (Jr p):=by
 by_cases a:p=[]
 . subst a;exact SK hA
 . exact SG hp a h
section
variable {K:Nat} {p q a b:Ja}
end
theorem PF(q:Rat):Yw q 0<0↔q<0:=by
 grind[Rat.lt_iff,Yw,XU]
def pR(a b:Nat):(a:Int)*((b:Int)/((Int.gcd a b:Nat):Int))=((Nat.lcm a b:Nat):Int):=by
 show(a:Int)*((b:Int)/((Nat.gcd a b:Nat):Int))=_;rw[<-Fx,<-Int.natCast_mul];congr 1;rw[Nat.lcm,Nat.mul_div_assoc _ (Fb a b)]
theorem Iz(ps:Ja)(i:Nat):(if((i:Nat):Int)<0 then(0:Rat)else cf ps ((i:Nat):Int).toNat)=cf ps i:=by
 grind
namespace M3
def SL(n:Nat)(h:n<=2199023255552)(w:T):(Instr.makeSlice 22 (G F (n:Int)) (G F (n:Int))).run U w=.ok (C (some ⟨w.heap.size,0,none⟩) n n) (w.alloc (H (YH n) 50)):=by
 obtain⟨i,hi,b⟩:=Fc.1 Tryz.infoRat;simp only[Prod.mk.injEq]at b;obtain⟨c,hs,hb⟩:=b;have a:=run_make (P:=U) w 22 50 i _ underlying22 hi c F F n n O (Int.le_refl _) (by rw[hb];omega) O;simp only[Fo,hs]at a;exact a
